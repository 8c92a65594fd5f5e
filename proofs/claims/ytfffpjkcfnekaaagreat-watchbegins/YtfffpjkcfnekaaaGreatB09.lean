/- One who judges: a command that reveals. -/
import Derived.Test.YtfffpjkcfnekaaaGreatB08
import Derived.Maps.AppendAt
set_option linter.unusedVariables false
set_option maxHeartbeats 8000000
set_option maxRecDepth 100000
namespace Go.Proofs.YtfffpjkcfnekaaaGreat.Ex
open Go.RowKit Go.Shelf
open Go.Value renaming slice -> O, int -> U, bool -> zg, agg -> zh, pointer -> zi, tuple -> zk
open Go.IntKind renaming i64 -> zd
open Go.Obj renaming cells -> ze
open Go.Ending renaming returned -> zj
attribute [local go_sem] Oper.semAt_some
theorem Il {W:World} {b j:Nat} {v:Value} {o:Obj} (hc:W.cell? ⟨b,j,none⟩=some v) (ho:W.heap[b]? = some o):o.isCells=true:=by
 cases o <;> simp_all [World.cell?,Obj.isCells]
def RvI (s:Nat) (fm fh:Int->Bool) (nv:Nat) (pre:List (En nv)) (W:World):Prop:=
 W.cell? ⟨s,0,none⟩=some (zg ((pre.map Subtype.val).any fm))/\W.frozen? ⟨s,0,none⟩=false/\W.cell? ⟨s+1,0,none⟩=some (zg ((pre.map Subtype.val).any fh))/\W.frozen? ⟨s+1,0,none⟩=false
theorem NI (s:Nat) (fm fh:Int->Bool) (nv:Nat):Own (RvI s fm fh nv):=by
 rintro pre A B row ⟨c0,f0,c1,f1⟩ hg hr
 exact ⟨cell_kept c0 hg hr,(frozen_kept c0 hg hr).trans f0,cell_kept c1 hg hr,(frozen_kept c1 hg hr).trans f1⟩
theorem NH {fm fh:Int->Bool} {nv:Nat} {pre:List (En nv)} {x:En nv} {w W W2:World} {m0 h0 m1 h1:Bool} (c0:W.cell? ⟨w.heap.size,0,none⟩=some (zg m0)) (f0:W.frozen? ⟨w.heap.size,0,none⟩=false) (c1:W.cell? ⟨w.heap.size+1,0,none⟩=some (zg h0)) (f1:W.frozen? ⟨w.heap.size+1,0,none⟩=false) (hm:(pre.map Subtype.val).any fm=m0) (hh:(pre.map Subtype.val).any fh=h0) (hB:Ov w W) (hb2:Ov W W2) (hm1:m1=(m0 || fm x.1)) (hh1:h1=(h0 || fh x.1)) :
  KeepsOthers W ((W2.setCell ⟨w.heap.size,0,none⟩ (zg m1)).setCell ⟨w.heap.size+1,0,none⟩ (zg h1))/\Below w.heap.size W ((W2.setCell ⟨w.heap.size,0,none⟩ (zg m1)).setCell ⟨w.heap.size+1,0,none⟩ (zg h1))/\RvI w.heap.size fm fh nv (pre++[x]) ((W2.setCell ⟨w.heap.size,0,none⟩ (zg m1)).setCell ⟨w.heap.size+1,0,none⟩ (zg h1))/\Ov w ((W2.setCell ⟨w.heap.size,0,none⟩ (zg m1)).setCell ⟨w.heap.size+1,0,none⟩ (zg h1)):=by
 have hs:=bL c1
 have hs0:=bL c0
 have hBW:Below w.heap.size W ((W2.setCell ⟨w.heap.size,0,none⟩ (zg m1)).setCell ⟨w.heap.size+1,0,none⟩ (zg h1)):=((hb2.mono hB.size).setCell (Nat.le_refl _) _).setCell (by simp) _
 refine ⟨(FE hb2).trans ((KeepsOthers.setCell _ _ _).trans (KeepsOthers.setCell _ _ _)),hBW,?_,hB.trans hBW⟩
 refine ⟨?_,?_,?_,?_⟩
 ·have e:=Ab hb2 _ _ c0
  rw [List.map_append,List.any_append,hm]
  simp [go_sem,e,hm1]
 ·simp [go_sem,((Am hb2).2 _ _ hs0).trans f0]
 ·have e:=Ab hb2 _ _ c1
  rw [List.map_append,List.any_append,hh]
  simp [go_sem,e,hh1]
 ·simp [go_sem,((Am hb2).2 _ _ hs).trans f1]
theorem AI.grown {cs:List Value} {w0:World} {bj:Nat} {av:Value} {fl:List (Int × Int)} {fv:Value} {A B:World} {r:Nat} {o:Obj} (h:AI cs w0 bj av fl fv A) (hg:A.grownBy B (some r)) (hr:A.heap[r]? = some o) (ho:o.isCells=false) (hlo:w0.heap.size<=r):AI cs w0 bj av fl fv B:=by
 have hc:∀ q,(some r:Option Nat)=some q->∃ o:Obj,A.heap[q]? = some o/\o.isCells=false:=fun q e=>by injection e with e;subst e;exact ⟨o,hr,ho⟩
 have hne:fv.ownBlock≠some r:=fun e=>by
  rcases h.own.2 with ⟨h1,-⟩ | ⟨g,cap,cur,h1,hb,hh,-⟩
  ·rw [h1] at e;simp [Value.ownBlock] at e
  ·rw [h1] at e
   simp [Value.ownBlock] at e
   subst e
   rw [hr] at hh
   injection hh with hh
   subst hh
   simp [Obj.isCells] at ho
 refine ⟨h.below.trans ⟨hg.os,hg.tape,hg.output,hg.size,fun k hk=>hg.block k (Nat.lt_of_lt_of_le hk h.below.size) (fun e=>by injection e with e;omega)⟩,fun j u hu=>cell_kept (h.row j u hu) hg hc,fun j=>?_,h.own.kept hg (Or.inr hne),h.ap,⟨h.lo.1,Nat.lt_of_lt_of_le h.lo.2 hg.size⟩,h.len⟩
 have hbr:bj≠r:=fun e=>by
  have h11:=h.c11
  obtain ⟨o',ho',hco⟩:=hc r rfl
  subst e
  exact absurd (Il h11 ho') (by rw [hco];simp)
 exact (World.frozen?_of_block (a:=⟨bj,j,none⟩) (hg.block bj h.lo.2 (fun e=>by injection e with e;exact hbr e))).trans (h.fz j)
def DK (bj D:Nat) (W:World):Prop:=W.heap[D]? = some (.deferred (some []))/\¬ XJ bj W D
theorem DK.keep {bj D:Nat} {W W':World} (h:DK bj D W) (hf:FrW (XJ bj) W W'):DK bj D W':=
 have hlt:D < W.heap.size:=(Array.getElem?_eq_some_iff.1 h.1).1
 ⟨(hf.block D hlt h.2).trans h.1,fun e=>h.2 (hf.mov D hlt e)⟩
theorem TB.one {bj b:Nat} {v:Value} {L:List (Nat × List Value)} {W:World} (h:TB bj L W) (hc:W.cell? ⟨b,0,none⟩=some v) (hx:¬ XJ bj W b):TB bj ((b,[v])::L) W:=
 h.add (fun j u hu=>by match j with | 0=>simp at hu;subst hu;exact hc | j+1=>simp at hu) hx (bL hc)
theorem Ok {cs:List Value} {w0:World} {bj:Nat} {av:Value} {fl:List (Int × Int)} {fv:Value} {W A:World} {D:Nat} {o o':Obj} (hf:FrW (XJ bj) W A) (h:AI cs w0 bj av fl fv A) (hr:A.heap[D]? = some o) (ho:o.isCells=false) (hlo:W.heap.size<=D):FrW (XJ bj) W (A.putObj D o'):=by
 have hg:=grownBy_putObj' A D o'
 refine ⟨hg.os.trans hf.os,hg.tape.trans hf.tape,hg.output.trans hf.output,Nat.le_trans hf.size hg.size,fun k hk hx=>(hg.block k (Nat.lt_of_lt_of_le hk hf.size) (fun e=>by injection e with e;omega)).trans (hf.block k hk hx),fun k hk hx=>hf.mov k hk ?_⟩
 rcases hx with hx | hx | ⟨v,hv,hw⟩
 ·exact Or.inl (Nat.le_trans hg.size hx)
 ·exact Or.inr (Or.inl hx)
 ·refine Or.inr (Or.inr ⟨v,?_,hw⟩)
  have:=cell_kept h.c11 hg (fun q e=>by injection e with e;subst e;exact ⟨o,hr,ho⟩)
  rw [this] at hv
  injection hv with hv
  rw [<-hv]
  exact h.c11
abbrev O2 (W:World) (bj:Nat) (c:WC) (bv ov bl ol jv:Nat) (ek en:Int) (xa:Option Addr) (xl xc:Nat) (a1:Option Addr) (a2 a3:Nat) (a4:Option Addr) (a5 a6:Nat) (Wz:World):Prop:=Wz.cell? ⟨W.heap.size,0,none⟩=some (zi (some ⟨bj,0,none⟩))/\Wz.cell? ⟨bj,0,none⟩=some (U zd (c.n:Int))/\Wz.cell? ⟨bj,1,none⟩=some (O c.ga c.gn c.gc)/\Wz.cell? ⟨bj,2,none⟩=some (O c.sa c.sn c.sc)/\Wz.cell? ⟨bj,3,none⟩=some (O c.ya c.yn c.yc)/\Wz.cell? ⟨bj,4,none⟩=some (O c.oa c.on c.oc)/\Wz.cell? ⟨bj,5,none⟩=some (O (some ⟨bv,ov,none⟩) c.vn c.vc)/\Wz.cell? ⟨bj,6,none⟩=some (O c.fa c.fn c.fc)/\Wz.cell? ⟨bj,7,none⟩=some (O c.ba c.bn c.bc)/\Wz.cell? ⟨bj,8,none⟩=some (O (some ⟨bl,ol,none⟩) c.ln c.lc)/\Wz.cell? ⟨bj,9,none⟩=some (O c.ka c.kn c.kc)/\Wz.cell? ⟨W.heap.size+1,1,none⟩=some (U zd (jv:Int))/\Wz.cell? ⟨W.heap.size+1,3,none⟩=some (U zd ek)/\Wz.cell? ⟨W.heap.size+1,4,none⟩=some (U zd en)/\Wz.cell? ⟨W.heap.size+1,5,none⟩=some (O xa xl xc)/\Wz.cell? ⟨bl,ol+jv*2,none⟩=some (O a1 a2 a3)/\Wz.cell? ⟨bl,ol+jv*2+1,none⟩=some (O a4 a5 a6)
abbrev O1 (W:World) (bj:Nat) (c:WC) (bv ov bl ol:Nat) (p1:Option Addr) (q1 r1:Nat) (p2:Option Addr) (q2 r2 bo:Nat) (a1:Option Addr) (a2 a3:Nat) (a4:Option Addr) (a5 a6:Nat) (Wz:World):Prop:=Wz.cell? ⟨W.heap.size,0,none⟩=some (zi (some ⟨bj,0,none⟩))/\Wz.cell? ⟨bj,0,none⟩=some (U zd (c.n:Int))/\Wz.cell? ⟨bj,1,none⟩=some (O c.ga c.gn c.gc)/\Wz.cell? ⟨bj,2,none⟩=some (O c.sa c.sn c.sc)/\Wz.cell? ⟨bj,3,none⟩=some (O c.ya c.yn c.yc)/\Wz.cell? ⟨bj,4,none⟩=some (O c.oa c.on c.oc)/\Wz.cell? ⟨bj,5,none⟩=some (O (some ⟨bv,ov,none⟩) c.vn c.vc)/\Wz.cell? ⟨bj,6,none⟩=some (O c.fa c.fn c.fc)/\Wz.cell? ⟨bj,7,none⟩=some (O c.ba c.bn c.bc)/\Wz.cell? ⟨bj,8,none⟩=some (O (some ⟨bl,ol,none⟩) c.ln c.lc)/\Wz.cell? ⟨bj,9,none⟩=some (O c.ka c.kn c.kc)/\Wz.cell? ⟨W.heap.size+1+1,0,none⟩=some (O p1 q1 r1)/\Wz.cell? ⟨W.heap.size+1+1,1,none⟩=some (O p2 q2 r2)/\Wz.cell? ⟨bo,0,none⟩=some (O a1 a2 a3)/\Wz.cell? ⟨bo,1,none⟩=some (O a4 a5 a6)
abbrev Mi (W:World) (bj bv ov:Nat) (c:WC) (j:Nat) (kn:Bool) (pa1:Option Addr) (pn1 pc1:Nat) (Wz:World):Prop:=Wz.cell? ⟨W.heap.size,0,none⟩=some (zi (some ⟨bj,0,none⟩))/\Wz.cell? ⟨bj,5,none⟩=some (O (some ⟨bv,ov,none⟩) c.vn c.vc)/\Wz.cell? ⟨bv,ov+j*3,none⟩=some (zg kn)/\Wz.cell? ⟨bv,ov+j*3+1,none⟩=some (O pa1 pn1 pc1)
theorem NJ (c) (w0:World) (bj:Nat) (av:Value) (gs Ls Fs) (J:JSt c w0 gs Ls Fs) (sp) (A:JAc c w0 av (Ay gs) sp) (K ni no:Nat) (fs vs) (hvs:Bh w0 (O c.va c.vn c.vc) vs) (hvn:vs.length=Ls.length) (hvc:∀ v∈vs,A3 c.n gs v.2=0) :
  Fu c w0 bj av K Ls.length ni no fs 5 (ER c.n K (Ay gs) sp Ls vs) 152:=by
 intro fl fv s a k cs lv d p funcs W hfl h hbox hl hrs hok hk
 obtain ⟨p1,q1,r1,p2,q2,r2,hlv⟩:=hl.form
 have hlv':lv=[O p1 q1 r1,O p2 q2 r2]:=by simpa using hlv
 subst hlv'
 clear hlv
 obtain ⟨ek,en,xa,xl,xc,aa,ac,ta,tc,ea,ec,rfl,i0,i1,i2,hX,hA,hT,hE,-,-,-⟩:=hrs.form
 have hv2:=hok.2.1 (by omega)
 obtain ⟨jv,hjv⟩:∃ j:Nat,Ao d=(j:Int):=⟨(Ao d).toNat,by omega⟩
 have hjl:jv < Ls.length:=by omega
 have hjw:jv < vs.length:=by omega
 obtain ⟨bl,ol,a1,a2,a3,a4,a5,a6,hla,hln,k0,k1,hlev⟩:=EE J.levs hjl
 have hVS:=hvs
 obtain ⟨hym,va',vc',hve,hvel⟩:=hvs
 injection hve with v1 v2 v3
 obtain ⟨bv,ov,hvo,hvel⟩:=hvel (by rintro rfl;simp at hjw)
 have hva:c.va=some ⟨bv,ov,none⟩:=v1.trans hvo
 have hvn2:c.vn=vs.length:=v2
 have hkd:sC (Ag d) (Ao d) (Ae d) ek en xa xl xc aa (Ah d).length ac ta (Ai d).length tc ea (Al d).length ec=sC 5 (jv:Int) (Ae d) ek en xa xl xc aa (Ah d).length ac ta (Ai d).length tc ea (Al d).length ec:=by rw [hk,hjv]
 rw [hkd]
 clear hkd
 obtain ⟨ot,hot⟩:=nm (Ae d)
 obtain ⟨al,hal⟩:=nm ((Ah d).length)
 obtain ⟨tn,htn⟩:=nm ((Ai d).length)
 obtain ⟨el,hel⟩:=nm ((Al d).length)
 rw [<-hot,<-hal,<-htn,<-hel]
 have hgd:Ls.getD (Ao d).toNat AU=Ls[jv]:=by rw [hjv];simp [List.getD_eq_getElem?_getD,hjl]
 obtain ⟨lz,hlz⟩:=nm (Ls[jv])
 have hlzl:lz.len c.n:=by rw [hlz];exact J.lens _ (List.getElem_mem hjl)
 rw [<-hlz] at hlev hgd
 have hgv:vs.getD (Ao d).toNat (false,⟨[],[]⟩)=vs[jv]:=by rw [hjv];simp [List.getD_eq_getElem?_getD,hjw]
 have hcv:c.v=(zh #[U zd (c.n:Int),O c.ga c.gn c.gc,O c.sa c.sn c.sc,O c.ya c.yn c.yc,O c.oa c.on c.oc,O (some ⟨bv,ov,none⟩) c.vn c.vc,O c.fa c.fn c.fc,O c.ba c.bn c.bc,O (some ⟨bl,ol,none⟩) c.ln c.lc,O c.ka c.kn c.kc]):=by show Value.agg #[U zd (c.n:Int),O c.ga c.gn c.gc,O c.sa c.sn c.sc,O c.ya c.yn c.yc,O c.oa c.on c.oc,O c.va c.vn c.vc,O c.fa c.fn c.fc,O c.ba c.bn c.bc,O c.la c.ln c.lc,O c.ka c.kn c.kc]=_;rw [hva,hla]
 obtain ⟨V1,hV1⟩:=nm ((((W.alloc (ze #[zi (some ⟨bj,0,none⟩)] 161)).alloc (ze #[U zd 5,U zd (jv:Int),U zd ot,U zd ek,U zd en,O xa xl xc,O aa al ac,O ta tn tc,O ea el ec] 130)).alloc (ze #[O p1 q1 r1,O p2 q2 r2] 50)))
 have hb1:Ov W V1:=by rw [hV1];exact ((bA W _).alloc (by simp) _).alloc (by simp <;> omega) _
 obtain ⟨tl,htl⟩:=nm ((A4 c.n Ls (Bs c.n) (AD K (Ap d))))
 have HJ1:=Aa (h.over hb1)
 have HN1:=Aa J.n1
 have HLO:=Aa (fun (W2:World) {fl2:List (Int × Int)} {fv2:Value} (h2:AI c.cs w0 bj av fl2 fv2 W2)=>Gd J.n1 h2 hlev hlzl)
 have KBot:Hx (∀ (W2:World),Calls Tryz.prog 104 #[(zh #[U zd (c.n:Int),O c.ga c.gn c.gc,O c.sa c.sn c.sc,O c.ya c.yn c.yc,O c.oa c.on c.oc,O (some ⟨bv,ov,none⟩) c.vn c.vc,O c.fa c.fn c.fc,O c.ba c.bn c.bc,O (some ⟨bl,ol,none⟩) c.ln c.lc,O c.ka c.kn c.kc])] W2 fun e w'=>∃ vj,e=zj vj/\AY W2 w' vj (Bs c.n)/\Ov W2 w'):=fun W2=>by
  have:=Ek c.n J.n1 J.n6 c.ga c.gn c.gc c.sa c.sn c.sc c.ya c.yn c.yc c.oa c.on c.oc c.va c.vn c.vc c.fa c.fn c.fc c.ba c.bn c.bc c.la c.ln c.lc c.ka c.kn c.kc W2
  rw [hva,hla] at this
  exact this
 have KW:Hx (∀ (W2:World) {x:Value},AI c.cs w0 bj av fl fv W2->Ar c.n (XJ bj) W2 x (Bs c.n)->Calls Tryz.prog 103 #[(zh #[U zd (c.n:Int),O c.ga c.gn c.gc,O c.sa c.sn c.sc,O c.ya c.yn c.yc,O c.oa c.on c.oc,O (some ⟨bv,ov,none⟩) c.vn c.vc,O c.fa c.fn c.fc,O c.ba c.bn c.bc,O (some ⟨bl,ol,none⟩) c.ln c.lc,O c.ka c.kn c.kc]),x,zh #[U zd ek,U zd en,O xa xl xc]] W2 fun e w'=>(∃ p1 q1 r1 p2 q2 r2,e=zj (zh #[O p1 q1 r1,O p2 q2 r2])/\Ar c.n (XJ bj) w' (zh #[O p1 q1 r1,O p2 q2 r2]) tl)/\Ov W2 w'):=fun W2 x h2 hx=>by
  have:=Iw J h2 x (Bs c.n) K [U zd ek,U zd en,O xa xl xc] (Ap d) hx hX (A8 hok)
  rw [hcv,<-htl] at this
  exact this
 obtain ⟨f5,hf5⟩:=nm (AE p lz c.n)
 have KF:Hx (∀ (W2:World) {fl2:List (Int × Int)} {fv2 x y:Value},AI c.cs w0 bj av fl2 fv2 W2->Ar c.n (XJ bj) W2 x p->Ar c.n (XJ bj) W2 y lz->Calls Tryz.prog 57 #[(zh #[U zd (c.n:Int),O c.ga c.gn c.gc,O c.sa c.sn c.sc,O c.ya c.yn c.yc,O c.oa c.on c.oc,O (some ⟨bv,ov,none⟩) c.vn c.vc,O c.fa c.fn c.fc,O c.ba c.bn c.bc,O (some ⟨bl,ol,none⟩) c.ln c.lc,O c.ka c.kn c.kc]),x,y] W2 fun e W'=>e=zj (zg f5)/\Ov W2 W'):=fun W2 fl2 fv2 x y h2 hx hy=>by
  have:=DB c gs x y _ _ W2 (Af J.gr h2.below) J.chk hx.at_ hx.len hy.at_ hy.len
  rw [hcv,<-hf5] at this
  exact this
 have KB:=Aa (fun (W2:World) {fl2:List (Int × Int)} {fv2:Value} (h2:AI c.cs w0 bj av fl2 fv2 W2) (hj:W2.cell? ⟨s,0,none⟩=some (zi (some ⟨bj,0,none⟩))) (ha:W2.cell? ⟨s+1,0,none⟩=some (U zd a)) (nj:¬ XJ bj W2 s) (na:¬ XJ bj W2 (s+1)) (hl2:fl2.length<=1000) (k:Int) (is:Bool)=>Fp c.cs w0 bj av fl2 fv2 a k is s (s+1) W2 h2 hj ha nj na hl2)
 obtain ⟨fm,hfm⟩:∃ g:Int->Bool,g=fun v=>(DL vs v).2.r.any fun q=>EU (Ay gs) c.n sp q.owner.toNat:=⟨_,rfl⟩
 obtain ⟨fh,hfh⟩:∃ g:Int->Bool,g=fun v=>!(DL vs v).1:=⟨_,rfl⟩
 have HMUTE:Hx (∀ (j:Nat) (hj:j < vs.length) (W2:World),AI c.cs w0 bj av fl fv W2->∀ x,AN W2 x vs[j].2.r->Calls Tryz.prog 202 #[zi (some ⟨bj,0,none⟩),x] W2 fun e W'=>e=zj (zg (fm (j:Int)))/\Ov W2 W'):=fun j hj W2 h2 x hx=>by
  have hlab:=I4 (hvc vs[j] (List.getElem_mem hj))
  have:=Pg c w0 bj av fl fv (Ay gs) sp A _ _ W2 h2 J.n6 hx (by have:=hlab.1.1;omega) (fun q hq=>(hlab.1.2 q hq).1)
  have e:DL vs (j:Int)=vs[j]:=by unfold DL;simp [List.getD_eq_getElem?_getD,hj]
  rw [hfm]
  dsimp only
  rw [e]
  exact this
 have HKN:Hx (∀ (j:Nat) (hj:j < vs.length),fh (j:Int)=!vs[j].1):=fun j hj=>by
  have e:DL vs (j:Int)=vs[j]:=by unfold DL;simp [List.getD_eq_getElem?_getD,hj]
  rw [hfh]
  dsimp only
  rw [e]
 unfold ER toL Ix
 rw [hgd,<-hf5,<-htl,<-hfm,<-hfh]
 obtain ⟨f6,hf6⟩:=nm ((AD K (Ap d)).any fm)
 obtain ⟨f7,hf7⟩:=nm ((AD K (Ap d)).any fh)
 obtain ⟨f8,hf8⟩:=nm (((List.range c.n).any fun i=>tl.w[i]?.getD false && !(lz.w[i]?.getD false)))
 obtain ⟨f9,hf9⟩:=nm (((List.range c.n).any fun i=>(tl.w[i]?.getD false || p.w[i]?.getD false) && !I9 (Ay gs) c.n sp i))
 rw [<-hf6,<-hf7,<-hf8,<-hf9]
 have KS1:Hx (∀ (W2:World) {fl2:List (Int × Int)} {fv2:Value} {bt bo:Nat} {u1 u2:Value},AI c.cs w0 bj av fl2 fv2 W2->W2.cell? ⟨bt,1,none⟩=some u2->W2.cell? ⟨bo,1,none⟩=some (O a4 a5 a6)->Ar c.n (XJ bj) W2 (zh #[u1,u2]) tl->Calls Tryz.prog 203 #[zi (some ⟨bj,0,none⟩),.func (.func 204) #[] #[zi (some ⟨bt,0,none⟩),zi (some ⟨bo,0,none⟩)]] W2 fun e W'=>e=zj (zg f8)/\Ov W2 W'):=fun W2 fl2 fv2 bt bo u1 u2 h2 ht ho hlt=>by
  rw [hf8]
  have hlo:=HLO.o W2 h2
  obtain ⟨x,y,e1,-,b1⟩:=id hlo.at_
  obtain ⟨x',y',e2,-,b2⟩:=id hlt.at_
  simp at e1 e2
  obtain ⟨rfl,rfl⟩:=e1
  obtain ⟨rfl,rfl⟩:=e2
  refine Fb c w0 bj av fl2 fv2 204 [zi (some ⟨bt,0,none⟩),zi (some ⟨bo,0,none⟩)] _ W2 h2 J.n6 (fun i hi w1 hb=>?_) GS
  exact MO c.n i bt bo _ _ _ _ w1 J.n6 hi (Ab hb _ _ ht) (Ab hb _ _ ho) (AA b2 hb) hlt.len.2 (AA b1 hb) hlo.len.2
 have KS2:Hx (∀ (W2:World) {fl2:List (Int × Int)} {fv2:Value} {bt bp b3:Nat} {u1 u2 u3 u4:Value},AI c.cs w0 bj av fl2 fv2 W2->W2.cell? ⟨bt,1,none⟩=some u2->W2.cell? ⟨bp,1,none⟩=some u4->W2.cell? ⟨b3,0,none⟩=some (zi (some ⟨bj,0,none⟩))->Ar c.n (XJ bj) W2 (zh #[u1,u2]) tl->Ar c.n (XJ bj) W2 (zh #[u3,u4]) p->Calls Tryz.prog 203 #[zi (some ⟨bj,0,none⟩),.func (.func 205) #[] #[zi (some ⟨bt,0,none⟩),zi (some ⟨bp,0,none⟩),zi (some ⟨b3,0,none⟩)]] W2 fun e W'=>e=zj (zg f9)/\Ov W2 W'):=fun W2 fl2 fv2 bt bp b3 u1 u2 u3 u4 h2 ht hp h3 hlt hlp=>by
  rw [hf9]
  obtain ⟨x,y,e1,-,b1⟩:=id hlp.at_
  obtain ⟨x',y',e2,-,b2⟩:=id hlt.at_
  simp at e1 e2
  obtain ⟨rfl,rfl⟩:=e1
  obtain ⟨rfl,rfl⟩:=e2
  refine Fb c w0 bj av fl2 fv2 205 [zi (some ⟨bt,0,none⟩),zi (some ⟨bp,0,none⟩),zi (some ⟨b3,0,none⟩)] _ W2 h2 J.n6 (fun i hi w1 hb=>?_) GR
  exact MN c.n i bt bp b3 bj _ _ _ _ (I9 (Ay gs) c.n sp i) w1 J.n6 hi (Ab hb _ _ ht) (Ab hb _ _ hp) (Ab hb _ _ h3) (AA b2 hb) hlt.len.2 (AA b1 hb) hlp.len.2 (fun W3 hb3=>Qr c w0 bj av fl2 fv2 (Ay gs) sp A i W3 ((h2.over hb).over hb3) J.n6 hi)
 have hVS1:V1.heap.size=W.heap.size+1+1+1:=by rw [hV1];simp
 have HTB1:Hx (TB bj [(W.heap.size,[zi (some ⟨bj,0,none⟩)]),(W.heap.size+1,[U zd 5,U zd (jv:Int),U zd ot,U zd ek,U zd en,O xa xl xc,O aa al ac,O ta tn tc,O ea el ec]),(W.heap.size+1+1,[O p1 q1 r1,O p2 q2 r2]),(s,[zi (some ⟨bj,0,none⟩)]),(s+1,[U zd a])] V1):=by
  have hF:=FrW.of_below (Aj bj) hb1
  have hnx:∀ q,W.heap.size<=q->¬ XJ bj V1 q:=fun q hq e=>by have:=(h.xlt q ((Aj bj).below _ _ hb1 q e)).2;omega
  refine TB.add (TB.add (TB.add (TB.add (TB.add TB.nil ?_ ?_ ?_) ?_ ?_ ?_) ?_ (hnx _ (by omega)) (by omega)) ?_ (hnx _ (by omega)) (by omega)) ?_ (hnx _ (Nat.le_refl _)) (by omega)
  ·exact hF.row (fun j u hu=>by match j with | 0=>simp at hu;subst hu;exact hbox.a | j+1=>simp at hu) (hbox.x _ (by omega) (by omega))
  ·exact fun e=>hbox.x _ (by omega) (by omega) (hF.mov _ (by have:=hbox.lt;omega) e)
  ·have:=hbox.lt;have:=hF.size;omega
  ·exact hF.row (fun j u hu=>by match j with | 0=>simp at hu;subst hu;exact hbox.j | j+1=>simp at hu) (hbox.x _ (by omega) (by omega))
  ·exact fun e=>hbox.x _ (by omega) (by omega) (hF.mov _ (by have:=hbox.lt;omega) e)
  ·have:=hbox.lt;have:=hF.size;omega
  ·rw [hV1]
   have r:=Ad.new [O p1 q1 r1,O p2 q2 r2] 50 ((W.alloc (ze #[zi (some ⟨bj,0,none⟩)] 161)).alloc (ze #[U zd 5,U zd (jv:Int),U zd ot,U zd ek,U zd en,O xa xl xc,O aa al ac,O ta tn tc,O ea el ec] 130))
   simpa using r
  ·rw [hV1]
   have r:=(Ad.new [U zd 5,U zd (jv:Int),U zd ot,U zd ek,U zd en,O xa xl xc,O aa al ac,O ta tn tc,O ea el ec] 130 (W.alloc (ze #[zi (some ⟨bj,0,none⟩)] 161))).over (bA _ (ze #[O p1 q1 r1,O p2 q2 r2] 50))
   simpa using r
  ·rw [hV1]
   exact (Ad.new [zi (some ⟨bj,0,none⟩)] 161 W).over ((bA _ _).alloc (by simp) _)
 have HS:Hx (∀ (W2:World),Ov V1 W2->O2 W bj c bv ov bl ol jv ek en xa xl xc a1 a2 a3 a4 a5 a6 W2):=fun W2 hb2=>by
  have h2:=HJ1.o.over hb2
  exact ⟨((HTB1.o.row 0 rfl).over hb2) 0 _ rfl,h2.cw 0 _ rfl,h2.cw 1 _ rfl,h2.cw 2 _ rfl,h2.cw 3 _ rfl,h2.cw 4 _ rfl,by rw [<-hva];exact h2.cw 5 _ rfl,h2.cw 6 _ rfl,h2.cw 7 _ rfl,by rw [<-hla];exact h2.cw 8 _ rfl,h2.cw 9 _ rfl,((HTB1.o.row 1 rfl).over hb2) 1 _ rfl,((HTB1.o.row 1 rfl).over hb2) 3 _ rfl,((HTB1.o.row 1 rfl).over hb2) 4 _ rfl,((HTB1.o.row 1 rfl).over hb2) 5 _ rfl,Ab h2.below _ _ k0,Ab h2.below _ _ k1⟩
 have HS7:Hx (∀ (W2:World) {fl2:List (Int × Int)} {fv2:Value} {bm bh bt bo:Nat} {t1:Option Addr} {t2 t3:Nat} {t4:Option Addr} {t5 t6:Nat},AI c.cs w0 bj av fl2 fv2 W2->TB bj ([(bm,[zg f6]),(bh,[zg f7]),(bt,[O t1 t2 t3,O t4 t5 t6]),(bo,[O a1 a2 a3,O a4 a5 a6]),(W.heap.size,[zi (some ⟨bj,0,none⟩)]),(W.heap.size+1,[U zd 5,U zd (jv:Int),U zd ot,U zd ek,U zd en,O xa xl xc,O aa al ac,O ta tn tc,O ea el ec]),(W.heap.size+1+1,[O p1 q1 r1,O p2 q2 r2]),(s,[zi (some ⟨bj,0,none⟩)]),(s+1,[U zd a])]) W2->O1 W bj c bv ov bl ol p1 q1 r1 p2 q2 r2 bo a1 a2 a3 a4 a5 a6 W2):=fun W2 fl2 fv2 bm bh bt bo t1 t2 t3 t4 t5 t6 h2 r2=>⟨(r2.row 4 rfl) 0 _ rfl,h2.cw 0 _ rfl,h2.cw 1 _ rfl,h2.cw 2 _ rfl,h2.cw 3 _ rfl,h2.cw 4 _ rfl,by rw [<-hva];exact h2.cw 5 _ rfl,h2.cw 6 _ rfl,h2.cw 7 _ rfl,by rw [<-hla];exact h2.cw 8 _ rfl,h2.cw 9 _ rfl,(r2.row 6 rfl) 0 _ rfl,(r2.row 6 rfl) 1 _ rfl,(r2.row 3 rfl) 0 _ rfl,(r2.row 3 rfl) 1 _ rfl⟩
 have HB0:Hx (Ov V1 V1.drew):=(bD _)
 have HP1:=Aa (hl.over (Aj bj) hb1)
 have HF1:=Aa (FrW.of_below (Aj bj) hb1)
 have HFL0:Hx (fl.length<=1000):=by unfold Hx;omega
 have HFL1:Hx ((addF a 5 fl (!f5)).length<=1000):=Nat.le_trans (AP _ _ _ _) (by omega)
 have HFL2:Hx ((addF a 6 (addF a 5 fl (!f5)) f6).length<=1000):=Nat.le_trans (AP _ _ _ _) (by have:=AP a 5 fl (!f5);omega)
 have HFL3:Hx ((addF a 7 (addF a 6 (addF a 5 fl (!f5)) f6) f7).length<=1000):=Nat.le_trans (AP _ _ _ _) (by have:=AP a 5 fl (!f5);have:=AP a 6 (addF a 5 fl (!f5)) f6;omega)
 have HFL4:Hx ((addF a 8 (addF a 7 (addF a 6 (addF a 5 fl (!f5)) f6) f7) f8).length<=1000):=Nat.le_trans (AP _ _ _ _) (by have:=AP a 5 fl (!f5);have:=AP a 6 (addF a 5 fl (!f5)) f6;have:=AP a 7 (addF a 6 (addF a 5 fl (!f5)) f6) f7;omega)
 have gj1:(jv:Int) < (c.ln:Int):=by omega
 have gj2:c.ln<=16:=by rw [hln];exact J.l16
 have gj4:c.vn<=16:=by have:=J.l16;omega
 obtain ⟨ys,hys⟩:∃ ys:List (En Ls.length),ys.map Subtype.val=AD K (Ap d):=Mt Ls.length _ (A8 hok)
 have HYS:=Aa hys
 have HF6:=Aa hf6
 have HF7:=Aa hf7
 have HST':=Aa (fun (W2:World) (h2:AI c.cs w0 bj av fl fv W2) (W3:World) (hb3:Ov W2 W3) (bx:Nat) (hbx:bx < W3.heap.size) (k0:W3.cell? ⟨bx,0,none⟩=some (U zd ek)) (k1:W3.cell? ⟨bx,1,none⟩=some (U zd en)) (k2:W3.cell? ⟨bx,2,none⟩=some (O xa xl xc))=>FV Fence.wide rfl 2 trivial trivial rfl Ls.length bx K W2 ek en xa xl xc (Ap d) ys W3 hbx hb3 k0 k1 k2 (hX.over h2.below) hys)
 have HVE:=Aa hvel
 have HVA:=Aa hva
 have HVL:Hx (vs.length=Ls.length):=hvn
 have HVN:=Aa hvn2
 have HW0:Hx (w0.heap.size<=W.heap.size):=h.below.size
 obtain ⟨u0,u1,u2,u3,u4,u5,u6,u7,u8,u9,u10,u11,u12,u13,u14,u15,u16⟩:=HS.o _ (Below.refl _ _)
 clear hys hlz hlzl htl hfm hfh hf5 hf6 hf7 hf8 hf9 hVS1 hvn hgd hgv hcv hvo hva hvn2 hvel v1 v2 v3 hym hla hln k0 k1 hlev hjv hv2 hot hal htn hel hl hrs hX hA hT hE hok J A hVS hvc hfl hk i0 i1 i2 hjl hjw hb1 hbox h
 refine (callsIn_wide (n:=3)).1 ?_
 refine callsIn_of_wp_marks Tryz.func152 rfl trivial ?_ rfl
 simp only [Tryz.ntmps152,List.size_toArray,List.length_cons,List.length_nil,Nat.reduceAdd,Nat.reduceSub,Array.replicate_succ,Array.replicate_zero,List.push_toArray,List.append_toArray,List.nil_append,List.cons_append]
 refine wpIn_wide.2 ?_
 go_wp2_with fail
 rw [<-hV1]
 clear hV1
 refine CC (fun act2 W2=>∃ (bt bo:Nat) (x13 x14 x15 x16 x17 x18 x19 x20 x21 x22 x23 x24 x25 x26 x27 x28 x29 x30 x31 x32 x33 x34:Value) (t1:Option Addr) (t2 t3:Nat) (t4:Option Addr) (t5 t6:Nat),act2={ tmps:=#[zi (some ⟨bj,0,none⟩),zh #[U zd 5,U zd (jv:Int),U zd ot,U zd ek,U zd en,O xa xl xc,O aa al ac,O ta tn tc,O ea el ec],zh #[O p1 q1 r1,O p2 q2 r2],.func (.func 149) #[] #[zi (some ⟨s,0,none⟩),zi (some ⟨s+1,0,none⟩)],zi (some ⟨W.heap.size,0,none⟩),zi (some ⟨W.heap.size+1,0,none⟩),zi (some ⟨W.heap.size+1+1,0,none⟩),undef,zi (some ⟨bt,0,none⟩),zi (some ⟨bo,0,none⟩),undef,undef,undef,x13,x14,x15,x16,x17,x18,x19,x20,x21,x22,x23,x24,x25,x26,x27,x28,x29,x30,x31,x32,x33,x34,undef,undef,undef,undef,undef,undef,undef,undef,undef,undef,undef,undef,undef,undef,undef,undef,undef,undef,undef,undef,undef,undef,undef,undef,undef,undef,undef,undef,undef,undef,undef,undef,undef,undef,undef,undef,undef,undef,undef,undef,undef,undef,undef,undef,undef,undef,undef,undef,undef,undef,undef,undef,undef,undef,undef,undef,undef,undef,undef,undef],defers:=[] }/\Ov V1 W2/\Ad [O t1 t2 t3,O t4 t5 t6] W2 bt/\Ad [O a1 a2 a3,O a4 a5 a6] W2 bo/\Ar c.n (XJ bj) W2 (zh #[O t1 t2 t3,O t4 t5 t6]) tl/\(V1.heap.size<=bt/\bt < W2.heap.size)/\(V1.heap.size<=bo/\bo < W2.heap.size)/\bt≠bo) ?_ ?_
 ·refine gS (O2 W bj c bv ov bl ol jv ek en xa xl xc a1 a2 a3 a4 a5 a6) (HS.o _ HB0.o) fun hHeld=>?_
  refine kT 0 ?_
  refine kT 1 ?_
  refine kT 2 ?_
  refine kT 3 ?_
  refine kT 4 ?_
  refine kT 5 ?_
  refine kT 6 ?_
  refine kT 7 ?_
  refine kT 9 ?_
  refine kT 10 ?_
  refine kT 12 ?_
  refine kT 13 ?_
  refine kT 14 ?_
  refine kT 15 ?_
  refine kT 16 ?_
  refine kT 17 ?_
  refine kT 18 ?_
  refine kT 19 ?_
  refine kT 20 ?_
  refine kT 21 ?_
  have HB:=HB0
  generalize V1.drew=Wc at HB hHeld ⊢
  clear HB0
  refine rdC 8 22 23 rfl (fun K h8=>?_) rfl (fun K h22=>?_) rfl (fun K h23=>?_) (by decide +kernel)
  all_goals repeat' first
   | (
    have hi:=h8
    clear hi
    go_simp
    refine (KBot.o _).mono ?_
    rintro e Wc ⟨vj,rfl,hL,hb⟩
    have hN:=Be hL
    have hA:=An hL
    obtain ⟨v1,v2,rfl,ho1,ho2,-⟩:=hL
    obtain ⟨y1,y2,y3,rfl⟩:=AG ho1
    obtain ⟨y4,y5,y6,rfl⟩:=AG ho2
    have hN:=Ed hN HB.o.size
    replace HB:=Aa (Ac HB.o hb)
    have HLB:=Aa (⟨hA,El _,BR (Aj bj) HB.o (fun k hk=>(HJ1.o.xlt k hk).2) hN⟩:Ar c.n (XJ bj) Wc _ (Bs c.n))
    (try replace HT:=Aa (HT.o.over hb))
    (try replace HO:=Aa (HO.o.over hb))
    clear hN hA ho1 ho2 hb
    go_simp
    refine xK h8 (HS.o _ HB.o) fun hHeld=>?_
    clear h8 K
    first | (refine rdC 11 22 23 rfl (fun K h11=>?_) rfl (fun K h22=>?_) rfl (fun K h23=>?_) (by decide +kernel)) | (refine rdA 11 rfl (fun K h11=>?_) (by decide +kernel)) | (refine rdB 11 22 rfl (fun K h11=>?_) rfl (fun K h22=>?_) (by decide +kernel)) | (refine rdB 11 23 rfl (fun K h11=>?_) rfl (fun K h23=>?_) (by decide +kernel)))
   | (
    have hi:=h11
    clear hi
    go_simp
    refine (KW.o _ (HJ1.o.over HB.o) HLB.o).mono ?_
    rintro e Wc ⟨⟨o1,o2,o3,o4,o5,o6,rfl,hL⟩,hb⟩
    replace HB:=Aa (Ac HB.o hb)
    (try replace HT:=Aa (HT.o.over hb))
    (try replace HO:=Aa (HO.o.over hb))
    have HLW:=Aa hL
    clear HLB hL hb
    go_simp
    refine xK h11 (HS.o _ HB.o) fun hHeld=>?_
    clear h11 K
    first | (refine rdB 22 23 rfl (fun K h22=>?_) rfl (fun K h23=>?_) (by decide +kernel)) | (refine rdA 24 rfl (fun K h24=>?_) (by decide +kernel)) | (refine rdA 22 rfl (fun K h22=>?_) (by decide +kernel)) | (refine rdA 23 rfl (fun K h23=>?_) (by decide +kernel)))
   | (
    have hi:=h22
    clear hi
    have hb:=bA Wc (ze #[O none 0 0,O none 0 0] 50)
    have hz:=Dq 50 Wc
    have hgt:=HB.o.size
    obtain ⟨bt,hq⟩:∃ b:Nat,b=Wc.heap.size:=⟨_,rfl⟩
    rw [<-hq] at hz hgt
    (try have hbb:bt≠bo:=by have:=HO.o.lt;omega)
    go_simp
    rw [<-hq]
    obtain ⟨Wc,hWn⟩:=nm (Wc.alloc (ze #[O none 0 0,O none 0 0] 50))
    rw [<-hWn] at hb hz ⊢
    replace HB:=Aa (Ac HB.o hb)
    (try replace HO:=Aa (HO.o.over hb))
    (try replace HLB:=Aa (HLB.o.over (Aj bj) hb))
    (try replace HLW:=Aa (HLW.o.over (Aj bj) hb))
    have HT:=Aa hz
    clear hb hz hWn hq
    refine xK h22 (HS.o _ HB.o) fun hHeld=>?_
    clear h22 K
    first | (refine rdA 24 rfl (fun K h24=>?_) (by decide +kernel)) | (refine rdB 8 23 rfl (fun K h8=>?_) rfl (fun K h23=>?_) (by decide +kernel)) | (refine rdB 11 23 rfl (fun K h11=>?_) rfl (fun K h23=>?_) (by decide +kernel)) | (refine rdA 23 rfl (fun K h23=>?_) (by decide +kernel)) | (refine rdA 8 rfl (fun K h8=>?_) (by decide +kernel)) | (refine rdA 11 rfl (fun K h11=>?_) (by decide +kernel)))
   | (
    have hi:=h23
    clear hi
    have hb:=bA Wc (ze #[O none 0 0,O none 0 0] 50)
    have hz:=Dq 50 Wc
    have hgo:=HB.o.size
    obtain ⟨bo,hq⟩:∃ b:Nat,b=Wc.heap.size:=⟨_,rfl⟩
    rw [<-hq] at hz hgo
    (try have hbb:bt≠bo:=by have:=HT.o.lt;omega)
    go_simp
    rw [<-hq]
    obtain ⟨Wc,hWn⟩:=nm (Wc.alloc (ze #[O none 0 0,O none 0 0] 50))
    rw [<-hWn] at hb hz ⊢
    replace HB:=Aa (Ac HB.o hb)
    (try replace HT:=Aa (HT.o.over hb))
    (try replace HLB:=Aa (HLB.o.over (Aj bj) hb))
    (try replace HLW:=Aa (HLW.o.over (Aj bj) hb))
    have HO:=Aa hz
    clear hb hz hWn hq
    refine xK h23 (HS.o _ HB.o) fun hHeld=>?_
    clear h23 K
    first | (refine rdA 24 rfl (fun K h24=>?_) (by decide +kernel)) | (refine rdB 8 22 rfl (fun K h8=>?_) rfl (fun K h22=>?_) (by decide +kernel)) | (refine rdB 11 22 rfl (fun K h11=>?_) rfl (fun K h22=>?_) (by decide +kernel)) | (refine rdA 22 rfl (fun K h22=>?_) (by decide +kernel)) | (refine rdA 8 rfl (fun K h8=>?_) (by decide +kernel)) | (refine rdA 11 rfl (fun K h11=>?_) (by decide +kernel)))
   | (
    have hi:=h24
    clear hi
    have d0:=HT.o.c0
    have d1:=HT.o.c1
    have z0:=HT.o.z0
    have z1:=HT.o.z1
    have hjb:bj < V1.heap.size:=HJ1.o.lo.2
    obtain ⟨Wn,hWn⟩:=nm (Bp Wc bt (O o1 o2 o3) (O o4 o5 o6))
    replace HB:Hx (Ov V1 Wn):=by rw [hWn];exact BQ HB.o hgt _ _
    replace HO:Hx (ZB bo Wn):=by rw [hWn];exact HO.o.other (Ne.symm hbb) _ _
    have HR:Hx (Ad [O o1 o2 o3,O o4 o5 o6] Wn bt):=by rw [hWn];exact HT.o.fill _ _
    have HL:Hx (Ar c.n (XJ bj) Wn (zh #[O o1 o2 o3,O o4 o5 o6]) tl):=by rw [hWn];exact Ef HLW.o HT.o (by omega) _ _
    unfold Bp at hWn
    go_simp
    rw [<-hWn]
    clear hWn d0 d1 z0 z1 HLW HT
    refine xK h24 (HS.o _ HB.o) fun hHeld=>?_
    clear h24 K
    refine rdA 25 rfl (fun K h25=>?_) (by decide +kernel))
   | (
    have hi:=h25
    clear hi
    have e0:=HO.o.c0
    have e1:=HO.o.c1
    have y0:=HO.o.z0
    have y1:=HO.o.z1
    obtain ⟨Wm,hWm⟩:=nm (Bp Wn bo (O a1 a2 a3) (O a4 a5 a6))
    replace HB:Hx (Ov V1 Wm):=by rw [hWm];exact BQ HB.o hgo _ _
    replace HR:Hx (Ad [O o1 o2 o3,O o4 o5 o6] Wm bt):=by rw [hWm];exact II HR.o hbb _ _
    have HQ:Hx (Ad [O a1 a2 a3,O a4 a5 a6] Wm bo):=by rw [hWm];exact HO.o.fill _ _
    replace HL:Hx (Ar c.n (XJ bj) Wm (zh #[O o1 o2 o3,O o4 o5 o6]) tl):=by rw [hWm];exact Ef HL.o HO.o (by omega) _ _
    unfold Bp at hWm
    go_simp
    rw [<-hWm]
    clear hWm
    refine xK h25 (HS.o _ HB.o) fun hHeld=>?_
    clear h25 K
    refine gE ?_
    exact Bo ⟨bt,bo,_,_,_,_,_,_,_,_,_,_,_,_,_,_,_,_,_,_,_,_,_,_,o1,o2,o3,o4,o5,o6,rfl,HB.o,HR.o,HQ.o,HL.o,⟨hgt,bL (HR.o 0 _ rfl)⟩,⟨hgo,bL (HQ.o 0 _ rfl)⟩,hbb⟩)
 rintro act2 W2 ⟨bt,bo,x13,x14,x15,x16,x17,x18,x19,x20,x21,x22,x23,x24,x25,x26,x27,x28,x29,x30,x31,x32,x33,x34,t1,t2,t3,t4,t5,t6,rfl,hB2,hrt,hro,hlt,⟨gt0,gt1⟩,⟨go0,go1⟩,hbb⟩
 clear u0 u1 u2 u3 u4 u5 u6 u7 u8 u9 u10 u11 u12 u13 u14 u15 u16 HS HB0
 have hnx:∀ q,V1.heap.size<=q->¬ XJ bj W2 q:=fun q hq e=>by have:=(HJ1.o.xlt q ((Aj bj).below _ _ hB2 q e)).2;omega
 have HJ2:=Aa (HJ1.o.over hB2)
 have HF2:=Aa (HF1.o.trans (FrW.of_below (Aj bj) hB2))
 have HTB2:Hx (TB bj [(bt,[O t1 t2 t3,O t4 t5 t6]),(bo,[O a1 a2 a3,O a4 a5 a6]),(W.heap.size,[zi (some ⟨bj,0,none⟩)]),(W.heap.size+1,[U zd 5,U zd (jv:Int),U zd ot,U zd ek,U zd en,O xa xl xc,O aa al ac,O ta tn tc,O ea el ec]),(W.heap.size+1+1,[O p1 q1 r1,O p2 q2 r2]),(s,[zi (some ⟨bj,0,none⟩)]),(s+1,[U zd a])] W2):=((HTB1.o.keep (FrW.of_below (Aj bj) hB2)).add hro (hnx _ go0) go1).add hrt (hnx _ gt0) gt1
 have HP2:=Aa (HP1.o.over (Aj bj) hB2)
 have HT2:=Aa hlt
 have HW2:Hx (W.heap.size<=W2.heap.size):=HF2.o.size
 have y3:((W2.alloc (ze #[zg false] 4)).alloc (ze #[zg false] 4)).cell? ⟨W.heap.size+1,3,none⟩=_:=Ab ((bA W2 _).alloc (by simp) _) _ _ ((HTB2.o.row 3 rfl) 3 _ rfl)
 have y4:((W2.alloc (ze #[zg false] 4)).alloc (ze #[zg false] 4)).cell? ⟨W.heap.size+1,4,none⟩=_:=Ab ((bA W2 _).alloc (by simp) _) _ _ ((HTB2.o.row 3 rfl) 4 _ rfl)
 have y5:((W2.alloc (ze #[zg false] 4)).alloc (ze #[zg false] 4)).cell? ⟨W.heap.size+1,5,none⟩=_:=Ab ((bA W2 _).alloc (by simp) _) _ _ ((HTB2.o.row 3 rfl) 5 _ rfl)
 clear hnx hB2 hrt hro hlt gt0 gt1 go0 go1 hbb HP1 HTB1 HF1 HJ1 KBot KW
 have hbel:Ov W2 (((W2.alloc (ze #[zg false] 4)).alloc (ze #[zg false] 4)).alloc (ze #[U zd ek,U zd en,O xa xl xc] 94)):=((bA W2 _).alloc (by simp) _).alloc (by simp <;> omega) _
 have HBEL:=Aa hbel
 have HI0:Hx (RvI W2.heap.size fm fh Ls.length [] (((W2.alloc (ze #[zg false] 4)).alloc (ze #[zg false] 4)).alloc (ze #[U zd ek,U zd en,O xa xl xc] 94))):=⟨by simp [go_sem],by simp [go_sem],by simp [go_sem],by simp [go_sem]⟩
 have HST:=Aa (HST'.o W2 HJ2.o _ hbel (W2.heap.size+1+1) (by simp) (by simp [go_sem]) (by simp [go_sem]) (by simp [go_sem]))
 clear hbel HST'
 have KV:=Aa fun (w:World)=>(callsIn_wide (n:=3)).1 (Ko Fence.wide 3 trivial rfl ek en xa xl xc w)
 go_wp2_with fail
 refine (KV.o _).mono ?_
 rintro e w' ⟨rfl,rfl⟩
 go_wp2_with fail
 refine (wpIn_wide (n:=3)).1 ?_
 refine wpIn_rangeFunc_ownF (F:=Fence.wide) rfl (by omega) (gf:=210) (lb:=#[zi (some ⟨W2.heap.size+1+1,0,none⟩)]) rfl trivial (enters_of Tryz.func210 (by kernel_rfl) rfl)
  HST.o belowK_t (belowK_b (by simp <;> omega)) (Below.refl _ _) (fun _=>rfl)
  (fun pre W=>RvI W2.heap.size fm fh Ls.length pre W/\Ov W2 W)
  (fun _ _ _=>False)
  (OwnFrom.and (Own.from (NI W2.heap.size fm fh Ls.length) _) (ownFrom_below (Nat.le_refl _) (by simp <;> omega)))
  (fun _ _ _ _ _ hs _ _=>hs)
  ⟨HI0.o,HBEL.o⟩
  (fun x=>{ tmps:=#[zi (some ⟨bj,0,none⟩),zh #[U zd 5,U zd (jv:Int),U zd ot,U zd ek,U zd en,O xa xl xc,O aa al ac,O ta tn tc,O ea el ec],zh #[O p1 q1 r1,O p2 q2 r2],.func (.func 149) #[] #[zi (some ⟨s,0,none⟩),zi (some ⟨s+1,0,none⟩)],zi (some ⟨W.heap.size,0,none⟩),zi (some ⟨W.heap.size+1,0,none⟩),zi (some ⟨W.heap.size+1+1,0,none⟩),undef,zi (some ⟨bt,0,none⟩),zi (some ⟨bo,0,none⟩),zi (some ⟨W2.heap.size,0,none⟩),zi (some ⟨W2.heap.size+1,0,none⟩),U zd x.1,x13,x14,x15,x16,x17,x18,x19,x20,x21,x22,x23,x24,x25,x26,x27,x28,x29,x30,x31,x32,x33,x34,zi (some ⟨W.heap.size+1,3,none⟩),zh #[U zd ek,U zd en,O xa xl xc],.func (.func 210) #[] #[zi (some ⟨W2.heap.size+1+1,0,none⟩)],U zd x.1,undef,undef,undef,undef,undef,undef,undef,undef,undef,undef,undef,undef,undef,undef,undef,undef,undef,undef,undef,undef,undef,undef,undef,undef,undef,undef,undef,undef,undef,undef,undef,undef,undef,undef,undef,undef,undef,undef,undef,undef,undef,undef,undef,undef,undef,undef,undef,undef,undef,undef,undef,undef,undef,undef,undef,undef],defers:=[] }) ?assign ?body ?done ?stop
 case assign=>
  intro l x W K hK
  gi_wp2
  exact hK
 case body=>
  clear HST HI0 HBEL HYS
  rintro lo pre x Wr ⟨⟨c0,f0,c1,f1⟩,hB⟩ _
  obtain ⟨m0,hm0⟩:=nm ((pre.map Subtype.val).any fm)
  obtain ⟨h0,hh0⟩:=nm ((pre.map Subtype.val).any fh)
  rw [<-hm0] at c0
  rw [<-hh0] at c1
  have HSTEP:=Aa fun (Wj:World) (m1 h1:Bool) (hbj:Ov Wr Wj) (e1:m1=(m0 || fm x.1)) (e2:h1=(h0 || fh x.1))=>NH (x:=x) c0 f0 c1 f1 hm0.symm hh0.symm hB hbj e1 e2
  clear hm0 hh0
  obtain ⟨x,hx0,hx1⟩:=x
  obtain ⟨j,rfl⟩:∃ j:Nat,x=(j:Int):=⟨x.toNat,by omega⟩
  have hj:j < vs.length:=by rw [HVL.o];omega
  obtain ⟨pr,pw,q0,q1,q2,hpr,hpw⟩:=HVE.o j hj
  obtain ⟨pa1,pn1,pc1,rfl⟩:=Aw hpr
  obtain ⟨kn,hkn⟩:=nm (vs[j].1)
  rw [<-hkn] at q0
  have HHJ:Hx (fh (j:Int)=!kn):=by rw [hkn];exact HKN.o j hj
  have HS5:Hx (∀ Wz:World,Ov W2 Wz->Mi W bj bv ov c j kn pa1 pn1 pc1 Wz):=fun Wz hz=>by
   have h2:=HJ2.o.over hz
   exact ⟨Ab hz _ _ ((HTB2.o.row 2 rfl) 0 _ rfl),by rw [<-HVA.o];exact h2.cw 5 _ rfl,Ab h2.below _ _ q0,Ab h2.below _ _ q1⟩
  obtain ⟨mr,hmr⟩:=nm (fm (j:Int))
  have KM2:Hx (∀ Wz:World,Ov W2 Wz->Calls Tryz.prog 202 #[zi (some ⟨bj,0,none⟩),O pa1 pn1 pc1] Wz fun e W'=>e=zj (zg mr)/\Ov Wz W'):=fun Wz hz=>by
   have h2:=HJ2.o.over hz
   rw [hmr]
   exact HMUTE.o j hj Wz h2 _ (Ak hpr h2.below)
  have HMJ:Hx (fm (j:Int)=mr):=hmr.symm
  have hj1:(j:Int) < (c.vn:Int):=by have:=HVN.o;omega
  have hlt0:=bL c0
  have hlt1:=bL c1
  clear hmr hkn q0 q1 q2 hpr hpw hj
  have hmx:Tryz.prog.follows .mixedOrders=true:=by kernel_rfl
  have hd1:1<=3 - 1 - 1:=by omega
  cases m0 with
  | true=>
   gi_wp2
   refine Dt (S:=fun Wz=>Mi W bj bv ov c j kn pa1 pn1 pc1 Wz) hmx ?_ ?_
   ·intro i o ho c hc
    match i with
    | 0 | 1 | 2 | 3 | 4 | 5 | 6 | 7 | 8 | 9 | 10 | 11 | 12 | 13 | 14 | 15 | 16=>simp at ho;subst ho;cases hc
    | i+17=>simp at ho
   refine rdA 0 rfl fun K hK=>?_
   go_simp
   refine xK hK (HS5.o _ (hB.drew)) fun hHeld=>?_
   clear hK K
   refine kT 1 ?_
   refine kU 2 ?_
   refine kU 3 ?_
   refine kU 4 ?_
   refine kU 5 ?_
   refine kU 6 ?_
   refine kU 7 ?_
   refine kU 8 ?_
   refine kU 9 ?_
   refine kU 10 ?_
   refine kU 11 ?_
   refine kU 12 ?_
   refine kU 13 ?_
   refine kU 14 ?_
   refine kT 15 ?_
   refine rdA 16 rfl fun K hK=>?_
   go_simp
   refine xK hK (by exact HS5.o _ ((hB.drew).setCell (Nat.le_refl _) _)) fun hHeld=>?_
   clear hK K
   refine gE ?_
   refine Bo ?_
   have hm:=HS5.o (Wr.drew.setCell ⟨W2.heap.size,0,none⟩ (zg true)) ((hB.drew).setCell (Nat.le_refl _) _)
   obtain ⟨n0,n1,n2,n3⟩:=hm
   cases h0 with
   | true=>
    gi_wp2
    exact HSTEP.o Wr.drew true true (bD Wr) (by simp [HMJ.o]) (by simp)
   | false=>
    gi_wp2
    exact HSTEP.o Wr.drew true (!kn) (bD Wr) (by simp [HMJ.o]) (by simp [HHJ.o])
  | false=>
   gi_wp2
   refine Dt (S:=fun Wz=>Mi W bj bv ov c j kn pa1 pn1 pc1 Wz) hmx ?_ ?_
   ·intro i o ho c hc
    match i with
    | 0 | 1 | 2 | 3 | 4 | 5 | 6 | 7 | 8 | 9 | 10 | 11 | 12 | 13 | 14 | 15 | 16=>simp at ho;subst ho;cases hc
    | i+17=>simp at ho
   refine rdA 0 rfl fun K hK=>?_
   go_simp
   refine xK hK (HS5.o _ (hB.drew)) fun hHeld=>?_
   clear hK K
   refine kT 1 ?_
   refine kT 2 ?_
   refine kT 3 ?_
   refine kT 4 ?_
   refine kT 5 ?_
   refine kT 6 ?_
   refine kT 7 ?_
   refine kT 8 ?_
   refine kT 9 ?_
   refine kT 10 ?_
   refine kT 11 ?_
   refine kT 12 ?_
   refine kT 13 ?_
   refine rdA 14 rfl fun K hK=>?_
   go_simp
   refine (KM2.o _ (hB.drew)).mono ?_
   rintro e wj ⟨rfl,hbj⟩
   have HBJ:Hx (Ov Wr wj):=(bD Wr).trans (hbj.mono (Nat.le_refl _))
   have c0j:=Ab HBJ.o _ _ c0
   have f0j:wj.frozen? ⟨W2.heap.size,0,none⟩=false:=((Am HBJ.o).2 _ _ hlt0).trans f0
   have c1j:=Ab HBJ.o _ _ c1
   have f1j:wj.frozen? ⟨W2.heap.size+1,0,none⟩=false:=((Am HBJ.o).2 _ _ hlt1).trans f1
   have HBW2:=Aa (hB.trans (HBJ.o.mono hB.size))
   clear hbj
   go_simp
   refine xK hK (HS5.o _ HBW2.o) fun hHeld=>?_
   clear hK K
   refine kT 15 ?_
   refine rdA 16 rfl fun K hK=>?_
   go_simp
   refine xK hK (by exact HS5.o _ ((HBW2.o).setCell (Nat.le_refl _) _)) fun hHeld=>?_
   clear hK K
   refine gE ?_
   refine Bo ?_
   have hm:=HS5.o (wj.setCell ⟨W2.heap.size,0,none⟩ (zg mr)) ((HBW2.o).setCell (Nat.le_refl _) _)
   obtain ⟨n0,n1,n2,n3⟩:=hm
   cases h0 with
   | true=>
    gi_wp2
    exact HSTEP.o wj mr true HBJ.o (by simp [HMJ.o]) (by simp)
   | false=>
    gi_wp2
    exact HSTEP.o wj mr (!kn) HBJ.o (by simp [HMJ.o]) (by simp [HHJ.o])
 case done=>
  rintro D zs W4' hD rfl ⟨⟨c0,f0,c1,f1⟩,hB⟩ hK
  rw [HYS.o,<-HF6.o] at c0
  rw [HYS.o,<-HF7.o] at c1
  obtain ⟨bm,hbm⟩:=nm W2.heap.size
  obtain ⟨bh,hbh⟩:=nm (W2.heap.size+1)
  have hnx:∀ q,W2.heap.size<=q->¬ XJ bj W4' q:=fun q hq e=>by have:=(HJ2.o.xlt q ((Aj bj).below _ _ hB q e)).2;omega
  rw [<-hbm] at c0
  rw [<-hbh] at c1
  have hD2:W2.heap.size<=D:=by simp at hD;omega
  have HDW:Hx (w0.heap.size<=D):=Nat.le_trans (Nat.le_trans HW0.o HW2.o) hD2
  have HDW2:Hx (W.heap.size<=D):=Nat.le_trans HW2.o hD2
  have HJ4':=Aa (HJ2.o.over hB)
  have HF4':=Aa (HF2.o.trans (FrW.of_below (Aj bj) hB))
  have HTB4':Hx (TB bj ([(bm,[zg f6]),(bh,[zg f7]),(bt,[O t1 t2 t3,O t4 t5 t6]),(bo,[O a1 a2 a3,O a4 a5 a6]),(W.heap.size,[zi (some ⟨bj,0,none⟩)]),(W.heap.size+1,[U zd 5,U zd (jv:Int),U zd ot,U zd ek,U zd en,O xa xl xc,O aa al ac,O ta tn tc,O ea el ec]),(W.heap.size+1+1,[O p1 q1 r1,O p2 q2 r2]),(s,[zi (some ⟨bj,0,none⟩)]),(s+1,[U zd a])]) W4'):=((HTB2.o.keep (FrW.of_below (Aj bj) hB)).one c1 (hnx _ (by omega))).one c0 (hnx _ (by omega))
  have HP4':=Aa (HP2.o.over (Aj bj) hB)
  have HT4':=Aa (HT2.o.over (Aj bj) hB)
  have HD4':Hx (DK bj D W4'):=⟨hK,hnx _ hD2⟩
  have hbd:Ov W4' W4'.drew:=(bD _)
  have HJ4:=Aa (HJ4'.o.over hbd)
  have HF4:=Aa (HF4'.o.trans (FrW.of_below (Aj bj) hbd))
  have HTB4:=Aa (HTB4'.o.keep (FrW.of_below (Aj bj) hbd))
  have HP4:=Aa (HP4'.o.over (Aj bj) hbd)
  have HT4:=Aa (HT4'.o.over (Aj bj) hbd)
  have HD4:=Aa (HD4'.o.keep (FrW.of_below (Aj bj) hbd))
  have HO4:=Aa (HLO.o _ HJ4.o)
  have HS4:=Aa (HS7.o _ HJ4.o HTB4.o)
  obtain ⟨u0,u1,u2,u3,u4,u5,u6,u7,u8,u9,u10,u11,u12,u13,u14⟩:=HS7.o _ HJ4'.o HTB4'.o
  clear HJ4' HF4' HTB4' HP4' HT4' HD4' hbd hK c0 f0 c1 f1 hB hnx hD hD2 HST HI0 HBEL HJ2 HF2 HTB2 HP2 HT2 y3 y4 y5
  rw [<-hbh,<-hbm]
  clear hbm hbh
  go_wp2_with fail
  refine IJ ?_
  refine gS (O1 W bj c bv ov bl ol p1 q1 r1 p2 q2 r2 bo a1 a2 a3 a4 a5 a6) (HS4.o) fun hHeld=>?_
  refine kT 0 ?_
  refine kT 1 ?_
  refine kT 2 ?_
  refine kT 3 ?_
  refine kT 4 ?_
  refine kT 5 ?_
  refine kT 6 ?_
  refine rdA 7 rfl fun K hK=>?_
  go_simp
  refine (KF.o _ HJ4.o HP4.o HO4.o).mono ?_
  rintro e W5 ⟨rfl,hb5⟩
  have HJ5:=Aa (HJ4.o.over hb5)
  have HTB5:=Aa (HTB4.o.keep (FrW.of_below (Aj bj) hb5))
  have HF5:=Aa (HF4.o.trans (FrW.of_below (Aj bj) hb5))
  have HT5:=Aa (HT4.o.over (Aj bj) hb5)
  have HP5:=Aa (HP4.o.over (Aj bj) hb5)
  have HD5:=Aa (HD4.o.keep (FrW.of_below (Aj bj) hb5))
  have HS5:=Aa (HS7.o W5 HJ5.o HTB5.o)
  clear hb5
  go_simp
  refine xK hK (HS5.o) fun hHeld=>?_
  clear hK K
  refine kT 8 ?_
  refine rdA 9 rfl fun K hK=>?_
  go_simp
  refine (KB.o _ HJ5.o ((HTB5.o.row 7 rfl) 0 _ rfl) ((HTB5.o.row 8 rfl) 0 _ rfl) (HTB5.o.off 7 rfl) (HTB5.o.off 8 rfl) HFL0.o 5 _).mono ?_
  rintro e W6 ⟨rfl,⟨fv6,hJ6⟩,hF6⟩
  have HJ6:=Aa hJ6
  have HTB6:=Aa (HTB5.o.keep hF6)
  have HF6:=Aa (HF5.o.trans hF6)
  have HT6:=Aa (HT5.o.keep HN1.o hF6)
  have HP6:=Aa (HP5.o.keep HN1.o hF6)
  have HD6:=Aa (HD5.o.keep hF6)
  have HS6:=Aa (HS7.o W6 HJ6.o HTB6.o)
  clear hJ6 hF6
  go_simp
  refine xK hK (HS6.o) fun hHeld=>?_
  clear hK K
  refine gE ?_
  refine Bo ?_
  have g0:=(HTB6.o.row 0 rfl) 0 _ rfl
  go_wp2_with fail
  refine (KB.o _ HJ6.o ((HTB6.o.row 7 rfl) 0 _ rfl) ((HTB6.o.row 8 rfl) 0 _ rfl) (HTB6.o.off 7 rfl) (HTB6.o.off 8 rfl) HFL1.o 6 _).mono ?_
  rintro e W7 ⟨rfl,⟨fv7,hJ7⟩,hF7⟩
  have HJ7:=Aa hJ7
  have HTB7:=Aa (HTB6.o.keep hF7)
  have HF7:=Aa (HF6.o.trans hF7)
  have HT7:=Aa (HT6.o.keep HN1.o hF7)
  have HP7:=Aa (HP6.o.keep HN1.o hF7)
  have HD7:=Aa (HD6.o.keep hF7)
  have g1:=(HTB7.o.row 1 rfl) 0 _ rfl
  clear hJ7 hF7 g0
  go_wp2_with fail
  refine (KB.o _ HJ7.o ((HTB7.o.row 7 rfl) 0 _ rfl) ((HTB7.o.row 8 rfl) 0 _ rfl) (HTB7.o.off 7 rfl) (HTB7.o.off 8 rfl) HFL2.o 7 _).mono ?_
  rintro e W8 ⟨rfl,⟨fv8,hJ8⟩,hF8⟩
  have HJ8:=Aa hJ8
  have HTB8:=Aa (HTB7.o.keep hF8)
  have HF8:=Aa (HF7.o.trans hF8)
  have HT8:=Aa (HT7.o.keep HN1.o hF8)
  have HP8:=Aa (HP7.o.keep HN1.o hF8)
  have HD8:=Aa (HD7.o.keep hF8)
  have g4:=(HTB8.o.row 4 rfl) 0 _ rfl
  clear hJ8 hF8 g1
  go_wp2_with fail
  refine (KS1.o _ HJ8.o ((HTB8.o.row 2 rfl) 1 _ rfl) ((HTB8.o.row 3 rfl) 1 _ rfl) HT8.o).mono ?_
  rintro e W9 ⟨rfl,hb9⟩
  have HJ9:=Aa (HJ8.o.over hb9)
  have HTB9:=Aa (HTB8.o.keep (FrW.of_below (Aj bj) hb9))
  have HF9:=Aa (HF8.o.trans (FrW.of_below (Aj bj) hb9))
  have HT9:=Aa (HT8.o.over (Aj bj) hb9)
  have HP9:=Aa (HP8.o.over (Aj bj) hb9)
  have HD9:=Aa (HD8.o.keep (FrW.of_below (Aj bj) hb9))
  clear hb9 g4
  go_wp2_with fail
  refine (KB.o _ HJ9.o ((HTB9.o.row 7 rfl) 0 _ rfl) ((HTB9.o.row 8 rfl) 0 _ rfl) (HTB9.o.off 7 rfl) (HTB9.o.off 8 rfl) HFL3.o 8 _).mono ?_
  rintro e W10 ⟨rfl,⟨fv10,hJ10⟩,hF10⟩
  have HJ10:=Aa hJ10
  have HTB10:=Aa (HTB9.o.keep hF10)
  have HF10:=Aa (HF9.o.trans hF10)
  have HT10:=Aa (HT9.o.keep HN1.o hF10)
  have HP10:=Aa (HP9.o.keep HN1.o hF10)
  have HD10:=Aa (HD9.o.keep hF10)
  have g4:=(HTB10.o.row 4 rfl) 0 _ rfl
  clear hJ10 hF10
  go_wp2_with fail
  refine (KS2.o _ HJ10.o ((HTB10.o.row 2 rfl) 1 _ rfl) ((HTB10.o.row 6 rfl) 1 _ rfl) ((HTB10.o.row 4 rfl) 0 _ rfl) HT10.o HP10.o).mono ?_
  rintro e W11 ⟨rfl,hb11⟩
  have HJ11:=Aa (HJ10.o.over hb11)
  have HTB11:=Aa (HTB10.o.keep (FrW.of_below (Aj bj) hb11))
  have HF11:=Aa (HF10.o.trans (FrW.of_below (Aj bj) hb11))
  have HT11:=Aa (HT10.o.over (Aj bj) hb11)
  have HP11:=Aa (HP10.o.over (Aj bj) hb11)
  have HD11:=Aa (HD10.o.keep (FrW.of_below (Aj bj) hb11))
  clear hb11 g4
  go_wp2_with fail
  refine (KB.o _ HJ11.o ((HTB11.o.row 7 rfl) 0 _ rfl) ((HTB11.o.row 8 rfl) 0 _ rfl) (HTB11.o.off 7 rfl) (HTB11.o.off 8 rfl) HFL4.o 9 _).mono ?_
  rintro e W12 ⟨rfl,⟨fv12,hJ12⟩,hF12⟩
  have HJ12:=Aa hJ12
  have HTB12:=Aa (HTB11.o.keep hF12)
  have HF12:=Aa (HF11.o.trans hF12)
  have HT12:=Aa (HT11.o.keep HN1.o hF12)
  have HP12:=Aa (HP11.o.keep HN1.o hF12)
  have HD12:=Aa (HD11.o.keep hF12)
  clear hJ12 hF12
  go_wp2_with fail
  have hK:=HD12.o.1
  have hfin:AI c.cs w0 bj av (addF a 9 (addF a 8 (addF a 7 (addF a 6 (addF a 5 fl (!f5)) f6) f7) f8) f9) fv12 (W12.putObj D (.deferred none)):=HJ12.o.grown (grownBy_putObj' _ D (.deferred none)) hK rfl (HDW.o)
  have hfr:FrW (XJ bj) W (W12.putObj D (.deferred none)):=Ok HF12.o HJ12.o hK rfl HDW2.o
  refine ⟨by simp,.inl ⟨_,_,rfl,run_takeDeferred hK,?_⟩⟩
  exact ⟨zk #[],by simp [results,Tryz.f152,go_sem],rfl,⟨fv12,hfin⟩,hfr⟩
 case stop=>
  rintro D c pre W _ _ h _
  exact h.elim
end Go.Proofs.YtfffpjkcfnekaaaGreat.Ex
namespace Go.Proofs.YtfffpjkcfnekaaaGreat.Ex
open Go.RowKit
open Go.Value renaming slice -> O, int -> U, bool -> zg, agg -> zh, pointer -> zi, tuple -> zk
open Go.IntKind renaming i64 -> zd
open Go.Obj renaming cells -> ze
open Go.Ending renaming returned -> zj
theorem M7 (cs:List Value) (av:Value) (w:World) (hl:cs.length=10):AI cs w w.heap.size av [] (O none 0 0) (w.alloc (.cells (cs++[av,Value.slice none 0 0]:List Value).toArray 165)):=
 ⟨bA w _,Ad.new _ _ _,fun j=>by simp [go_sem],World.ownsRow_nil ..,by simp [Value.ownBlock],⟨Nat.le_refl _,by simp⟩,hl⟩
theorem Lw (c:WC) (gs) (w:World) (hg:AF w (O c.ga c.gn c.gc) gs) (hE:AL c.n gs=0) :
  Calls Tryz.prog 86 #[zh #[U zd (c.n:Int),O c.ga c.gn c.gc,O c.sa c.sn c.sc,O c.ya c.yn c.yc,O c.oa c.on c.oc,O c.va c.vn c.vc,O c.fa c.fn c.fc,O c.ba c.bn c.bc],zh #[O c.la c.ln c.lc,O c.ka c.kn c.kc]] w fun e w'=>∃ w1 ob,e=zj (zi (some ⟨w1.heap.size,0,none⟩))/\CF w1 ob c.n (Ay gs) c.n/\Ov w w1/\w'=w1.alloc (.cells (c.cs++[Value.slice (some ⟨ob,0,none⟩) c.n c.n,Value.slice none 0 0]:List Value).toArray 165):=by
 obtain ⟨n,hn,h1,h6,hgs,h20,hin⟩:=EI hE
 obtain rfl:c.n=n:=by omega
 have hb:Ov w ((w.alloc (ze #[U zd (c.n:Int),O c.ga c.gn c.gc,O c.sa c.sn c.sc,O c.ya c.yn c.yc,O c.oa c.on c.oc,O c.va c.vn c.vc,O c.fa c.fn c.fc,O c.ba c.bn c.bc] 31)).alloc (ze #[O c.la c.ln c.lc,O c.ka c.kn c.kc] 44)):=(bA w _).alloc (by simp) _
 have KF:=Aa (Ni c.n h1 h6 (O c.ga c.gn c.gc) (Ay gs) ((w.alloc (ze #[U zd (c.n:Int),O c.ga c.gn c.gc,O c.sa c.sn c.sc,O c.ya c.yn c.yc,O c.oa c.on c.oc,O c.va c.vn c.vc,O c.fa c.fn c.fc,O c.ba c.bn c.bc] 31)).alloc (ze #[O c.la c.ln c.lc,O c.ka c.kn c.kc] 44)) (by rw [hgs];exact Af hg hb) h20 hin (by rw [hgs];exact hE))
 have HB:=Aa hb
 have rP:Ad [U zd (c.n:Int),O c.ga c.gn c.gc,O c.sa c.sn c.sc,O c.ya c.yn c.yc,O c.oa c.on c.oc,O c.va c.vn c.vc,O c.fa c.fn c.fc,O c.ba c.bn c.bc] ((w.alloc (ze #[U zd (c.n:Int),O c.ga c.gn c.gc,O c.sa c.sn c.sc,O c.ya c.yn c.yc,O c.oa c.on c.oc,O c.va c.vn c.vc,O c.fa c.fn c.fc,O c.ba c.bn c.bc] 31)).alloc (ze #[O c.la c.ln c.lc,O c.ka c.kn c.kc] 44)) w.heap.size:=(Ad.new _ _ _).over (bA _ _)
 have rL:Ad [O c.la c.ln c.lc,O c.ka c.kn c.kc] ((w.alloc (ze #[U zd (c.n:Int),O c.ga c.gn c.gc,O c.sa c.sn c.sc,O c.ya c.yn c.yc,O c.oa c.on c.oc,O c.va c.vn c.vc,O c.fa c.fn c.fc,O c.ba c.bn c.bc] 31)).alloc (ze #[O c.la c.ln c.lc,O c.ka c.kn c.kc] 44)) (w.heap.size+1):=by
  have r:=Ad.new [O c.la c.ln c.lc,O c.ka c.kn c.kc] 44 (w.alloc (ze #[U zd (c.n:Int),O c.ga c.gn c.gc,O c.sa c.sn c.sc,O c.ya c.yn c.yc,O c.oa c.on c.oc,O c.va c.vn c.vc,O c.fa c.fn c.fc,O c.ba c.bn c.bc] 31))
  simpa using r
 have HP:=Aa rP
 have HL:=Aa rL
 clear hg hE hgs h20 hin hb hn
 obtain ⟨t0,t1,t2,t3,t4,t5,t6,t7⟩:=rc8 rP
 obtain ⟨u0,u1⟩:=rc2 rL
 clear rP rL
 go_enter Tryz.func86,Tryz.ntmps86
 go_wp2_with fail
 refine (KF.o).mono ?_
 rintro e w1 ⟨ob,rfl,hR,hb1⟩
 have q0:=Ab hb1 _ _ (HP.o 0 _ rfl)
 have q1:=Ab hb1 _ _ (HP.o 1 _ rfl)
 have q2:=Ab hb1 _ _ (HP.o 2 _ rfl)
 have q3:=Ab hb1 _ _ (HP.o 3 _ rfl)
 have q4:=Ab hb1 _ _ (HP.o 4 _ rfl)
 have q5:=Ab hb1 _ _ (HP.o 5 _ rfl)
 have q6:=Ab hb1 _ _ (HP.o 6 _ rfl)
 have q7:=Ab hb1 _ _ (HP.o 7 _ rfl)
 have s0:=Ab hb1 _ _ (HL.o 0 _ rfl)
 have s1:=Ab hb1 _ _ (HL.o 1 _ rfl)
 have HB1:=Aa (Ac HB.o hb1)
 have HR:=Aa hR
 clear hb1 hR t0 t1 t2 t3 t4 t5 t6 t7 u0 u1
 go_wp2_with fail
 go_ret
 exact ⟨w1,ob,rfl,HR.o,HB1.o,rfl⟩
def BZ (n K kf:Nat) (gs:List (Int × Int)) (sp:List Int) (Ls Fs:List Lev) (vs:List (Bool × Lab)) (ls ms:List Lab) (fs:List FnD) (l:List D):List (Int × Int):=
 Ev n K (fun _=>Ls) (EH n K (Ay gs) sp Ls vs ls ms fs) (fun _=>Fs) kf fs l []
def OL (K kf:Nat) (m:Int) (vn yn on:Nat) (gs:List (Int × Int)) (sp:List Int) (ls ms:List Lab) (vs:List (Bool × Lab)) (fs:List FnD) (l:List D) (P:Int->Prop) (w:World) (e:Ending) (w':World):Prop:=
 ∃ why:Int,P why/\Ov w w'/\((why≠0/\e=zj (zk #[O none 0 0,U zd why])) \/
  (why=0/\okP K kf m vn yn on gs sp ls ms vs fs l/\∃ (n:Nat) (st:ISt) (fv:Value) (B:Nat),m=n/\e=zj (zk #[fv,U zd 0])/\D1 n K kf gs vs ls fs l st/\(∀ x∈st.vs,x.len n)/\(∀ x∈st.fs,x.len n)/\st.vs.length=vn/\st.fs.length=fs.length/\w.heap.size<=B/\w'.ownsRow B 89 2 fv (BZ n K kf gs sp st.vs st.fs vs ls ms fs l).length (BX (BZ n K kf gs sp st.vs st.fs vs ls ms fs l))))
theorem J3 (args:Array Value) (w:World):(callFunc 88 args).run Tryz.prog w=.ok (.enter 88 args) w:=by simp [go_sem]
theorem NW (K kf n:Nat) (ga gn gc sa sn sc ya yn yc oa on oc va vn vc fa fn fc ba bn bc) (la ln lc ka kn kc) (gs sp ls ms vs fs l) (st:ISt) (w:World) (h:Br K kf (n:Int) ga gn gc sa sn sc ya yn yc oa on oc va vn vc fa fn fc ba bn bc gs sp ls ms vs fs l w) (hok:okP K kf (n:Int) vn yn on gs sp ls ms vs fs l) (hs:(sp.length:Int)<=n) (hlv:BI w (O la ln lc) st.vs) (hlf:BI w (O ka kn kc) st.fs) (hll:∀ x∈st.vs,x.len n) (hfl:∀ x∈st.fs,x.len n) (hvn:st.vs.length=vn) (hfn:st.fs.length=fs.length) (ob:Nat) (hR:CF w ob n (Ay gs) n) :
  Calls Tryz.prog 87 #[zh #[U zd (n:Int),O ga gn gc,O sa sn sc,O ya yn yc,O oa on oc,O va vn vc,O fa fn fc,O ba bn bc,O la ln lc,O ka kn kc],.func (.func 88) #[zi (some ⟨w.heap.size,0,none⟩)] #[]] (w.alloc (ze #[U zd (n:Int),O ga gn gc,O sa sn sc,O ya yn yc,O oa on oc,O va vn vc,O fa fn fc,O ba bn bc,O la ln lc,O ka kn kc,O (some ⟨ob,0,none⟩) n n,O none 0 0] 165)) fun e W'=>e=zj (zk #[])/\(∃ fv,AI [U zd (n:Int),O ga gn gc,O sa sn sc,O ya yn yc,O oa on oc,O va vn vc,O fa fn fc,O ba bn bc,O la ln lc,O ka kn kc] w w.heap.size (O (some ⟨ob,0,none⟩) n n) (BZ n K kf gs sp st.vs st.fs vs ls ms fs l) fv W'):=by
 obtain ⟨n',hn,h1,h6,-⟩:=EI hok.chk
 obtain rfl:n'=n:=by omega
 clear hn
 have hvV:=h.vars
 obtain rfl:vn=vs.length:=by obtain ⟨-,a,c,he,-⟩:=h.vars;injection he
 obtain rfl:yn=ls.length:=by obtain ⟨-,a,c,he,-⟩:=h.ins;injection he
 obtain rfl:on=ms.length:=by obtain ⟨-,a,c,he,-⟩:=h.outs;injection he
 obtain rfl:fn=fs.length:=by obtain ⟨-,a,c,he,-⟩:=h.funcs;injection he
 obtain ⟨c,hc⟩:∃ c:WC,c=⟨n',ga,gn,gc,sa,sn,sc,ya,ls.length,yc,oa,ms.length,oc,va,vs.length,vc,fa,fs.length,fc,ba,bn,bc,la,ln,lc,ka,kn,kc⟩:=⟨_,rfl⟩
 have J:JSt c w gs st.vs st.fs:=by
  subst hc
  exact ⟨h1,h6,h.grants,hok.chk,hlv,hll,hlf,hfl,by have:=hok.vars;omega⟩
 have A:JAc c w (O (some ⟨ob,0,none⟩) n' n') (Ay gs) sp:=by
  subst hc
  exact ⟨⟨ob,rfl,hR⟩,h.speak,by show sp.length<=6;omega,fun x hx=>hok.speak x hx⟩
 have hvs:Bh w (O c.va c.vn c.vc) vs:=by subst hc;exact h.vars
 have hls:AW w (O c.ya c.yn c.yc) ls:=by subst hc;exact h.ins
 have hos:AW w (O c.oa c.on c.oc) ms:=by subst hc;exact h.outs
 have hfs:Bk w K kf (O c.fa c.fn c.fc) fs:=by subst hc;exact h.funcs
 have hm:Bd w K kf (O c.ba c.bn c.bc) l:=by subst hc;exact h.main
 have hcn:c.n=n':=by subst hc;rfl
 have hvc:∀ v∈vs,A3 c.n gs v.2=0:=by rw [hcn];exact hok.labs.2.1
 have hlc:∀ b∈ls,A3 c.n gs b=0:=by rw [hcn];exact fun b hb=>hok.labs.1 b (List.mem_append.2 (Or.inl hb))
 have hoc:∀ b∈ms,A3 c.n gs b=0:=by rw [hcn];exact fun b hb=>hok.labs.1 b (List.mem_append.2 (Or.inr hb))
 have hof:∀ i (h:i < fs.length),okF K st.vs.length ls.length ms.length (i:Int) fs kf fs[i]:=by rw [hvn];exact hok.body
 have hom:∀ s∈l,okS K st.vs.length ls.length ms.length (fs.length:Int) fs kf s:=by rw [hvn];exact hok.main
 have hR1:=NJ c w w.heap.size (O (some ⟨ob,0,none⟩) n' n') gs st.vs st.fs J sp A K ls.length ms.length fs vs hvs hvn.symm hvc
 have hT1:=Pw c w w.heap.size (O (some ⟨ob,0,none⟩) n' n') gs st.vs st.fs J sp A K ls.length ms.length fs vs hvs hvn.symm hvc
 have hD:=jDo c w w.heap.size (O (some ⟨ob,0,none⟩) n' n') gs st.vs st.fs J sp A K ls.length ms.length fs vs hvs hvn.symm hvc ls hls hlc rfl hok.ins ms hos hoc rfl hok.outs kf hfs hok.funcs hof hR1 hT1
 have hE:=Pq (K:=K) (nv:=st.vs.length) (ni:=ls.length) (no:=ms.length) (kf:=kf) (Q7 (bj:=w.heap.size) (av:=O (some ⟨ob,0,none⟩) n' n') J fs hfn) (EH c.n K (Ay gs) sp st.vs vs ls ms fs) 88 [zi (some ⟨w.heap.size,0,none⟩)] [] pmJ (MP c.n K (Ay gs) sp st.vs vs ls ms fs) J3 hD l hfs hm hof hom hok.many hok.funcs [] (w.alloc (.cells (c.cs++[Value.slice (some ⟨ob,0,none⟩) n' n',Value.slice none 0 0]:List Value).toArray 165)) ⟨_,M7 c.cs (O (some ⟨ob,0,none⟩) n' n') w rfl⟩ (by unfold pmJ;simp)
 subst hc
 exact hE.mono fun e W' h=>⟨h.1,h.2.1⟩
theorem Ot (K kf:Nat) (m:Int) (ga gn gc sa sn sc ya yn yc oa on oc va vn vc fa fn fc ba bn bc) (gs sp ls ms vs fs l) (w:World) (h:Br K kf m ga gn gc sa sn sc ya yn yc oa on oc va vn vc fa fn fc ba bn bc gs sp ls ms vs fs l w) (P:Int->Prop) (KS:∀ W,Ov w W->Calls Tryz.prog 53 #[zh #[U zd m,O ga gn gc,O sa sn sc,O ya yn yc,O oa on oc,O va vn vc,O fa fn fc,O ba bn bc]] W fun e w'=>∃ why:Int,e=zj (U zd why)/\P why/\Ov W w') (hP:P 0->okP K kf m vn yn on gs sp ls ms vs fs l) (hS:P 0->(sp.length:Int)<=m) :
  Calls Tryz.prog 35 #[zh #[U zd m,O ga gn gc,O sa sn sc,O ya yn yc,O oa on oc,O va vn vc,O fa fn fc,O ba bn bc]] w (OL K kf m vn yn on gs sp ls ms vs fs l P w):=by
 have hb0:Ov w (w.alloc (ze #[U zd m,O ga gn gc,O sa sn sc,O ya yn yc,O oa on oc,O va vn vc,O fa fn fc,O ba bn bc] 31)):=bA w _
 have rowP:=Ad.new [U zd m,O ga gn gc,O sa sn sc,O ya yn yc,O oa on oc,O va vn vc,O fa fn fc,O ba bn bc] 31 w
 have K1:=Aa (Qo K kf m ga gn gc sa sn sc ya yn yc oa on oc va vn vc fa fn fc ba bn bc gs sp ls ms vs fs l _ (h.over hb0) P (fun W hW=>KS W (Ac hb0 hW)) hP)
 have HB0:=Aa hb0
 have HR:=Aa rowP
 have HH:=Aa h
 have HS:=Aa hS
 obtain ⟨p0,p1,p2,p3,p4,p5,p6,p7⟩:=rc8 rowP
 clear hb0 rowP h KS hP hS
 go_enter Tryz.func35,Tryz.ntmps35
 go_wp2_with fail
 refine (K1.o).mono ?_
 rintro e w1 ⟨why,hPw,hb1,hcase⟩
 have HB1:=Aa (Ac HB0.o hb1)
 have HRB1:=Aa hb1
 rcases hcase with ⟨hne,rfl⟩ | ⟨rfl,hok,n,st,la,ln,lc,ka,kn,kc,rfl,rfl,hlv,hlf,hll,hfl,hvn,hfn,hInf,-,-⟩
 ·have hz:¬ why=0:=hne
  have HPW:=Aa hPw
  have HNE:=Aa hne
  clear hPw hb1 hne
  go_wp2_with fail
  refine bodyPost_ret (v:=zk #[O none 0 0,U zd why]) (by simp [results,Tryz.results35,go_sem]) rfl ?_
  exact ⟨why,HPW.o,Ac HB1.o (bA _ _),Or.inl ⟨HNE.o,rfl⟩⟩
 ·have hb2:Ov w1 (w1.alloc (ze #[O la ln lc,O ka kn kc] 44)):=bA _ _
  have r2:=Ad.new [O la ln lc,O ka kn kc] 44 w1
  obtain ⟨q0,q1⟩:=rc2 r2
  obtain ⟨s0,s1,s2,s3,s4,s5,s6,s7⟩:=co8 (Ac hb1 hb2) p0 p1 p2 p3 p4 p5 p6 p7
  have KN:=Aa (Lw ⟨n,ga,gn,gc,sa,sn,sc,ya,yn,yc,oa,on,oc,va,vn,vc,fa,fn,fc,ba,bn,bc,la,ln,lc,ka,kn,kc⟩ gs _ (Af HH.o.grants (Ac HB1.o hb2)) hok.chk)
  have KG:=Aa (fun (w3:World) (hb3:Ov (w1.alloc (ze #[O la ln lc,O ka kn kc] 44)) w3) (ob:Nat) (hR:CF w3 ob n (Ay gs) n)=>NW K kf n ga gn gc sa sn sc ya yn yc oa on oc va vn vc fa fn fc ba bn bc la ln lc ka kn kc gs sp ls ms vs fs l st w3 (HH.o.over (Ac (Ac HB1.o hb2) hb3)) hok (HS.o hPw) (Cn (Cn hlv hb2) hb3) (Cn (Cn hlf hb2) hb3) hll hfl hvn hfn ob hR)
  have HB2:=Aa (Ac HB1.o hb2)
  have HALL:=Aa (show P 0/\okP K kf (n:Int) vn yn on gs sp ls ms vs fs l/\D1 n K kf gs vs ls fs l st/\(∀ x∈st.vs,x.len n)/\(∀ x∈st.fs,x.len n)/\st.vs.length=vn/\st.fs.length=fs.length from ⟨hPw,hok,hInf,hll,hfl,hvn,hfn⟩)
  clear hPw hb1 hok hlv hlf hll hfl hvn hfn hInf r2 hb2 HB1 HRB1 HR p0 p1 p2 p3 p4 p5 p6 p7
  go_wp2_with fail
  refine (KN.o).mono ?_
  rintro e w4 ⟨w3,ob,rfl,hR,hb3,rfl⟩
  have KG2:=Aa (KG.o w3 hb3 ob hR)
  have HB3:=Aa (Ac HB2.o hb3)
  have r4:=Ad.new [U zd (n:Int),O ga gn gc,O sa sn sc,O ya yn yc,O oa on oc,O va vn vc,O fa fn fc,O ba bn bc,O la ln lc,O ka kn kc,O (some ⟨ob,0,none⟩) n n,O none 0 0] 165 w3
  obtain ⟨t0,t1,t2,t3,t4,t5,t6,t7,t8,t9⟩:=Ca r4
  simp only [List.cons_append,List.nil_append] at *
  clear hR hb3 r4 KG KN s0 s1 s2 s3 s4 s5 s6 s7 q0 q1
  go_wp2_with fail
  refine (KG2.o).mono ?_
  rintro e w5 ⟨rfl,fv,hJ⟩
  have c11:=hJ.c11
  have HJ:=Aa hJ
  clear hJ t0 t1 t2 t3 t4 t5 t6 t7 t8 t9
  go_wp2_with fail
  obtain ⟨h0,hok,hInf,hll,hfl,hvn,hfn⟩:=HALL.o
  refine bodyPost_ret (v:=zk #[fv,U zd 0]) (by simp [results,Tryz.results35,go_sem]) rfl ?_
  exact ⟨0,h0,HB3.o.trans (HJ.o.below.mono HB3.o.size),Or.inr ⟨rfl,hok,n,st,fv,w3.heap.size,rfl,rfl,hInf,hll,hfl,hvn,hfn,HB3.o.size,HJ.o.own⟩⟩
abbrev Ev4:=Int × Int × Int × Int
structure WSt where
 vs:List Lev
 ps:List Lev
abbrev Ob:=Nat->Int->Nat->D->WSt->Bool × WSt
def BJ:Ob:=fun _ _ _ _ s=>(true,s)
structure RSt where
 ev:List Ev4
 vars:List Int
 taken:List Int
 steps:Nat
 en:Int
 sp:Int
 o:WSt
def RSt.step (st:RSt):RSt:={ st with steps:=st.steps+1 }
def RSt.out (st:RSt):RSt:={ st with en:=2 }
def RSt.setv (st:RSt) (v x:Int):RSt:={ st with vars:=st.vars.set v.toNat x }
def RSt.tell (st:RSt) (e:Ev4):RSt:={ st with ev:=st.ev++[e] }
def RSt.took (st:RSt) (c:Int):RSt:={ st with taken:=st.taken.set c.toNat (st.taken.getD c.toNat 0+1) }
def RSt.held (st:RSt) (o:WSt):RSt:={ st with o:=o }
def RSt.stop (st:RSt) (a:Int) (o:WSt):RSt:={ st with o:=o,en:=3,sp:=a }
def Dh (ins:List (List Int)) (st:RSt) (c:Int):Int:=(ins.getD c.toNat []).getD (st.taken.getD c.toNat 0).toNat 0
def BH (vs:List Int) (l:List (Int × Int)):List Int:=l.foldl (fun vs q=>vs.set q.1.toNat q.2) vs
def A2 (r:Bool × RSt) (f:RSt->Bool × RSt):Bool × RSt:=if r.1=true then f r.2 else r
def Bm (ob:Ob) (kind:Nat) (a:Int) (dp:Nat) (d:D) (st:RSt):Bool × RSt:=
 if (ob kind a dp d st.o).1=true then (true,st.held (ob kind a dp d st.o).2) else (false,st.stop a (ob kind a dp d st.o).2)
def Da (K:Nat) (ins:List (List Int)) (d:D) (a:Int) (st:RSt):RSt:=
 if Ag d=1 then st.setv (Ao d) (AB st.vars K (Ap d))
 else if Ag d=3 then (st.took (Ae d)).setv (Ao d) (Dh ins st (Ae d))
 else if Ag d=4 then st.tell (1,a,Ae d,AB st.vars K (Ap d))
 else if Ag d=5 then (st.setv (Ao d) (AB st.vars K (Ap d))).tell (2,a,Ao d,AB st.vars K (Ap d))
 else if Ag d=6 then (st.setv (Ao d) (AB st.vars K (Ap d))).tell (3,a,Ao d,AB st.vars K (Ap d))
 else st
def RSt.args (K:Nat) (fs:List FnD) (d:D) (st:RSt):RSt:={ st with vars:=BH st.vars ((Cv fs (Ae d)).ps.zip ((Ah d).map (AB st.vars K))) }
def rn (K kf:Nat) (fs:List FnD) (F:Nat) (ins:List (List Int)) (ob:Ob):Nat->Nat->Nat->List D->Int->Nat->RSt->Bool × RSt
 | 0,_,_,_,_,_,st=>(false,st)
 | g+1,0,k,l,a,dp,st=>
  match l with
  | []=>(true,st)
  | d::r=>if st.steps=F then (false,st.out) else A2 (Bm ob 1 a dp d st.step) (fun st1=>A2 (rn K kf fs F ins ob g 1 k [d] a dp st1) (fun st'=>rn K kf fs F ins ob g 0 k r (a+CJ k d) dp st'))
 | g+1,1,k,l,a,dp,st=>
  match l with
  | []=>(true,st)
  | d::_=>
   if Ag d=2 then A2 (rn K kf fs F ins ob g 0 kf (Cv fs (Ae d)).body (AV kf (fs.take (Ae d).toNat)) dp (st.args K fs d)) (fun st1=>A2 (Bm ob 3 a dp d st1) (fun st'=>(true,st'.setv (Ao d) (AB st'.vars K (Cv fs (Ae d)).res))))
   else if Ag d=7 then (if AB st.vars K (Ap d)=0 then rn K kf fs F ins ob g 0 (k - 1) (Al d) (a+1+AC (k - 1) (Ai d)) (dp+1) st else rn K kf fs F ins ob g 0 (k - 1) (Ai d) (a+1) (dp+1) st)
   else if Ag d=8 then rn K kf fs F ins ob g 2 k [d] a dp st
   else (true,Da K ins d a st)
 | g+1,_+2,k,l,a,dp,st=>
  match l with
  | []=>(true,st)
  | d::_=>if AB st.vars K (Ap d)=0 then (true,st) else A2 (rn K kf fs F ins ob g 0 (k - 1) (Ai d) (a+1) (dp+1) st) (fun st'=>if st'.steps=F then (false,st'.out) else A2 (Bm ob 2 a dp d st'.step) (fun st1=>rn K kf fs F ins ob g 2 k [d] a dp st1))
structure Gr (st st':RSt):Prop where
 ev:st.ev <+: st'.ev
 steps:st.steps<=st'.steps
 len:st'.taken.length=st.taken.length
 taken:∀ c,st.taken.getD c 0<=st'.taken.getD c 0
theorem Gr.refl (st:RSt):Gr st st:=⟨List.prefix_rfl,Nat.le_refl _,rfl,fun _=>Int.le_refl _⟩
theorem Gr.trans {a b c:RSt} (h:Gr a b) (k:Gr b c):Gr a c:=⟨h.ev.trans k.ev,Nat.le_trans h.steps k.steps,k.len.trans h.len,fun x=>Int.le_trans (h.taken x) (k.taken x)⟩
theorem Gr.step (st:RSt):Gr st st.step:=⟨List.prefix_rfl,Nat.le_succ _,rfl,fun _=>Int.le_refl _⟩
theorem Gr.setv (st:RSt) (v x:Int):Gr st (st.setv v x):=⟨List.prefix_rfl,Nat.le_refl _,rfl,fun _=>Int.le_refl _⟩
theorem Gr.tell (st:RSt) (e:Ev4):Gr st (st.tell e):=⟨List.prefix_append _ _,Nat.le_refl _,rfl,fun _=>Int.le_refl _⟩
theorem Gr.args (K:Nat) (fs d) (st:RSt):Gr st (st.args K fs d):=⟨List.prefix_rfl,Nat.le_refl _,rfl,fun _=>Int.le_refl _⟩
theorem Ng {l:List Int} {i j:Nat} {x:Int}:(l.set i x).getD j 0=if i=j/\i < l.length then x else l.getD j 0:=by
 rw [List.getD_eq_getElem?_getD,List.getD_eq_getElem?_getD,List.getElem?_set]
 by_cases h:i=j
 ·subst h
  by_cases h2:i < l.length
  ·simp [h2]
  ·simp [h2]
 ·simp [h]
theorem Gr.took (st:RSt) (c:Int):Gr st (st.took c):=⟨List.prefix_rfl,Nat.le_refl _,by simp [RSt.took],fun x=>by
 simp only [RSt.took,Ng]
 split
 ·rename_i h
  rw [<-h.1]
  omega
 ·exact Int.le_refl _⟩
theorem Gr.one (K:Nat) (ins d) (a:Int) (st:RSt):Gr st (Da K ins d a st):=by
 unfold Da
 split
 ·exact Gr.setv _ _ _
 ·split
  ·exact (Gr.took _ _).trans (Gr.setv _ _ _)
  ·split
   ·exact Gr.tell _ _
   ·split
    ·exact (Gr.setv _ _ _).trans (Gr.tell _ _)
    ·split
     ·exact (Gr.setv _ _ _).trans (Gr.tell _ _)
     ·exact Gr.refl _
theorem Gr.out (st:RSt):Gr st st.out:=⟨List.prefix_rfl,Nat.le_refl _,rfl,fun _=>Int.le_refl _⟩
theorem Gr.pass (ob:Ob) (kind:Nat) (a:Int) (dp:Nat) (d) (st:RSt):Gr st (Bm ob kind a dp d st).2:=by
 unfold Bm
 split
 ·exact ⟨List.prefix_rfl,Nat.le_refl _,rfl,fun _=>Int.le_refl _⟩
 ·exact ⟨List.prefix_rfl,Nat.le_refl _,rfl,fun _=>Int.le_refl _⟩
theorem CW (ob:Ob) (kind:Nat) (a:Int) (dp:Nat) (d) (st:RSt):(Bm ob kind a dp d st).2.steps=st.steps:=by
 unfold Bm
 split <;> rfl
theorem Cx {st:RSt} {r:Bool × RSt} {f:RSt->Bool × RSt} (h:Gr st r.2) (hf:∀ st',Gr st' (f st').2):Gr st (A2 r f).2:=by
 unfold A2
 split
 ·exact h.trans (hf _)
 ·exact h
theorem EQ (K kf:Nat) (fs) (F:Nat) (ins) (ob:Ob):∀ (g m k:Nat) (l:List D) (a:Int) (dp:Nat) (st:RSt),Gr st (rn K kf fs F ins ob g m k l a dp st).2:=by
 intro g
 induction g with
 | zero=>intro m k l a dp st;exact Gr.refl _
 | succ g ih=>
  intro m k l a dp st
  match m,l with
  | 0,[]=>exact Gr.refl _
  | 0,d::r=>
   simp only [rn]
   split
   ·exact Gr.out _
   ·exact Cx ((Gr.step st).trans (Gr.pass _ _ _ _ _ _)) (fun st1=>Cx (ih _ _ _ _ _ _) (fun st'=>ih _ _ _ _ _ _))
  | 1,[]=>exact Gr.refl _
  | 1,d::r=>
   simp only [rn]
   split
   ·exact Cx ((Gr.args K fs d st).trans (ih _ _ _ _ _ _)) (fun st1=>Cx (Gr.pass _ _ _ _ _ _) (fun st'=>Gr.setv _ _ _))
   ·split
    ·split
     ·exact ih _ _ _ _ _ _
     ·exact ih _ _ _ _ _ _
    ·split
     ·exact ih _ _ _ _ _ _
     ·exact Gr.one _ _ _ _ _
  | m+2,[]=>exact Gr.refl _
  | m+2,d::r=>
   simp only [rn]
   split
   ·exact Gr.refl _
   ·refine Cx (ih _ _ _ _ _ _) (fun st'=>?_)
    split
    ·exact Gr.out _
    ·exact Cx ((Gr.step st').trans (Gr.pass _ _ _ _ _ _)) (fun st1=>ih _ _ _ _ _ _)
def CO:Nat->Nat
 | 0=>1
 | 1=>3
 | _=>2
abbrev BW (l:List Int):List Value:=l.map fun x=>Value.int zd x
def Bn:List Ev4->List Value
 | []=>[]
 | e::r=>U zd e.1::U zd e.2.1::U zd e.2.2.1::U zd e.2.2.2::Bn r
theorem C1:∀ (l m:List Ev4),Bn (l++m)=Bn l++Bn m
 | [],m=>rfl
 | e::r,m=>by simp [Bn,C1 r m]
structure Ow where
 ev:Value
 X:Nat->Prop
def Ow.at (E:Ow) (k:Nat):Prop:=E.ev.ownBlock=some k\/E.X k
def Yb (br b1 b2:Nat) (ev:Value) (k:Nat):Prop:=k=br\/k=b1\/k=b2\/ev.ownBlock=some k
structure BS where
 fn:FuncId
 fre:List Value
 cap:List Value
 ent:∀ (args:Array Value) (w:World),(callFunc fn args).run Tryz.prog w=.ok (.enter fn args) w
 ob:Ob
 In:(Nat->Prop)->WSt->(Nat->Prop)->World->Prop
 ok:Nat->WSt->Prop
 lt:∀ {Y s X w},In Y s X w->∀ k,X k->k < w.heap.size/\¬ Y k
 kept:∀ {Y Y' s X w w'},In Y s X w->w'.os=w.os->w'.tape=w.tape->w'.output=w.output->w.heap.size<=w'.heap.size->(∀ k,k < w.heap.size->¬ Y k->w'.heap[k]? = w.heap[k]?)->(∀ k,Y' k->Y k\/w.heap.size<=k)->(∀ k,Y' k->k < w'.heap.size)->In Y' s X w'
 less:∀ {dp s},ok (dp+1) s->ok dp s
structure RnG (I:BS) (B:Nat) (R:List Value) (br b1 b2 b3:Nat) (fl:List Int) (dp:Nat) (st:RSt) (ev:Ow) (w:World):Prop where
 row:Ad (ev.ev::O (some ⟨b1,0,none⟩) st.vars.length st.vars.length::O (some ⟨b2,0,none⟩) st.taken.length st.taken.length::U zd (st.steps:Int)::U zd st.en::U zd st.sp::(R++[U zd (dp:Int),.func (.func I.fn) I.fre.toArray I.cap.toArray])) w br
 vars:Ad (BW st.vars) w b1
 taken:Ad (BW st.taken) w b2
 first:Ad (BW fl) w b3
 own:w.ownsRow B 136 4 ev.ev st.ev.length (Bn st.ev)
 z0:∀ j,w.frozen? ⟨br,j,none⟩=false
 z1:∀ j,w.frozen? ⟨b1,j,none⟩=false
 z2:∀ j,w.frozen? ⟨b2,j,none⟩=false
 apart:br≠b1/\br≠b2/\b1≠b2/\b3≠br/\b3≠b1/\b3≠b2
 evA:¬ ev.at br/\¬ ev.at b1/\¬ ev.at b2/\¬ ev.at b3
 lo:B<=br/\B<=b1/\B<=b2
 hi:br < w.heap.size/\b1 < w.heap.size/\b2 < w.heap.size/\b3 < w.heap.size/\B<=w.heap.size
 ob:I.In (Yb br b1 b2 ev.ev) st.o ev.X w
 xlo:∀ k,ev.X k->B<=k
 okd:I.ok dp st.o
theorem RnG.ev' {I:BS} {B:Nat} {R:List Value} {br b1 b2 b3:Nat} {fl:List Int} {dp:Nat} {st:RSt} {ev:Ow} {w:World} (h:RnG I B R br b1 b2 b3 fl dp st ev w):∀ k,ev.at k->B<=k/\k < w.heap.size:=fun k hk=>by
 rcases hk with hk | hk
 ·exact h.own.lt k hk
 ·exact ⟨h.xlo k hk,(I.lt h.ob k hk).1⟩
theorem Km {br b1 b2:Nat} {ev:Value} {B e s n:Nat} {xs:List Value} {w:World} (h:w.ownsRow B e s ev n xs) (h0:br < w.heap.size) (h1:b1 < w.heap.size) (h2:b2 < w.heap.size):∀ k,Yb br b1 b2 ev k->k < w.heap.size:=fun k hk=>by
 rcases hk with hk | hk | hk | hk
 ·omega
 ·omega
 ·omega
 ·exact (h.lt k hk).2
theorem RnG.over {I:BS} {B:Nat} {R:List Value} {br b1 b2 b3:Nat} {fl:List Int} {dp:Nat} {st:RSt} {ev:Ow} {w w':World} (h:RnG I B R br b1 b2 b3 fl dp st ev w) (hb:Ov w w'):RnG I B R br b1 b2 b3 fl dp st ev w':=by
 obtain ⟨hc,hf⟩:=Am hb
 have hs:=hb.size
 refine ⟨h.row.over hb,h.vars.over hb,h.taken.over hb,h.first.over hb,?_,fun j=>(hf _ _ h.hi.1).trans (h.z0 j),fun j=>(hf _ _ h.hi.2.1).trans (h.z1 j),fun j=>(hf _ _ h.hi.2.2.1).trans (h.z2 j),h.apart,h.evA,h.lo,⟨by have:=h.hi;omega,by have:=h.hi;omega,by have:=h.hi;omega,by have:=h.hi;omega,by have:=h.hi;omega⟩,I.kept h.ob hb.os hb.tape hb.output hb.size (fun k hk _=>hb.block k hk) (fun k hk=>Or.inl hk) (fun k hk=>Nat.lt_of_lt_of_le (Km h.own h.hi.1 h.hi.2.1 h.hi.2.2.1 k hk) hb.size),h.xlo,h.okd⟩
 have hg:w.grownBy w' none:=⟨hb.os,hb.tape,hb.output,hb.size,fun k hk _=>hb.block k hk⟩
 exact h.own.kept hg (by cases hv:ev.ev.ownBlock <;> simp)
structure Fr (br b1 b2:Nat) (ev ev':Ow) (w w':World):Prop where
 os:w'.os=w.os
 tape:w'.tape=w.tape
 output:w'.output=w.output
 size:w.heap.size<=w'.heap.size
 block:∀ k,k < w.heap.size->k≠br->k≠b1->k≠b2->¬ ev.at k->w'.heap[k]? = w.heap[k]?
 evB:∀ k,ev'.at k->ev.at k\/w.heap.size<=k
theorem Fr.of_below {br b1 b2:Nat} {ev:Ow} {w w':World} (h:Ov w w'):Fr br b1 b2 ev ev w w':=⟨h.os,h.tape,h.output,h.size,fun k hk _ _ _ _=>h.block k hk,fun k hk=>Or.inl hk⟩
theorem Fr.refl (br b1 b2:Nat) (ev:Ow) (w:World):Fr br b1 b2 ev ev w w:=Fr.of_below (Below.refl _ _)
theorem Fr.trans {br b1 b2:Nat} {ev ev1 ev2:Ow} {w w1 w2:World} (h:Fr br b1 b2 ev ev1 w w1) (k:Fr br b1 b2 ev1 ev2 w1 w2):Fr br b1 b2 ev ev2 w w2:=by
 refine ⟨k.os.trans h.os,k.tape.trans h.tape,k.output.trans h.output,Nat.le_trans h.size k.size,fun i hi h0 h1 h2 h3=>?_,fun i hi=>?_⟩
 ·refine (k.block i (Nat.lt_of_lt_of_le hi h.size) h0 h1 h2 (fun hx=>?_)).trans (h.block i hi h0 h1 h2 h3)
  rcases h.evB i hx with he | he
  ·exact h3 he
  ·omega
 ·rcases k.evB i hi with he | he
  ·exact h.evB i he
  ·exact Or.inr (Nat.le_trans h.size he)
theorem Fr.over {br b1 b2:Nat} {ev ev1:Ow} {w w1 w2:World} (h:Fr br b1 b2 ev ev1 w w1) (k:Ov w1 w2):Fr br b1 b2 ev ev1 w w2:=h.trans (Fr.of_below k)
theorem Fr.cell {br b1 b2:Nat} {ev ev':Ow} {w w':World} (h:Fr br b1 b2 ev ev' w w') {b j:Nat} {u:Value} (hc:w.cell? ⟨b,j,none⟩=some u) (h0:b≠br) (h1:b≠b1) (h2:b≠b2) (h3:¬ ev.at b):w'.cell? ⟨b,j,none⟩=some u:=
 (World.cell?_of_block (h.block b (bL hc) h0 h1 h2 h3)).trans hc
section
variable {I:BS} {B:Nat} {R:List Value} {br b1 b2 b3:Nat} {fl:List Int} {dp:Nat} {st:RSt} {ev:Ow} {w:World}
theorem RnG.below {ev':Ow} {w':World} (h:RnG I B R br b1 b2 b3 fl dp st ev w) (f:Fr br b1 b2 ev ev' w w'):Below B w w':=
 ⟨f.os,f.tape,f.output,f.size,fun k hk=>f.block k (by have:=h.hi;omega) (by have:=h.lo;omega) (by have:=h.lo;omega) (by have:=h.lo;omega) (fun hx=>by have:=(h.ev' k hx).1;omega)⟩
theorem RnG.box {ev':Ow} {w1 w2:World} {b j:Nat} {u:Value} (h:RnG I B R br b1 b2 b3 fl dp st ev w) (f:Fr br b1 b2 ev ev' w1 w2) (hb:w.heap.size<=b) (hc:w1.cell? ⟨b,j,none⟩=some u):w2.cell? ⟨b,j,none⟩=some u:=by
 have:=h.hi
 exact f.cell hc (by omega) (by omega) (by omega) (fun hx=>by have:=(h.ev' b hx).2;omega)
theorem RnG.ints (h:RnG I B R br b1 b2 b3 fl dp st ev w):AQ w (O (some ⟨b1,0,none⟩) st.vars.length st.vars.length) st.vars:=by
 refine ⟨_,_,rfl,fun _=>⟨b1,0,rfl,fun i hi=>?_⟩⟩
 rw [Nat.zero_add]
 exact h.vars i _ (by simp [hi])
theorem BM {r j:Nat} {u:Value}:w.grownBy (w.setCell ⟨r,j,none⟩ u) (some r):=CI (n:=0)
theorem A9 {a b j k:Nat} {u:Value}:(w.setCell ⟨a,j,none⟩ u).frozen? ⟨b,k,none⟩=w.frozen? ⟨b,k,none⟩:=by simp [go_sem]
theorem RnG.obSet (h:RnG I B R br b1 b2 b3 fl dp st ev w) (r j:Nat) (u:Value) (hr:r=br\/r=b1\/r=b2):I.In (Yb br b1 b2 ev.ev) st.o ev.X (w.setCell ⟨r,j,none⟩ u):=
 have g:=BM (w:=w) (r:=r) (j:=j) (u:=u)
 I.kept h.ob g.os g.tape g.output g.size (fun k hk hy=>g.block k hk (fun e=>hy (by
  have e:=Option.some.inj e
  rcases hr with hr | hr | hr
  ·exact Or.inl (by omega)
  ·exact Or.inr (Or.inl (by omega))
  ·exact Or.inr (Or.inr (Or.inl (by omega)))))) (fun k hk=>Or.inl hk) (fun k hk=>Nat.lt_of_lt_of_le (Km h.own h.hi.1 h.hi.2.1 h.hi.2.2.1 k hk) g.size)
theorem RnG.set0 (h:RnG I B R br b1 b2 b3 fl dp st ev w) (j:Nat) (u:Value) {dp':Nat} {st':RSt} (hv:st'.vars=st.vars) (ht:st'.taken=st.taken) (he:st'.ev=st.ev) (ho:st'.o=st.o) (hd:I.ok dp' st.o) (hj:j < 8+R.length)
  (hr:(ev.ev::O (some ⟨b1,0,none⟩) st.vars.length st.vars.length::O (some ⟨b2,0,none⟩) st.taken.length st.taken.length::U zd (st.steps:Int)::U zd st.en::U zd st.sp::(R++[U zd (dp:Int),.func (.func I.fn) I.fre.toArray I.cap.toArray])).set j u=ev.ev::O (some ⟨b1,0,none⟩) st.vars.length st.vars.length::O (some ⟨b2,0,none⟩) st.taken.length st.taken.length::U zd (st'.steps:Int)::U zd st'.en::U zd st'.sp::(R++[U zd (dp':Int),.func (.func I.fn) I.fre.toArray I.cap.toArray])) :
  RnG I B R br b1 b2 b3 fl dp' st' ev (w.setCell ⟨br,j,none⟩ u):=by
 obtain ⟨a1,a2,a3,a4,a5,a6⟩:=h.apart
 refine ⟨?_,?_,?_,h.first.other a4,?_,fun k=>A9.trans (h.z0 k),fun k=>A9.trans (h.z1 k),fun k=>A9.trans (h.z2 k),h.apart,h.evA,h.lo,by simpa [World.setCell] using h.hi,?_,h.xlo,?_⟩
 ·rw [hv,ht,<-hr]
  exact h.row.set (by simp;omega)
 ·rw [hv];exact h.vars.other (Ne.symm a1)
 ·rw [ht];exact h.taken.other (Ne.symm a2)
 ·rw [he];exact h.own.kept BM (Or.inr (fun hx=>h.evA.1 (Or.inl hx)))
 ·rw [ho];exact h.obSet br j u (Or.inl rfl)
 ·rw [ho];exact hd
theorem RnG.setStep (h:RnG I B R br b1 b2 b3 fl dp st ev w):RnG I B R br b1 b2 b3 fl dp st.step ev (w.setCell ⟨br,3,none⟩ (U zd ((st.steps:Int)+1))):=
 h.set0 3 _ rfl rfl rfl rfl h.okd (by omega) (by simp [RSt.step])
theorem RnG.setEnd (h:RnG I B R br b1 b2 b3 fl dp st ev w) (en':Int):RnG I B R br b1 b2 b3 fl dp { st with en:=en' } ev (w.setCell ⟨br,4,none⟩ (U zd en')):=
 h.set0 4 _ rfl rfl rfl rfl h.okd (by omega) (by simp)
theorem RnG.setStop (h:RnG I B R br b1 b2 b3 fl dp st ev w) (a:Int):RnG I B R br b1 b2 b3 fl dp { st with sp:=a } ev (w.setCell ⟨br,5,none⟩ (U zd a)):=
 h.set0 5 _ rfl rfl rfl rfl h.okd (by omega) (by simp)
theorem DA (h:RnG I B R br b1 b2 b3 fl dp st ev w) (j:Nat) (u:Value):Fr br b1 b2 ev ev w (w.setCell ⟨br,j,none⟩ u):=
 have g:=BM (w:=w) (r:=br) (j:=j) (u:=u)
 ⟨g.os,g.tape,g.output,g.size,fun k hk h0 _ _ _=>g.block k hk (by simpa using h0),fun k hk=>Or.inl hk⟩
theorem Ei (h:RnG I B R br b1 b2 b3 fl dp st ev w) (j:Nat) (u:Value):Fr br b1 b2 ev ev w (w.setCell ⟨b1,j,none⟩ u):=
 have g:=BM (w:=w) (r:=b1) (j:=j) (u:=u)
 ⟨g.os,g.tape,g.output,g.size,fun k hk _ h0 _ _=>g.block k hk (by simpa using h0),fun k hk=>Or.inl hk⟩
theorem Ol (h:RnG I B R br b1 b2 b3 fl dp st ev w) (j:Nat) (u:Value):Fr br b1 b2 ev ev w (w.setCell ⟨b2,j,none⟩ u):=
 have g:=BM (w:=w) (r:=b2) (j:=j) (u:=u)
 ⟨g.os,g.tape,g.output,g.size,fun k hk _ _ h0 _=>g.block k hk (by simpa using h0),fun k hk=>Or.inl hk⟩
theorem RnG.setVar (h:RnG I B R br b1 b2 b3 fl dp st ev w) (v x:Int) (hv:v.toNat < st.vars.length):RnG I B R br b1 b2 b3 fl dp (st.setv v x) ev (w.setCell ⟨b1,v.toNat,none⟩ (U zd x)):=by
 obtain ⟨a1,a2,a3,a4,a5,a6⟩:=h.apart
 refine ⟨?_,?_,h.taken.other (Ne.symm a3),h.first.other a5,h.own.kept BM (Or.inr (fun hx=>h.evA.2.1 (Or.inl hx))),fun k=>A9.trans (h.z0 k),fun k=>A9.trans (h.z1 k),fun k=>A9.trans (h.z2 k),h.apart,h.evA,h.lo,by simpa [World.setCell] using h.hi,h.obSet b1 _ _ (Or.inr (Or.inl rfl)),h.xlo,h.okd⟩
 ·have:=h.row.other (j:=v.toNat) (v:=U zd x) a1
  simpa [RSt.setv] using this
 ·have:=h.vars.set (j:=v.toNat) (v:=U zd x) (by simpa using hv)
  simpa [RSt.setv,BW] using this
theorem RnG.setTaken (h:RnG I B R br b1 b2 b3 fl dp st ev w) (c:Nat) (x:Int) (hv:c < st.taken.length):RnG I B R br b1 b2 b3 fl dp { st with taken:=st.taken.set c x } ev (w.setCell ⟨b2,c,none⟩ (U zd x)):=by
 obtain ⟨a1,a2,a3,a4,a5,a6⟩:=h.apart
 refine ⟨?_,h.vars.other a3,?_,h.first.other a6,h.own.kept BM (Or.inr (fun hx=>h.evA.2.2.1 (Or.inl hx))),fun k=>A9.trans (h.z0 k),fun k=>A9.trans (h.z1 k),fun k=>A9.trans (h.z2 k),h.apart,h.evA,h.lo,by simpa [World.setCell] using h.hi,h.obSet b2 _ _ (Or.inr (Or.inr rfl)),h.xlo,h.okd⟩
 ·have:=h.row.other (j:=c) (v:=U zd x) a2
  simpa using this
 ·have:=h.taken.set (j:=c) (v:=U zd x) (by simpa using hv)
  simpa [BW] using this
theorem RnG.grown {v':Value} {w':World} (h:RnG I B R br b1 b2 b3 fl dp st ev w) (e:Ev4) (hg:w.grownBy w' ev.ev.ownBlock) (ho:w'.ownsRow B 136 4 v' (st.ev.length+1) (Bn st.ev++Bn [e])) (hat:v'.ownBlock=ev.ev.ownBlock\/v'.ownBlock=some w.heap.size) :
  RnG I B R br b1 b2 b3 fl dp (st.tell e) ⟨v',ev.X⟩ (w'.setCell ⟨br,0,none⟩ v')/\Fr br b1 b2 ev ⟨v',ev.X⟩ w (w'.setCell ⟨br,0,none⟩ v'):=by
 obtain ⟨a1,a2,a3,a4,a5,a6⟩:=h.apart
 have e1:ev.ev.ownBlock≠some br:=fun hx=>h.evA.1 (Or.inl hx)
 have e2:ev.ev.ownBlock≠some b1:=fun hx=>h.evA.2.1 (Or.inl hx)
 have e3:ev.ev.ownBlock≠some b2:=fun hx=>h.evA.2.2.1 (Or.inl hx)
 have e4:ev.ev.ownBlock≠some b3:=fun hx=>h.evA.2.2.2 (Or.inl hx)
 have hi:=h.hi
 have hk:∀ b,b < w.heap.size->ev.ev.ownBlock≠some b->w'.heap[b]? = w.heap[b]?:=fun b hb hne=>hg.block b hb (fun hx=>hne hx.symm)
 have hrow:∀ (cs:List Value) (b:Nat),Ad cs w b->b < w.heap.size->ev.ev.ownBlock≠some b->Ad cs w' b:=fun cs b hr hb hne j u hu=>(World.cell?_of_block (hk b hb hne)).trans (hr j u hu)
 have hne:∀ b,b < w.heap.size->ev.ev.ownBlock≠some b->v'.ownBlock≠some b:=fun b hb hx=>by
  rcases hat with h1 | h1
  ·rw [h1];exact hx
  ·rw [h1];intro hy;injection hy;omega
 have hnx:∀ b,b < w.heap.size->¬ ev.at b->¬ (Ow.mk v' ev.X).at b:=fun b hb hx hy=>by
  rcases hy with hy | hy
  ·exact hne b hb (fun q=>hx (Or.inl q)) hy
  ·exact hx (Or.inr hy)
 have hz:∀ b k,b < w.heap.size->ev.ev.ownBlock≠some b->w'.frozen? ⟨b,k,none⟩=w.frozen? ⟨b,k,none⟩:=fun b k hb hx=>World.frozen?_of_block (hk b hb hx)
 have hs:=hg.size
 have g:=BM (w:=w') (r:=br) (j:=0) (u:=v')
 constructor
 ·refine ⟨?_,(hrow _ _ h.vars hi.2.1 e2).other (Ne.symm a1),(hrow _ _ h.taken hi.2.2.1 e3).other (Ne.symm a2),(hrow _ _ h.first hi.2.2.2.1 e4).other a4,?_,fun k=>A9.trans ((hz _ _ hi.1 e1).trans (h.z0 k)),fun k=>A9.trans ((hz _ _ hi.2.1 e2).trans (h.z1 k)),fun k=>A9.trans ((hz _ _ hi.2.2.1 e3).trans (h.z2 k)),h.apart,⟨hnx _ hi.1 h.evA.1,hnx _ hi.2.1 h.evA.2.1,hnx _ hi.2.2.1 h.evA.2.2.1,hnx _ hi.2.2.2.1 h.evA.2.2.2⟩,h.lo,by simp [World.setCell];omega,?_,h.xlo,h.okd⟩
  ·have:=(hrow _ _ h.row hi.1 e1).set (j:=0) (v:=v') (by simp)
   simpa [RSt.tell] using this
  ·have hl:(st.tell e).ev.length=st.ev.length+1:=by simp [RSt.tell]
   have hc:Bn (st.tell e).ev=Bn st.ev++Bn [e]:=C1 _ _
   rw [hl,hc]
   exact ho.kept BM (Or.inr (hne _ hi.1 e1))
  ·refine I.kept h.ob (g.os.trans hg.os) (g.tape.trans hg.tape) (g.output.trans hg.output) (Nat.le_trans hg.size g.size) (fun k hk2 hy=>(g.block k (by omega) (fun q=>hy (Or.inl (Option.some.inj q)))).trans (hk k hk2 (fun q=>hy (Or.inr (Or.inr (Or.inr q)))))) (fun k hy=>?_) (fun k hy=>?_)
   rotate_left
   ·exact Nat.lt_of_lt_of_le (Km ho (Nat.lt_of_lt_of_le hi.1 hg.size) (Nat.lt_of_lt_of_le hi.2.1 hg.size) (Nat.lt_of_lt_of_le hi.2.2.1 hg.size) k hy) g.size
   rcases hy with hy | hy | hy | hy
   ·exact Or.inl (Or.inl hy)
   ·exact Or.inl (Or.inr (Or.inl hy))
   ·exact Or.inl (Or.inr (Or.inr (Or.inl hy)))
   ·rcases hat with h1 | h1
    ·rw [h1] at hy;exact Or.inl (Or.inr (Or.inr (Or.inr hy)))
    ·rw [h1] at hy;injection hy with hy;exact Or.inr (by omega)
 ·refine ⟨g.os.trans hg.os,g.tape.trans hg.tape,g.output.trans hg.output,Nat.le_trans hg.size g.size,fun k hk2 h0 _ _ h3=>(g.block k (by omega) (by simpa using h0)).trans (hk k hk2 (fun q=>h3 (Or.inl q))),fun k hy=>?_⟩
  rcases hy with hy | hy
  ·rcases hat with h1 | h1
   ·exact Or.inl (Or.inl (h1 ▸ hy))
   ·have hy:v'.ownBlock=some k:=hy
    rw [h1] at hy;injection hy with hy;exact Or.inr (by omega)
  ·exact Or.inl (Or.inr hy)
end
structure Bc (nv ni F:Nat) (st:RSt):Prop where
 vl:st.vars.length=nv
 tl:st.taken.length=ni
 i32:∀ x∈st.vars,I32 x
 tk:∀ x∈st.taken,0<=x/\x<=(st.steps:Int)
 el:st.ev.length<=st.steps
 sb:st.steps<=F
theorem Bc.step {nv ni F:Nat} {st:RSt} (h:Bc nv ni F st) (hs:st.steps < F):Bc nv ni F st.step:=
 ⟨h.vl,h.tl,h.i32,fun x hx=>⟨(h.tk x hx).1,by have:=(h.tk x hx).2;simp [RSt.step];omega⟩,Nat.le_succ_of_le h.el,hs⟩
theorem Bc.o {nv ni F:Nat} {st:RSt} (h:Bc nv ni F st):Bc nv ni F st.out:=⟨h.vl,h.tl,h.i32,h.tk,h.el,h.sb⟩
theorem Bc.pass {nv ni F:Nat} {st:RSt} (h:Bc nv ni F st) (ob:Ob) (kind:Nat) (a:Int) (dp:Nat) (d):Bc nv ni F (Bm ob kind a dp d st).2:=by
 unfold Bm
 split
 ·exact ⟨h.vl,h.tl,h.i32,h.tk,h.el,h.sb⟩
 ·exact ⟨h.vl,h.tl,h.i32,h.tk,h.el,h.sb⟩
theorem H5 {l:List Int} {i:Nat} {x y:Int} (h:y∈l.set i x):y=x\/y∈l:=by
 rcases List.mem_or_eq_of_mem_set h with h | h
 ·exact Or.inr h
 ·exact Or.inl h
theorem Bc.setv {nv ni F:Nat} {st:RSt} (h:Bc nv ni F st) {v x:Int} (hx:I32 x):Bc nv ni F (st.setv v x):=
 ⟨by simp [RSt.setv,h.vl],h.tl,fun y hy=>by rcases H5 hy with rfl | hy;exact hx;exact h.i32 y hy,h.tk,h.el,h.sb⟩
theorem Bc.tell {nv ni F:Nat} {st:RSt} (h:Bc nv ni F st) (e:Ev4) (hl:st.ev.length < st.steps):Bc nv ni F (st.tell e):=
 ⟨h.vl,h.tl,h.i32,h.tk,by simp [RSt.tell];omega,h.sb⟩
structure Fw (nv ni F:Nat) (st:RSt):Prop where
 ok:Bc nv ni F st
 el:st.ev.length < st.steps
 tk:∀ x∈st.taken,x+1<=(st.steps:Int)
theorem Bc.stepS {nv ni F:Nat} {st:RSt} (h:Bc nv ni F st) (hs:st.steps < F):Fw nv ni F st.step:=
 ⟨h.step hs,Nat.lt_succ_of_le h.el,fun x hx=>by have:=(h.tk x hx).2;show x+1<=((st.steps+1:Nat):Int);omega⟩
theorem Fw.pass {nv ni F:Nat} {st:RSt} (h:Fw nv ni F st) (ob:Ob) (kind:Nat) (a:Int) (dp:Nat) (d):Fw nv ni F (Bm ob kind a dp d st).2:=by
 refine ⟨h.ok.pass ob kind a dp d,?_,?_⟩
 ·unfold Bm
  split
  ·exact h.el
  ·exact h.el
 ·unfold Bm
  split
  ·exact h.tk
  ·exact h.tk
theorem Fw.took {nv ni F:Nat} {st:RSt} (h:Fw nv ni F st) (c:Int):Bc nv ni F (st.took c):=by
 refine ⟨h.ok.vl,by simp [RSt.took,h.ok.tl],h.ok.i32,fun y hy=>?_,h.ok.el,h.ok.sb⟩
 have hst:(st.took c).steps=st.steps:=rfl
 rw [hst]
 rcases H5 hy with rfl | hy
 ·have:st.taken.getD c.toNat 0=0\/st.taken.getD c.toNat 0∈st.taken:=by
   rw [List.getD_eq_getElem?_getD]
   cases hc:st.taken[c.toNat]? with
   | none=>exact Or.inl rfl
   | some x=>exact Or.inr (List.mem_of_getElem? hc)
  rcases this with hz | hz
  ·have:=h.el;rw [hz];omega
  ·have:=h.ok.tk _ hz;have:=h.tk _ hz;omega
 ·exact h.ok.tk y hy
theorem Fw.tell {nv ni F:Nat} {st:RSt} (h:Fw nv ni F st) (e:Ev4):Bc nv ni F (st.tell e):=h.ok.tell e h.el
theorem Fw.setv {nv ni F:Nat} {st:RSt} (h:Fw nv ni F st) {v x:Int} (hx:I32 x):Fw nv ni F (st.setv v x):=⟨h.ok.setv hx,h.el,h.tk⟩
theorem Po {w w0 w1:World} {a0 a1:Addr} {v0 v1:Value} (h:w0.cell? a0=some v0/\w0.cell? a1=some v1/\Ov w w0) (hb:Ov w0 w1) :
  w1.cell? a0=some v0/\w1.cell? a1=some v1/\Ov w w1:=⟨Ab hb _ _ h.1,Ab hb _ _ h.2.1,Ac h.2.2 hb⟩
theorem Lf (kd va ot ek en:Int) (xa xl xc aa al ac ta tl tc ea el ec) (n1 n2:Int) (w:World) (h1:0<=n1/\n1<=100) (h2:0<=n2/\n2<=100)
  (KT:Hx (∀ W,Ov w W->Calls Tryz.prog 181 #[O ta tl tc] W fun e w'=>e=zj (U zd n1)/\Ov W w'))
  (KE:Hx (∀ W,Ov w W->Calls Tryz.prog 181 #[O ea el ec] W fun e w'=>e=zj (U zd n2)/\Ov W w')) :
  Calls Tryz.prog 185 #[zh #[U zd kd,U zd va,U zd ot,U zd ek,U zd en,O xa xl xc,O aa al ac,O ta tl tc,O ea el ec]] w fun e w'=>e=zj (U zd (1+n1+n2))/\Ov w w':=by
 have hbel:Ov w (w.alloc (ze #[U zd kd,U zd va,U zd ot,U zd ek,U zd en,O xa xl xc,O aa al ac,O ta tl tc,O ea el ec] 130)):=bA w _
 have zr:=BC w [U zd kd,U zd va,U zd ot,U zd ek,U zd en,O xa xl xc,O aa al ac,O ta tl tc,O ea el ec] 130
 have q7:=zr 7 _ rfl
 have q8:=zr 8 _ rfl
 clear zr
 obtain ⟨a1,a2⟩:=h1
 obtain ⟨a3,a4⟩:=h2
 go_enter Tryz.func185,Tryz.ntmps185
 go_wp2_with fail
 go_region_held3 (fun W=>W.cell? ⟨w.heap.size,7,none⟩=some (O ta tl tc)/\W.cell? ⟨w.heap.size,8,none⟩=some (O ea el ec)/\Ov w W) (first | assumption | exact ⟨q7,q8,below_drewN hbel 1⟩ | exact Po (by assumption) hbp | exact Po (by assumption) hbq | fail) (first | (go_at_call_of 181 (Value.slice ta tl tc);refine (KT.o _ (by assumption:_/\_/\Below _ _ _).2.2).mono ?_;rintro e wp ⟨rfl,hbp⟩) | (go_at_call_of 181 (Value.slice ea el ec);refine (KE.o _ (by assumption:_/\_/\Below _ _ _).2.2).mono ?_;rintro e wq ⟨rfl,hbq⟩))
 obtain ⟨-,-,hB⟩:=(by assumption:_/\_/\Below _ _ _)
 have HW:Hx (IntKind.i64.wrap (IntKind.i64.wrap (1+n1)+n2)=1+n1+n2):=by
  show _=_
  rw [IntWalk.i64_in (1+n1) (by omega),IntWalk.i64_in _ (by omega)]
 clear q7 q8 hbel KT KE
 go_wp2_with fail
 go_ret
 refine ⟨?_,hB⟩
 first | rfl | (rw [<-HW.o];rfl)
def Kd (K k:Nat):Prop:=∀ (v:Value) (l:List D) (w:World),Bd w K k v l->AC k l<=100->Calls Tryz.prog 181 #[v] w fun e w'=>e=zj (U zd (AC k l:Nat))/\Ov w w'
def Kc (K k:Nat):Prop:=∀ (cs:List Value) (d:D) (w:World),RS w K k cs d->CJ k d<=100->Calls Tryz.prog 185 #[.agg cs.toArray] w fun e w'=>e=zj (U zd (CJ k d:Nat))/\Ov w w'
theorem GZ (K k:Nat) (h:Kd K k):Kc K (k+1):=by
 intro cs d w hr hc
 have hcn:CJ (k+1) d=1+AC k (Ai d)+AC k (Al d):=rfl
 obtain ⟨ek,en,xa,xl,xc,aa,ac,ta,tc,ea,ec,rfl,-,-,-,-,-,hT,hE,-,-,-⟩:=hr.form
 rw [hcn] at hc ⊢
 have:=Lf (Ag d) (Ao d) (Ae d) ek en xa xl xc aa (Ah d).length ac ta (Ai d).length tc ea (Al d).length ec (AC k (Ai d):Nat) (AC k (Al d):Nat) w (by omega) (by omega)
  (Aa fun W hW=>h _ _ W (hT.over hW) (by omega)) (Aa fun W hW=>h _ _ W (hE.over hW) (by omega))
 push_cast
 exact this
theorem Ks (K k:Nat) (h:Kc K k):Kd K k:=by
 intro v l w hl hc
 have hlen:l.length<=9223372036854775807:=hl.1
 obtain ⟨ao,cap,rfl,hcc⟩:=hl.2
 have HC:=Aa hcc
 have HS:=Aa h
 have HCN:=Aa hc
 clear hcc hl h hc
 go_enter Tryz.func181,Tryz.ntmps181
 go_wp2_with fail
 go_loopw [3,8] (fun c i wr=>∃ j:Nat,j<=l.length/\i=U zd j/\c=U zd (AC k (l.take j):Nat)/\Ov w wr) (fun _ i _=>l.length - (intOf i).toNat)
 case atStart=>exact ⟨0,Nat.zero_le _,rfl,by simp [AC],Below.refl _ w⟩
 case round=>
  obtain ⟨j,hj,rfl,rfl,hB⟩:=hrel
  by_cases hjl:j < l.length
  ·obtain ⟨b,off,rfl,hcl⟩:=HC.o (by rintro rfl;simp at hjl)
   obtain ⟨cs,hl9,hcs,hr⟩:=hcl j l[j] (List.getElem?_eq_getElem hjl)
   have htk:=Fo (k:=k) hjl
   have hle:AC k (l.take (j+1))<=100:=by
    have e1:AC k l=AC k (l.take (j+1))+AC k (l.drop (j+1)):=by
     unfold AC
     rw [<-List.sum_append,<-List.map_append,List.take_append_drop]
    have:=HCN.o
    omega
   obtain ⟨k',rfl⟩:∃ k',k=k' + 1:=by
    cases k with
    | zero=>exact hr.elim
    | succ k=>exact ⟨k,rfl⟩
   have KZ:=Aa fun W (hW:Ov w W)=>HS.o cs l[j] W (RS.mono (Ab hW) _ _ _ _ (Nat.le_refl _) hr) (by omega)
   obtain ⟨ek,en,xa,xl,xc,aa,ac,ta,tc,ea,ec,hcse,-,-,-,-,-,-,-,-,-,-⟩:=hr.form
   subst hcse
   obtain ⟨kd,hkd⟩:=nm (Ag l[j])
   obtain ⟨va,hva⟩:=nm (Ao l[j])
   obtain ⟨ot,hot⟩:=nm (Ae l[j])
   obtain ⟨al,hal⟩:=nm ((Ah l[j]).length)
   obtain ⟨tl,htl⟩:=nm ((Ai l[j]).length)
   obtain ⟨el,hel⟩:=nm ((Al l[j]).length)
   rw [<-hkd,<-hva,<-hot,<-hal,<-htl,<-hel] at hcs KZ
   obtain ⟨M,hM⟩:∃ M:Nat,M=AC (k' + 1) (l.take j):=⟨_,rfl⟩
   obtain ⟨N,hN⟩:∃ N:Nat,N=CJ (k' + 1) l[j]:=⟨_,rfl⟩
   rw [<-hM,<-hN] at htk
   rw [<-hN] at KZ
   rw [<-hM]
   have HTK:=Aa htk
   have hMN:M+N<=100:=by omega
   have q0:wr.cell? ⟨b,off+j*9,none⟩=_:=Ab hB _ _ (hcs 0 _ rfl)
   have q1:=Ab hB _ _ (hcs 1 _ rfl)
   have q2:=Ab hB _ _ (hcs 2 _ rfl)
   have q3:=Ab hB _ _ (hcs 3 _ rfl)
   have q4:=Ab hB _ _ (hcs 4 _ rfl)
   have q5:=Ab hB _ _ (hcs 5 _ rfl)
   have q6:=Ab hB _ _ (hcs 6 _ rfl)
   have q7:=Ab hB _ _ (hcs 7 _ rfl)
   have q8:=Ab hB _ _ (hcs 8 _ rfl)
   have hba:Ov wr (wr.alloc (ze #[U zd kd,U zd va,U zd ot,U zd ek,U zd en,O xa xl xc,O aa al ac,O ta tl tc,O ea el ec] 130)):=bA wr _
   have hBa:=hB.trans (hba.mono hB.size)
   have KZ':=Aa (KZ.o _ hBa)
   clear hcs hcl hr hl9 hkd hva hot hal htl hel hM hN htk hle KZ HS
   go_wp2_with fail
   refine (KZ'.o).mono ?_
   rintro e w1 ⟨rfl,hb1⟩
   have hB1:=hBa.trans (hb1.mono hBa.size)
   clear KZ' hb1 hBa hba q0 q1 q2 q3 q4 q5 q6 q7 q8 hB
   go_wp2_with fail
   refine ⟨⟨j+1,by omega,by go_num,?_,hB1⟩,by simp [intOf];omega⟩
   rw [HTK.o]
   simp
  ·have hd:l.take j=l:=List.take_of_length_le (by omega)
   rw [hd]
   go_wp2_with fail
   go_ret
   exact ⟨rfl,hB⟩
theorem EX (K:Nat):∀ k,Kd K k
 | 0=>Ks K 0 (fun cs d w hr _=>hr.elim)
 | k+1=>Ks K (k+1) (GZ K k (EX K k))
theorem MB (K:Nat):∀ k,Kc K k
 | 0=>fun cs d w hr _=>hr.elim
 | k+1=>GZ K k (EX K k)
theorem RnG.drewN {B:Nat} {R:List Value} {br b1 b2 b3:Nat} {fl:List Int} {I:BS} {dp:Nat} {st:RSt} {ev:Ow} {w:World} (h:RnG I B R br b1 b2 b3 fl dp st ev w) (n:Nat):RnG I B R br b1 b2 b3 fl dp st ev (w.drewN n):=h.over (below_drewN (Below.refl _ _) n)
theorem Fr.drewN {br b1 b2:Nat} {ev ev1:Ow} {w w1:World} (n:Nat) (h:Fr br b1 b2 ev ev1 (w.drewN n) w1):Fr br b1 b2 ev ev1 w w1:=(Fr.of_below (below_drewN (Below.refl _ w) n)).trans h
theorem Iz (m:Int) (ga gn gc sa sn sc ya yn yc oa on oc va vn vc fa fn fc ba bn bc xa xn xc) (F fln c3:Nat) (B br b1 b2 b3:Nat) (fl) {I:BS} (dp:Nat) (st:RSt) (ev:Ow) (w:World) (h:RnG I B [U zd m,O ga gn gc,O sa sn sc,O ya yn yc,O oa on oc,O va vn vc,O fa fn fc,O ba bn bc,O xa xn xc,U zd (F:Int),O (some ⟨b3,0,none⟩) fln c3] br b1 b2 b3 fl dp st ev w) (hs:st.steps < F) (hF:F<=2000) :
  Calls Tryz.prog 182 #[zi (some ⟨br,0,none⟩)] w fun e w'=>e=zj (zg true)/\RnG I B [U zd m,O ga gn gc,O sa sn sc,O ya yn yc,O oa on oc,O va vn vc,O fa fn fc,O ba bn bc,O xa xn xc,U zd (F:Int),O (some ⟨b3,0,none⟩) fln c3] br b1 b2 b3 fl dp st.step ev w'/\Fr br b1 b2 ev ev w w':=by
 have HR:Hx (∀ n,RnG I B [U zd m,O ga gn gc,O sa sn sc,O ya yn yc,O oa on oc,O va vn vc,O fa fn fc,O ba bn bc,O xa xn xc,U zd (F:Int),O (some ⟨b3,0,none⟩) fln c3] br b1 b2 b3 fl dp st.step ev ((w.drewN n).setCell ⟨br,3,none⟩ (U zd ((st.steps:Int)+1)))/\Fr br b1 b2 ev ev w ((w.drewN n).setCell ⟨br,3,none⟩ (U zd ((st.steps:Int)+1)))):=fun n=>⟨(h.drewN n).setStep,(DA (h.drewN n) _ _).drewN⟩
 have c3:=h.row 3 _ rfl
 have c15:=h.row 15 _ rfl
 have z3:=h.z0 3
 have hl:=h.hi.1
 obtain ⟨s,hsn⟩:=nm st.steps
 rw [<-hsn] at c3 HR hs
 have hne:((s:Int) == (F:Int))=false:=by simp;omega
 clear h hsn
 go_enter Tryz.func182,Tryz.ntmps182
 go_wp2_with fail
 go_quiet ((fail))
 go_wp2_with fail
 go_ret
 exact ⟨rfl,HR.o nq⟩
theorem Kp (m:Int) (ga gn gc sa sn sc ya yn yc oa on oc va vn vc fa fn fc ba bn bc xa xn xc) (F fln c3:Nat) (B br b1 b2 b3:Nat) (fl) {I:BS} (dp:Nat) (st:RSt) (ev:Ow) (w:World) (h:RnG I B [U zd m,O ga gn gc,O sa sn sc,O ya yn yc,O oa on oc,O va vn vc,O fa fn fc,O ba bn bc,O xa xn xc,U zd (F:Int),O (some ⟨b3,0,none⟩) fln c3] br b1 b2 b3 fl dp st ev w) (hs:st.steps=F) :
  Calls Tryz.prog 182 #[zi (some ⟨br,0,none⟩)] w fun e w'=>e=zj (zg false)/\RnG I B [U zd m,O ga gn gc,O sa sn sc,O ya yn yc,O oa on oc,O va vn vc,O fa fn fc,O ba bn bc,O xa xn xc,U zd (F:Int),O (some ⟨b3,0,none⟩) fln c3] br b1 b2 b3 fl dp st.out ev w'/\Fr br b1 b2 ev ev w w':=by
 have HR:Hx (∀ n,RnG I B [U zd m,O ga gn gc,O sa sn sc,O ya yn yc,O oa on oc,O va vn vc,O fa fn fc,O ba bn bc,O xa xn xc,U zd (F:Int),O (some ⟨b3,0,none⟩) fln c3] br b1 b2 b3 fl dp st.out ev ((w.drewN n).setCell ⟨br,4,none⟩ (U zd 2))/\Fr br b1 b2 ev ev w ((w.drewN n).setCell ⟨br,4,none⟩ (U zd 2))):=fun n=>⟨(h.drewN n).setEnd 2,(DA (h.drewN n) _ _).drewN⟩
 have c4:=h.row 4 _ rfl
 have z4:=h.z0 4
 have c3:=h.row 3 _ rfl
 have c15:=h.row 15 _ rfl
 have hl:=h.hi.1
 rw [hs] at c3
 clear h hs
 go_enter Tryz.func182,Tryz.ntmps182
 go_wp2_with fail
 go_quiet ((fail))
 go_wp2_with fail
 go_ret
 exact ⟨rfl,HR.o nq⟩
theorem B1 (m:Int) (ga gn gc sa sn sc ya yn yc oa on oc va vn vc fa fn fc ba bn bc xa xn xc) (F fln c3:Nat) (B br b1 b2 b3:Nat) (fl) {I:BS} (dp:Nat) (st:RSt) (ev:Ow) (K:Nat) (cs:List Value) (d) (w:World) (h:RnG I B [U zd m,O ga gn gc,O sa sn sc,O ya yn yc,O oa on oc,O va vn vc,O fa fn fc,O ba bn bc,O xa xn xc,U zd (F:Int),O (some ⟨b3,0,none⟩) fln c3] br b1 b2 b3 fl dp st ev w) (hx:RX w K cs d) (ho:okX st.vars.length K d) (hi:∀ x∈st.vars,I32 x) :
  Calls Tryz.prog 222 #[zi (some ⟨br,0,none⟩),.agg cs.toArray] w fun e w'=>e=zj (U zd (AB st.vars K d))/\Ov w w':=by
 obtain ⟨k0,n0,x0,l0,c0,rfl⟩:∃ k0 n0 x0 l0 c0,cs=[U zd k0,U zd n0,O x0 l0 c0]:=by
  obtain ⟨a,c,hf⟩:=hx.form
  exact ⟨_,_,_,_,_,hf⟩
 have hbel:Ov w (w.alloc (ze #[U zd k0,U zd n0,O x0 l0 c0] 94)):=bA w _
 have KV:=Aa fun W (hB:Ov w W)=>IK st.vars hi K _ d W _ (hx.over hB) ho (h.ints.over hB)
 have c1:=Ab hbel _ _ (h.row 1 _ rfl)
 obtain ⟨e0,e1,e2⟩:=rc3 (BC w [U zd k0,U zd n0,O x0 l0 c0] 94)
 obtain ⟨vl,hvl⟩:=nm st.vars.length
 obtain ⟨vx,hvx⟩:=nm (AB st.vars K d)
 rw [<-hvl] at c1 KV
 rw [<-hvx] at KV ⊢
 clear h hx ho hi hvl hvx
 show Calls Tryz.prog 222 #[zi (some ⟨br,0,none⟩),zh #[U zd k0,U zd n0,O x0 l0 c0]] w _
 go_enter Tryz.func222,Tryz.ntmps222
 go_wp2_with fail
 go_region_held3 (fun W=>W.cell? ⟨w.heap.size,0,none⟩=some (U zd k0)/\W.cell? ⟨w.heap.size,1,none⟩=some (U zd n0)/\W.cell? ⟨w.heap.size,2,none⟩=some (O x0 l0 c0)/\W.cell? ⟨br,1,none⟩=some (O (some ⟨b1,0,none⟩) vl vl)/\Ov w W) (first | assumption | exact ⟨e0,e1,e2,c1,below_drewN hbel 1⟩ | exact Q8 (by assumption) hbp | fail) (first | (go_at_call 126;refine (KV.o _ (by assumption:_/\_/\_/\_/\Below _ _ _).2.2.2.2).mono ?_;rintro e wp ⟨rfl,hbp⟩))
 have hB:=(by assumption:_/\_/\_/\_/\Below _ _ _).2.2.2.2
 go_wp2_with fail
 go_ret
 exact ⟨rfl,hB⟩
theorem Fa (m:Int) (ga gn gc sa sn sc ya yn yc oa on oc va vn vc fa fn fc ba bn bc xa xn xc) (F fln c3:Nat) (B br b1 b2 b3:Nat) (fl) {I:BS} (dp:Nat) (st:RSt) (ev:Ow) (k a c x:Int) (w:World) (h:RnG I B [U zd m,O ga gn gc,O sa sn sc,O ya yn yc,O oa on oc,O va vn vc,O fa fn fc,O ba bn bc,O xa xn xc,U zd (F:Int),O (some ⟨b3,0,none⟩) fln c3] br b1 b2 b3 fl dp st ev w) (hl:st.ev.length<=2000) :
  Calls Tryz.prog 225 #[zi (some ⟨br,0,none⟩),U zd k,U zd a,U zd c,U zd x] w fun e w'=>e=zj (zk #[])/\∃ ev',RnG I B [U zd m,O ga gn gc,O sa sn sc,O ya yn yc,O oa on oc,O va vn vc,O fa fn fc,O ba bn bc,O xa xn xc,U zd (F:Int),O (some ⟨b3,0,none⟩) fln c3] br b1 b2 b3 fl dp (st.tell (k,a,c,x)) ev' w'/\Fr br b1 b2 ev ev' w w':=by
 obtain ⟨i0,hi,hz0,hz1,hz2⟩:=info_parts Tryz.infoE
 have hbel:Ov w (w.alloc (ze #[U zd k,U zd a,U zd c,U zd x] 136)):=bA w _
 have HR:=Aa (h.over hbel)
 have HF:=Aa (Fr.of_below (br:=br) (b1:=b1) (b2:=b2) (ev:=ev) hbel)
 have hnew:=Ad.newA #[U zd k,U zd a,U zd c,U zd x] 136 w
 have HN:=Aa hnew
 have hown:=(HR.o).own
 have hB:B<=(w.alloc (ze #[U zd k,U zd a,U zd c,U zd x] 136)).heap.size:=HR.o.hi.2.2.2.2
 have c0:=h.row 0 _ rfl
 have c0':=Ab hbel _ _ c0
 have z0:=h.z0 0
 have z0':=HR.o.z0 0
 have hlt:=h.hi.1
 have hlt':=HR.o.hi.1
 clear h hnew
 go_enter Tryz.func225,Tryz.ntmps225
 go_wp2_with (at_builtin;refine wpList_append_own_at _ rfl _ _ 53 rfl B 136 i0 (zh #[U zd 0,U zd 0,U zd 0,U zd 0]) 4 32 Tryz.underlying53 hi hz0 hz1 hz2 rfl (by decide) _ _ _ rfl hown ⟨w.heap.size,0,none⟩ 1 1 [U zd k,U zd a,U zd c,U zd x] rfl rfl (fun jj u hu=>by rw [Addr.add_lit,Nat.zero_add];exact HN.o jj u hu) (by simp [Value.oneCell']) (by unfold maxLen;omega) (by omega) hB ?_)
 intro v2 w2 hown2 hgr2 _ hat
 obtain ⟨va2,vn2,vc2,rfl⟩:∃ a n c,v2=O a n c:=by
  rcases hown2.2 with ⟨h,_⟩ | ⟨g,cap,cur,h,_⟩
  ·exact ⟨_,_,_,h⟩
  ·exact ⟨_,_,_,h⟩
 have HE:=Aa (HR.o.grown (k,a,c,x) hgr2 hown2 (by simpa using hat))
 have z2:w2.frozen? ⟨br,0,none⟩=false:=(World.frozen?_of_block (hgr2.block br hlt' (fun hx=>HR.o.evA.1 (Or.inl hx.symm)))).trans z0'
 have d0:=hgr2.cell c0' (fun hx=>HR.o.evA.1 (Or.inl hx.symm))
 clear c0 c0' z0 z0' hown hown2 hgr2 hat hi hz0 hz1 hz2
 go_wp2_with fail
 go_end0
 exact ⟨rfl,_,HE.o.1,HF.o.trans HE.o.2⟩
theorem Lv (m:Int) (ga gn gc sa sn sc ya yn yc oa on oc va vn vc fa fn fc ba bn bc xa xn xc) (F fln c3:Nat) (B br b1 b2 b3:Nat) (fl) {I:BS} (dp:Nat) (st:RSt) (ev:Ow) (ins) (c:Int) (w0 w:World) (hB0:Ov w0 w) (h:RnG I B [U zd m,O ga gn gc,O sa sn sc,O ya yn yc,O oa on oc,O va vn vc,O fa fn fc,O ba bn bc,O xa xn xc,U zd (F:Int),O (some ⟨b3,0,none⟩) fln c3] br b1 b2 b3 fl dp st ev w) (hBB:w0.heap.size<=b2) (hx:Bi w0 (O xa xn xc) ins) (h0:0<=c) (h1:c < ins.length) (h2:ins.length=st.taken.length) (h3:∀ x∈st.taken,0<=x/\x<=2000) (h4:∀ x∈ins,x.length<=100) :
  Calls Tryz.prog 224 #[zi (some ⟨br,0,none⟩),U zd c] w fun e w'=>e=zj (U zd (Dh ins st c))/\RnG I B [U zd m,O ga gn gc,O sa sn sc,O ya yn yc,O oa on oc,O va vn vc,O fa fn fc,O ba bn bc,O xa xn xc,U zd (F:Int),O (some ⟨b3,0,none⟩) fln c3] br b1 b2 b3 fl dp (st.took c) ev w'/\Fr br b1 b2 ev ev w w'/\w.grownBy w' (some b2):=by
 obtain ⟨n,rfl⟩:=Int.eq_ofNat_of_zero_le h0
 have hn:n < ins.length:=by omega
 have hnt:n < st.taken.length:=by omega
 obtain ⟨-,xo,xcap,hxe,hel⟩:=hx
 injection hxe with e1 e2 e3
 obtain ⟨xb,xoff,hbo,hel2⟩:=hel (by intro h;rw [h] at hn;simp at hn)
 have e1':=e1.trans hbo
 subst e1'
 obtain ⟨u,hu,⟨la,lc,rfl,hli⟩,hul⟩:=hel2 n hn
 have hul2:ins[n].length<=100:=h4 _ (List.getElem_mem hn)
 obtain ⟨t,ht⟩:=nm (st.taken[n])
 have htb:=h3 st.taken[n] (List.getElem_mem hnt)
 have hgt:st.taken.getD (n:Int).toNat 0=t:=by rw [ht];simp [hnt]
 have hins:ins.getD (n:Int).toNat []=ins[n]:=by simp [hn]
 have hnx:Dh ins st n=ins[n].getD t.toNat 0:=by unfold Dh;rw [hgt,hins]
 rw [<-ht] at htb
 have c2:=h.row 2 _ rfl
 have c14:=h.row 14 _ rfl
 have t0:CE w b2 n (U zd t):=by rw [ht];exact h.taken n _ (by simp [hnt])
 have z2:=h.z2 n
 have q:=Ab hB0 _ _ hu
 have hxb:xb < w0.heap.size:=bL hu
 have hxb2:xb≠b2:=by omega
 have HR:Hx (∀ k,RnG I B [U zd m,O ga gn gc,O sa sn sc,O ya yn yc,O oa on oc,O va vn vc,O fa fn fc,O ba bn bc,O (some ⟨xb,xoff,none⟩) xn xc,U zd (F:Int),O (some ⟨b3,0,none⟩) fln c3] br b1 b2 b3 fl dp (st.took n) ev ((w.drewN k).setCell ⟨b2,n,none⟩ (U zd (t+1)))/\Fr br b1 b2 ev ev w ((w.drewN k).setCell ⟨b2,n,none⟩ (U zd (t+1)))):=fun k=>by
  have:=(h.drewN k).setTaken n (t+1) hnt
  refine ⟨?_,(Ol (h.drewN k) _ _).drewN⟩
  unfold RSt.took
  rw [hgt]
  simpa using this
 have hl0:=h.hi.1
 have hl2:=h.hi.2.2.1
 have hap:=h.apart.2.1
 have htl:(n:Int) < (st.taken.length:Int):=by omega
 have hxl:(n:Int) < (xn:Int):=by omega
 obtain ⟨tl,htle⟩:=nm st.taken.length
 rw [<-htle] at c2 htl
 obtain ⟨ll,hll⟩:=nm (ins[n].length)
 rw [<-hll] at q hul2
 by_cases hlt:t.toNat < ins[n].length
 ·obtain ⟨lb,loff,hlb,hlc⟩:=hli (by intro hz;rw [hz] at hlt;simp at hlt)
  have r0:=hlc t.toNat hlt
  have hlbb:lb < w0.heap.size:=bL r0
  have r1:=Ab hB0 _ _ r0
  have hlb2:lb≠b2:=by omega
  have hv:ins[n].getD t.toNat 0=ins[n][t.toNat]:=by simp [hlt]
  rw [hnx,hv]
  obtain ⟨y,hy⟩:=nm (ins[n][t.toNat])
  rw [<-hy] at r1 ⊢
  subst hlb
  have hlt2:t < (ll:Int):=by omega
  obtain ⟨ht1,ht2⟩:=htb
  obtain ⟨tn,rfl⟩:=Int.eq_ofNat_of_zero_le ht1
  rw [Int.toNat_natCast] at r1
  clear h hel hel2 hli hlc hu r0 hnx hv hy hgt hins e1 e2 e3 hbo hB0 ht h3 h4 hll htle hul
  go_enter Tryz.func224,Tryz.ntmps224
  go_wp2_with fail
  go_quiet ((fail))
  go_wp2_with fail
  go_ret
  exact ⟨rfl,(HR.o nq).1,(HR.o nq).2,CI⟩
 ·have hv:ins[n].getD t.toNat 0=0:=by
   rw [List.getD_eq_getElem?_getD,List.getElem?_eq_none (by omega)];rfl
  rw [hnx,hv]
  have hlt2:¬ t < (ll:Int):=by omega
  obtain ⟨ht1,ht2⟩:=htb
  obtain ⟨tn,rfl⟩:=Int.eq_ofNat_of_zero_le ht1
  clear h hel hel2 hli hu hnx hv hgt hins e1 e2 e3 hbo hB0 ht h3 h4 hll htle hul
  go_enter Tryz.func224,Tryz.ntmps224
  go_wp2_with fail
  go_quiet ((fail))
  go_wp2_with fail
  go_ret
  exact ⟨rfl,(HR.o nq).1,(HR.o nq).2,CI⟩
structure FrX (X:Nat->Prop) (w w':World):Prop where
 os:w'.os=w.os
 tape:w'.tape=w.tape
 output:w'.output=w.output
 size:w.heap.size<=w'.heap.size
 block:∀ k,k < w.heap.size->¬ X k->w'.heap[k]? = w.heap[k]?
theorem FrX.row {X:Nat->Prop} {w w':World} (h:FrX X w w') {cs:List Value} {b:Nat} (hr:Ad cs w b) (hx:¬ X b):Ad cs w' b:=fun j u hu=>
 (World.cell?_of_block (h.block b (bL (hr j u hu)) hx)).trans (hr j u hu)
theorem RnG.may {I:BS} {B:Nat} {R:List Value} {br b1 b2 b3:Nat} {fl:List Int} {dp:Nat} {st:RSt} {ev:Ow} {w w':World} (h:RnG I B R br b1 b2 b3 fl dp st ev w) {o':WSt} {X':Nat->Prop} (hF:FrX ev.X w w') (hX:∀ k,X' k->ev.X k\/w.heap.size<=k) (hI:I.In (Yb br b1 b2 ev.ev) o' X' w') (hok:I.ok dp o') :
  RnG I B R br b1 b2 b3 fl dp (st.held o') ⟨ev.ev,X'⟩ w'/\Fr br b1 b2 ev ⟨ev.ev,X'⟩ w w':=by
 have hi:=h.hi
 have hs:=hF.size
 have x0:¬ ev.X br:=fun q=>h.evA.1 (Or.inr q)
 have x1:¬ ev.X b1:=fun q=>h.evA.2.1 (Or.inr q)
 have x2:¬ ev.X b2:=fun q=>h.evA.2.2.1 (Or.inr q)
 have x3:¬ ev.X b3:=fun q=>h.evA.2.2.2 (Or.inr q)
 have hn:∀ b,b < w.heap.size->¬ ev.at b->¬ (Ow.mk ev.ev X').at b:=fun b hb hx hy=>by
  rcases hy with hy | hy
  ·exact hx (Or.inl hy)
  ·rcases hX b hy with hz | hz
   ·exact hx (Or.inr hz)
   ·omega
 have hz:∀ b j,b < w.heap.size->¬ ev.X b->w'.frozen? ⟨b,j,none⟩=w.frozen? ⟨b,j,none⟩:=fun b j hb hx=>World.frozen?_of_block (hF.block b hb hx)
 constructor
 ·refine ⟨hF.row h.row x0,hF.row h.vars x1,hF.row h.taken x2,hF.row h.first x3,?_,fun j=>(hz _ _ hi.1 x0).trans (h.z0 j),fun j=>(hz _ _ hi.2.1 x1).trans (h.z1 j),fun j=>(hz _ _ hi.2.2.1 x2).trans (h.z2 j),h.apart,⟨hn _ hi.1 h.evA.1,hn _ hi.2.1 h.evA.2.1,hn _ hi.2.2.1 h.evA.2.2.1,hn _ hi.2.2.2.1 h.evA.2.2.2⟩,h.lo,⟨by omega,by omega,by omega,by omega,by omega⟩,hI,fun k hk=>?_,hok⟩
  ·refine ⟨h.own.1,?_⟩
   rcases h.own.2 with hh | ⟨g,cap,cur,hv,hb,hg,rest⟩
   ·exact Or.inl hh
   ·refine Or.inr ⟨g,cap,cur,hv,hb,?_,rest⟩
    rw [hF.block g (Array.getElem?_eq_some_iff.1 hg).1 (fun q=>(I.lt h.ob g q).2 (Or.inr (Or.inr (Or.inr (by rw [hv];rfl)))))]
    exact hg
  ·rcases hX k hk with hz | hz
   ·exact h.xlo k hz
   ·omega
 ·refine ⟨hF.os,hF.tape,hF.output,hF.size,fun k hk _ _ _ hx=>hF.block k hk (fun q=>hx (Or.inr q)),fun k hk=>?_⟩
  rcases hk with hk | hk
  ·exact Or.inl (Or.inl hk)
  ·rcases hX k hk with hz | hz
   ·exact Or.inl (Or.inr hz)
   ·exact Or.inr hz
def KU (I:BS) (w0:World) (K nv ni no:Nat) (fs:List FnD):Prop:=
 ∀ (Y:Nat->Prop) (s:WSt) (X:Nat->Prop) (W:World) (kind:Nat) (a:Int) (dp k:Nat) (cs:List Value) (d:D) (funcs:Int),I.In Y s X W->Ov w0 W->RS w0 K k cs d->funcs<=fs.length->okS K nv ni no funcs fs k d->0<=a->a<=100->dp<=9000->I.ok dp s ->
  (kind=1\/(kind=2/\Ag d=8/\I.ok (dp+1) s)\/(kind=3/\Ag d=2)) ->
  Calls Tryz.prog I.fn (I.fre++.agg (U zd kind::U zd a::U zd dp::cs).toArray::I.cap).toArray W fun e W'=>e=zj (zg (I.ob kind a dp d s).1)/\∃ X',I.In Y (I.ob kind a dp d s).2 X' W'/\(∀ k,X' k->X k\/W.heap.size<=k)/\FrX X W W'/\I.ok dp (I.ob kind a dp d s).2 /\
   ((I.ob kind a dp d s).1=true->(kind=1/\(Ag d=7\/Ag d=8))\/kind=2->I.ok (dp+1) (I.ob kind a dp d s).2)
def Kz (I:BS) (B:Nat) (R:List Value) (br b1 b2 b3:Nat) (fl:List Int) (dp:Nat) (kind:Nat) (d:D) (r:Bool × RSt) (ev:Ow) (w:World) (e:Ending) (w':World):Prop:=
 e=zj (zg r.1)/\∃ ev',RnG I B R br b1 b2 b3 fl dp r.2 ev' w'/\Fr br b1 b2 ev ev' w w'/\(r.1=true->(kind=1/\(Ag d=7\/Ag d=8))\/kind=2->I.ok (dp+1) r.2.o)
theorem EC (m:Int) (ga gn gc sa sn sc ya yn yc oa on oc va vn vc fa fn fc ba bn bc xa xn xc) (F fln c3:Nat) (B br b1 b2 b3:Nat) (fl) {I:BS} (dp:Nat) (st:RSt) (ev:Ow) (K k:Nat) (fs) (w0:World) (kind:Nat) (a:Int) (kd vr ot ek en:Int) (ea el ec aa al ac ta tl tc la ll lc) (d) (funcs:Int) (w:World) (hM:KU I w0 K vn yn on fs) (hB0:Ov w0 w) (h:RnG I B [U zd m,O ga gn gc,O sa sn sc,O ya yn yc,O oa on oc,O va vn vc,O fa fn fc,O ba bn bc,O xa xn xc,U zd (F:Int),O (some ⟨b3,0,none⟩) fln c3] br b1 b2 b3 fl dp st ev w) (hs:RS w0 K k [U zd kd,U zd vr,U zd ot,U zd ek,U zd en,O ea el ec,O aa al ac,O ta tl tc,O la ll lc] d) (hf:funcs<=fs.length) (ho:okS K vn yn on funcs fs k d) (ha0:0<=a) (ha1:a<=100) (hdp:dp<=9000) (hkind:kind=1\/(kind=2/\Ag d=8/\I.ok (dp+1) st.o)\/(kind=3/\Ag d=2)) :
  Calls Tryz.prog 183 #[zi (some ⟨br,0,none⟩),U zd (kind:Int),zh #[U zd kd,U zd vr,U zd ot,U zd ek,U zd en,O ea el ec,O aa al ac,O ta tl tc,O la ll lc],U zd a] w (Kz I B [U zd m,O ga gn gc,O sa sn sc,O ya yn yc,O oa on oc,O va vn vc,O fa fn fc,O ba bn bc,O xa xn xc,U zd (F:Int),O (some ⟨b3,0,none⟩) fln c3] br b1 b2 b3 fl dp kind d (Bm I.ob kind a dp d st) ev w):=by
 have hbel:Ov w (w.alloc (ze #[U zd kd,U zd vr,U zd ot,U zd ek,U zd en,O ea el ec,O aa al ac,O ta tl tc,O la ll lc] 130)):=bA w _
 have hbd:Ov w (w.alloc (ze #[U zd kd,U zd vr,U zd ot,U zd ek,U zd en,O ea el ec,O aa al ac,O ta tl tc,O la ll lc] 130)).drew:=below_drewN hbel 1
 have h2:=h.over hbd
 have KM:=Aa (hM _ st.o ev.X (w.alloc (ze #[U zd kd,U zd vr,U zd ot,U zd ek,U zd en,O ea el ec,O aa al ac,O ta tl tc,O la ll lc] 130)).drew kind a dp k [U zd kd,U zd vr,U zd ot,U zd ek,U zd en,O ea el ec,O aa al ac,O ta tl tc,O la ll lc] d funcs h2.ob (hB0.trans (hbd.mono hB0.size)) hs hf ho ha0 ha1 hdp h.okd hkind)
 have HR:=Aa h2
 have HF:=Aa (Fr.of_below (br:=br) (b1:=b1) (b2:=b2) (ev:=ev) hbd)
 have HBX:Hx (∀ ev' w',Fr br b1 b2 ev ev' (w.alloc (ze #[U zd kd,U zd vr,U zd ot,U zd ek,U zd en,O ea el ec,O aa al ac,O ta tl tc,O la ll lc] 130)).drew w'->∀ j u,CE (w.alloc (ze #[U zd kd,U zd vr,U zd ot,U zd ek,U zd en,O ea el ec,O aa al ac,O ta tl tc,O la ll lc] 130)) w.heap.size j u->CE w' w.heap.size j u):=fun ev' w' hF j u hc=>h.box hF (Nat.le_refl _) (show (w.alloc _).drew.cell? _=_ from hc)
 have hrow:=Ad.newA #[U zd kd,U zd vr,U zd ot,U zd ek,U zd en,O ea el ec,O aa al ac,O ta tl tc,O la ll lc] 130 w
 have q17:=Ab hbel _ _ (h.row 17 _ rfl)
 have q18:=Ab hbel _ _ (h.row 18 _ rfl)
 have e0:CE (w.alloc (ze #[U zd kd,U zd vr,U zd ot,U zd ek,U zd en,O ea el ec,O aa al ac,O ta tl tc,O la ll lc] 130)) w.heap.size 0 (U zd kd):=hrow 0 _ rfl
 have e1:CE (w.alloc (ze #[U zd kd,U zd vr,U zd ot,U zd ek,U zd en,O ea el ec,O aa al ac,O ta tl tc,O la ll lc] 130)) w.heap.size 1 (U zd vr):=hrow 1 _ rfl
 have e2:CE (w.alloc (ze #[U zd kd,U zd vr,U zd ot,U zd ek,U zd en,O ea el ec,O aa al ac,O ta tl tc,O la ll lc] 130)) w.heap.size 2 (U zd ot):=hrow 2 _ rfl
 have e3:CE (w.alloc (ze #[U zd kd,U zd vr,U zd ot,U zd ek,U zd en,O ea el ec,O aa al ac,O ta tl tc,O la ll lc] 130)) w.heap.size 3 (U zd ek):=hrow 3 _ rfl
 have e4:CE (w.alloc (ze #[U zd kd,U zd vr,U zd ot,U zd ek,U zd en,O ea el ec,O aa al ac,O ta tl tc,O la ll lc] 130)) w.heap.size 4 (U zd en):=hrow 4 _ rfl
 have e5:CE (w.alloc (ze #[U zd kd,U zd vr,U zd ot,U zd ek,U zd en,O ea el ec,O aa al ac,O ta tl tc,O la ll lc] 130)) w.heap.size 5 (O ea el ec):=hrow 5 _ rfl
 have e6:CE (w.alloc (ze #[U zd kd,U zd vr,U zd ot,U zd ek,U zd en,O ea el ec,O aa al ac,O ta tl tc,O la ll lc] 130)) w.heap.size 6 (O aa al ac):=hrow 6 _ rfl
 have e7:CE (w.alloc (ze #[U zd kd,U zd vr,U zd ot,U zd ek,U zd en,O ea el ec,O aa al ac,O ta tl tc,O la ll lc] 130)) w.heap.size 7 (O ta tl tc):=hrow 7 _ rfl
 have e8:CE (w.alloc (ze #[U zd kd,U zd vr,U zd ot,U zd ek,U zd en,O ea el ec,O aa al ac,O ta tl tc,O la ll lc] 130)) w.heap.size 8 (O la ll lc):=hrow 8 _ rfl
 have hpass:Bm I.ob kind a dp d st=if (I.ob kind a dp d st.o).1=true then (true,st.held (I.ob kind a dp d st.o).2) else (false,st.stop a (I.ob kind a dp d st.o).2):=rfl
 rw [hpass]
 obtain ⟨ro,hro⟩:=nm (I.ob kind a dp d st.o)
 rw [<-hro] at KM ⊢
 have hl:=h2.hi.1
 clear h h2 hbel hbd hrow hM hB0 hs hf ho ha0 ha1 hdp hkind hpass hro
 unfold Kz
 have hC:=I.ent
 obtain ⟨rb,ros⟩:=ro
 dsimp only at KM ⊢
 go_enter Tryz.func183,Tryz.ntmps183
 go_wp2_with fail
 refine gS (fun Wz=>CE Wz br 17 (U zd (dp:Int))/\CE Wz br 18 (.func (.func I.fn) I.fre.toArray I.cap.toArray)/\CE Wz w.heap.size 0 (U zd kd)/\CE Wz w.heap.size 1 (U zd vr)/\CE Wz w.heap.size 2 (U zd ot)/\CE Wz w.heap.size 3 (U zd ek)/\CE Wz w.heap.size 4 (U zd en)/\CE Wz w.heap.size 5 (O ea el ec)/\CE Wz w.heap.size 6 (O aa al ac)/\CE Wz w.heap.size 7 (O ta tl tc)/\CE Wz w.heap.size 8 (O la ll lc)) (⟨q17,q18,e0,e1,e2,e3,e4,e5,e6,e7,e8⟩) fun hHeld=>?_
 refine kT 0 ?_
 refine kT 1 ?_
 refine kT 2 ?_
 refine kT 3 ?_
 refine kT 4 ?_
 refine kT 5 ?_
 refine kT 6 ?_
 refine kT 7 ?_
 refine kT 8 ?_
 refine kT 9 ?_
 refine kT 10 ?_
 refine kT 11 ?_
 refine rdA 12 rfl fun K hK=>?_
 go_simp
 refine (KM.o).mono ?_
 rintro e W2 ⟨rfl,X',hI2,hX2,hF2,hok2,hnx⟩
 have hm:=HR.o.may hF2 hX2 hI2 hok2
 have HRM:=Aa hm.1
 have HFM:=Aa hm.2
 have HNX:=Aa hnx
 have g17:=HRM.o.row 17 _ rfl
 have g18:=HRM.o.row 18 _ rfl
 have g0:=HBX.o _ _ HFM.o 0 _ e0
 have g1:=HBX.o _ _ HFM.o 1 _ e1
 have g2:=HBX.o _ _ HFM.o 2 _ e2
 have g3:=HBX.o _ _ HFM.o 3 _ e3
 have g4:=HBX.o _ _ HFM.o 4 _ e4
 have g5:=HBX.o _ _ HFM.o 5 _ e5
 have g6:=HBX.o _ _ HFM.o 6 _ e6
 have g7:=HBX.o _ _ HFM.o 7 _ e7
 have g8:=HBX.o _ _ HFM.o 8 _ e8
 clear KM hI2 hX2 hF2 hok2 hm hnx HR HBX
 go_simp
 refine xK hK (⟨g17,g18,g0,g1,g2,g3,g4,g5,g6,g7,g8⟩) fun hHeld=>?_
 refine gE ?_
 cases rb with
 | true=>
  go_wp2_with fail
  go_ret
  exact ⟨rfl,_,HRM.o,HF.o.trans HFM.o,fun hk=>HNX.o (by first | rfl | trivial) hk⟩
 | false=>
  have c4:=HRM.o.row 4 _ rfl
  have c5:=HRM.o.row 5 _ rfl
  have z4:=HRM.o.z0 4
  have z5:=HRM.o.z0 5
  have hl2:=HRM.o.hi.1
  have HE:=Aa ((HRM.o.setEnd 3).setStop a)
  have HG:=Aa ((DA HRM.o 4 (U zd 3)).trans (DA (HRM.o.setEnd 3) 5 (U zd a)))
  go_wp2_with fail
  go_ret
  exact ⟨rfl,_,HE.o,HF.o.trans (HFM.o.trans HG.o)⟩
end Go.Proofs.YtfffpjkcfnekaaaGreat.Ex
