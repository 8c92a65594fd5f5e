/- One who judges: a command that trusts. -/
import Derived.Test.YtfffpjkcfnekaaaGreatF30
set_option linter.unusedVariables false
set_option maxHeartbeats 8000000
set_option maxRecDepth 100000
namespace Go.Proofs.YtfffpjkcfnekaaaGreat.Ex
open Go.RowKit
open Go.Value renaming slice -> O, int -> U, bool -> zg, agg -> zh, pointer -> zj, tuple -> zm
open Go.IntKind renaming i64 -> zd
open Go.Obj renaming cells -> ze
open Go.Ending renaming returned -> zk
theorem C6 {P:Program} {id:Nat} {ops:Array Oper} {dr:Bool} {Q:Exit->Act->World->Prop} {a:Act} {w:World} (R:Act->World->Prop) (h:(Code.region id ops dr).wp P (D1 R) a w) (hq:∀ a w,R a w->Q .normal a w):(Code.region id ops dr).wp P Q a w:=
 wp_mono h fun e a w h=>by cases e <;> first | exact hq _ _ h | exact h.elim
theorem Ie {P:Program} {id:Nat} {ops:Array Oper} {dr:Bool} {Q:Exit->Act->World->Prop} {a:Act} {w:World} (h:(Code.region id ops dr).wp P (D1 (Q .normal)) a w):(Code.region id ops dr).wp P Q a w:=
 C6 (Q .normal) h fun _ _ h=>h
theorem AG {R:Act->World->Prop} {a:Act} {w:World} (h:R a w):D1 R .normal a w:=h
structure ZB (b:Nat) (W:World):Prop where
 c0:W.cell? ⟨b,0,none⟩=some (O none 0 0)
 c1:W.cell? ⟨b,1,none⟩=some (O none 0 0)
 z0:W.frozen? ⟨b,0,none⟩=false
 z1:W.frozen? ⟨b,1,none⟩=false
theorem ZB.lt {b:Nat} {W:World} (h:ZB b W):b < W.heap.size:=bL h.c0
theorem GV (t:Nat) (W:World):ZB W.heap.size (W.alloc (ze #[O none 0 0,O none 0 0] t)):=⟨by simp [go_sem],by simp [go_sem],by simp [go_sem],by simp [go_sem]⟩
theorem ZB.over {b:Nat} {W W':World} (h:ZB b W) (hb:Ov W W'):ZB b W':=⟨Ab hb _ _ h.c0,Ab hb _ _ h.c1,((Al hb).2 _ _ h.lt).trans h.z0,((Al hb).2 _ _ h.lt).trans h.z1⟩
def CC (W:World) (b:Nat) (x y:Value):World:=(W.setCell ⟨b,0,none⟩ x).setCell ⟨b,1,none⟩ y
theorem ZB.fill {b:Nat} {W:World} (h:ZB b W) (x y:Value):Ae [x,y] (CC W b x y) b:=by
 have r0:Ae [O none 0 0,O none 0 0] W b:=fun j u hu=>by
  match j with
  | 0=>simp at hu;subst hu;exact h.c0
  | 1=>simp at hu;subst hu;exact h.c1
  | j+2=>simp at hu
 have r:=C5 (j:=1) (v:=y) (C5 (j:=0) (v:=x) r0 (by simp)) (by simp)
 simpa [CC] using r
theorem Cw {W:World} {b:Nat} {x y:Value} {k:Nat} (h:k≠b):(CC W b x y).heap[k]? = W.heap[k]?:=by
 unfold CC
 rw [Bl (Ne.symm h),Bl (Ne.symm h)]
theorem Js {W:World} {b:Nat} {x y:Value}:(CC W b x y).heap.size=W.heap.size:=by simp [CC,World.setCell]
theorem ZB.other {b b':Nat} {W:World} (h:ZB b W) (hne:b≠b') (x y:Value):ZB b (CC W b' x y):=
 ⟨(World.cell?_of_block (a:=⟨b,0,none⟩) (Cw hne)).trans h.c0,(World.cell?_of_block (a:=⟨b,1,none⟩) (Cw hne)).trans h.c1,(World.frozen?_of_block (a:=⟨b,0,none⟩) (Cw hne)).trans h.z0,(World.frozen?_of_block (a:=⟨b,1,none⟩) (Cw hne)).trans h.z1⟩
theorem Ic {cs:List Value} {b b':Nat} {W:World} (h:Ae cs W b) (hne:b≠b') (x y:Value):Ae cs (CC W b' x y) b:=fun j u hu=>(World.cell?_of_block (a:=⟨b,j,none⟩) (Cw hne)).trans (h j u hu)
theorem DL {B:Nat} {A W:World} (h:Below B A W) {b:Nat} (hb:B<=b) (x y:Value):Below B A (CC W b x y):=(h.setCell hb _).setCell hb _
theorem Ee {n bj b:Nat} {W:World} {v:Value} {l:Lev} (h:AY n (XJ bj) W v l) (hz:ZB b W) (hne:bj≠b) (x y:Value):AY n (XJ bj) (CC W b x y) v l:=by
 obtain ⟨u,w,hv,hu,hw⟩:=h.off
 have hx:∀ k,XJ bj (CC W b x y) k->XJ bj W k:=by
  rintro k (hk | hk | ⟨q,hq,ho⟩)
  ·rw [Js] at hk;exact Or.inl hk
  ·exact Or.inr (Or.inl hk)
  ·exact Or.inr (Or.inr ⟨q,(World.cell?_of_block (a:=⟨bj,11,none⟩) (Cw hne)).symm.trans hq,ho⟩)
 have c1':(W.setCell ⟨b,0,none⟩ x).cell? ⟨b,1,none⟩=some (O none 0 0):=by rw [World.cell?_setCell_other _ _ _ _ (by simp)];exact hz.c1
 exact ⟨DF c1' (DF hz.c0 h.at_ _) _,h.len,u,w,hv,fun a m c e q=>hu a m c e (hx _ q),fun a m c e q=>hw a m c e (hx _ q)⟩
def TB (bj:Nat) (L:List (Nat × List Value)) (W:World):Prop:=∀ q∈L,Ae q.2 W q.1/\¬ XJ bj W q.1/\q.1 < W.heap.size
theorem TB.keep {bj:Nat} {L:List (Nat × List Value)} {W W':World} (h:TB bj L W) (hf:FrW (XJ bj) W W'):TB bj L W':=fun q hq=>⟨hf.row (h q hq).1 (h q hq).2.1,fun e=>(h q hq).2.1 (hf.mov _ (h q hq).2.2 e),Nat.lt_of_lt_of_le (h q hq).2.2 hf.size⟩
theorem TB.row {bj:Nat} {L:List (Nat × List Value)} {W:World} (h:TB bj L W) (i:Nat) {q:Nat × List Value} (hi:L[i]? = some q):Ae q.2 W q.1:=(h q (List.mem_of_getElem? hi)).1
theorem TB.off {bj:Nat} {L:List (Nat × List Value)} {W:World} (h:TB bj L W) (i:Nat) {q:Nat × List Value} (hi:L[i]? = some q):¬ XJ bj W q.1:=(h q (List.mem_of_getElem? hi)).2.1
theorem TB.add {bj:Nat} {L:List (Nat × List Value)} {W:World} (h:TB bj L W) {b:Nat} {cs:List Value} (hr:Ae cs W b) (hx:¬ XJ bj W b) (hl:b < W.heap.size):TB bj ((b,cs)::L) W:=fun q hq=>by
 rcases List.mem_cons.1 hq with rfl | hq
 ·exact ⟨hr,hx,hl⟩
 ·exact h q hq
theorem TB.nil {bj:Nat} {W:World}:TB bj [] W:=fun q hq=>by cases hq
theorem GP (n:Nat):(Bw n).len n:=by simp [Bw,Lev.len]
theorem Iv {n:Nat} {gs:List (Int × Int)} {b:Lab} (h:Bo n gs b=0):(b.r.length<=4/\∀ q∈b.r,EG n q)/\(b.w.length<=4/\∀ q∈b.w,EG n q):=by
 unfold Bo at h
 split at h
 ·exact GF h
 ·rename_i hc;exact absurd h hc
abbrev NA (bj:Nat) (c:WC) (bv ov bl ol:Nat) (W:World) (jv:Nat) (ek en:Int) (xa:Option Addr) (xl xc:Nat) (a1:Option Addr) (a2 a3:Nat) (a4:Option Addr) (a5 a6:Nat) (Wz:World):Prop:=Wz.cell? ⟨bj,0,none⟩=some (U zd (c.n:Int))/\Wz.cell? ⟨bj,1,none⟩=some (O c.ga c.gn c.gc)/\Wz.cell? ⟨bj,2,none⟩=some (O c.sa c.sn c.sc)/\Wz.cell? ⟨bj,3,none⟩=some (O c.ya c.yn c.yc)/\Wz.cell? ⟨bj,4,none⟩=some (O c.oa c.on c.oc)/\Wz.cell? ⟨bj,5,none⟩=some (O (some ⟨bv,ov,none⟩) c.vn c.vc)/\Wz.cell? ⟨bj,6,none⟩=some (O c.fa c.fn c.fc)/\Wz.cell? ⟨bj,7,none⟩=some (O c.ba c.bn c.bc)/\Wz.cell? ⟨bj,8,none⟩=some (O (some ⟨bl,ol,none⟩) c.ln c.lc)/\Wz.cell? ⟨bj,9,none⟩=some (O c.ka c.kn c.kc)/\Wz.cell? ⟨W.heap.size,1,none⟩=some (U zd (jv:Int))/\Wz.cell? ⟨W.heap.size,3,none⟩=some (U zd ek)/\Wz.cell? ⟨W.heap.size,4,none⟩=some (U zd en)/\Wz.cell? ⟨W.heap.size,5,none⟩=some (O xa xl xc)/\Wz.cell? ⟨bl,ol+jv*2,none⟩=some (O a1 a2 a3)/\Wz.cell? ⟨bl,ol+jv*2+1,none⟩=some (O a4 a5 a6)
abbrev Nz (bj:Nat) (c:WC) (bv ov bl ol:Nat) (W:World) (p1:Option Addr) (q1 r1:Nat) (p2:Option Addr) (q2 r2 bo:Nat) (a1:Option Addr) (a2 a3:Nat) (a4:Option Addr) (a5 a6:Nat) (Wz:World):Prop:=Wz.cell? ⟨bj,0,none⟩=some (U zd (c.n:Int))/\Wz.cell? ⟨bj,1,none⟩=some (O c.ga c.gn c.gc)/\Wz.cell? ⟨bj,2,none⟩=some (O c.sa c.sn c.sc)/\Wz.cell? ⟨bj,3,none⟩=some (O c.ya c.yn c.yc)/\Wz.cell? ⟨bj,4,none⟩=some (O c.oa c.on c.oc)/\Wz.cell? ⟨bj,5,none⟩=some (O (some ⟨bv,ov,none⟩) c.vn c.vc)/\Wz.cell? ⟨bj,6,none⟩=some (O c.fa c.fn c.fc)/\Wz.cell? ⟨bj,7,none⟩=some (O c.ba c.bn c.bc)/\Wz.cell? ⟨bj,8,none⟩=some (O (some ⟨bl,ol,none⟩) c.ln c.lc)/\Wz.cell? ⟨bj,9,none⟩=some (O c.ka c.kn c.kc)/\Wz.cell? ⟨W.heap.size+1,0,none⟩=some (O p1 q1 r1)/\Wz.cell? ⟨W.heap.size+1,1,none⟩=some (O p2 q2 r2)/\Wz.cell? ⟨bo,0,none⟩=some (O a1 a2 a3)/\Wz.cell? ⟨bo,1,none⟩=some (O a4 a5 a6)
abbrev Lu (bj bv ov:Nat) (c:WC) (W:World) (jv:Nat) (kn:Bool) (pa1:Option Addr) (pn1 pc1:Nat) (pa2:Option Addr) (pn2 pc2:Nat) (Wz:World):Prop:=Wz.cell? ⟨bj,5,none⟩=some (O (some ⟨bv,ov,none⟩) c.vn c.vc)/\Wz.cell? ⟨W.heap.size,1,none⟩=some (U zd (jv:Int))/\Wz.cell? ⟨bv,ov+jv*3,none⟩=some (zg kn)/\Wz.cell? ⟨bv,ov+jv*3+1,none⟩=some (O pa1 pn1 pc1)/\Wz.cell? ⟨bv,ov+jv*3+2,none⟩=some (O pa2 pn2 pc2)
theorem NU (c) (w0:World) (bj:Nat) (av:Value) (gs Ls Fs) (J:JSt c w0 gs Ls Fs) (sp) (A:JAc c w0 av (AD gs) sp) (K ni no:Nat) (fs vs) (hvs:Br w0 (O c.va c.vn c.vc) vs) (hvn:vs.length=Ls.length) (hvc:∀ v∈vs,Bo c.n gs v.2=0) :
  Fi c w0 bj av K Ls.length ni no fs 6 (Ep c.n K (AD gs) sp Ls vs) 153:=by
 intro fl fv s a k cs lv d p funcs W hfl h hbox hl hrs hok hk
 obtain ⟨p1,q1,r1,p2,q2,r2,hlv⟩:=hl.form
 have hlv':lv=[O p1 q1 r1,O p2 q2 r2]:=by simpa using hlv
 subst hlv'
 clear hlv
 obtain ⟨ek,en,xa,xl,xc,aa,ac,ta,tc,ea,ec,rfl,i0,i1,i2,hX,hA,hT,hE,-,-,-⟩:=hrs.form
 have hv2:=hok.2.1 (by omega)
 obtain ⟨jv,hjv⟩:∃ j:Nat,AK d=(j:Int):=⟨(AK d).toNat,by omega⟩
 have hjl:jv < Ls.length:=by omega
 have hjw:jv < vs.length:=by omega
 obtain ⟨bl,ol,a1,a2,a3,a4,a5,a6,hla,hln,k0,k1,hlev⟩:=C8 J.levs hjl
 have hVS:=hvs
 obtain ⟨hym,va',vc',hve,hvel⟩:=hvs
 injection hve with v1 v2 v3
 obtain ⟨bv,ov,hvo,hvel⟩:=hvel (by rintro rfl;simp at hjw)
 have hva:c.va=some ⟨bv,ov,none⟩:=v1.trans hvo
 have hvn2:c.vn=vs.length:=v2
 have hkd:sC (Am d) (AK d) (Ah d) ek en xa xl xc aa (Ap d).length ac ta (Av d).length tc ea (Ax d).length ec=sC 6 (jv:Int) (Ah d) ek en xa xl xc aa (Ap d).length ac ta (Av d).length tc ea (Ax d).length ec:=by rw [hk,hjv]
 rw [hkd]
 clear hkd
 obtain ⟨ot,hot⟩:=nm (Ah d)
 obtain ⟨al,hal⟩:=nm ((Ap d).length)
 obtain ⟨tn,htn⟩:=nm ((Av d).length)
 obtain ⟨el,hel⟩:=nm ((Ax d).length)
 rw [<-hot,<-hal,<-htn,<-hel]
 have hgd:Ls.getD (AK d).toNat AE=Ls[jv]:=by rw [hjv];simp [List.getD_eq_getElem?_getD,hjl]
 obtain ⟨lz,hlz⟩:=nm (Ls[jv])
 have hlzl:lz.len c.n:=by rw [hlz];exact J.lens _ (List.getElem_mem hjl)
 rw [<-hlz] at hlev hgd
 have hgv:vs.getD (AK d).toNat (false,⟨[],[]⟩)=vs[jv]:=by rw [hjv];simp [List.getD_eq_getElem?_getD,hjw]
 have hcv:c.v=(zh #[U zd (c.n:Int),O c.ga c.gn c.gc,O c.sa c.sn c.sc,O c.ya c.yn c.yc,O c.oa c.on c.oc,O (some ⟨bv,ov,none⟩) c.vn c.vc,O c.fa c.fn c.fc,O c.ba c.bn c.bc,O (some ⟨bl,ol,none⟩) c.ln c.lc,O c.ka c.kn c.kc]):=by show Value.agg #[U zd (c.n:Int),O c.ga c.gn c.gc,O c.sa c.sn c.sc,O c.ya c.yn c.yc,O c.oa c.on c.oc,O c.va c.vn c.vc,O c.fa c.fn c.fc,O c.ba c.bn c.bc,O c.la c.ln c.lc,O c.ka c.kn c.kc]=_;rw [hva,hla]
 obtain ⟨pr,pw,g0,g1,g2,hpr,hpw⟩:=hvel jv hjw
 obtain ⟨pa1,pn1,pc1,rfl⟩:=AO hpr
 obtain ⟨pa2,pn2,pc2,rfl⟩:=AO hpw
 obtain ⟨V1,hV1⟩:=nm (((W.alloc (ze #[U zd 6,U zd (jv:Int),U zd ot,U zd ek,U zd en,O xa xl xc,O aa al ac,O ta tn tc,O ea el ec] 130)).alloc (ze #[O p1 q1 r1,O p2 q2 r2] 50)))
 have hb1:Ov W V1:=by rw [hV1];exact (bA W _).alloc (by simp) _
 obtain ⟨tl,htl⟩:=nm ((AZ c.n Ls (Bw c.n) (AF K (AV d))))
 have HJ1:=Aa (h.over hb1)
 have HN1:=Aa J.n1
 have HLO:=Aa (fun (W2:World) {fl2:List (Int × Int)} {fv2:Value} (h2:AW c.cs w0 bj av fl2 fv2 W2)=>FW J.n1 h2 hlev hlzl)
 have KBot:Hx (∀ (W2:World),Calls Tryz.prog 104 #[(zh #[U zd (c.n:Int),O c.ga c.gn c.gc,O c.sa c.sn c.sc,O c.ya c.yn c.yc,O c.oa c.on c.oc,O (some ⟨bv,ov,none⟩) c.vn c.vc,O c.fa c.fn c.fc,O c.ba c.bn c.bc,O (some ⟨bl,ol,none⟩) c.ln c.lc,O c.ka c.kn c.kc])] W2 fun e w'=>∃ vj,e=zk vj/\Be W2 w' vj (Bw c.n)/\Ov W2 w'):=fun W2=>by
  have:=ER c.n J.n1 J.n6 c.ga c.gn c.gc c.sa c.sn c.sc c.ya c.yn c.yc c.oa c.on c.oc c.va c.vn c.vc c.fa c.fn c.fc c.ba c.bn c.bc c.la c.ln c.lc c.ka c.kn c.kc W2
  rw [hva,hla] at this
  exact this
 have KW:Hx (∀ (W2:World) {x:Value},AW c.cs w0 bj av fl fv W2->AY c.n (XJ bj) W2 x (Bw c.n)->Calls Tryz.prog 103 #[(zh #[U zd (c.n:Int),O c.ga c.gn c.gc,O c.sa c.sn c.sc,O c.ya c.yn c.yc,O c.oa c.on c.oc,O (some ⟨bv,ov,none⟩) c.vn c.vc,O c.fa c.fn c.fc,O c.ba c.bn c.bc,O (some ⟨bl,ol,none⟩) c.ln c.lc,O c.ka c.kn c.kc]),x,zh #[U zd ek,U zd en,O xa xl xc]] W2 fun e w'=>(∃ p1 q1 r1 p2 q2 r2,e=zk (zh #[O p1 q1 r1,O p2 q2 r2])/\AY c.n (XJ bj) w' (zh #[O p1 q1 r1,O p2 q2 r2]) tl)/\Ov W2 w'):=fun W2 x h2 hx=>by
  have:=H5 J h2 x (Bw c.n) K [U zd ek,U zd en,O xa xl xc] (AV d) hx hX (BD hok)
  rw [hcv,<-htl] at this
  exact this
 obtain ⟨f5,hf5⟩:=nm (Ay p lz c.n)
 have KF:Hx (∀ (W2:World) {fl2:List (Int × Int)} {fv2 x y:Value},AW c.cs w0 bj av fl2 fv2 W2->AY c.n (XJ bj) W2 x p->AY c.n (XJ bj) W2 y lz->Calls Tryz.prog 57 #[(zh #[U zd (c.n:Int),O c.ga c.gn c.gc,O c.sa c.sn c.sc,O c.ya c.yn c.yc,O c.oa c.on c.oc,O (some ⟨bv,ov,none⟩) c.vn c.vc,O c.fa c.fn c.fc,O c.ba c.bn c.bc,O (some ⟨bl,ol,none⟩) c.ln c.lc,O c.ka c.kn c.kc]),x,y] W2 fun e W'=>e=zk (zg f5)/\Ov W2 W'):=fun W2 fl2 fv2 x y h2 hx hy=>by
  have:=Ga c gs x y _ _ W2 (Af J.gr h2.below) J.chk hx.at_ hx.len hy.at_ hy.len
  rw [hcv,<-hf5] at this
  exact this
 have KB:=Aa (fun (W2:World) {fl2:List (Int × Int)} {fv2:Value} (h2:AW c.cs w0 bj av fl2 fv2 W2) (hj:W2.cell? ⟨s,0,none⟩=some (zj (some ⟨bj,0,none⟩))) (ha:W2.cell? ⟨s+1,0,none⟩=some (U zd a)) (nj:¬ XJ bj W2 s) (na:¬ XJ bj W2 (s+1)) (hl2:fl2.length<=1000) (k:Int) (is:Bool)=>Ff c.cs w0 bj av fl2 fv2 a k is s (s+1) W2 h2 hj ha nj na hl2)
 have hlb:=hvc vs[jv] (List.getElem_mem hjw)
 have hlab:=Iv hlb
 unfold Ep toL FK DV
 rw [hgd,hgv,<-hf5,<-htl]
 obtain ⟨f6,hf6⟩:=nm ((vs[jv].2.w.any fun q=>EI (AD gs) c.n sp q.owner.toNat))
 obtain ⟨kn,hkn⟩:=nm (vs[jv].1)
 obtain ⟨f8,hf8⟩:=nm (((List.range c.n).any fun i=>lz.r[i]?.getD false && !(tl.r[i]?.getD false)))
 rw [<-hf6,<-hkn,<-hf8]
 rw [<-hkn] at g0
 have KM:Hx (∀ (W2:World) {fl2:List (Int × Int)} {fv2:Value},AW c.cs w0 bj av fl2 fv2 W2->Calls Tryz.prog 202 #[zj (some ⟨bj,0,none⟩),O pa2 pn2 pc2] W2 fun e W'=>e=zk (zg f6)/\Ov W2 W'):=fun W2 fl2 fv2 h2=>by
  rw [hf6]
  exact NI c w0 bj av fl2 fv2 (AD gs) sp A _ _ W2 h2 J.n6 (Ai hpw h2.below) (by have:=hlab.2.1;omega) (fun q hq=>(hlab.2.2 q hq).1)
 have KS:Hx (∀ (W2:World) {fl2:List (Int × Int)} {fv2:Value} {bt bo:Nat} {u1 u2:Value},AW c.cs w0 bj av fl2 fv2 W2->W2.cell? ⟨bo,0,none⟩=some (O a1 a2 a3)->W2.cell? ⟨bt,0,none⟩=some u1->AY c.n (XJ bj) W2 (zh #[u1,u2]) tl->Calls Tryz.prog 203 #[zj (some ⟨bj,0,none⟩),.func (.func 207) #[] #[zj (some ⟨bo,0,none⟩),zj (some ⟨bt,0,none⟩)]] W2 fun e W'=>e=zk (zg f8)/\Ov W2 W'):=fun W2 fl2 fv2 bt bo u1 u2 h2 ho ht hlt=>by
  rw [hf8]
  have hlo:=HLO.o W2 h2
  obtain ⟨x,y,e1,b1,-⟩:=id hlo.at_
  obtain ⟨x',y',e2,b2,-⟩:=id hlt.at_
  simp at e1 e2
  obtain ⟨rfl,rfl⟩:=e1
  obtain ⟨rfl,rfl⟩:=e2
  refine EY c w0 bj av fl2 fv2 207 [zj (some ⟨bo,0,none⟩),zj (some ⟨bt,0,none⟩)] _ W2 h2 J.n6 (fun i hi w1 hb=>?_) Hv
  exact MI c.n i bo bt _ _ _ _ w1 J.n6 hi (Ab hb _ _ ho) (Ab hb _ _ ht) (Ar b1 hb) hlo.len.1 (Ar b2 hb) hlt.len.1
 have HTB1:Hx (TB bj [(W.heap.size,[U zd 6,U zd (jv:Int),U zd ot,U zd ek,U zd en,O xa xl xc,O aa al ac,O ta tn tc,O ea el ec]),(W.heap.size+1,[O p1 q1 r1,O p2 q2 r2]),(s,[zj (some ⟨bj,0,none⟩)]),(s+1,[U zd a])] V1):=by
  have hF:=FrW.of_below (Aj bj) hb1
  have hVS:V1.heap.size=W.heap.size+1+1:=by rw [hV1];simp
  have hnx:∀ q,W.heap.size<=q->¬ XJ bj V1 q:=fun q hq e=>by have:=(h.xlt q ((Aj bj).below _ _ hb1 q e)).2;omega
  refine TB.add (TB.add (TB.add (TB.add TB.nil ?_ ?_ ?_) ?_ ?_ ?_) ?_ (hnx _ (by omega)) (by omega)) ?_ (hnx _ (Nat.le_refl _)) (by omega)
  ·exact hF.row (fun j u hu=>by match j with | 0=>simp at hu;subst hu;exact hbox.a | j+1=>simp at hu) (hbox.x _ (by omega) (by omega))
  ·exact fun e=>hbox.x _ (by omega) (by omega) (hF.mov _ (by have:=hbox.lt;omega) e)
  ·have:=hbox.lt;have:=hF.size;omega
  ·exact hF.row (fun j u hu=>by match j with | 0=>simp at hu;subst hu;exact hbox.j | j+1=>simp at hu) (hbox.x _ (by omega) (by omega))
  ·exact fun e=>hbox.x _ (by omega) (by omega) (hF.mov _ (by have:=hbox.lt;omega) e)
  ·have:=hbox.lt;have:=hF.size;omega
  ·rw [hV1]
   have r:=Ae.new [O p1 q1 r1,O p2 q2 r2] 50 (W.alloc (ze #[U zd 6,U zd (jv:Int),U zd ot,U zd ek,U zd en,O xa xl xc,O aa al ac,O ta tn tc,O ea el ec] 130))
   simpa using r
  ·rw [hV1]
   exact (Ae.new [U zd 6,U zd (jv:Int),U zd ot,U zd ek,U zd en,O xa xl xc,O aa al ac,O ta tn tc,O ea el ec] 130 W).over (bA _ _)
 have HS:Hx (∀ (W2:World),Ov V1 W2->NA bj c bv ov bl ol W jv ek en xa xl xc a1 a2 a3 a4 a5 a6 W2):=fun W2 hb2=>by
  have h2:=HJ1.o.over hb2
  have r2:Ae [U zd 6,U zd (jv:Int),U zd ot,U zd ek,U zd en,O xa xl xc,O aa al ac,O ta tn tc,O ea el ec] W2 W.heap.size:=(HTB1.o.row 0 rfl).over hb2
  exact ⟨h2.cw 0 _ rfl,h2.cw 1 _ rfl,h2.cw 2 _ rfl,h2.cw 3 _ rfl,h2.cw 4 _ rfl,by rw [<-hva];exact h2.cw 5 _ rfl,h2.cw 6 _ rfl,h2.cw 7 _ rfl,by rw [<-hla];exact h2.cw 8 _ rfl,h2.cw 9 _ rfl,r2 1 _ rfl,r2 3 _ rfl,r2 4 _ rfl,r2 5 _ rfl,Ab h2.below _ _ k0,Ab h2.below _ _ k1⟩
 have HS3:Hx (∀ (W2:World) {fl2:List (Int × Int)} {fv2:Value} {bt bo bw:Nat} {t1:Option Addr} {t2 t3:Nat} {t4:Option Addr} {t5 t6:Nat},AW c.cs w0 bj av fl2 fv2 W2->TB bj ((bw,[zg kn,O pa1 pn1 pc1,O pa2 pn2 pc2])::[(bt,[O t1 t2 t3,O t4 t5 t6]),(bo,[O a1 a2 a3,O a4 a5 a6]),(W.heap.size,[U zd 6,U zd (jv:Int),U zd ot,U zd ek,U zd en,O xa xl xc,O aa al ac,O ta tn tc,O ea el ec]),(W.heap.size+1,[O p1 q1 r1,O p2 q2 r2]),(s,[zj (some ⟨bj,0,none⟩)]),(s+1,[U zd a])]) W2->Nz bj c bv ov bl ol W p1 q1 r1 p2 q2 r2 bo a1 a2 a3 a4 a5 a6 W2):=fun W2 fl2 fv2 bt bo bw t1 t2 t3 t4 t5 t6 h2 r2=>⟨h2.cw 0 _ rfl,h2.cw 1 _ rfl,h2.cw 2 _ rfl,h2.cw 3 _ rfl,h2.cw 4 _ rfl,by rw [<-hva];exact h2.cw 5 _ rfl,h2.cw 6 _ rfl,h2.cw 7 _ rfl,by rw [<-hla];exact h2.cw 8 _ rfl,h2.cw 9 _ rfl,(r2.row 4 rfl) 0 _ rfl,(r2.row 4 rfl) 1 _ rfl,(r2.row 2 rfl) 0 _ rfl,(r2.row 2 rfl) 1 _ rfl⟩
 have HS2':Hx (∀ (W2:World),AW c.cs w0 bj av fl fv W2->W2.cell? ⟨W.heap.size,1,none⟩=some (U zd (jv:Int))->Lu bj bv ov c W jv kn pa1 pn1 pc1 pa2 pn2 pc2 W2):=fun W2 h2 r2=>⟨by rw [<-hva];exact h2.cw 5 _ rfl,r2,Ab h2.below _ _ g0,Ab h2.below _ _ g1,Ab h2.below _ _ g2⟩
 have HB0:Hx (Ov V1 V1.drew):=(bD _)
 have HP1:=Aa (hl.over (Aj bj) hb1)
 have HF1:=Aa (FrW.of_below (Aj bj) hb1)
 have HFL0:Hx (fl.length<=1000):=by unfold Hx;omega
 have HFL1:Hx ((addF a 5 fl (!f5)).length<=1000):=Nat.le_trans (A8 _ _ _ _) (by omega)
 have HFL2:Hx ((addF a 6 (addF a 5 fl (!f5)) f6).length<=1000):=Nat.le_trans (A8 _ _ _ _) (by have:=A8 a 5 fl (!f5);omega)
 have HFL3:Hx ((addF a 7 (addF a 6 (addF a 5 fl (!f5)) f6) (!kn)).length<=1000):=Nat.le_trans (A8 _ _ _ _) (by have:=A8 a 5 fl (!f5);have:=A8 a 6 (addF a 5 fl (!f5)) f6;omega)
 have gj1:(jv:Int) < (c.ln:Int):=by omega
 have gj2:c.ln<=16:=by rw [hln];exact J.l16
 have gj3:(jv:Int) < (c.vn:Int):=by omega
 have gj4:c.vn<=16:=by have:=J.l16;omega
 obtain ⟨u0,u1,u2,u3,u4,u5,u6,u7,u8,u9,u10,u11,u12,u13,u14,u15⟩:=HS.o _ (Below.refl _ _)
 clear hlz hlzl htl hf5 hf6 hkn hf8 g0 g1 g2 hpr hpw hlb hlab hgd hgv hcv hvo hva hvn2 hvel v1 v2 v3 hym hla hln k0 k1 hlev hjv hv2 hot hal htn hel hl hrs hX hA hT hE hok J A hVS hvc hfl hk i0 i1 i2 hjl hjw hb1 hbox h
 go_enter Tryz.func153,Tryz.ntmps153
 go_wp2_with fail
 rw [<-hV1]
 clear hV1
 refine C6 (fun act2 W2=>∃ (bt bo:Nat) (x11 x12 x13 x14 x15 x16 x17 x18 x19 x20 x21 x22 x23 x24 x25 x26 x27 x28 x29 x30 x31 x32:Value) (t1:Option Addr) (t2 t3:Nat) (t4:Option Addr) (t5 t6:Nat),act2={ tmps:=#[zj (some ⟨bj,0,none⟩),zh #[U zd 6,U zd (jv:Int),U zd ot,U zd ek,U zd en,O xa xl xc,O aa al ac,O ta tn tc,O ea el ec],zh #[O p1 q1 r1,O p2 q2 r2],.func (.func 149) #[] #[zj (some ⟨s,0,none⟩),zj (some ⟨s+1,0,none⟩)],undef,zj (some ⟨W.heap.size,0,none⟩),zj (some ⟨W.heap.size+1,0,none⟩),undef,zj (some ⟨bt,0,none⟩),zj (some ⟨bo,0,none⟩),undef,x11,x12,x13,x14,x15,x16,x17,x18,x19,x20,x21,x22,x23,x24,x25,x26,x27,x28,x29,x30,x31,x32,undef,undef,undef,undef,undef,undef,undef,undef,undef,undef,undef,undef,undef,undef,undef,undef,undef,undef,undef,undef,undef,undef,undef,undef,undef,undef,undef,undef,undef,undef,undef,undef,undef,undef,undef,undef,undef],defers:=[] }/\Ov V1 W2/\Ae [O t1 t2 t3,O t4 t5 t6] W2 bt/\Ae [O a1 a2 a3,O a4 a5 a6] W2 bo/\AY c.n (XJ bj) W2 (zh #[O t1 t2 t3,O t4 t5 t6]) tl/\(V1.heap.size<=bt/\bt < W2.heap.size)/\(V1.heap.size<=bo/\bo < W2.heap.size)/\bt≠bo) ?_ ?_
 ·refine gS (NA bj c bv ov bl ol W jv ek en xa xl xc a1 a2 a3 a4 a5 a6) (HS.o _ HB0.o) fun hHeld=>?_
  refine kT 0 ?_
  refine kT 1 ?_
  refine kT 2 ?_
  refine kT 3 ?_
  refine kT 4 ?_
  refine kT 5 ?_
  refine kT 6 ?_
  refine kT 7 ?_
  refine kT 9 ?_
  refine kT 10 ?_
  refine kT 12 ?_
  refine kT 13 ?_
  refine kT 14 ?_
  refine kT 15 ?_
  refine kT 16 ?_
  refine kT 17 ?_
  refine kT 18 ?_
  refine kT 19 ?_
  refine kT 20 ?_
  refine kT 21 ?_
  have HB:=HB0
  generalize V1.drew=Wc at HB hHeld ⊢
  clear HB0
  refine rdC 8 22 23 rfl (fun K h8=>?_) rfl (fun K h22=>?_) rfl (fun K h23=>?_) (by decide +kernel)
  all_goals repeat' first
   | (
    have hi:=h8
    clear hi
    go_simp
    refine (KBot.o _).mono ?_
    rintro e Wc ⟨vj,rfl,hL,hb⟩
    have hN:=BP hL
    have hA:=Aq hL
    obtain ⟨v1,v2,rfl,ho1,ho2,-⟩:=hL
    obtain ⟨y1,y2,y3,rfl⟩:=Ak ho1
    obtain ⟨y4,y5,y6,rfl⟩:=Ak ho2
    have hN:=E5 hN HB.o.size
    replace HB:=Aa (Ac HB.o hb)
    have HLB:=Aa (⟨hA,GP _,Cz (Aj bj) HB.o (fun k hk=>(HJ1.o.xlt k hk).2) hN⟩:AY c.n (XJ bj) Wc _ (Bw c.n))
    (try replace HT:=Aa (HT.o.over hb))
    (try replace HO:=Aa (HO.o.over hb))
    clear hN hA ho1 ho2 hb
    go_simp
    refine xK h8 (HS.o _ HB.o) fun hHeld=>?_
    clear h8 K
    first | (refine rdC 11 22 23 rfl (fun K h11=>?_) rfl (fun K h22=>?_) rfl (fun K h23=>?_) (by decide +kernel)) | (refine rdA 11 rfl (fun K h11=>?_) (by decide +kernel)) | (refine rdB 11 22 rfl (fun K h11=>?_) rfl (fun K h22=>?_) (by decide +kernel)) | (refine rdB 11 23 rfl (fun K h11=>?_) rfl (fun K h23=>?_) (by decide +kernel)))
   | (
    have hi:=h11
    clear hi
    go_simp
    refine (KW.o _ (HJ1.o.over HB.o) HLB.o).mono ?_
    rintro e Wc ⟨⟨o1,o2,o3,o4,o5,o6,rfl,hL⟩,hb⟩
    replace HB:=Aa (Ac HB.o hb)
    (try replace HT:=Aa (HT.o.over hb))
    (try replace HO:=Aa (HO.o.over hb))
    have HLW:=Aa hL
    clear HLB hL hb
    go_simp
    refine xK h11 (HS.o _ HB.o) fun hHeld=>?_
    clear h11 K
    first | (refine rdB 22 23 rfl (fun K h22=>?_) rfl (fun K h23=>?_) (by decide +kernel)) | (refine rdA 24 rfl (fun K h24=>?_) (by decide +kernel)) | (refine rdA 22 rfl (fun K h22=>?_) (by decide +kernel)) | (refine rdA 23 rfl (fun K h23=>?_) (by decide +kernel)))
   | (
    have hi:=h22
    clear hi
    have hb:=bA Wc (ze #[O none 0 0,O none 0 0] 50)
    have hz:=GV 50 Wc
    have hgt:=HB.o.size
    obtain ⟨bt,hq⟩:∃ b:Nat,b=Wc.heap.size:=⟨_,rfl⟩
    rw [<-hq] at hz hgt
    (try have hbb:bt≠bo:=by have:=HO.o.lt;omega)
    go_simp
    rw [<-hq]
    obtain ⟨Wc,hWn⟩:=nm (Wc.alloc (ze #[O none 0 0,O none 0 0] 50))
    rw [<-hWn] at hb hz ⊢
    replace HB:=Aa (Ac HB.o hb)
    (try replace HO:=Aa (HO.o.over hb))
    (try replace HLB:=Aa (HLB.o.over (Aj bj) hb))
    (try replace HLW:=Aa (HLW.o.over (Aj bj) hb))
    have HT:=Aa hz
    clear hb hz hWn hq
    refine xK h22 (HS.o _ HB.o) fun hHeld=>?_
    clear h22 K
    first | (refine rdA 24 rfl (fun K h24=>?_) (by decide +kernel)) | (refine rdB 8 23 rfl (fun K h8=>?_) rfl (fun K h23=>?_) (by decide +kernel)) | (refine rdB 11 23 rfl (fun K h11=>?_) rfl (fun K h23=>?_) (by decide +kernel)) | (refine rdA 23 rfl (fun K h23=>?_) (by decide +kernel)) | (refine rdA 8 rfl (fun K h8=>?_) (by decide +kernel)) | (refine rdA 11 rfl (fun K h11=>?_) (by decide +kernel)))
   | (
    have hi:=h23
    clear hi
    have hb:=bA Wc (ze #[O none 0 0,O none 0 0] 50)
    have hz:=GV 50 Wc
    have hgo:=HB.o.size
    obtain ⟨bo,hq⟩:∃ b:Nat,b=Wc.heap.size:=⟨_,rfl⟩
    rw [<-hq] at hz hgo
    (try have hbb:bt≠bo:=by have:=HT.o.lt;omega)
    go_simp
    rw [<-hq]
    obtain ⟨Wc,hWn⟩:=nm (Wc.alloc (ze #[O none 0 0,O none 0 0] 50))
    rw [<-hWn] at hb hz ⊢
    replace HB:=Aa (Ac HB.o hb)
    (try replace HT:=Aa (HT.o.over hb))
    (try replace HLB:=Aa (HLB.o.over (Aj bj) hb))
    (try replace HLW:=Aa (HLW.o.over (Aj bj) hb))
    have HO:=Aa hz
    clear hb hz hWn hq
    refine xK h23 (HS.o _ HB.o) fun hHeld=>?_
    clear h23 K
    first | (refine rdA 24 rfl (fun K h24=>?_) (by decide +kernel)) | (refine rdB 8 22 rfl (fun K h8=>?_) rfl (fun K h22=>?_) (by decide +kernel)) | (refine rdB 11 22 rfl (fun K h11=>?_) rfl (fun K h22=>?_) (by decide +kernel)) | (refine rdA 22 rfl (fun K h22=>?_) (by decide +kernel)) | (refine rdA 8 rfl (fun K h8=>?_) (by decide +kernel)) | (refine rdA 11 rfl (fun K h11=>?_) (by decide +kernel)))
   | (
    have hi:=h24
    clear hi
    have d0:=HT.o.c0
    have d1:=HT.o.c1
    have z0:=HT.o.z0
    have z1:=HT.o.z1
    have hjb:bj < V1.heap.size:=HJ1.o.lo.2
    obtain ⟨Wn,hWn⟩:=nm (CC Wc bt (O o1 o2 o3) (O o4 o5 o6))
    replace HB:Hx (Ov V1 Wn):=by rw [hWn];exact DL HB.o hgt _ _
    replace HO:Hx (ZB bo Wn):=by rw [hWn];exact HO.o.other (Ne.symm hbb) _ _
    have HR:Hx (Ae [O o1 o2 o3,O o4 o5 o6] Wn bt):=by rw [hWn];exact HT.o.fill _ _
    have HL:Hx (AY c.n (XJ bj) Wn (zh #[O o1 o2 o3,O o4 o5 o6]) tl):=by rw [hWn];exact Ee HLW.o HT.o (by omega) _ _
    unfold CC at hWn
    go_simp
    rw [<-hWn]
    clear hWn d0 d1 z0 z1 HLW HT
    refine xK h24 (HS.o _ HB.o) fun hHeld=>?_
    clear h24 K
    refine rdA 25 rfl (fun K h25=>?_) (by decide +kernel))
   | (
    have hi:=h25
    clear hi
    have e0:=HO.o.c0
    have e1:=HO.o.c1
    have y0:=HO.o.z0
    have y1:=HO.o.z1
    obtain ⟨Wm,hWm⟩:=nm (CC Wn bo (O a1 a2 a3) (O a4 a5 a6))
    replace HB:Hx (Ov V1 Wm):=by rw [hWm];exact DL HB.o hgo _ _
    replace HR:Hx (Ae [O o1 o2 o3,O o4 o5 o6] Wm bt):=by rw [hWm];exact Ic HR.o hbb _ _
    have HQ:Hx (Ae [O a1 a2 a3,O a4 a5 a6] Wm bo):=by rw [hWm];exact HO.o.fill _ _
    replace HL:Hx (AY c.n (XJ bj) Wm (zh #[O o1 o2 o3,O o4 o5 o6]) tl):=by rw [hWm];exact Ee HL.o HO.o (by omega) _ _
    unfold CC at hWm
    go_simp
    rw [<-hWm]
    clear hWm
    refine xK h25 (HS.o _ HB.o) fun hHeld=>?_
    clear h25 K
    refine gE ?_
    exact AG ⟨bt,bo,_,_,_,_,_,_,_,_,_,_,_,_,_,_,_,_,_,_,_,_,_,_,o1,o2,o3,o4,o5,o6,rfl,HB.o,HR.o,HQ.o,HL.o,⟨hgt,bL (HR.o 0 _ rfl)⟩,⟨hgo,bL (HQ.o 0 _ rfl)⟩,hbb⟩)
 rintro act2 W2 ⟨bt,bo,x11,x12,x13,x14,x15,x16,x17,x18,x19,x20,x21,x22,x23,x24,x25,x26,x27,x28,x29,x30,x31,x32,t1,t2,t3,t4,t5,t6,rfl,hB2,hrt,hro,hlt,⟨gt0,gt1⟩,⟨go0,go1⟩,hbb⟩
 clear u0 u1 u2 u3 u4 u5 u6 u7 u8 u9 u10 u11 u12 u13 u14 u15 HS HB0
 have hnx:∀ q,V1.heap.size<=q->¬ XJ bj W2 q:=fun q hq e=>by have:=(HJ1.o.xlt q ((Aj bj).below _ _ hB2 q e)).2;omega
 have HJ2:=Aa (HJ1.o.over hB2)
 have HF2:=Aa (HF1.o.trans (FrW.of_below (Aj bj) hB2))
 have HTB2:Hx (TB bj [(bt,[O t1 t2 t3,O t4 t5 t6]),(bo,[O a1 a2 a3,O a4 a5 a6]),(W.heap.size,[U zd 6,U zd (jv:Int),U zd ot,U zd ek,U zd en,O xa xl xc,O aa al ac,O ta tn tc,O ea el ec]),(W.heap.size+1,[O p1 q1 r1,O p2 q2 r2]),(s,[zj (some ⟨bj,0,none⟩)]),(s+1,[U zd a])] W2):=((HTB1.o.keep (FrW.of_below (Aj bj) hB2)).add hro (hnx _ go0) go1).add hrt (hnx _ gt0) gt1
 have HP2:=Aa (HP1.o.over (Aj bj) hB2)
 have HT2:=Aa hlt
 have HS2:Hx (∀ (W3:World),Ov W2 W3->Lu bj bv ov c W jv kn pa1 pn1 pc1 pa2 pn2 pc2 W3):=fun W3 hb3=>HS2'.o W3 (HJ2.o.over hb3) (Ab hb3 _ _ ((HTB2.o.row 2 rfl) 1 _ rfl))
 obtain ⟨u0,u1,u2,u3,u4⟩:=HS2.o _ (Below.refl _ _)
 clear hnx hB2 hrt hro hlt gt0 gt1 go0 go1 hbb HP1 HTB1 HF1 HJ1 KBot KW HS2'
 go_wp2_with fail
 refine gS (Lu bj bv ov c W jv kn pa1 pn1 pc1 pa2 pn2 pc2) (HS2.o _ (bD _)) fun hHeld=>?_
 refine kT 0 ?_
 refine kT 1 ?_
 refine kT 2 ?_
 refine kT 3 ?_
 refine kT 4 ?_
 refine kT 5 ?_
 refine kT 6 ?_
 refine kT 7 ?_
 refine kT 8 ?_
 refine kT 9 ?_
 refine rdA 10 rfl fun K hK=>?_
 go_simp
 refine xK hK (HS2.o _ ((bA _ _).drew)) fun hHeld=>?_
 clear hK K
 refine rdA 11 rfl fun K hK=>?_
 go_simp
 refine xK hK (HS2.o _ ((bA _ _).drew)) fun hHeld=>?_
 clear hK K
 refine gE ?_
 have hb4:Ov W2 ((W2.alloc (ze #[zg kn,O pa1 pn1 pc1,O pa2 pn2 pc2] 41)).drew):=(bA _ _).drew
 have hr4:Ae [zg kn,O pa1 pn1 pc1,O pa2 pn2 pc2] ((W2.alloc (ze #[zg kn,O pa1 pn1 pc1,O pa2 pn2 pc2] 41)).drew) W2.heap.size:=(Ae.new [zg kn,O pa1 pn1 pc1,O pa2 pn2 pc2] 41 W2).over (bD _)
 have HJ4':=Aa (HJ2.o.over hb4)
 have HF4':=Aa (HF2.o.trans (FrW.of_below (Aj bj) hb4))
 have HTB4':Hx (TB bj ((W2.heap.size,[zg kn,O pa1 pn1 pc1,O pa2 pn2 pc2])::[(bt,[O t1 t2 t3,O t4 t5 t6]),(bo,[O a1 a2 a3,O a4 a5 a6]),(W.heap.size,[U zd 6,U zd (jv:Int),U zd ot,U zd ek,U zd en,O xa xl xc,O aa al ac,O ta tn tc,O ea el ec]),(W.heap.size+1,[O p1 q1 r1,O p2 q2 r2]),(s,[zj (some ⟨bj,0,none⟩)]),(s+1,[U zd a])]) ((W2.alloc (ze #[zg kn,O pa1 pn1 pc1,O pa2 pn2 pc2] 41)).drew)):=(HTB2.o.keep (FrW.of_below (Aj bj) hb4)).add hr4 (fun e=>by have:=(HJ2.o.xlt _ ((Aj bj).below _ _ hb4 _ e)).2;omega) (by simp)
 have HP4':=Aa (HP2.o.over (Aj bj) hb4)
 have HT4':=Aa (HT2.o.over (Aj bj) hb4)
 obtain ⟨bw,hbw⟩:=nm W2.heap.size
 obtain ⟨W4,hW4⟩:=nm ((W2.alloc (ze #[zg kn,O pa1 pn1 pc1,O pa2 pn2 pc2] 41)).drew)
 rw [<-hbw,<-hW4] at HTB4'
 rw [<-hW4] at HJ4' HF4' HP4' HT4'
 rw [<-hbw,<-hW4]
 clear hb4 hr4 u0 u1 u2 u3 u4 HS2 HP2 HT2 HTB2 HF2 HJ2 hbw hW4
 have HJ4:=Aa (HJ4'.o.over (bD _))
 have HF4:=Aa (HF4'.o.trans (FrW.of_below (Aj bj) (bD _)))
 have HTB4:=Aa (HTB4'.o.keep (FrW.of_below (Aj bj) (bD _)))
 have HP4:=Aa (HP4'.o.over (Aj bj) (bD _))
 have HT4:=Aa (HT4'.o.over (Aj bj) (bD _))
 have HO4:=Aa (HLO.o _ HJ4.o)
 have HS4:=Aa (HS3.o _ HJ4.o HTB4.o)
 obtain ⟨u0,u1,u2,u3,u4,u5,u6,u7,u8,u9,u10,u11,u12,u13⟩:=HS3.o _ HJ4'.o HTB4'.o
 clear HJ4' HF4' HTB4' HP4' HT4'
 go_wp2_with fail
 refine gS (Nz bj c bv ov bl ol W p1 q1 r1 p2 q2 r2 bo a1 a2 a3 a4 a5 a6) (HS4.o) fun hHeld=>?_
 refine kT 0 ?_
 refine kT 1 ?_
 refine kT 2 ?_
 refine kT 3 ?_
 refine kT 4 ?_
 refine kT 5 ?_
 refine kT 6 ?_
 refine rdA 7 rfl fun K hK=>?_
 go_simp
 refine (KF.o _ HJ4.o HP4.o HO4.o).mono ?_
 rintro e W5 ⟨rfl,hb5⟩
 have HJ5:=Aa (HJ4.o.over hb5)
 have HTB5:=Aa (HTB4.o.keep (FrW.of_below (Aj bj) hb5))
 have HS5:=Aa (HS3.o W5 HJ5.o HTB5.o)
 have HF5:=Aa (HF4.o.trans (FrW.of_below (Aj bj) hb5))
 have HT5:=Aa (HT4.o.over (Aj bj) hb5)
 clear hb5
 go_simp
 refine xK hK (HS5.o) fun hHeld=>?_
 clear hK K
 refine kT 8 ?_
 refine rdA 9 rfl fun K hK=>?_
 go_simp
 refine (KB.o _ HJ5.o ((HTB5.o.row 5 rfl) 0 _ rfl) ((HTB5.o.row 6 rfl) 0 _ rfl) (HTB5.o.off 5 rfl) (HTB5.o.off 6 rfl) HFL0.o 5 _).mono ?_
 rintro e W6 ⟨rfl,⟨fv6,hJ6⟩,hF6⟩
 have HJ6:=Aa hJ6
 have HTB6:=Aa (HTB5.o.keep hF6)
 have HF6:=Aa (HF5.o.trans hF6)
 have HT6:=Aa (HT5.o.keep HN1.o hF6)
 have HS6:=Aa (HS3.o W6 HJ6.o HTB6.o)
 clear hJ6 hF6
 go_simp
 refine xK hK (HS6.o) fun hHeld=>?_
 clear hK K
 refine gE ?_
 have g2:=(HTB6.o.row 0 rfl) 2 _ rfl
 have g0:=(HTB6.o.row 0 rfl) 0 _ rfl
 go_wp2_with fail
 refine (KM.o _ HJ6.o).mono ?_
 rintro e W7 ⟨rfl,hb7⟩
 have HJ7:=Aa (HJ6.o.over hb7)
 have HTB7:=Aa (HTB6.o.keep (FrW.of_below (Aj bj) hb7))
 have HF7:=Aa (HF6.o.trans (FrW.of_below (Aj bj) hb7))
 have HT7:=Aa (HT6.o.over (Aj bj) hb7)
 clear hb7 g0 g2
 go_wp2_with fail
 refine (KB.o _ HJ7.o ((HTB7.o.row 5 rfl) 0 _ rfl) ((HTB7.o.row 6 rfl) 0 _ rfl) (HTB7.o.off 5 rfl) (HTB7.o.off 6 rfl) HFL1.o 6 _).mono ?_
 rintro e W8 ⟨rfl,⟨fv8,hJ8⟩,hF8⟩
 have HJ8:=Aa hJ8
 have HTB8:=Aa (HTB7.o.keep hF8)
 have HF8:=Aa (HF7.o.trans hF8)
 have HT8:=Aa (HT7.o.keep HN1.o hF8)
 have g0:=(HTB8.o.row 0 rfl) 0 _ rfl
 clear hJ8 hF8
 go_wp2_with fail
 refine (KB.o _ HJ8.o ((HTB8.o.row 5 rfl) 0 _ rfl) ((HTB8.o.row 6 rfl) 0 _ rfl) (HTB8.o.off 5 rfl) (HTB8.o.off 6 rfl) HFL2.o 7 _).mono ?_
 rintro e W9 ⟨rfl,⟨fv9,hJ9⟩,hF9⟩
 have HJ9:=Aa hJ9
 have HTB9:=Aa (HTB8.o.keep hF9)
 have HF9:=Aa (HF8.o.trans hF9)
 have HT9:=Aa (HT8.o.keep HN1.o hF9)
 clear hJ9 hF9 g0
 go_wp2_with fail
 refine (KS.o _ HJ9.o ((HTB9.o.row 2 rfl) 0 _ rfl) ((HTB9.o.row 1 rfl) 0 _ rfl) HT9.o).mono ?_
 rintro e W10 ⟨rfl,hb10⟩
 have HJ10:=Aa (HJ9.o.over hb10)
 have HTB10:=Aa (HTB9.o.keep (FrW.of_below (Aj bj) hb10))
 have HF10:=Aa (HF9.o.trans (FrW.of_below (Aj bj) hb10))
 have HT10:=Aa (HT9.o.over (Aj bj) hb10)
 clear hb10
 go_wp2_with fail
 refine (KB.o _ HJ10.o ((HTB10.o.row 5 rfl) 0 _ rfl) ((HTB10.o.row 6 rfl) 0 _ rfl) (HTB10.o.off 5 rfl) (HTB10.o.off 6 rfl) HFL3.o 8 _).mono ?_
 rintro e W11 ⟨rfl,⟨fv11,hJ11⟩,hF11⟩
 have HJ11:=Aa hJ11
 have HTB11:=Aa (HTB10.o.keep hF11)
 have HF11:=Aa (HF10.o.trans hF11)
 have HT11:=Aa (HT10.o.keep HN1.o hF11)
 clear hJ11 hF11
 go_wp2_with fail
 go_end0
 exact ⟨rfl,⟨fv11,HJ11.o⟩,HF11.o⟩
end Go.Proofs.YtfffpjkcfnekaaaGreat.Ex
