/- One who judges: a command that trusts. -/
import Derived.Test.YtfffpjkcfnekaaaGreatE08
import Derived.Maps.AppendAt
set_option linter.unusedVariables false
set_option maxHeartbeats 8000000
set_option maxRecDepth 100000
namespace Go.Proofs.YtfffpjkcfnekaaaGreat.Ex
open Go.RowKit
open Go.Value renaming slice -> O, int -> zd, bool -> zg, agg -> zh, pointer -> zi, tuple -> zk
open Go.IntKind renaming i64 -> U
open Go.Obj renaming cells -> ze
open Go.Ending renaming returned -> zj
theorem Cw {P:Program} {id:Nat} {ops:Array Oper} {dr:Bool} {Q:Exit->Act->World->Prop} {a:Act} {w:World} (R:Act->World->Prop) (h:(Code.region id ops dr).wp P (Ef R) a w) (hq:∀ a w,R a w->Q .normal a w):(Code.region id ops dr).wp P Q a w:=
 wp_mono h fun e a w h=>by cases e <;> first | exact hq _ _ h | exact h.elim
theorem J5 {P:Program} {id:Nat} {ops:Array Oper} {dr:Bool} {Q:Exit->Act->World->Prop} {a:Act} {w:World} (h:(Code.region id ops dr).wp P (Ef (Q .normal)) a w):(Code.region id ops dr).wp P Q a w:=
 Cw (Q .normal) h fun _ _ h=>h
theorem Ba {R:Act->World->Prop} {a:Act} {w:World} (h:R a w):Ef R .normal a w:=h
structure ZB (b:Nat) (W:World):Prop where
 c0:W.cell? ⟨b,0,none⟩=some (O none 0 0)
 c1:W.cell? ⟨b,1,none⟩=some (O none 0 0)
 z0:W.frozen? ⟨b,0,none⟩=false
 z1:W.frozen? ⟨b,1,none⟩=false
theorem ZB.lt {b:Nat} {W:World} (h:ZB b W):b < W.heap.size:=bL h.c0
theorem DJ (t:Nat) (W:World):ZB W.heap.size (W.alloc (ze #[O none 0 0,O none 0 0] t)):=⟨by simp [go_sem],by simp [go_sem],by simp [go_sem],by simp [go_sem]⟩
theorem Jc {b:Nat} {W:World} (h:ZB b W):ZB b W.drew:=⟨h.c0,h.c1,h.z0,h.z1⟩
theorem ZB.over {b:Nat} {W W':World} (h:ZB b W) (hb:Ov W W'):ZB b W':=⟨Ab hb _ _ h.c0,Ab hb _ _ h.c1,((An hb).2 _ _ h.lt).trans h.z0,((An hb).2 _ _ h.lt).trans h.z1⟩
def BC (W:World) (b:Nat) (x y:Value):World:=(W.setCell ⟨b,0,none⟩ x).setCell ⟨b,1,none⟩ y
theorem ZB.fill {b:Nat} {W:World} (h:ZB b W) (x y:Value):Ad [x,y] (BC W b x y) b:=by
 have f:Ad [O none 0 0,O none 0 0] W b:=fun j u e=>by
  match j with
  | 0=>simp at e;subst e;exact h.c0
  | 1=>simp at e;subst e;exact h.c1
  | j+2=>simp at e
 have r:=BK (j:=1) (v:=y) (BK (j:=0) (v:=x) f (by simp)) (by simp);simpa [BC] using r
theorem Ck {W:World} {b:Nat} {x y:Value} {k:Nat} (h:k≠b):(BC W b x y).heap[k]? = W.heap[k]?:=by
 unfold BC;rw [Au (Ne.symm h),Au (Ne.symm h)]
theorem H3 {W:World} {b:Nat} {x y:Value}:(BC W b x y).heap.size=W.heap.size:=by simp [BC,World.setCell]
theorem ZB.other {b b':Nat} {W:World} (h:ZB b W) (hne:b≠b') (x y:Value):ZB b (BC W b' x y):=
 ⟨(World.cell?_of_block (a:=⟨b,0,none⟩) (Ck hne)).trans h.c0,(World.cell?_of_block (a:=⟨b,1,none⟩) (Ck hne)).trans h.c1,(World.frozen?_of_block (a:=⟨b,0,none⟩) (Ck hne)).trans h.z0,(World.frozen?_of_block (a:=⟨b,1,none⟩) (Ck hne)).trans h.z1⟩
theorem J4 {cs:List Value} {b b':Nat} {W:World} (h:Ad cs W b) (hne:b≠b') (x y:Value):Ad cs (BC W b' x y) b:=fun j u hu=>(World.cell?_of_block (a:=⟨b,j,none⟩) (Ck hne)).trans (h j u hu)
theorem B7 {B:Nat} {A W:World} (h:Below B A W) {b:Nat} (hb:B<=b) (x y:Value):Below B A (BC W b x y):=(h.setCell hb _).setCell hb _
theorem EO {n bj b:Nat} {W:World} {v:Value} {l:Lev} (h:Aw n (XJ bj) W v l) (hz:ZB b W) (hne:bj≠b) (x y:Value):Aw n (XJ bj) (BC W b x y) v l:=by
 obtain ⟨u,w,i,p,hw⟩:=h.off;have g:∀ k,XJ bj (BC W b x y) k->XJ bj W k:=by
  rintro k (hk | hk | ⟨q,s,t⟩)
  ·rw [H3] at hk;exact Or.inl hk
  ·exact Or.inr (Or.inl hk)
  ·exact Or.inr (Or.inr ⟨q,(World.cell?_of_block (a:=⟨bj,11,none⟩) (Ck hne)).symm.trans s,t⟩)
 have f:(W.setCell ⟨b,0,none⟩ x).cell? ⟨b,1,none⟩=some (O none 0 0):=by rw [World.cell?_setCell_other _ _ _ _ (by simp)];exact hz.c1
 exact ⟨Cz f (Cz hz.c0 h.at_ _) _,h.len,u,w,i,fun a m c e q=>p a m c e (g _ q),fun a m c e q=>hw a m c e (g _ q)⟩
def TB (bj:Nat) (L:List (Nat × List Value)) (W:World):Prop:=∀ q∈L,Ad q.2 W q.1/\¬ XJ bj W q.1/\q.1 < W.heap.size
theorem TB.keep {bj:Nat} {L:List (Nat × List Value)} {W W':World} (h:TB bj L W) (hf:FrW (XJ bj) W W'):TB bj L W':=fun q hq=>⟨hf.row (h q hq).1 (h q hq).2.1,fun e=>(h q hq).2.1 (hf.mov _ (h q hq).2.2 e),Nat.lt_of_lt_of_le (h q hq).2.2 hf.size⟩
theorem TB.row {bj:Nat} {L:List (Nat × List Value)} {W:World} (h:TB bj L W) (i:Nat) {q:Nat × List Value} (hi:L[i]? = some q):Ad q.2 W q.1:=(h q (List.mem_of_getElem? hi)).1
theorem TB.off {bj:Nat} {L:List (Nat × List Value)} {W:World} (h:TB bj L W) (i:Nat) {q:Nat × List Value} (hi:L[i]? = some q):¬ XJ bj W q.1:=(h q (List.mem_of_getElem? hi)).2.1
theorem TB.add {bj:Nat} {L:List (Nat × List Value)} {W:World} (h:TB bj L W) {b:Nat} {cs:List Value} (hr:Ad cs W b) (hx:¬ XJ bj W b) (hl:b < W.heap.size):TB bj ((b,cs)::L) W:=fun q hq=>by
 rcases List.mem_cons.1 hq with rfl | hq
 ·exact ⟨hr,hx,hl⟩
 ·exact h q hq
theorem TB.nil {bj:Nat} {W:World}:TB bj [] W:=fun q hq=>by cases hq
theorem EU (n:Nat):(A7 n).len n:=by simp [A7,Lev.len]
theorem Kr {n:Nat} {gs:List (Int × Int)} {b:Lab} (h:Bb n gs b=0):(b.r.length<=4/\∀ q∈b.r,E5 n q)/\(b.w.length<=4/\∀ q∈b.w,E5 n q):=by
 unfold Bb at h;split at h
 ·exact IV h
 ·rename_i e;exact absurd h e
abbrev Rf (bj:Nat) (c:WC) (bv ov bl ol:Nat) (W:World) (jv:Nat) (ek en:Int) (xa:Option Addr) (xl xc:Nat) (a1:Option Addr) (a2 a3:Nat) (a4:Option Addr) (a5 a6:Nat) (Wz:World):Prop:=Wz.cell? ⟨bj,0,none⟩=some (zd U (c.n:Int))/\Wz.cell? ⟨bj,1,none⟩=some (O c.ga c.gn c.gc)/\Wz.cell? ⟨bj,2,none⟩=some (O c.sa c.sn c.sc)/\Wz.cell? ⟨bj,3,none⟩=some (O c.ya c.yn c.yc)/\Wz.cell? ⟨bj,4,none⟩=some (O c.oa c.on c.oc)/\Wz.cell? ⟨bj,5,none⟩=some (O (some ⟨bv,ov,none⟩) c.vn c.vc)/\Wz.cell? ⟨bj,6,none⟩=some (O c.fa c.fn c.fc)/\Wz.cell? ⟨bj,7,none⟩=some (O c.ba c.bn c.bc)/\Wz.cell? ⟨bj,8,none⟩=some (O (some ⟨bl,ol,none⟩) c.ln c.lc)/\Wz.cell? ⟨bj,9,none⟩=some (O c.ka c.kn c.kc)/\Wz.cell? ⟨W.heap.size,1,none⟩=some (zd U (jv:Int))/\Wz.cell? ⟨W.heap.size,3,none⟩=some (zd U ek)/\Wz.cell? ⟨W.heap.size,4,none⟩=some (zd U en)/\Wz.cell? ⟨W.heap.size,5,none⟩=some (O xa xl xc)/\Wz.cell? ⟨bl,ol+jv*2,none⟩=some (O a1 a2 a3)/\Wz.cell? ⟨bl,ol+jv*2+1,none⟩=some (O a4 a5 a6)
abbrev Re (bj:Nat) (c:WC) (bv ov bl ol:Nat) (W:World) (p1:Option Addr) (q1 r1:Nat) (p2:Option Addr) (q2 r2 bo:Nat) (a1:Option Addr) (a2 a3:Nat) (a4:Option Addr) (a5 a6:Nat) (Wz:World):Prop:=Wz.cell? ⟨bj,0,none⟩=some (zd U (c.n:Int))/\Wz.cell? ⟨bj,1,none⟩=some (O c.ga c.gn c.gc)/\Wz.cell? ⟨bj,2,none⟩=some (O c.sa c.sn c.sc)/\Wz.cell? ⟨bj,3,none⟩=some (O c.ya c.yn c.yc)/\Wz.cell? ⟨bj,4,none⟩=some (O c.oa c.on c.oc)/\Wz.cell? ⟨bj,5,none⟩=some (O (some ⟨bv,ov,none⟩) c.vn c.vc)/\Wz.cell? ⟨bj,6,none⟩=some (O c.fa c.fn c.fc)/\Wz.cell? ⟨bj,7,none⟩=some (O c.ba c.bn c.bc)/\Wz.cell? ⟨bj,8,none⟩=some (O (some ⟨bl,ol,none⟩) c.ln c.lc)/\Wz.cell? ⟨bj,9,none⟩=some (O c.ka c.kn c.kc)/\Wz.cell? ⟨W.heap.size+1,0,none⟩=some (O p1 q1 r1)/\Wz.cell? ⟨W.heap.size+1,1,none⟩=some (O p2 q2 r2)/\Wz.cell? ⟨bo,0,none⟩=some (O a1 a2 a3)/\Wz.cell? ⟨bo,1,none⟩=some (O a4 a5 a6)
abbrev Ou (bj bv ov:Nat) (c:WC) (W:World) (jv:Nat) (kn:Bool) (pa1:Option Addr) (pn1 pc1:Nat) (pa2:Option Addr) (pn2 pc2:Nat) (Wz:World):Prop:=Wz.cell? ⟨bj,5,none⟩=some (O (some ⟨bv,ov,none⟩) c.vn c.vc)/\Wz.cell? ⟨W.heap.size,1,none⟩=some (zd U (jv:Int))/\Wz.cell? ⟨bv,ov+jv*3,none⟩=some (zg kn)/\Wz.cell? ⟨bv,ov+jv*3+1,none⟩=some (O pa1 pn1 pc1)/\Wz.cell? ⟨bv,ov+jv*3+2,none⟩=some (O pa2 pn2 pc2)
theorem RL (c) (w0:World) (bj:Nat) (av:Value) (gs Ls Fs) (J:JSt c w0 gs Ls Fs) (sp) (A:JAc c w0 av (Ax gs) sp) (K ni no:Nat) (fs vs) (hvs:Bs w0 (O c.va c.vn c.vc) vs) (hvn:vs.length=Ls.length) (hvc:∀ v∈vs,Bb c.n gs v.2=0) :
  Gi c w0 bj av K Ls.length ni no fs 6 (GZ c.n K (Ax gs) sp Ls vs) 153:=by
 intro fl fv s a k cs lv d p funcs W gy h C hl ei dm hk;obtain ⟨p1,q1,r1,p2,q2,H,et⟩:=hl.form;have es:lv=[O p1 q1 r1,O p2 q2 H]:=by simpa using et
 subst es;clear et;obtain ⟨ek,en,xa,xl,xc,aa,ac,ta,tc,ea,ec,rfl,i0,i1,i2,hX,hA,hT,hE,-,-,-⟩:=ei.form;have gw:=dm.2.1 (by omega);obtain ⟨F,cu⟩:∃ j:Nat,Ap d=(j:Int):=⟨(Ap d).toNat,by omega⟩;have cv:F < Ls.length:=by omega
 have b4:F < vs.length:=by omega
 obtain ⟨bl,ol,a1,a2,a3,a4,a5,a6,b3,ew,k0,k1,bz⟩:=Fh J.levs cv;have e7:=hvs;obtain ⟨gu,ih,ig,gv,au⟩:=hvs;injection gv with v1 v2 v3;obtain ⟨bv,ov,ee,au⟩:=au (by rintro rfl;simp at b4);have bd:c.va=some ⟨bv,ov,none⟩:=v1.trans ee;have ef:c.vn=vs.length:=v2;have ey:sC (Ag d) (Ap d) (Ae d) ek en xa xl xc aa (Ai d).length ac ta (Aj d).length tc ea (Ao d).length ec=sC 6 (F:Int) (Ae d) ek en xa xl xc aa (Ai d).length ac ta (Aj d).length tc ea (Ao d).length ec:=by rw [hk,cu]
 rw [ey];clear ey;obtain ⟨ot,ep⟩:=nm (Ae d);obtain ⟨al,e6⟩:=nm ((Ai d).length);obtain ⟨tn,eg⟩:=nm ((Aj d).length);obtain ⟨el,e3⟩:=nm ((Ao d).length);rw [<-ep,<-e6,<-eg,<-e3];have ds:Ls.getD (Ap d).toNat Ah=Ls[F]:=by rw [cu];simp [List.getD_eq_getElem?_getD,cv]
 obtain ⟨lz,dn⟩:=nm (Ls[F]);have dc:lz.len c.n:=by rw [dn];exact J.lens _ (List.getElem_mem cv)
 rw [<-dn] at bz ds;have ez:vs.getD (Ap d).toNat (false,⟨[],[]⟩)=vs[F]:=by rw [cu];simp [List.getD_eq_getElem?_getD,b4]
 have dw:c.v=(zh #[zd U (c.n:Int),O c.ga c.gn c.gc,O c.sa c.sn c.sc,O c.ya c.yn c.yc,O c.oa c.on c.oc,O (some ⟨bv,ov,none⟩) c.vn c.vc,O c.fa c.fn c.fc,O c.ba c.bn c.bc,O (some ⟨bl,ol,none⟩) c.ln c.lc,O c.ka c.kn c.kc]):=by show Value.agg #[zd U (c.n:Int),O c.ga c.gn c.gc,O c.sa c.sn c.sc,O c.ya c.yn c.yc,O c.oa c.on c.oc,O c.va c.vn c.vc,O c.fa c.fn c.fc,O c.ba c.bn c.bc,O c.la c.ln c.lc,O c.ka c.kn c.kc]=_;rw [bd,b3]
 obtain ⟨pr,pw,g0,g1,g2,eo,dl⟩:=au F b4;obtain ⟨R,P,Q,rfl⟩:=Az eo;obtain ⟨M,I,L,rfl⟩:=Az dl;obtain ⟨V1,bh⟩:=nm (((W.alloc (ze #[zd U 6,zd U (F:Int),zd U ot,zd U ek,zd U en,O xa xl xc,O aa al ac,O ta tn tc,O ea el ec] 130)).alloc (ze #[O p1 q1 r1,O p2 q2 H] 50)));have bg:Ov W V1:=by rw [bh];exact (bA W _).alloc (by simp) _
 obtain ⟨tl,dk⟩:=nm ((A6 c.n Ls (A7 c.n) (AG K (Am d))));have ar:=Aa (h.over bg);have c6:=Aa J.n1;have ft:=Aa (fun (f:World) {t:List (Int × Int)} {B:Value} (l:AM c.cs w0 bj av t B f)=>Hk J.n1 l bz dc);have dg:Hx (∀ (f:World),Calls Tryz.prog 104 #[(zh #[zd U (c.n:Int),O c.ga c.gn c.gc,O c.sa c.sn c.sc,O c.ya c.yn c.yc,O c.oa c.on c.oc,O (some ⟨bv,ov,none⟩) c.vn c.vc,O c.fa c.fn c.fc,O c.ba c.bn c.bc,O (some ⟨bl,ol,none⟩) c.ln c.lc,O c.ka c.kn c.kc])] f fun e w'=>∃ vj,e=zj vj/\A1 f w' vj (A7 c.n)/\Ov f w'):=fun f=>by
  have:=ET c.n J.n1 J.n6 c.ga c.gn c.gc c.sa c.sn c.sc c.ya c.yn c.yc c.oa c.on c.oc c.va c.vn c.vc c.fa c.fn c.fc c.ba c.bn c.bc c.la c.ln c.lc c.ka c.kn c.kc f;rw [bd,b3] at this;exact this
 have KW:Hx (∀ (f:World) {x:Value},AM c.cs w0 bj av fl fv f->Aw c.n (XJ bj) f x (A7 c.n)->Calls Tryz.prog 103 #[(zh #[zd U (c.n:Int),O c.ga c.gn c.gc,O c.sa c.sn c.sc,O c.ya c.yn c.yc,O c.oa c.on c.oc,O (some ⟨bv,ov,none⟩) c.vn c.vc,O c.fa c.fn c.fc,O c.ba c.bn c.bc,O (some ⟨bl,ol,none⟩) c.ln c.lc,O c.ka c.kn c.kc]),x,zh #[zd U ek,zd U en,O xa xl xc]] f fun e w'=>(∃ p1 q1 r1 p2 q2 H,e=zj (zh #[O p1 q1 r1,O p2 q2 H])/\Aw c.n (XJ bj) w' (zh #[O p1 q1 r1,O p2 q2 H]) tl)/\Ov f w'):=fun f x l hx=>by
  have:=JT J l x (A7 c.n) K [zd U ek,zd U en,O xa xl xc] (Am d) hx hX (Bd dm);rw [dw,<-dk] at this;exact this
 obtain ⟨f5,dv⟩:=nm (Av p lz c.n);have KF:Hx (∀ (f:World) {t:List (Int × Int)} {B x y:Value},AM c.cs w0 bj av t B f->Aw c.n (XJ bj) f x p->Aw c.n (XJ bj) f y lz->Calls Tryz.prog 57 #[(zh #[zd U (c.n:Int),O c.ga c.gn c.gc,O c.sa c.sn c.sc,O c.ya c.yn c.yc,O c.oa c.on c.oc,O (some ⟨bv,ov,none⟩) c.vn c.vc,O c.fa c.fn c.fc,O c.ba c.bn c.bc,O (some ⟨bl,ol,none⟩) c.ln c.lc,O c.ka c.kn c.kc]),x,y] f fun e W'=>e=zj (zg f5)/\Ov f W'):=fun f t B x y l hx hy=>by
  have:=DY c gs x y _ _ f (Af J.gr l.below) J.chk hx.at_ hx.len hy.at_ hy.len;rw [dw,<-dv] at this;exact this
 have KB:=Aa (fun (f:World) {t:List (Int × Int)} {B:Value} (l:AM c.cs w0 bj av t B f) (hj:f.cell? ⟨s,0,none⟩=some (zi (some ⟨bj,0,none⟩))) (ha:f.cell? ⟨s+1,0,none⟩=some (zd U a)) (nj:¬ XJ bj f s) (na:¬ XJ bj f (s+1)) (gx:t.length<=1000) (k:Int) (is:Bool)=>Ge c.cs w0 bj av t B a k is s (s+1) f l hj ha nj na gx);have ex:=hvc vs[F] (List.getElem_mem b4);have b0:=Kr ex;unfold GZ toL JV Eb;rw [ds,ez,<-dv,<-dk];obtain ⟨f6,du⟩:=nm ((vs[F].2.w.any fun q=>FB (Ax gs) c.n sp q.owner.toNat));obtain ⟨kn,dp⟩:=nm (vs[F].1);obtain ⟨f8,dt⟩:=nm (((List.range c.n).any fun i=>lz.r[i]?.getD false && !(tl.r[i]?.getD false)));rw [<-du,<-dp,<-dt];rw [<-dp] at g0;have KM:Hx (∀ (f:World) {t:List (Int × Int)} {B:Value},AM c.cs w0 bj av t B f->Calls Tryz.prog 202 #[zi (some ⟨bj,0,none⟩),O M I L] f fun e W'=>e=zj (zg f6)/\Ov f W'):=fun f t B l=>by
  rw [du];exact Rv c w0 bj av t B (Ax gs) sp A _ _ f l J.n6 (Ak dl l.below) (by have:=b0.2.1;omega) (fun q hq=>(b0.2.2 q hq).1)
 have KS:Hx (∀ (f:World) {t:List (Int × Int)} {B:Value} {bt bo:Nat} {u1 u2:Value},AM c.cs w0 bj av t B f->f.cell? ⟨bo,0,none⟩=some (O a1 a2 a3)->f.cell? ⟨bt,0,none⟩=some u1->Aw c.n (XJ bj) f (zh #[u1,u2]) tl->Calls Tryz.prog 203 #[zi (some ⟨bj,0,none⟩),.func (.func 207) #[] #[zi (some ⟨bo,0,none⟩),zi (some ⟨bt,0,none⟩)]] f fun e W'=>e=zj (zg f8)/\Ov f W'):=fun f t B bt bo u1 u2 l ho ht bx=>by
  rw [dt];have eu:=ft.o f l;obtain ⟨x,y,e1,b1,-⟩:=id eu.at_;obtain ⟨x',y',e2,b2,-⟩:=id bx.at_;simp at e1 e2;obtain ⟨rfl,rfl⟩:=e1;obtain ⟨rfl,rfl⟩:=e2;refine FU c w0 bj av t B 207 [zi (some ⟨bo,0,none⟩),zi (some ⟨bt,0,none⟩)] _ f l J.n6 (fun i hi w1 E=>?_) JH;exact PW c.n i bo bt _ _ _ _ w1 J.n6 hi (Ab E _ _ ho) (Ab E _ _ ht) (AF b1 E) eu.len.1 (AF b2 E) bx.len.1
 have ci:Hx (TB bj [(W.heap.size,[zd U 6,zd U (F:Int),zd U ot,zd U ek,zd U en,O xa xl xc,O aa al ac,O ta tn tc,O ea el ec]),(W.heap.size+1,[O p1 q1 r1,O p2 q2 H]),(s,[zi (some ⟨bj,0,none⟩)]),(s+1,[zd U a])] V1):=by
  have hF:=FrW.of_below (Al bj) bg;have e7:V1.heap.size=W.heap.size+1+1:=by rw [bh];simp
  have be:∀ q,W.heap.size<=q->¬ XJ bj V1 q:=fun q hq e=>by have:=(h.xlt q ((Al bj).below _ _ bg q e)).2;omega
  refine TB.add (TB.add (TB.add (TB.add TB.nil ?_ ?_ ?_) ?_ ?_ ?_) ?_ (be _ (by omega)) (by omega)) ?_ (be _ (Nat.le_refl _)) (by omega)
  ·exact hF.row (fun j u hu=>by match j with | 0=>simp at hu;subst hu;exact C.a | j+1=>simp at hu) (C.x _ (by omega) (by omega))
  ·exact fun e=>C.x _ (by omega) (by omega) (hF.mov _ (by have:=C.lt;omega) e)
  ·have:=C.lt;have:=hF.size;omega
  ·exact hF.row (fun j u hu=>by match j with | 0=>simp at hu;subst hu;exact C.j | j+1=>simp at hu) (C.x _ (by omega) (by omega))
  ·exact fun e=>C.x _ (by omega) (by omega) (hF.mov _ (by have:=C.lt;omega) e)
  ·have:=C.lt;have:=hF.size;omega
  ·rw [bh]
   have r:=Ad.new [O p1 q1 r1,O p2 q2 H] 50 (W.alloc (ze #[zd U 6,zd U (F:Int),zd U ot,zd U ek,zd U en,O xa xl xc,O aa al ac,O ta tn tc,O ea el ec] 130));simpa using r
  ·rw [bh]
   exact (Ad.new [zd U 6,zd U (F:Int),zd U ot,zd U ek,zd U en,O xa xl xc,O aa al ac,O ta tn tc,O ea el ec] 130 W).over (bA _ _)
 have HS:Hx (∀ (f:World),Ov V1 f->Rf bj c bv ov bl ol W F ek en xa xl xc a1 a2 a3 a4 a5 a6 f):=fun f e5=>by
  have l:=ar.o.over e5;have H:Ad [zd U 6,zd U (F:Int),zd U ot,zd U ek,zd U en,O xa xl xc,O aa al ac,O ta tn tc,O ea el ec] f W.heap.size:=(ci.o.row 0 rfl).over e5;exact ⟨l.cw 0 _ rfl,l.cw 1 _ rfl,l.cw 2 _ rfl,l.cw 3 _ rfl,l.cw 4 _ rfl,by rw [<-bd];exact l.cw 5 _ rfl,l.cw 6 _ rfl,l.cw 7 _ rfl,by rw [<-b3];exact l.cw 8 _ rfl,l.cw 9 _ rfl,H 1 _ rfl,H 3 _ rfl,H 4 _ rfl,H 5 _ rfl,Ab l.below _ _ k0,Ab l.below _ _ k1⟩
 have c4:Hx (∀ (f:World) {t:List (Int × Int)} {B:Value} {bt bo bw:Nat} {t1:Option Addr} {t2 t3:Nat} {t4:Option Addr} {t5 t6:Nat},AM c.cs w0 bj av t B f->TB bj ((bw,[zg kn,O R P Q,O M I L])::[(bt,[O t1 t2 t3,O t4 t5 t6]),(bo,[O a1 a2 a3,O a4 a5 a6]),(W.heap.size,[zd U 6,zd U (F:Int),zd U ot,zd U ek,zd U en,O xa xl xc,O aa al ac,O ta tn tc,O ea el ec]),(W.heap.size+1,[O p1 q1 r1,O p2 q2 H]),(s,[zi (some ⟨bj,0,none⟩)]),(s+1,[zd U a])]) f->Re bj c bv ov bl ol W p1 q1 r1 p2 q2 H bo a1 a2 a3 a4 a5 a6 f):=fun f t B bt bo bw t1 t2 t3 t4 t5 t6 l H=>⟨l.cw 0 _ rfl,l.cw 1 _ rfl,l.cw 2 _ rfl,l.cw 3 _ rfl,l.cw 4 _ rfl,by rw [<-bd];exact l.cw 5 _ rfl,l.cw 6 _ rfl,l.cw 7 _ rfl,by rw [<-b3];exact l.cw 8 _ rfl,l.cw 9 _ rfl,(H.row 4 rfl) 0 _ rfl,(H.row 4 rfl) 1 _ rfl,(H.row 2 rfl) 0 _ rfl,(H.row 2 rfl) 1 _ rfl⟩;have di:Hx (∀ (f:World),AM c.cs w0 bj av fl fv f->f.cell? ⟨W.heap.size,1,none⟩=some (zd U (F:Int))->Ou bj bv ov c W F kn R P Q M I L f):=fun f l H=>⟨by rw [<-bd];exact l.cw 5 _ rfl,H,Ab l.below _ _ g0,Ab l.below _ _ g1,Ab l.below _ _ g2⟩;have da:Hx (Ov V1 V1.drew):=(bD _);have fr:=Aa (hl.over (Al bj) bg);have ge:=Aa (FrW.of_below (Al bj) bg);have f7:Hx (fl.length<=1000):=by unfold Hx;omega
 have f4:Hx ((addF a 5 fl (!f5)).length<=1000):=Nat.le_trans (AV _ _ _ _) (by omega);have f3:Hx ((addF a 6 (addF a 5 fl (!f5)) f6).length<=1000):=Nat.le_trans (AV _ _ _ _) (by have:=AV a 5 fl (!f5);omega);have f2:Hx ((addF a 7 (addF a 6 (addF a 5 fl (!f5)) f6) (!kn)).length<=1000):=Nat.le_trans (AV _ _ _ _) (by have:=AV a 5 fl (!f5);have:=AV a 6 (addF a 5 fl (!f5)) f6;omega);have i3:(F:Int) < (c.ln:Int):=by omega
 have iz:c.ln<=16:=by rw [ew];exact J.l16
 have iy:(F:Int) < (c.vn:Int):=by omega
 have ix:c.vn<=16:=by have:=J.l16;omega
 obtain ⟨u0,u1,u2,u3,u4,u5,u6,u7,u8,u9,u10,u11,u12,u13,u14,u15⟩:=HS.o _ (Below.refl _ _);clear dn dc dk dv du dp dt g0 g1 g2 eo dl ex b0 ds ez dw ee bd ef au v1 v2 v3 gu b3 ew k0 k1 bz cu gw ep e6 eg e3 hl ei hX hA hT hE dm J A e7 hvc gy hk i0 i1 i2 cv b4 bg C h;go_enter Tryz.func153,Tryz.ntmps153;go_wp2_with fail;rw [<-bh];clear bh;refine Cw (fun df f=>∃ (bt bo:Nat) (x11 x12 x13 x14 x15 x16 x17 x18 x19 x20 x21 x22 x23 x24 x25 x26 x27 x28 x29 x30 x31 x32:Value) (t1:Option Addr) (t2 t3:Nat) (t4:Option Addr) (t5 t6:Nat),df={ tmps:=#[zi (some ⟨bj,0,none⟩),zh #[zd U 6,zd U (F:Int),zd U ot,zd U ek,zd U en,O xa xl xc,O aa al ac,O ta tn tc,O ea el ec],zh #[O p1 q1 r1,O p2 q2 H],.func (.func 149) #[] #[zi (some ⟨s,0,none⟩),zi (some ⟨s+1,0,none⟩)],undef,zi (some ⟨W.heap.size,0,none⟩),zi (some ⟨W.heap.size+1,0,none⟩),undef,zi (some ⟨bt,0,none⟩),zi (some ⟨bo,0,none⟩),undef,x11,x12,x13,x14,x15,x16,x17,x18,x19,x20,x21,x22,x23,x24,x25,x26,x27,x28,x29,x30,x31,x32,undef,undef,undef,undef,undef,undef,undef,undef,undef,undef,undef,undef,undef,undef,undef,undef,undef,undef,undef,undef,undef,undef,undef,undef,undef,undef,undef,undef,undef,undef,undef,undef,undef,undef,undef,undef,undef],defers:=[] }/\Ov V1 f/\Ad [O t1 t2 t3,O t4 t5 t6] f bt/\Ad [O a1 a2 a3,O a4 a5 a6] f bo/\Aw c.n (XJ bj) f (zh #[O t1 t2 t3,O t4 t5 t6]) tl/\(V1.heap.size<=bt/\bt < f.heap.size)/\(V1.heap.size<=bo/\bo < f.heap.size)/\bt≠bo) ?_ ?_
 ·refine gS (Rf bj c bv ov bl ol W F ek en xa xl xc a1 a2 a3 a4 a5 a6) (HS.o _ da.o) fun g=>?_
  refine kT 0 ?_;refine kT 1 ?_;refine kT 2 ?_;refine kT 3 ?_;refine kT 4 ?_;refine kT 5 ?_;refine kT 6 ?_;refine kT 7 ?_;refine kT 9 ?_;refine kT 10 ?_;refine kT 12 ?_;refine kT 13 ?_;refine kT 14 ?_;refine kT 15 ?_;refine kT 16 ?_;refine kT 17 ?_;refine kT 18 ?_;refine kT 19 ?_;refine kT 20 ?_;refine kT 21 ?_;have N:=da;generalize V1.drew=Wc at N g ⊢;clear da;refine rdC 8 22 23 rfl (fun K h8=>?_) rfl (fun K V=>?_) rfl (fun K T=>?_) (by decide +kernel);all_goals repeat' first
   | (
    have hi:=h8;clear hi;go_simp;refine (dg.o _).mono ?_;rintro e Wc ⟨vj,rfl,hL,E⟩;have hN:=Bm hL;have hA:=Aq hL;obtain ⟨v1,v2,rfl,er,eq,-⟩:=hL;obtain ⟨y1,y2,y3,rfl⟩:=AE er;obtain ⟨y4,y5,y6,rfl⟩:=AE eq;have hN:=EL hN N.o.size;replace N:=Aa (Ac N.o E);have bm:=Aa (⟨hA,EU _,B8 (Al bj) N.o (fun k hk=>(ar.o.xlt k hk).2) hN⟩:Aw c.n (XJ bj) Wc _ (A7 c.n));(try replace HT:=Aa (HT.o.over E))
    (try replace HO:=Aa (HO.o.over E))
    clear hN hA er eq E;go_simp;refine xK h8 (HS.o _ N.o) fun g=>?_;clear h8 K;first | (refine rdC 11 22 23 rfl (fun K Z=>?_) rfl (fun K V=>?_) rfl (fun K T=>?_) (by decide +kernel)) | (refine rdA 11 rfl (fun K Z=>?_) (by decide +kernel)) | (refine rdB 11 22 rfl (fun K Z=>?_) rfl (fun K V=>?_) (by decide +kernel)) | (refine rdB 11 23 rfl (fun K Z=>?_) rfl (fun K T=>?_) (by decide +kernel)))
   | (
    have hi:=Z;clear hi;go_simp;refine (KW.o _ (ar.o.over N.o) bm.o).mono ?_;rintro e Wc ⟨⟨o1,o2,o3,o4,o5,o6,rfl,hL⟩,E⟩;replace N:=Aa (Ac N.o E);(try replace HT:=Aa (HT.o.over E))
    (try replace HO:=Aa (HO.o.over E))
    have bk:=Aa hL;clear bm hL E;go_simp;refine xK Z (HS.o _ N.o) fun g=>?_;clear Z K;first | (refine rdB 22 23 rfl (fun K V=>?_) rfl (fun K T=>?_) (by decide +kernel)) | (refine rdA 24 rfl (fun K b8=>?_) (by decide +kernel)) | (refine rdA 22 rfl (fun K V=>?_) (by decide +kernel)) | (refine rdA 23 rfl (fun K T=>?_) (by decide +kernel)))
   | (
    have hi:=V;clear hi;have E:=bA Wc (ze #[O none 0 0,O none 0 0] 50);have hz:=DJ 50 Wc;have dq:=N.o.size;obtain ⟨bt,hq⟩:∃ b:Nat,b=Wc.heap.size:=⟨_,rfl⟩;rw [<-hq] at hz dq;(try have bf:bt≠bo:=by have:=HO.o.lt;omega)
    go_simp;rw [<-hq];obtain ⟨Wc,G⟩:=nm (Wc.alloc (ze #[O none 0 0,O none 0 0] 50));rw [<-G] at E hz ⊢;replace N:=Aa (Ac N.o E);(try replace HO:=Aa (HO.o.over E))
    (try replace bm:=Aa (bm.o.over (Al bj) E))
    (try replace bk:=Aa (bk.o.over (Al bj) E))
    have HT:=Aa hz;clear E hz G hq;refine xK V (HS.o _ N.o) fun g=>?_;clear V K;first | (refine rdA 24 rfl (fun K b8=>?_) (by decide +kernel)) | (refine rdB 8 23 rfl (fun K h8=>?_) rfl (fun K T=>?_) (by decide +kernel)) | (refine rdB 11 23 rfl (fun K Z=>?_) rfl (fun K T=>?_) (by decide +kernel)) | (refine rdA 23 rfl (fun K T=>?_) (by decide +kernel)) | (refine rdA 8 rfl (fun K h8=>?_) (by decide +kernel)) | (refine rdA 11 rfl (fun K Z=>?_) (by decide +kernel)))
   | (
    have hi:=T;clear hi;have E:=bA Wc (ze #[O none 0 0,O none 0 0] 50);have hz:=DJ 50 Wc;have dr:=N.o.size;obtain ⟨bo,hq⟩:∃ b:Nat,b=Wc.heap.size:=⟨_,rfl⟩;rw [<-hq] at hz dr;(try have bf:bt≠bo:=by have:=HT.o.lt;omega)
    go_simp;rw [<-hq];obtain ⟨Wc,G⟩:=nm (Wc.alloc (ze #[O none 0 0,O none 0 0] 50));rw [<-G] at E hz ⊢;replace N:=Aa (Ac N.o E);(try replace HT:=Aa (HT.o.over E))
    (try replace bm:=Aa (bm.o.over (Al bj) E))
    (try replace bk:=Aa (bk.o.over (Al bj) E))
    have HO:=Aa hz;clear E hz G hq;refine xK T (HS.o _ N.o) fun g=>?_;clear T K;first | (refine rdA 24 rfl (fun K b8=>?_) (by decide +kernel)) | (refine rdB 8 22 rfl (fun K h8=>?_) rfl (fun K V=>?_) (by decide +kernel)) | (refine rdB 11 22 rfl (fun K Z=>?_) rfl (fun K V=>?_) (by decide +kernel)) | (refine rdA 22 rfl (fun K V=>?_) (by decide +kernel)) | (refine rdA 8 rfl (fun K h8=>?_) (by decide +kernel)) | (refine rdA 11 rfl (fun K Z=>?_) (by decide +kernel)))
   | (
    have hi:=b8;clear hi;have d0:=HT.o.c0;have d1:=HT.o.c1;have z0:=HT.o.z0;have z1:=HT.o.z1;have ir:bj < V1.heap.size:=ar.o.lo.2;obtain ⟨Wn,G⟩:=nm (BC Wc bt (O o1 o2 o3) (O o4 o5 o6));replace N:Hx (Ov V1 Wn):=by rw [G];exact B7 N.o dq _ _
    replace HO:Hx (ZB bo Wn):=by rw [G];exact HO.o.other (Ne.symm bf) _ _
    have HR:Hx (Ad [O o1 o2 o3,O o4 o5 o6] Wn bt):=by rw [G];exact HT.o.fill _ _
    have HL:Hx (Aw c.n (XJ bj) Wn (zh #[O o1 o2 o3,O o4 o5 o6]) tl):=by rw [G];exact EO bk.o HT.o (by omega) _ _
    unfold BC at G;go_simp;rw [<-G];clear G d0 d1 z0 z1 bk HT;refine xK b8 (HS.o _ N.o) fun g=>?_;clear b8 K;refine rdA 25 rfl (fun K dz=>?_) (by decide +kernel))
   | (
    have hi:=dz;clear hi;have e0:=HO.o.c0;have e1:=HO.o.c1;have y0:=HO.o.z0;have y1:=HO.o.z1;obtain ⟨Wm,am⟩:=nm (BC Wn bo (O a1 a2 a3) (O a4 a5 a6));replace N:Hx (Ov V1 Wm):=by rw [am];exact B7 N.o dr _ _
    replace HR:Hx (Ad [O o1 o2 o3,O o4 o5 o6] Wm bt):=by rw [am];exact J4 HR.o bf _ _
    have HQ:Hx (Ad [O a1 a2 a3,O a4 a5 a6] Wm bo):=by rw [am];exact HO.o.fill _ _
    replace HL:Hx (Aw c.n (XJ bj) Wm (zh #[O o1 o2 o3,O o4 o5 o6]) tl):=by rw [am];exact EO HL.o HO.o (by omega) _ _
    unfold BC at am;go_simp;rw [<-am];clear am;refine xK dz (HS.o _ N.o) fun g=>?_;clear dz K;refine gE ?_;exact Ba ⟨bt,bo,_,_,_,_,_,_,_,_,_,_,_,_,_,_,_,_,_,_,_,_,_,_,o1,o2,o3,o4,o5,o6,rfl,N.o,HR.o,HQ.o,HL.o,⟨dq,bL (HR.o 0 _ rfl)⟩,⟨dr,bL (HQ.o 0 _ rfl)⟩,bf⟩)
 rintro df f ⟨bt,bo,x11,x12,x13,x14,x15,x16,x17,x18,x19,x20,x21,x22,x23,x24,x25,x26,x27,x28,x29,x30,x31,x32,t1,t2,t3,t4,t5,t6,rfl,bi,eh,ej,bx,⟨ff,fe⟩,⟨fh,fg⟩,bf⟩;clear u0 u1 u2 u3 u4 u5 u6 u7 u8 u9 u10 u11 u12 u13 u14 u15 HS da;have be:∀ q,V1.heap.size<=q->¬ XJ bj f q:=fun q hq e=>by have:=(ar.o.xlt q ((Al bj).below _ _ bi q e)).2;omega
 have c8:=Aa (ar.o.over bi);have f9:=Aa (ge.o.trans (FrW.of_below (Al bj) bi));have ch:Hx (TB bj [(bt,[O t1 t2 t3,O t4 t5 t6]),(bo,[O a1 a2 a3,O a4 a5 a6]),(W.heap.size,[zd U 6,zd U (F:Int),zd U ot,zd U ek,zd U en,O xa xl xc,O aa al ac,O ta tn tc,O ea el ec]),(W.heap.size+1,[O p1 q1 r1,O p2 q2 H]),(s,[zi (some ⟨bj,0,none⟩)]),(s+1,[zd U a])] f):=((ci.o.keep (FrW.of_below (Al bj) bi)).add ej (be _ fh) fg).add eh (be _ ff) fe;have fq:=Aa (fr.o.over (Al bj) bi);have fo:=Aa bx;have ck:Hx (∀ (W3:World),Ov f W3->Ou bj bv ov c W F kn R P Q M I L W3):=fun W3 e4=>di.o W3 (c8.o.over e4) (Ab e4 _ _ ((ch.o.row 2 rfl) 1 _ rfl));obtain ⟨u0,u1,u2,u3,u4⟩:=ck.o _ (Below.refl _ _);clear be bi eh ej bx ff fe fh fg bf fr ci ge ar dg KW di;go_wp2_with fail;refine gS (Ou bj bv ov c W F kn R P Q M I L) (ck.o _ (bD _)) fun g=>?_;refine kT 0 ?_;refine kT 1 ?_;refine kT 2 ?_;refine kT 3 ?_;refine kT 4 ?_;refine kT 5 ?_;refine kT 6 ?_;refine kT 7 ?_;refine kT 8 ?_;refine kT 9 ?_;refine rdA 10 rfl fun K hK=>?_;go_simp;refine xK hK (ck.o _ ((bA _ _).drew)) fun g=>?_;clear hK K;refine rdA 11 rfl fun K hK=>?_;go_simp;refine xK hK (ck.o _ ((bA _ _).drew)) fun g=>?_;clear hK K;refine gE ?_;have ak:Ov f ((f.alloc (ze #[zg kn,O R P Q,O M I L] 41)).drew):=(bA _ _).drew;have em:Ad [zg kn,O R P Q,O M I L] ((f.alloc (ze #[zg kn,O R P Q,O M I L] 41)).drew) f.heap.size:=(Ad.new [zg kn,O R P Q,O M I L] 41 f).over (bD _);have az:=Aa (c8.o.over ak);have cm:=Aa (f9.o.trans (FrW.of_below (Al bj) ak));have ae:Hx (TB bj ((f.heap.size,[zg kn,O R P Q,O M I L])::[(bt,[O t1 t2 t3,O t4 t5 t6]),(bo,[O a1 a2 a3,O a4 a5 a6]),(W.heap.size,[zd U 6,zd U (F:Int),zd U ot,zd U ek,zd U en,O xa xl xc,O aa al ac,O ta tn tc,O ea el ec]),(W.heap.size+1,[O p1 q1 r1,O p2 q2 H]),(s,[zi (some ⟨bj,0,none⟩)]),(s+1,[zd U a])]) ((f.alloc (ze #[zg kn,O R P Q,O M I L] 41)).drew)):=(ch.o.keep (FrW.of_below (Al bj) ak)).add em (fun e=>by have:=(c8.o.xlt _ ((Al bj).below _ _ ak _ e)).2;omega) (by simp);have cl:=Aa (fq.o.over (Al bj) ak);have cj:=Aa (fo.o.over (Al bj) ak);obtain ⟨bw,dx⟩:=nm f.heap.size;obtain ⟨W4,cx⟩:=nm ((f.alloc (ze #[zg kn,O R P Q,O M I L] 41)).drew);rw [<-dx,<-cx] at ae;rw [<-cx] at az cm cl cj;rw [<-dx,<-cx];clear ak em u0 u1 u2 u3 u4 ck fq fo ch f9 c8 dx cx;have c7:=Aa (az.o.over (bD _));have h0:=Aa (cm.o.trans (FrW.of_below (Al bj) (bD _)));have dh:=Aa (ae.o.keep (FrW.of_below (Al bj) (bD _)));have he:=Aa (cl.o.over (Al bj) (bD _));have g8:=Aa (cj.o.over (Al bj) (bD _));have hf:=Aa (ft.o _ c7.o);have hd:=Aa (c4.o _ c7.o dh.o);obtain ⟨u0,u1,u2,u3,u4,u5,u6,u7,u8,u9,u10,u11,u12,u13⟩:=c4.o _ az.o ae.o;clear az cm ae cl cj;go_wp2_with fail;refine gS (Re bj c bv ov bl ol W p1 q1 r1 p2 q2 H bo a1 a2 a3 a4 a5 a6) (hd.o) fun g=>?_;refine kT 0 ?_;refine kT 1 ?_;refine kT 2 ?_;refine kT 3 ?_;refine kT 4 ?_;refine kT 5 ?_;refine kT 6 ?_;refine rdA 7 rfl fun K hK=>?_;go_simp;refine (KF.o _ c7.o he.o hf.o).mono ?_;rintro e W5 ⟨rfl,b6⟩;have fw:=Aa (c7.o.over b6);have ad:=Aa (dh.o.keep (FrW.of_below (Al bj) b6));have hc:=Aa (c4.o W5 fw.o ad.o);have hv:=Aa (h0.o.trans (FrW.of_below (Al bj) b6));have g7:=Aa (g8.o.over (Al bj) b6);clear b6;go_simp;refine xK hK (hc.o) fun g=>?_;clear hK K;refine kT 8 ?_;refine rdA 9 rfl fun K hK=>?_;go_simp;refine (KB.o _ fw.o ((ad.o.row 5 rfl) 0 _ rfl) ((ad.o.row 6 rfl) 0 _ rfl) (ad.o.off 5 rfl) (ad.o.off 6 rfl) f7.o 5 _).mono ?_;rintro e W6 ⟨rfl,⟨i7,fb⟩,c2⟩;have d3:=Aa fb;have ax:=Aa (ad.o.keep c2);have hs:=Aa (hv.o.trans c2);have g6:=Aa (g7.o.keep c6.o c2);have g9:=Aa (c4.o W6 d3.o ax.o);clear fb c2;go_simp;refine xK hK (g9.o) fun g=>?_;clear hK K;refine gE ?_;have g2:=(ax.o.row 0 rfl) 2 _ rfl;have g0:=(ax.o.row 0 rfl) 0 _ rfl;go_wp2_with fail;refine (KM.o _ d3.o).mono ?_;rintro e W7 ⟨rfl,b5⟩;have hm:=Aa (d3.o.over b5);have ag:=Aa (ax.o.keep (FrW.of_below (Al bj) b5));have hr:=Aa (hs.o.trans (FrW.of_below (Al bj) b5));have g5:=Aa (g6.o.over (Al bj) b5);clear b5 g0 g2;go_wp2_with fail;refine (KB.o _ hm.o ((ag.o.row 5 rfl) 0 _ rfl) ((ag.o.row 6 rfl) 0 _ rfl) (ag.o.off 5 rfl) (ag.o.off 6 rfl) f4.o 6 _).mono ?_;rintro e W8 ⟨rfl,⟨i6,e9⟩,cz⟩;have hh:=Aa e9;have ab:=Aa (ag.o.keep cz);have hp:=Aa (hr.o.trans cz);have g4:=Aa (g5.o.keep c6.o cz);have g0:=(ab.o.row 0 rfl) 0 _ rfl;clear e9 cz;go_wp2_with fail;refine (KB.o _ hh.o ((ab.o.row 5 rfl) 0 _ rfl) ((ab.o.row 6 rfl) 0 _ rfl) (ab.o.off 5 rfl) (ab.o.off 6 rfl) f3.o 7 _).mono ?_;rintro e W9 ⟨rfl,⟨i4,e8⟩,cy⟩;have fu:=Aa e8;have cg:=Aa (ab.o.keep cy);have hn:=Aa (hp.o.trans cy);have fm:=Aa (g4.o.keep c6.o cy);clear e8 cy g0;go_wp2_with fail;refine (KS.o _ fu.o ((cg.o.row 2 rfl) 0 _ rfl) ((cg.o.row 1 rfl) 0 _ rfl) fm.o).mono ?_;rintro e jg ⟨rfl,af⟩;have fy:=Aa (fu.o.over af);have S:=Aa (cg.o.keep (FrW.of_below (Al bj) af));have gd:=Aa (hn.o.trans (FrW.of_below (Al bj) af));have fp:=Aa (fm.o.over (Al bj) af);clear af;go_wp2_with fail;refine (KB.o _ fy.o ((S.o.row 5 rfl) 0 _ rfl) ((S.o.row 6 rfl) 0 _ rfl) (S.o.off 5 rfl) (S.o.off 6 rfl) f2.o 8 _).mono ?_;rintro e jf ⟨rfl,⟨fi,dd⟩,aw⟩;have fx:=Aa dd;have g3:=Aa (S.o.keep aw);have gb:=Aa (gd.o.trans aw);have ia:=Aa (fp.o.keep c6.o aw);clear dd aw;go_wp2_with fail;go_end0;exact ⟨rfl,⟨fi,fx.o⟩,gb.o⟩
end Go.Proofs.YtfffpjkcfnekaaaGreat.Ex
namespace Go.Proofs.YtfffpjkcfnekaaaGreat.Ex
open Go.RowKit Go.Shelf
open Go.Value renaming slice -> O, int -> zd, bool -> zg, agg -> zh, pointer -> zi, tuple -> zk
open Go.IntKind renaming i64 -> U
open Go.Obj renaming cells -> ze
open Go.Ending renaming returned -> zj
attribute [local go_sem] Oper.semAt_some
theorem JG {W:World} {b j:Nat} {v:Value} {o:Obj} (hc:W.cell? ⟨b,j,none⟩=some v) (ho:W.heap[b]? = some o):o.isCells=true:=by
 cases o <;> simp_all [World.cell?,Obj.isCells]
def RvI (s:Nat) (fm fh:Int->Bool) (nv:Nat) (pre:List (EW nv)) (W:World):Prop:=
 W.cell? ⟨s,0,none⟩=some (zg ((pre.map Subtype.val).any fm))/\W.frozen? ⟨s,0,none⟩=false/\W.cell? ⟨s+1,0,none⟩=some (zg ((pre.map Subtype.val).any fh))/\W.frozen? ⟨s+1,0,none⟩=false
theorem PZ (s:Nat) (fm fh:Int->Bool) (nv:Nat):Own (RvI s fm fh nv):=by
 rintro f A B row ⟨c0,f0,c1,f1⟩ e b;exact ⟨cell_kept c0 e b,(frozen_kept c0 e b).trans f0,cell_kept c1 e b,(frozen_kept c1 e b).trans f1⟩
theorem PY {fm fh:Int->Bool} {nv:Nat} {pre:List (EW nv)} {x:EW nv} {w W W2:World} {m0 h0 m1 h1:Bool} (c0:W.cell? ⟨w.heap.size,0,none⟩=some (zg m0)) (f0:W.frozen? ⟨w.heap.size,0,none⟩=false) (c1:W.cell? ⟨w.heap.size+1,0,none⟩=some (zg h0)) (f1:W.frozen? ⟨w.heap.size+1,0,none⟩=false) (hm:(pre.map Subtype.val).any fm=m0) (hh:(pre.map Subtype.val).any fh=h0) (hB:Ov w W) (hb2:Ov W W2) (hm1:m1=(m0 || fm x.1)) (hh1:h1=(h0 || fh x.1)) :
  KeepsOthers W ((W2.setCell ⟨w.heap.size,0,none⟩ (zg m1)).setCell ⟨w.heap.size+1,0,none⟩ (zg h1))/\Below w.heap.size W ((W2.setCell ⟨w.heap.size,0,none⟩ (zg m1)).setCell ⟨w.heap.size+1,0,none⟩ (zg h1))/\RvI w.heap.size fm fh nv (pre++[x]) ((W2.setCell ⟨w.heap.size,0,none⟩ (zg m1)).setCell ⟨w.heap.size+1,0,none⟩ (zg h1))/\Ov w ((W2.setCell ⟨w.heap.size,0,none⟩ (zg m1)).setCell ⟨w.heap.size+1,0,none⟩ (zg h1)):=by
 have g:=bL c1;have f:=bL c0;have b:Below w.heap.size W ((W2.setCell ⟨w.heap.size,0,none⟩ (zg m1)).setCell ⟨w.heap.size+1,0,none⟩ (zg h1)):=((hb2.mono hB.size).setCell (Nat.le_refl _) _).setCell (by simp) _;refine ⟨(GB hb2).trans ((KeepsOthers.setCell _ _ _).trans (KeepsOthers.setCell _ _ _)),b,?_,hB.trans b⟩;refine ⟨?_,?_,?_,?_⟩
 ·have e:=Ab hb2 _ _ c0
  rw [List.map_append,List.any_append,hm];simp [go_sem,e,hm1]
 ·simp [go_sem,((An hb2).2 _ _ f).trans f0]
 ·have e:=Ab hb2 _ _ c1
  rw [List.map_append,List.any_append,hh];simp [go_sem,e,hh1]
 ·simp [go_sem,((An hb2).2 _ _ g).trans f1]
theorem AM.grown {cs:List Value} {w0:World} {bj:Nat} {av:Value} {fl:List (Int × Int)} {fv:Value} {A B:World} {r:Nat} {o:Obj} (h:AM cs w0 bj av fl fv A) (hg:A.grownBy B (some r)) (hr:A.heap[r]? = some o) (ho:o.isCells=false) (hlo:w0.heap.size<=r):AM cs w0 bj av fl fv B:=by
 have y:∀ q,(some r:Option Nat)=some q->∃ o:Obj,A.heap[q]? = some o/\o.isCells=false:=fun q e=>by injection e with e;subst e;exact ⟨o,hr,ho⟩
 have i:fv.ownBlock≠some r:=fun e=>by
  rcases h.own.2 with ⟨t,-⟩ | ⟨g,cap,E,t,G,b,-⟩
  ·rw [t] at e;simp [Value.ownBlock] at e
  ·rw [t] at e
   simp [Value.ownBlock] at e;subst e;rw [hr] at b;injection b with b;subst b;simp [Obj.isCells] at ho
 refine ⟨h.below.trans ⟨hg.os,hg.tape,hg.output,hg.size,fun k hk=>hg.block k (Nat.lt_of_lt_of_le hk h.below.size) (fun e=>by injection e with e;omega)⟩,fun j u C=>cell_kept (h.row j u C) hg y,fun j=>?_,h.own.kept hg (Or.inr i),h.ap,⟨h.lo.1,Nat.lt_of_lt_of_le h.lo.2 hg.size⟩,h.len⟩;have p:bj≠r:=fun e=>by
  have s:=h.c11;obtain ⟨F,f,l⟩:=y r rfl;subst e;exact absurd (JG s f) (by rw [l];simp)
 exact (World.frozen?_of_block (a:=⟨bj,j,none⟩) (hg.block bj h.lo.2 (fun e=>by injection e with e;exact p e))).trans (h.fz j)
def DK (bj D:Nat) (W:World):Prop:=W.heap[D]? = some (.deferred (some []))/\¬ XJ bj W D
theorem DK.keep {bj D:Nat} {W W':World} (h:DK bj D W) (hf:FrW (XJ bj) W W'):DK bj D W':=
 have hlt:D < W.heap.size:=(Array.getElem?_eq_some_iff.1 h.1).1
 ⟨(hf.block D hlt h.2).trans h.1,fun e=>h.2 (hf.mov D hlt e)⟩
theorem TB.one {bj b:Nat} {v:Value} {L:List (Nat × List Value)} {W:World} (h:TB bj L W) (hc:W.cell? ⟨b,0,none⟩=some v) (hx:¬ XJ bj W b):TB bj ((b,[v])::L) W:=
 h.add (fun j u hu=>by match j with | 0=>simp at hu;subst hu;exact hc | j+1=>simp at hu) hx (bL hc)
theorem QD {cs:List Value} {w0:World} {bj:Nat} {av:Value} {fl:List (Int × Int)} {fv:Value} {W A:World} {D:Nat} {o o':Obj} (hf:FrW (XJ bj) W A) (h:AM cs w0 bj av fl fv A) (hr:A.heap[D]? = some o) (ho:o.isCells=false) (hlo:W.heap.size<=D):FrW (XJ bj) W (A.putObj D o'):=by
 have b:=grownBy_putObj' A D o';refine ⟨b.os.trans hf.os,b.tape.trans hf.tape,b.output.trans hf.output,Nat.le_trans hf.size b.size,fun k hk hx=>(b.block k (Nat.lt_of_lt_of_le hk hf.size) (fun e=>by injection e with e;omega)).trans (hf.block k hk hx),fun k hk hx=>hf.mov k hk ?_⟩;rcases hx with hx | hx | ⟨v,f,hw⟩
 ·exact Or.inl (Nat.le_trans b.size hx)
 ·exact Or.inr (Or.inl hx)
 ·refine Or.inr (Or.inr ⟨v,?_,hw⟩)
  have:=cell_kept h.c11 b (fun q e=>by injection e with e;subst e;exact ⟨o,hr,ho⟩);rw [this] at f;injection f with f;rw [<-f];exact h.c11
abbrev Rd (W:World) (bj:Nat) (c:WC) (bv ov bl ol jv:Nat) (ek en:Int) (xa:Option Addr) (xl xc:Nat) (a1:Option Addr) (a2 a3:Nat) (a4:Option Addr) (a5 a6:Nat) (Wz:World):Prop:=Wz.cell? ⟨W.heap.size,0,none⟩=some (zi (some ⟨bj,0,none⟩))/\Wz.cell? ⟨bj,0,none⟩=some (zd U (c.n:Int))/\Wz.cell? ⟨bj,1,none⟩=some (O c.ga c.gn c.gc)/\Wz.cell? ⟨bj,2,none⟩=some (O c.sa c.sn c.sc)/\Wz.cell? ⟨bj,3,none⟩=some (O c.ya c.yn c.yc)/\Wz.cell? ⟨bj,4,none⟩=some (O c.oa c.on c.oc)/\Wz.cell? ⟨bj,5,none⟩=some (O (some ⟨bv,ov,none⟩) c.vn c.vc)/\Wz.cell? ⟨bj,6,none⟩=some (O c.fa c.fn c.fc)/\Wz.cell? ⟨bj,7,none⟩=some (O c.ba c.bn c.bc)/\Wz.cell? ⟨bj,8,none⟩=some (O (some ⟨bl,ol,none⟩) c.ln c.lc)/\Wz.cell? ⟨bj,9,none⟩=some (O c.ka c.kn c.kc)/\Wz.cell? ⟨W.heap.size+1,1,none⟩=some (zd U (jv:Int))/\Wz.cell? ⟨W.heap.size+1,3,none⟩=some (zd U ek)/\Wz.cell? ⟨W.heap.size+1,4,none⟩=some (zd U en)/\Wz.cell? ⟨W.heap.size+1,5,none⟩=some (O xa xl xc)/\Wz.cell? ⟨bl,ol+jv*2,none⟩=some (O a1 a2 a3)/\Wz.cell? ⟨bl,ol+jv*2+1,none⟩=some (O a4 a5 a6)
abbrev Rc (W:World) (bj:Nat) (c:WC) (bv ov bl ol:Nat) (p1:Option Addr) (q1 r1:Nat) (p2:Option Addr) (q2 r2 bo:Nat) (a1:Option Addr) (a2 a3:Nat) (a4:Option Addr) (a5 a6:Nat) (Wz:World):Prop:=Wz.cell? ⟨W.heap.size,0,none⟩=some (zi (some ⟨bj,0,none⟩))/\Wz.cell? ⟨bj,0,none⟩=some (zd U (c.n:Int))/\Wz.cell? ⟨bj,1,none⟩=some (O c.ga c.gn c.gc)/\Wz.cell? ⟨bj,2,none⟩=some (O c.sa c.sn c.sc)/\Wz.cell? ⟨bj,3,none⟩=some (O c.ya c.yn c.yc)/\Wz.cell? ⟨bj,4,none⟩=some (O c.oa c.on c.oc)/\Wz.cell? ⟨bj,5,none⟩=some (O (some ⟨bv,ov,none⟩) c.vn c.vc)/\Wz.cell? ⟨bj,6,none⟩=some (O c.fa c.fn c.fc)/\Wz.cell? ⟨bj,7,none⟩=some (O c.ba c.bn c.bc)/\Wz.cell? ⟨bj,8,none⟩=some (O (some ⟨bl,ol,none⟩) c.ln c.lc)/\Wz.cell? ⟨bj,9,none⟩=some (O c.ka c.kn c.kc)/\Wz.cell? ⟨W.heap.size+1+1,0,none⟩=some (O p1 q1 r1)/\Wz.cell? ⟨W.heap.size+1+1,1,none⟩=some (O p2 q2 r2)/\Wz.cell? ⟨bo,0,none⟩=some (O a1 a2 a3)/\Wz.cell? ⟨bo,1,none⟩=some (O a4 a5 a6)
abbrev Ot (W:World) (bj bv ov:Nat) (c:WC) (j:Nat) (kn:Bool) (pa1:Option Addr) (pn1 pc1:Nat) (Wz:World):Prop:=Wz.cell? ⟨W.heap.size,0,none⟩=some (zi (some ⟨bj,0,none⟩))/\Wz.cell? ⟨bj,5,none⟩=some (O (some ⟨bv,ov,none⟩) c.vn c.vc)/\Wz.cell? ⟨bv,ov+j*3,none⟩=some (zg kn)/\Wz.cell? ⟨bv,ov+j*3+1,none⟩=some (O pa1 pn1 pc1)
theorem P7 (c) (w0:World) (bj:Nat) (av:Value) (gs Ls Fs) (J:JSt c w0 gs Ls Fs) (sp) (A:JAc c w0 av (Ax gs) sp) (K ni no:Nat) (fs vs) (hvs:Bs w0 (O c.va c.vn c.vc) vs) (hvn:vs.length=Ls.length) (hvc:∀ v∈vs,Bb c.n gs v.2=0) :
  Gi c w0 bj av K Ls.length ni no fs 5 (Fz c.n K (Ax gs) sp Ls vs) 152:=by
 intro fl fv s a k cs lv d p funcs W jx h G hl gu dg hk;obtain ⟨p1,q1,r1,p2,q2,r2,g3⟩:=hl.form;have g2:lv=[O p1 q1 r1,O p2 q2 r2]:=by simpa using g3
 subst g2;clear g3;obtain ⟨ek,en,xa,Z,xc,aa,ac,ta,tc,ea,ec,rfl,i0,i1,i2,hX,hA,hT,hE,-,-,-⟩:=gu.form;have jp:=dg.2.1 (by omega);obtain ⟨jv,di⟩:∃ j:Nat,Ap d=(j:Int):=⟨(Ap d).toNat,by omega⟩;have dj:jv < Ls.length:=by omega
 have ey:jv < vs.length:=by omega
 obtain ⟨bl,ol,a1,a2,a3,a4,a5,a6,cp,g9,k0,k1,co⟩:=Fh J.levs dj;have j1:=hvs;obtain ⟨jn,l7,l6,jo,b0⟩:=hvs;injection jo with v1 v2 v3;obtain ⟨bv,ov,gp,b0⟩:=b0 (by rintro rfl;simp at ey);have b6:c.va=some ⟨bv,ov,none⟩:=v1.trans gp;have dw:c.vn=vs.length:=v2;have hd:sC (Ag d) (Ap d) (Ae d) ek en xa Z xc aa (Ai d).length ac ta (Aj d).length tc ea (Ao d).length ec=sC 5 (jv:Int) (Ae d) ek en xa Z xc aa (Ai d).length ac ta (Aj d).length tc ea (Ao d).length ec:=by rw [hk,di]
 rw [hd];clear hd;obtain ⟨ot,gw⟩:=nm (Ae d);obtain ⟨al,hg⟩:=nm ((Ai d).length);obtain ⟨tn,gq⟩:=nm ((Aj d).length);obtain ⟨el,hf⟩:=nm ((Ao d).length);rw [<-gw,<-hg,<-gq,<-hf];have e5:Ls.getD (Ap d).toNat Ah=Ls[jv]:=by rw [di];simp [List.getD_eq_getElem?_getD,dj]
 obtain ⟨lz,ew⟩:=nm (Ls[jv]);have dx:lz.len c.n:=by rw [ew];exact J.lens _ (List.getElem_mem dj)
 rw [<-ew] at co e5;have ju:vs.getD (Ap d).toNat (false,⟨[],[]⟩)=vs[jv]:=by rw [di];simp [List.getD_eq_getElem?_getD,ey]
 have fg:c.v=(zh #[zd U (c.n:Int),O c.ga c.gn c.gc,O c.sa c.sn c.sc,O c.ya c.yn c.yc,O c.oa c.on c.oc,O (some ⟨bv,ov,none⟩) c.vn c.vc,O c.fa c.fn c.fc,O c.ba c.bn c.bc,O (some ⟨bl,ol,none⟩) c.ln c.lc,O c.ka c.kn c.kc]):=by show Value.agg #[zd U (c.n:Int),O c.ga c.gn c.gc,O c.sa c.sn c.sc,O c.ya c.yn c.yc,O c.oa c.on c.oc,O c.va c.vn c.vc,O c.fa c.fn c.fc,O c.ba c.bn c.bc,O c.la c.ln c.lc,O c.ka c.kn c.kc]=_;rw [b6,cp]
 obtain ⟨V1,bi⟩:=nm ((((W.alloc (ze #[zi (some ⟨bj,0,none⟩)] 161)).alloc (ze #[zd U 5,zd U (jv:Int),zd U ot,zd U ek,zd U en,O xa Z xc,O aa al ac,O ta tn tc,O ea el ec] 130)).alloc (ze #[O p1 q1 r1,O p2 q2 r2] 50)));have ca:Ov W V1:=by rw [bi];exact ((bA W _).alloc (by simp) _).alloc (by simp <;> omega) _
 obtain ⟨tl,er⟩:=nm ((A6 c.n Ls (A7 c.n) (AG K (Am d))));have bs:=Aa (h.over ca);have aj:=Aa J.n1;have io:=Aa (fun (f:World) {C:List (Int × Int)} {E:Value} (B:AM c.cs w0 bj av C E f)=>Hk J.n1 B co dx);have d9:Hx (∀ (f:World),Calls Tryz.prog 104 #[(zh #[zd U (c.n:Int),O c.ga c.gn c.gc,O c.sa c.sn c.sc,O c.ya c.yn c.yc,O c.oa c.on c.oc,O (some ⟨bv,ov,none⟩) c.vn c.vc,O c.fa c.fn c.fc,O c.ba c.bn c.bc,O (some ⟨bl,ol,none⟩) c.ln c.lc,O c.ka c.kn c.kc])] f fun e w'=>∃ vj,e=zj vj/\A1 f w' vj (A7 c.n)/\Ov f w'):=fun f=>by
  have:=ET c.n J.n1 J.n6 c.ga c.gn c.gc c.sa c.sn c.sc c.ya c.yn c.yc c.oa c.on c.oc c.va c.vn c.vc c.fa c.fn c.fc c.ba c.bn c.bc c.la c.ln c.lc c.ka c.kn c.kc f;rw [b6,cp] at this;exact this
 have KW:Hx (∀ (f:World) {x:Value},AM c.cs w0 bj av fl fv f->Aw c.n (XJ bj) f x (A7 c.n)->Calls Tryz.prog 103 #[(zh #[zd U (c.n:Int),O c.ga c.gn c.gc,O c.sa c.sn c.sc,O c.ya c.yn c.yc,O c.oa c.on c.oc,O (some ⟨bv,ov,none⟩) c.vn c.vc,O c.fa c.fn c.fc,O c.ba c.bn c.bc,O (some ⟨bl,ol,none⟩) c.ln c.lc,O c.ka c.kn c.kc]),x,zh #[zd U ek,zd U en,O xa Z xc]] f fun e w'=>(∃ p1 q1 r1 p2 q2 r2,e=zj (zh #[O p1 q1 r1,O p2 q2 r2])/\Aw c.n (XJ bj) w' (zh #[O p1 q1 r1,O p2 q2 r2]) tl)/\Ov f w'):=fun f x B hx=>by
  have:=JT J B x (A7 c.n) K [zd U ek,zd U en,O xa Z xc] (Am d) hx hX (Bd dg);rw [fg,<-er] at this;exact this
 obtain ⟨f5,ff⟩:=nm (Av p lz c.n);have KF:Hx (∀ (f:World) {C:List (Int × Int)} {E x y:Value},AM c.cs w0 bj av C E f->Aw c.n (XJ bj) f x p->Aw c.n (XJ bj) f y lz->Calls Tryz.prog 57 #[(zh #[zd U (c.n:Int),O c.ga c.gn c.gc,O c.sa c.sn c.sc,O c.ya c.yn c.yc,O c.oa c.on c.oc,O (some ⟨bv,ov,none⟩) c.vn c.vc,O c.fa c.fn c.fc,O c.ba c.bn c.bc,O (some ⟨bl,ol,none⟩) c.ln c.lc,O c.ka c.kn c.kc]),x,y] f fun e W'=>e=zj (zg f5)/\Ov f W'):=fun f C E x y B hx hy=>by
  have:=DY c gs x y _ _ f (Af J.gr B.below) J.chk hx.at_ hx.len hy.at_ hy.len;rw [fg,<-ff] at this;exact this
 have KB:=Aa (fun (f:World) {C:List (Int × Int)} {E:Value} (B:AM c.cs w0 bj av C E f) (hj:f.cell? ⟨s,0,none⟩=some (zi (some ⟨bj,0,none⟩))) (ha:f.cell? ⟨s+1,0,none⟩=some (zd U a)) (nj:¬ XJ bj f s) (na:¬ XJ bj f (s+1)) (jt:C.length<=1000) (k:Int) (is:Bool)=>Ge c.cs w0 bj av C E a k is s (s+1) f B hj ha nj na jt);obtain ⟨fm,e6⟩:∃ g:Int->Bool,g=fun v=>(Eb vs v).2.r.any fun q=>FB (Ax gs) c.n sp q.owner.toNat:=⟨_,rfl⟩;obtain ⟨fh,e7⟩:∃ g:Int->Bool,g=fun v=>!(Eb vs v).1:=⟨_,rfl⟩;have fu:Hx (∀ (j:Nat) (hj:j < vs.length) (f:World),AM c.cs w0 bj av fl fv f->∀ x,AL f x vs[j].2.r->Calls Tryz.prog 202 #[zi (some ⟨bj,0,none⟩),x] f fun e W'=>e=zj (zg (fm (j:Int)))/\Ov f W'):=fun j hj f B x hx=>by
  have dy:=Kr (hvc vs[j] (List.getElem_mem hj));have:=Rv c w0 bj av fl fv (Ax gs) sp A _ _ f B J.n6 hx (by have:=dy.1.1;omega) (fun q hq=>(dy.1.2 q hq).1);have e:Eb vs (j:Int)=vs[j]:=by unfold Eb;simp [List.getD_eq_getElem?_getD,hj]
  rw [e6];dsimp only;rw [e];exact this
 have kx:Hx (∀ (j:Nat) (hj:j < vs.length),fh (j:Int)=!vs[j].1):=fun j hj=>by
  have e:Eb vs (j:Int)=vs[j]:=by unfold Eb;simp [List.getD_eq_getElem?_getD,hj]
  rw [e7];dsimp only;rw [e]
 unfold Fz toL JV;rw [e5,<-ff,<-er,<-e6,<-e7];obtain ⟨f6,fe⟩:=nm ((AG K (Am d)).any fm);obtain ⟨f7,fb⟩:=nm ((AG K (Am d)).any fh);obtain ⟨f8,e9⟩:=nm (((List.range c.n).any fun i=>tl.w[i]?.getD false && !(lz.w[i]?.getD false)));obtain ⟨f9,e8⟩:=nm (((List.range c.n).any fun i=>(tl.w[i]?.getD false || p.w[i]?.getD false) && !K7 (Ax gs) c.n sp i));rw [<-fe,<-fb,<-e9,<-e8];have j8:Hx (∀ (f:World) {C:List (Int × Int)} {E:Value} {bt bo:Nat} {u1 u2:Value},AM c.cs w0 bj av C E f->f.cell? ⟨bt,1,none⟩=some u2->f.cell? ⟨bo,1,none⟩=some (O a4 a5 a6)->Aw c.n (XJ bj) f (zh #[u1,u2]) tl->Calls Tryz.prog 203 #[zi (some ⟨bj,0,none⟩),.func (.func 204) #[] #[zi (some ⟨bt,0,none⟩),zi (some ⟨bo,0,none⟩)]] f fun e W'=>e=zj (zg f8)/\Ov f W'):=fun f C E bt bo u1 u2 B ht ho az=>by
  rw [e9];have g8:=io.o f B;obtain ⟨x,y,e1,-,b1⟩:=id g8.at_;obtain ⟨x',y',e2,-,b2⟩:=id az.at_;simp at e1 e2;obtain ⟨rfl,rfl⟩:=e1;obtain ⟨rfl,rfl⟩:=e2;refine FU c w0 bj av C E 204 [zi (some ⟨bt,0,none⟩),zi (some ⟨bo,0,none⟩)] _ f B J.n6 (fun i hi w1 H=>?_) Iz;exact O7 c.n i bt bo _ _ _ _ w1 J.n6 hi (Ab H _ _ ht) (Ab H _ _ ho) (AF b2 H) az.len.2 (AF b1 H) g8.len.2
 have j7:Hx (∀ (f:World) {C:List (Int × Int)} {E:Value} {bt bp b3:Nat} {u1 u2 u3 u4:Value},AM c.cs w0 bj av C E f->f.cell? ⟨bt,1,none⟩=some u2->f.cell? ⟨bp,1,none⟩=some u4->f.cell? ⟨b3,0,none⟩=some (zi (some ⟨bj,0,none⟩))->Aw c.n (XJ bj) f (zh #[u1,u2]) tl->Aw c.n (XJ bj) f (zh #[u3,u4]) p->Calls Tryz.prog 203 #[zi (some ⟨bj,0,none⟩),.func (.func 205) #[] #[zi (some ⟨bt,0,none⟩),zi (some ⟨bp,0,none⟩),zi (some ⟨b3,0,none⟩)]] f fun e W'=>e=zj (zg f9)/\Ov f W'):=fun f C E bt bp b3 u1 u2 u3 u4 B ht hp h3 az g7=>by
  rw [e8];obtain ⟨x,y,e1,-,b1⟩:=id g7.at_;obtain ⟨x',y',e2,-,b2⟩:=id az.at_;simp at e1 e2;obtain ⟨rfl,rfl⟩:=e1;obtain ⟨rfl,rfl⟩:=e2;refine FU c w0 bj av C E 205 [zi (some ⟨bt,0,none⟩),zi (some ⟨bp,0,none⟩),zi (some ⟨b3,0,none⟩)] _ f B J.n6 (fun i hi w1 H=>?_) Iy;exact O6 c.n i bt bp b3 bj _ _ _ _ (K7 (Ax gs) c.n sp i) w1 J.n6 hi (Ab H _ _ ht) (Ab H _ _ hp) (Ab H _ _ h3) (AF b2 H) az.len.2 (AF b1 H) g7.len.2 (fun W3 fk=>SB c w0 bj av C E (Ax gs) sp A i W3 ((B.over H).over fk) J.n6 hi)
 have hh:V1.heap.size=W.heap.size+1+1+1:=by rw [bi];simp
 have V:Hx (TB bj [(W.heap.size,[zi (some ⟨bj,0,none⟩)]),(W.heap.size+1,[zd U 5,zd U (jv:Int),zd U ot,zd U ek,zd U en,O xa Z xc,O aa al ac,O ta tn tc,O ea el ec]),(W.heap.size+1+1,[O p1 q1 r1,O p2 q2 r2]),(s,[zi (some ⟨bj,0,none⟩)]),(s+1,[zd U a])] V1):=by
  have hF:=FrW.of_below (Al bj) ca;have M:∀ q,W.heap.size<=q->¬ XJ bj V1 q:=fun q hq e=>by have:=(h.xlt q ((Al bj).below _ _ ca q e)).2;omega
  refine TB.add (TB.add (TB.add (TB.add (TB.add TB.nil ?_ ?_ ?_) ?_ ?_ ?_) ?_ (M _ (by omega)) (by omega)) ?_ (M _ (by omega)) (by omega)) ?_ (M _ (Nat.le_refl _)) (by omega)
  ·exact hF.row (fun j u hu=>by match j with | 0=>simp at hu;subst hu;exact G.a | j+1=>simp at hu) (G.x _ (by omega) (by omega))
  ·exact fun e=>G.x _ (by omega) (by omega) (hF.mov _ (by have:=G.lt;omega) e)
  ·have:=G.lt;have:=hF.size;omega
  ·exact hF.row (fun j u hu=>by match j with | 0=>simp at hu;subst hu;exact G.j | j+1=>simp at hu) (G.x _ (by omega) (by omega))
  ·exact fun e=>G.x _ (by omega) (by omega) (hF.mov _ (by have:=G.lt;omega) e)
  ·have:=G.lt;have:=hF.size;omega
  ·rw [bi]
   have r:=Ad.new [O p1 q1 r1,O p2 q2 r2] 50 ((W.alloc (ze #[zi (some ⟨bj,0,none⟩)] 161)).alloc (ze #[zd U 5,zd U (jv:Int),zd U ot,zd U ek,zd U en,O xa Z xc,O aa al ac,O ta tn tc,O ea el ec] 130));simpa using r
  ·rw [bi]
   have r:=(Ad.new [zd U 5,zd U (jv:Int),zd U ot,zd U ek,zd U en,O xa Z xc,O aa al ac,O ta tn tc,O ea el ec] 130 (W.alloc (ze #[zi (some ⟨bj,0,none⟩)] 161))).over (bA _ (ze #[O p1 q1 r1,O p2 q2 r2] 50));simpa using r
  ·rw [bi]
   exact (Ad.new [zi (some ⟨bj,0,none⟩)] 161 W).over ((bA _ _).alloc (by simp) _)
 have HS:Hx (∀ (f:World),Ov V1 f->Rd W bj c bv ov bl ol jv ek en xa Z xc a1 a2 a3 a4 a5 a6 f):=fun f b9=>by
  have B:=bs.o.over b9;exact ⟨((V.o.row 0 rfl).over b9) 0 _ rfl,B.cw 0 _ rfl,B.cw 1 _ rfl,B.cw 2 _ rfl,B.cw 3 _ rfl,B.cw 4 _ rfl,by rw [<-b6];exact B.cw 5 _ rfl,B.cw 6 _ rfl,B.cw 7 _ rfl,by rw [<-cp];exact B.cw 8 _ rfl,B.cw 9 _ rfl,((V.o.row 1 rfl).over b9) 1 _ rfl,((V.o.row 1 rfl).over b9) 3 _ rfl,((V.o.row 1 rfl).over b9) 4 _ rfl,((V.o.row 1 rfl).over b9) 5 _ rfl,Ab B.below _ _ k0,Ab B.below _ _ k1⟩
 have dq:Hx (∀ (f:World) {C:List (Int × Int)} {E:Value} {bm bh bt bo:Nat} {t1:Option Addr} {t2 t3:Nat} {t4:Option Addr} {t5 t6:Nat},AM c.cs w0 bj av C E f->TB bj ([(bm,[zg f6]),(bh,[zg f7]),(bt,[O t1 t2 t3,O t4 t5 t6]),(bo,[O a1 a2 a3,O a4 a5 a6]),(W.heap.size,[zi (some ⟨bj,0,none⟩)]),(W.heap.size+1,[zd U 5,zd U (jv:Int),zd U ot,zd U ek,zd U en,O xa Z xc,O aa al ac,O ta tn tc,O ea el ec]),(W.heap.size+1+1,[O p1 q1 r1,O p2 q2 r2]),(s,[zi (some ⟨bj,0,none⟩)]),(s+1,[zd U a])]) f->Rc W bj c bv ov bl ol p1 q1 r1 p2 q2 r2 bo a1 a2 a3 a4 a5 a6 f):=fun f C E bm bh bt bo t1 t2 t3 t4 t5 t6 B r2=>⟨(r2.row 4 rfl) 0 _ rfl,B.cw 0 _ rfl,B.cw 1 _ rfl,B.cw 2 _ rfl,B.cw 3 _ rfl,B.cw 4 _ rfl,by rw [<-b6];exact B.cw 5 _ rfl,B.cw 6 _ rfl,B.cw 7 _ rfl,by rw [<-cp];exact B.cw 8 _ rfl,B.cw 9 _ rfl,(r2.row 6 rfl) 0 _ rfl,(r2.row 6 rfl) 1 _ rfl,(r2.row 3 rfl) 0 _ rfl,(r2.row 3 rfl) 1 _ rfl⟩;have du:Hx (Ov V1 V1.drew):=(bD _);have im:=Aa (hl.over (Al bj) ca);have i7:=Aa (FrW.of_below (Al bj) ca);have iz:Hx (fl.length<=1000):=by unfold Hx;omega
 have iy:Hx ((addF a 5 fl (!f5)).length<=1000):=Nat.le_trans (AV _ _ _ _) (by omega);have ix:Hx ((addF a 6 (addF a 5 fl (!f5)) f6).length<=1000):=Nat.le_trans (AV _ _ _ _) (by have:=AV a 5 fl (!f5);omega);have iw:Hx ((addF a 7 (addF a 6 (addF a 5 fl (!f5)) f6) f7).length<=1000):=Nat.le_trans (AV _ _ _ _) (by have:=AV a 5 fl (!f5);have:=AV a 6 (addF a 5 fl (!f5)) f6;omega);have iv:Hx ((addF a 8 (addF a 7 (addF a 6 (addF a 5 fl (!f5)) f6) f7) f8).length<=1000):=Nat.le_trans (AV _ _ _ _) (by have:=AV a 5 fl (!f5);have:=AV a 6 (addF a 5 fl (!f5)) f6;have:=AV a 7 (addF a 6 (addF a 5 fl (!f5)) f6) f7;omega);have my:(jv:Int) < (c.ln:Int):=by omega
 have mx:c.ln<=16:=by rw [g9];exact J.l16
 have mw:c.vn<=16:=by have:=J.l16;omega
 obtain ⟨ys,ep⟩:∃ ys:List (EW Ls.length),ys.map Subtype.val=AG K (Am d):=OJ Ls.length _ (Bd dg);have fr:=Aa ep;have fy:=Aa fe;have fx:=Aa fb;have ef:=Aa (fun (f:World) (B:AM c.cs w0 bj av fl fv f) (W3:World) (fk:Ov f W3) (bx:Nat) (jz:bx < W3.heap.size) (k0:W3.cell? ⟨bx,0,none⟩=some (zd U ek)) (k1:W3.cell? ⟨bx,1,none⟩=some (zd U en)) (k2:W3.cell? ⟨bx,2,none⟩=some (O xa Z xc))=>GX Fence.wide rfl 2 trivial trivial rfl Ls.length bx K f ek en xa Z xc (Am d) ys W3 jz fk k0 k1 k2 (hX.over B.below) ep);have kf:=Aa b0;have kg:=Aa b6;have ke:Hx (vs.length=Ls.length):=hvn;have kd:=Aa dw;have kb:Hx (w0.heap.size<=W.heap.size):=h.below.size;obtain ⟨u0,u1,u2,u3,u4,u5,u6,u7,u8,u9,u10,u11,u12,u13,u14,u15,u16⟩:=HS.o _ (Below.refl _ _);clear ep ew dx er e6 e7 ff fe fb e9 e8 hh hvn e5 ju fg gp b6 dw b0 v1 v2 v3 jn cp g9 k0 k1 co di jp gw hg gq hf hl gu hX hA hT hE dg J A j1 hvc jx hk i0 i1 i2 dj ey ca G h;refine (callsIn_wide (n:=3)).1 ?_;refine callsIn_of_wp_marks Tryz.func152 rfl trivial ?_ rfl;simp only [Tryz.ntmps152,List.size_toArray,List.length_cons,List.length_nil,Nat.reduceAdd,Nat.reduceSub,Array.replicate_succ,Array.replicate_zero,List.push_toArray,List.append_toArray,List.nil_append,List.cons_append];refine wpIn_wide.2 ?_;go_wp2_with fail;rw [<-bi];clear bi;refine Cw (fun d6 f=>∃ (bt bo:Nat) (x13 x14 x15 x16 x17 x18 x19 x20 x21 x22 x23 x24 x25 x26 x27 x28 x29 x30 x31 x32 x33 x34:Value) (t1:Option Addr) (t2 t3:Nat) (t4:Option Addr) (t5 t6:Nat),d6={ tmps:=#[zi (some ⟨bj,0,none⟩),zh #[zd U 5,zd U (jv:Int),zd U ot,zd U ek,zd U en,O xa Z xc,O aa al ac,O ta tn tc,O ea el ec],zh #[O p1 q1 r1,O p2 q2 r2],.func (.func 149) #[] #[zi (some ⟨s,0,none⟩),zi (some ⟨s+1,0,none⟩)],zi (some ⟨W.heap.size,0,none⟩),zi (some ⟨W.heap.size+1,0,none⟩),zi (some ⟨W.heap.size+1+1,0,none⟩),undef,zi (some ⟨bt,0,none⟩),zi (some ⟨bo,0,none⟩),undef,undef,undef,x13,x14,x15,x16,x17,x18,x19,x20,x21,x22,x23,x24,x25,x26,x27,x28,x29,x30,x31,x32,x33,x34,undef,undef,undef,undef,undef,undef,undef,undef,undef,undef,undef,undef,undef,undef,undef,undef,undef,undef,undef,undef,undef,undef,undef,undef,undef,undef,undef,undef,undef,undef,undef,undef,undef,undef,undef,undef,undef,undef,undef,undef,undef,undef,undef,undef,undef,undef,undef,undef,undef,undef,undef,undef,undef,undef,undef,undef,undef,undef,undef,undef],defers:=[] }/\Ov V1 f/\Ad [O t1 t2 t3,O t4 t5 t6] f bt/\Ad [O a1 a2 a3,O a4 a5 a6] f bo/\Aw c.n (XJ bj) f (zh #[O t1 t2 t3,O t4 t5 t6]) tl/\(V1.heap.size<=bt/\bt < f.heap.size)/\(V1.heap.size<=bo/\bo < f.heap.size)/\bt≠bo) ?_ ?_
 ·refine gS (Rd W bj c bv ov bl ol jv ek en xa Z xc a1 a2 a3 a4 a5 a6) (HS.o _ du.o) fun t=>?_
  refine kT 0 ?_;refine kT 1 ?_;refine kT 2 ?_;refine kT 3 ?_;refine kT 4 ?_;refine kT 5 ?_;refine kT 6 ?_;refine kT 7 ?_;refine kT 9 ?_;refine kT 10 ?_;refine kT 12 ?_;refine kT 13 ?_;refine kT 14 ?_;refine kT 15 ?_;refine kT 16 ?_;refine kT 17 ?_;refine kT 18 ?_;refine kT 19 ?_;refine kT 20 ?_;refine kT 21 ?_;have N:=du;generalize V1.drew=Wc at N t ⊢;clear du;refine rdC 8 22 23 rfl (fun K h8=>?_) rfl (fun K ag=>?_) rfl (fun K af=>?_) (by decide +kernel);all_goals repeat' first
   | (
    have hi:=h8;clear hi;go_simp;refine (d9.o _).mono ?_;rintro e Wc ⟨vj,rfl,hL,H⟩;have hN:=Bm hL;have hA:=Aq hL;obtain ⟨v1,v2,rfl,gy,gx,-⟩:=hL;obtain ⟨y1,y2,y3,rfl⟩:=AE gy;obtain ⟨y4,y5,y6,rfl⟩:=AE gx;have hN:=EL hN N.o.size;replace N:=Aa (Ac N.o H);have cg:=Aa (⟨hA,EU _,B8 (Al bj) N.o (fun k hk=>(bs.o.xlt k hk).2) hN⟩:Aw c.n (XJ bj) Wc _ (A7 c.n));(try replace HT:=Aa (HT.o.over H))
    (try replace HO:=Aa (HO.o.over H))
    clear hN hA gy gx H;go_simp;refine xK h8 (HS.o _ N.o) fun t=>?_;clear h8 K;first | (refine rdC 11 22 23 rfl (fun K ah=>?_) rfl (fun K ag=>?_) rfl (fun K af=>?_) (by decide +kernel)) | (refine rdA 11 rfl (fun K ah=>?_) (by decide +kernel)) | (refine rdB 11 22 rfl (fun K ah=>?_) rfl (fun K ag=>?_) (by decide +kernel)) | (refine rdB 11 23 rfl (fun K ah=>?_) rfl (fun K af=>?_) (by decide +kernel)))
   | (
    have hi:=ah;clear hi;go_simp;refine (KW.o _ (bs.o.over N.o) cg.o).mono ?_;rintro e Wc ⟨⟨o1,o2,o3,o4,o5,o6,rfl,hL⟩,H⟩;replace N:=Aa (Ac N.o H);(try replace HT:=Aa (HT.o.over H))
    (try replace HO:=Aa (HO.o.over H))
    have cf:=Aa hL;clear cg hL H;go_simp;refine xK ah (HS.o _ N.o) fun t=>?_;clear ah K;first | (refine rdB 22 23 rfl (fun K ag=>?_) rfl (fun K af=>?_) (by decide +kernel)) | (refine rdA 24 rfl (fun K cr=>?_) (by decide +kernel)) | (refine rdA 22 rfl (fun K ag=>?_) (by decide +kernel)) | (refine rdA 23 rfl (fun K af=>?_) (by decide +kernel)))
   | (
    have hi:=ag;clear hi;have H:=bA Wc (ze #[O none 0 0,O none 0 0] 50);have hz:=DJ 50 Wc;have e3:=N.o.size;obtain ⟨bt,hq⟩:∃ b:Nat,b=Wc.heap.size:=⟨_,rfl⟩;rw [<-hq] at hz e3;(try have b8:bt≠bo:=by have:=HO.o.lt;omega)
    go_simp;rw [<-hq];obtain ⟨Wc,L⟩:=nm (Wc.alloc (ze #[O none 0 0,O none 0 0] 50));rw [<-L] at H hz ⊢;replace N:=Aa (Ac N.o H);(try replace HO:=Aa (HO.o.over H))
    (try replace cg:=Aa (cg.o.over (Al bj) H))
    (try replace cf:=Aa (cf.o.over (Al bj) H))
    have HT:=Aa hz;clear H hz L hq;refine xK ag (HS.o _ N.o) fun t=>?_;clear ag K;first | (refine rdA 24 rfl (fun K cr=>?_) (by decide +kernel)) | (refine rdB 8 23 rfl (fun K h8=>?_) rfl (fun K af=>?_) (by decide +kernel)) | (refine rdB 11 23 rfl (fun K ah=>?_) rfl (fun K af=>?_) (by decide +kernel)) | (refine rdA 23 rfl (fun K af=>?_) (by decide +kernel)) | (refine rdA 8 rfl (fun K h8=>?_) (by decide +kernel)) | (refine rdA 11 rfl (fun K ah=>?_) (by decide +kernel)))
   | (
    have hi:=af;clear hi;have H:=bA Wc (ze #[O none 0 0,O none 0 0] 50);have hz:=DJ 50 Wc;have e4:=N.o.size;obtain ⟨bo,hq⟩:∃ b:Nat,b=Wc.heap.size:=⟨_,rfl⟩;rw [<-hq] at hz e4;(try have b8:bt≠bo:=by have:=HT.o.lt;omega)
    go_simp;rw [<-hq];obtain ⟨Wc,L⟩:=nm (Wc.alloc (ze #[O none 0 0,O none 0 0] 50));rw [<-L] at H hz ⊢;replace N:=Aa (Ac N.o H);(try replace HT:=Aa (HT.o.over H))
    (try replace cg:=Aa (cg.o.over (Al bj) H))
    (try replace cf:=Aa (cf.o.over (Al bj) H))
    have HO:=Aa hz;clear H hz L hq;refine xK af (HS.o _ N.o) fun t=>?_;clear af K;first | (refine rdA 24 rfl (fun K cr=>?_) (by decide +kernel)) | (refine rdB 8 22 rfl (fun K h8=>?_) rfl (fun K ag=>?_) (by decide +kernel)) | (refine rdB 11 22 rfl (fun K ah=>?_) rfl (fun K ag=>?_) (by decide +kernel)) | (refine rdA 22 rfl (fun K ag=>?_) (by decide +kernel)) | (refine rdA 8 rfl (fun K h8=>?_) (by decide +kernel)) | (refine rdA 11 rfl (fun K ah=>?_) (by decide +kernel)))
   | (
    have hi:=cr;clear hi;have d0:=HT.o.c0;have d1:=HT.o.c1;have z0:=HT.o.z0;have z1:=HT.o.z1;have mn:bj < V1.heap.size:=bs.o.lo.2;obtain ⟨Wn,L⟩:=nm (BC Wc bt (O o1 o2 o3) (O o4 o5 o6));replace N:Hx (Ov V1 Wn):=by rw [L];exact B7 N.o e3 _ _
    replace HO:Hx (ZB bo Wn):=by rw [L];exact HO.o.other (Ne.symm b8) _ _
    have HR:Hx (Ad [O o1 o2 o3,O o4 o5 o6] Wn bt):=by rw [L];exact HT.o.fill _ _
    have HL:Hx (Aw c.n (XJ bj) Wn (zh #[O o1 o2 o3,O o4 o5 o6]) tl):=by rw [L];exact EO cf.o HT.o (by omega) _ _
    unfold BC at L;go_simp;rw [<-L];clear L d0 d1 z0 z1 cf HT;refine xK cr (HS.o _ N.o) fun t=>?_;clear cr K;refine rdA 25 rfl (fun K fp=>?_) (by decide +kernel))
   | (
    have hi:=fp;clear hi;have e0:=HO.o.c0;have e1:=HO.o.c1;have y0:=HO.o.z0;have y1:=HO.o.z1;obtain ⟨Wm,bg⟩:=nm (BC Wn bo (O a1 a2 a3) (O a4 a5 a6));replace N:Hx (Ov V1 Wm):=by rw [bg];exact B7 N.o e4 _ _
    replace HR:Hx (Ad [O o1 o2 o3,O o4 o5 o6] Wm bt):=by rw [bg];exact J4 HR.o b8 _ _
    have HQ:Hx (Ad [O a1 a2 a3,O a4 a5 a6] Wm bo):=by rw [bg];exact HO.o.fill _ _
    replace HL:Hx (Aw c.n (XJ bj) Wm (zh #[O o1 o2 o3,O o4 o5 o6]) tl):=by rw [bg];exact EO HL.o HO.o (by omega) _ _
    unfold BC at bg;go_simp;rw [<-bg];clear bg;refine xK fp (HS.o _ N.o) fun t=>?_;clear fp K;refine gE ?_;exact Ba ⟨bt,bo,_,_,_,_,_,_,_,_,_,_,_,_,_,_,_,_,_,_,_,_,_,_,o1,o2,o3,o4,o5,o6,rfl,N.o,HR.o,HQ.o,HL.o,⟨e3,bL (HR.o 0 _ rfl)⟩,⟨e4,bL (HQ.o 0 _ rfl)⟩,b8⟩)
 rintro d6 f ⟨bt,bo,x13,x14,x15,x16,x17,x18,x19,x20,x21,x22,x23,x24,x25,x26,x27,x28,x29,x30,x31,x32,x33,x34,t1,t2,t3,t4,t5,t6,rfl,ce,gt,gv,az,⟨h5,h4⟩,⟨h7,h6⟩,b8⟩;clear u0 u1 u2 u3 u4 u5 u6 u7 u8 u9 u10 u11 u12 u13 u14 u15 u16 HS du;have M:∀ q,V1.heap.size<=q->¬ XJ bj f q:=fun q hq e=>by have:=(bs.o.xlt q ((Al bj).below _ _ ce q e)).2;omega
 have ch:=Aa (bs.o.over ce);have f2:=Aa (i7.o.trans (FrW.of_below (Al bj) ce));have aq:Hx (TB bj [(bt,[O t1 t2 t3,O t4 t5 t6]),(bo,[O a1 a2 a3,O a4 a5 a6]),(W.heap.size,[zi (some ⟨bj,0,none⟩)]),(W.heap.size+1,[zd U 5,zd U (jv:Int),zd U ot,zd U ek,zd U en,O xa Z xc,O aa al ac,O ta tn tc,O ea el ec]),(W.heap.size+1+1,[O p1 q1 r1,O p2 q2 r2]),(s,[zi (some ⟨bj,0,none⟩)]),(s+1,[zd U a])] f):=((V.o.keep (FrW.of_below (Al bj) ce)).add gv (M _ h7) h6).add gt (M _ h5) h4;have ik:=Aa (im.o.over (Al bj) ce);have ih:=Aa az;have ie:Hx (W.heap.size<=f.heap.size):=f2.o.size;have y3:((f.alloc (ze #[zg false] 4)).alloc (ze #[zg false] 4)).cell? ⟨W.heap.size+1,3,none⟩=_:=Ab ((bA f _).alloc (by simp) _) _ _ ((aq.o.row 3 rfl) 3 _ rfl);have y4:((f.alloc (ze #[zg false] 4)).alloc (ze #[zg false] 4)).cell? ⟨W.heap.size+1,4,none⟩=_:=Ab ((bA f _).alloc (by simp) _) _ _ ((aq.o.row 3 rfl) 4 _ rfl);have y5:((f.alloc (ze #[zg false] 4)).alloc (ze #[zg false] 4)).cell? ⟨W.heap.size+1,5,none⟩=_:=Ab ((bA f _).alloc (by simp) _) _ _ ((aq.o.row 3 rfl) 5 _ rfl);clear M ce gt gv az h5 h4 h7 h6 b8 im V i7 bs d9 KW;have cq:Ov f (((f.alloc (ze #[zg false] 4)).alloc (ze #[zg false] 4)).alloc (ze #[zd U ek,zd U en,O xa Z xc] 94)):=((bA f _).alloc (by simp) _).alloc (by simp <;> omega) _
 have c6:=Aa cq;have fw:Hx (RvI f.heap.size fm fh Ls.length [] (((f.alloc (ze #[zg false] 4)).alloc (ze #[zg false] 4)).alloc (ze #[zd U ek,zd U en,O xa Z xc] 94))):=⟨by simp [go_sem],by simp [go_sem],by simp [go_sem],by simp [go_sem]⟩;have ft:=Aa (ef.o f ch.o _ cq (f.heap.size+1+1) (by simp) (by simp [go_sem]) (by simp [go_sem]) (by simp [go_sem]));clear cq ef;have KV:=Aa fun (w:World)=>(callsIn_wide (n:=3)).1 (MM Fence.wide 3 trivial rfl ek en xa Z xc w);go_wp2_with fail;refine (KV.o _).mono ?_;rintro e w' ⟨rfl,rfl⟩;go_wp2_with fail;refine (wpIn_wide (n:=3)).1 ?_;refine wpIn_rangeFunc_ownF (F:=Fence.wide) rfl (by omega) (gf:=210) (lb:=#[zi (some ⟨f.heap.size+1+1,0,none⟩)]) rfl trivial (enters_of Tryz.func210 (by kernel_rfl) rfl)
  ft.o belowK_t (belowK_b (by simp <;> omega)) (Below.refl _ _) (fun _=>rfl)
  (fun cn W=>RvI f.heap.size fm fh Ls.length cn W/\Ov f W)
  (fun _ _ _=>False)
  (OwnFrom.and (Own.from (PZ f.heap.size fm fh Ls.length) _) (ownFrom_below (Nat.le_refl _) (by simp <;> omega)))
  (fun _ _ _ _ _ hs _ _=>hs)
  ⟨fw.o,c6.o⟩
  (fun x=>{ tmps:=#[zi (some ⟨bj,0,none⟩),zh #[zd U 5,zd U (jv:Int),zd U ot,zd U ek,zd U en,O xa Z xc,O aa al ac,O ta tn tc,O ea el ec],zh #[O p1 q1 r1,O p2 q2 r2],.func (.func 149) #[] #[zi (some ⟨s,0,none⟩),zi (some ⟨s+1,0,none⟩)],zi (some ⟨W.heap.size,0,none⟩),zi (some ⟨W.heap.size+1,0,none⟩),zi (some ⟨W.heap.size+1+1,0,none⟩),undef,zi (some ⟨bt,0,none⟩),zi (some ⟨bo,0,none⟩),zi (some ⟨f.heap.size,0,none⟩),zi (some ⟨f.heap.size+1,0,none⟩),zd U x.1,x13,x14,x15,x16,x17,x18,x19,x20,x21,x22,x23,x24,x25,x26,x27,x28,x29,x30,x31,x32,x33,x34,zi (some ⟨W.heap.size+1,3,none⟩),zh #[zd U ek,zd U en,O xa Z xc],.func (.func 210) #[] #[zi (some ⟨f.heap.size+1+1,0,none⟩)],zd U x.1,undef,undef,undef,undef,undef,undef,undef,undef,undef,undef,undef,undef,undef,undef,undef,undef,undef,undef,undef,undef,undef,undef,undef,undef,undef,undef,undef,undef,undef,undef,undef,undef,undef,undef,undef,undef,undef,undef,undef,undef,undef,undef,undef,undef,undef,undef,undef,undef,undef,undef,undef,undef,undef,undef,undef,undef],defers:=[] }) ?assign ?body ?done ?stop
 case assign=>
  intro l x W K I
  gi_wp2
  exact I
 case body=>
  clear ft fw c6 fr;rintro lo cn x Wr ⟨⟨c0,f0,c1,f1⟩,hB⟩ _;obtain ⟨m0,eu⟩:=nm ((cn.map Subtype.val).any fm);obtain ⟨h0,ez⟩:=nm ((cn.map Subtype.val).any fh);rw [<-eu] at c0;rw [<-ez] at c1;have ar:=Aa fun (Wj:World) (m1 h1:Bool) (dk:Ov Wr Wj) (e1:m1=(m0 || fm x.1)) (e2:h1=(h0 || fh x.1))=>PY (x:=x) c0 f0 c1 f1 eu.symm ez.symm hB dk e1 e2;clear eu ez;obtain ⟨x,mk,mj⟩:=x;obtain ⟨j,rfl⟩:∃ j:Nat,x=(j:Int):=⟨x.toNat,by omega⟩;have hj:j < vs.length:=by rw [ke.o];omega
  obtain ⟨pr,pw,q0,q1,q2,es,jr⟩:=kf.o j hj;obtain ⟨de,dc,dd,rfl⟩:=Az es;obtain ⟨kn,ex⟩:=nm (vs[j].1);rw [<-ex] at q0;have iu:Hx (fh (j:Int)=!kn):=by rw [ex];exact kx.o j hj
  have au:Hx (∀ Wz:World,Ov f Wz->Ot W bj bv ov c j kn de dc dd Wz):=fun Wz hz=>by
   have B:=ch.o.over hz;exact ⟨Ab hz _ _ ((aq.o.row 2 rfl) 0 _ rfl),by rw [<-kg.o];exact B.cw 5 _ rfl,Ab B.below _ _ q0,Ab B.below _ _ q1⟩
  obtain ⟨mr,et⟩:=nm (fm (j:Int));have j9:Hx (∀ Wz:World,Ov f Wz->Calls Tryz.prog 202 #[zi (some ⟨bj,0,none⟩),O de dc dd] Wz fun e W'=>e=zj (zg mr)/\Ov Wz W'):=fun Wz hz=>by
   have B:=ch.o.over hz;rw [et];exact fu.o j hj Wz B _ (Ak es B.below)
  have ds:Hx (fm (j:Int)=mr):=et.symm;have mo:(j:Int) < (c.vn:Int):=by have:=kd.o;omega
  have g6:=bL c0;have g5:=bL c1;clear et ex q0 q1 q2 es jr hj;have gz:Tryz.prog.follows .mixedOrders=true:=by kernel_rfl
  have mp:1<=3 - 1 - 1:=by omega
  cases m0 with
  | true=>
   gi_wp2
   refine DN (S:=fun Wz=>Ot W bj bv ov c j kn de dc dd Wz) gz ?_ ?_
   ·intro i o ho c hc
    match i with
    | 0 | 1 | 2 | 3 | 4 | 5 | 6 | 7 | 8 | 9 | 10 | 11 | 12 | 13 | 14 | 15 | 16=>simp at ho;subst ho;cases hc
    | i+17=>simp at ho
   refine rdA 0 rfl fun K I=>?_;go_simp;refine xK I (au.o _ (hB.drew)) fun t=>?_;clear I K;refine kT 1 ?_;refine kU 2 ?_;refine kU 3 ?_;refine kU 4 ?_;refine kU 5 ?_;refine kU 6 ?_;refine kU 7 ?_;refine kU 8 ?_;refine kU 9 ?_;refine kU 10 ?_;refine kU 11 ?_;refine kU 12 ?_;refine kU 13 ?_;refine kU 14 ?_;refine kT 15 ?_;refine rdA 16 rfl fun K I=>?_;go_simp;refine xK I (by exact au.o _ ((hB.drew).setCell (Nat.le_refl _) _)) fun t=>?_;clear I K;refine gE ?_;refine Ba ?_;have hm:=au.o (Wr.drew.setCell ⟨f.heap.size,0,none⟩ (zg true)) ((hB.drew).setCell (Nat.le_refl _) _);obtain ⟨n0,n1,n2,n3⟩:=hm
   cases h0 with
   | true=>
    gi_wp2
    exact ar.o Wr.drew true true (bD Wr) (by simp [ds.o]) (by simp)
   | false=>
    gi_wp2
    exact ar.o Wr.drew true (!kn) (bD Wr) (by simp [ds.o]) (by simp [iu.o])
  | false=>
   gi_wp2
   refine DN (S:=fun Wz=>Ot W bj bv ov c j kn de dc dd Wz) gz ?_ ?_
   ·intro i o ho c hc
    match i with
    | 0 | 1 | 2 | 3 | 4 | 5 | 6 | 7 | 8 | 9 | 10 | 11 | 12 | 13 | 14 | 15 | 16=>simp at ho;subst ho;cases hc
    | i+17=>simp at ho
   refine rdA 0 rfl fun K I=>?_;go_simp;refine xK I (au.o _ (hB.drew)) fun t=>?_;clear I K;refine kT 1 ?_;refine kT 2 ?_;refine kT 3 ?_;refine kT 4 ?_;refine kT 5 ?_;refine kT 6 ?_;refine kT 7 ?_;refine kT 8 ?_;refine kT 9 ?_;refine kT 10 ?_;refine kT 11 ?_;refine kT 12 ?_;refine kT 13 ?_;refine rdA 14 rfl fun K I=>?_;go_simp;refine (j9.o _ (hB.drew)).mono ?_;rintro e wj ⟨rfl,dk⟩;have bu:Hx (Ov Wr wj):=(bD Wr).trans (dk.mono (Nat.le_refl _));have nd:=Ab bu.o _ _ c0;have m8:wj.frozen? ⟨f.heap.size,0,none⟩=false:=((An bu.o).2 _ _ g6).trans f0;have nc:=Ab bu.o _ _ c1;have m7:wj.frozen? ⟨f.heap.size+1,0,none⟩=false:=((An bu.o).2 _ _ g5).trans f1;have c5:=Aa (hB.trans (bu.o.mono hB.size));clear dk;go_simp;refine xK I (au.o _ c5.o) fun t=>?_;clear I K;refine kT 15 ?_;refine rdA 16 rfl fun K I=>?_;go_simp;refine xK I (by exact au.o _ ((c5.o).setCell (Nat.le_refl _) _)) fun t=>?_;clear I K;refine gE ?_;refine Ba ?_;have hm:=au.o (wj.setCell ⟨f.heap.size,0,none⟩ (zg mr)) ((c5.o).setCell (Nat.le_refl _) _);obtain ⟨n0,n1,n2,n3⟩:=hm
   cases h0 with
   | true=>
    gi_wp2
    exact ar.o wj mr true bu.o (by simp [ds.o]) (by simp)
   | false=>
    gi_wp2
    exact ar.o wj mr (!kn) bu.o (by simp [ds.o]) (by simp [iu.o])
 case done=>
  rintro D zs c3 hD rfl ⟨⟨c0,f0,c1,f1⟩,hB⟩ I;rw [fr.o,<-fy.o] at c0;rw [fr.o,<-fx.o] at c1;obtain ⟨bm,fi⟩:=nm f.heap.size;obtain ⟨bh,fj⟩:=nm (f.heap.size+1);have M:∀ q,f.heap.size<=q->¬ XJ bj c3 q:=fun q hq e=>by have:=(ch.o.xlt q ((Al bj).below _ _ hB q e)).2;omega
  rw [<-fi] at c0;rw [<-fj] at c1;have dl:f.heap.size<=D:=by simp at hD;omega
  have k7:Hx (w0.heap.size<=D):=Nat.le_trans (Nat.le_trans kb.o ie.o) dl;have i8:Hx (W.heap.size<=D):=Nat.le_trans ie.o dl;have c4:=Aa (ch.o.over hB);have em:=Aa (f2.o.trans (FrW.of_below (Al bj) hB));have bq:Hx (TB bj ([(bm,[zg f6]),(bh,[zg f7]),(bt,[O t1 t2 t3,O t4 t5 t6]),(bo,[O a1 a2 a3,O a4 a5 a6]),(W.heap.size,[zi (some ⟨bj,0,none⟩)]),(W.heap.size+1,[zd U 5,zd U (jv:Int),zd U ot,zd U ek,zd U en,O xa Z xc,O aa al ac,O ta tn tc,O ea el ec]),(W.heap.size+1+1,[O p1 q1 r1,O p2 q2 r2]),(s,[zi (some ⟨bj,0,none⟩)]),(s+1,[zd U a])]) c3):=((aq.o.keep (FrW.of_below (Al bj) hB)).one c1 (M _ (by omega))).one c0 (M _ (by omega));have eg:=Aa (ik.o.over (Al bj) hB);have ed:=Aa (ih.o.over (Al bj) hB);have eo:Hx (DK bj D c3):=⟨I,M _ dl⟩;have bd:Ov c3 c3.drew:=(bD _);have dt:=Aa (c4.o.over bd);have k6:=Aa (em.o.trans (FrW.of_below (Al bj) bd));have eb:=Aa (bq.o.keep (FrW.of_below (Al bj) bd));have ij:=Aa (eg.o.over (Al bj) bd);have km:=Aa (ed.o.over (Al bj) bd);have lh:=Aa (eo.o.keep (FrW.of_below (Al bj) bd));have kv:=Aa (io.o _ dt.o);have kp:=Aa (dq.o _ dt.o eb.o);obtain ⟨u0,u1,u2,u3,u4,u5,u6,u7,u8,u9,u10,u11,u12,u13,u14⟩:=dq.o _ c4.o bq.o;clear c4 em bq eg ed eo bd I c0 f0 c1 f1 hB M hD dl ft fw c6 ch f2 aq ik ih y3 y4 y5;rw [<-fj,<-fi];clear fi fj;go_wp2_with fail;refine J5 ?_;refine gS (Rc W bj c bv ov bl ol p1 q1 r1 p2 q2 r2 bo a1 a2 a3 a4 a5 a6) (kp.o) fun t=>?_;refine kT 0 ?_;refine kT 1 ?_;refine kT 2 ?_;refine kT 3 ?_;refine kT 4 ?_;refine kT 5 ?_;refine kT 6 ?_;refine rdA 7 rfl fun K I=>?_;go_simp;refine (KF.o _ dt.o ij.o kv.o).mono ?_;rintro e W5 ⟨rfl,bf⟩;have ir:=Aa (dt.o.over bf);have ao:=Aa (eb.o.keep (FrW.of_below (Al bj) bf));have k5:=Aa (k6.o.trans (FrW.of_below (Al bj) bf));have kl:=Aa (km.o.over (Al bj) bf);have ku:=Aa (ij.o.over (Al bj) bf);have lg:=Aa (lh.o.keep (FrW.of_below (Al bj) bf));have au:=Aa (dq.o W5 ir.o ao.o);clear bf;go_simp;refine xK I (au.o) fun t=>?_;clear I K;refine kT 8 ?_;refine rdA 9 rfl fun K I=>?_;go_simp;refine (KB.o _ ir.o ((ao.o.row 7 rfl) 0 _ rfl) ((ao.o.row 8 rfl) 0 _ rfl) (ao.o.off 7 rfl) (ao.o.off 8 rfl) iz.o 5 _).mono ?_;rintro e W6 ⟨rfl,⟨m6,hv⟩,cd⟩;have iq:=Aa hv;have Q:=Aa (ao.o.keep cd);have fy:=Aa (k5.o.trans cd);have kk:=Aa (kl.o.keep aj.o cd);have kt:=Aa (ku.o.keep aj.o cd);have le:=Aa (lg.o.keep cd);have ko:=Aa (dq.o W6 iq.o Q.o);clear hv cd;go_simp;refine xK I (ko.o) fun t=>?_;clear I K;refine gE ?_;refine Ba ?_;have g0:=(Q.o.row 0 rfl) 0 _ rfl;go_wp2_with fail;refine (KB.o _ iq.o ((Q.o.row 7 rfl) 0 _ rfl) ((Q.o.row 8 rfl) 0 _ rfl) (Q.o.off 7 rfl) (Q.o.off 8 rfl) iy.o 6 _).mono ?_;rintro e W7 ⟨rfl,⟨m5,hr⟩,cc⟩;have kz:=Aa hr;have an:=Aa (Q.o.keep cc);have fx:=Aa (fy.o.trans cc);have kj:=Aa (kk.o.keep aj.o cc);have ks:=Aa (kt.o.keep aj.o cc);have ld:=Aa (le.o.keep cc);have g1:=(an.o.row 1 rfl) 0 _ rfl;clear hr cc g0;go_wp2_with fail;refine (KB.o _ kz.o ((an.o.row 7 rfl) 0 _ rfl) ((an.o.row 8 rfl) 0 _ rfl) (an.o.off 7 rfl) (an.o.off 8 rfl) ix.o 7 _).mono ?_;rintro e W8 ⟨rfl,⟨m4,hn⟩,cb⟩;have ip:=Aa hn;have b4:=Aa (an.o.keep cb);have k4:=Aa (fx.o.trans cb);have ig:=Aa (kj.o.keep aj.o cb);have kr:=Aa (ks.o.keep aj.o cb);have k9:=Aa (ld.o.keep cb);have g4:=(b4.o.row 4 rfl) 0 _ rfl;clear hn cb g1;go_wp2_with fail;refine (j8.o _ ip.o ((b4.o.row 2 rfl) 1 _ rfl) ((b4.o.row 3 rfl) 1 _ rfl) ig.o).mono ?_;rintro e W9 ⟨rfl,be⟩;have ky:=Aa (ip.o.over be);have a0:=Aa (b4.o.keep (FrW.of_below (Al bj) be));have k3:=Aa (k4.o.trans (FrW.of_below (Al bj) be));have ki:=Aa (ig.o.over (Al bj) be);have kq:=Aa (kr.o.over (Al bj) be);have k8:=Aa (k9.o.keep (FrW.of_below (Al bj) be));clear be g4;go_wp2_with fail;refine (KB.o _ ky.o ((a0.o.row 7 rfl) 0 _ rfl) ((a0.o.row 8 rfl) 0 _ rfl) (a0.o.off 7 rfl) (a0.o.off 8 rfl) iw.o 8 _).mono ?_;rintro e nk ⟨rfl,⟨lr,d2⟩,am⟩;have ej:=Aa d2;have T:=Aa (a0.o.keep am);have i6:=Aa (k3.o.trans am);have ee:=Aa (ki.o.keep aj.o am);have eh:=Aa (kq.o.keep aj.o am);have jb:=Aa (k8.o.keep am);have g4:=(T.o.row 4 rfl) 0 _ rfl;clear d2 am;go_wp2_with fail;refine (j7.o _ ej.o ((T.o.row 2 rfl) 1 _ rfl) ((T.o.row 6 rfl) 1 _ rfl) ((T.o.row 4 rfl) 0 _ rfl) ee.o eh.o).mono ?_;rintro e nh ⟨rfl,P⟩;have it:=Aa (ej.o.over P);have R:=Aa (T.o.keep (FrW.of_below (Al bj) P));have i4:=Aa (i6.o.trans (FrW.of_below (Al bj) P));have ii:=Aa (ee.o.over (Al bj) P);have il:=Aa (eh.o.over (Al bj) P);have ja:=Aa (jb.o.keep (FrW.of_below (Al bj) P));clear P g4;go_wp2_with fail;refine (KB.o _ it.o ((R.o.row 7 rfl) 0 _ rfl) ((R.o.row 8 rfl) 0 _ rfl) (R.o.off 7 rfl) (R.o.off 8 rfl) iv.o 9 _).mono ?_;rintro e ib ⟨rfl,⟨d3,dz⟩,ak⟩;have ei:=Aa dz;have kh:=Aa (R.o.keep ak);have i3:=Aa (i4.o.trans ak);have lw:=Aa (ii.o.keep aj.o ak);have ly:=Aa (il.o.keep aj.o ak);have i9:=Aa (ja.o.keep ak);clear dz ak;go_wp2_with fail;have I:=i9.o.1;have he:AM c.cs w0 bj av (addF a 9 (addF a 8 (addF a 7 (addF a 6 (addF a 5 fl (!f5)) f6) f7) f8) f9) d3 (ib.putObj D (.deferred none)):=ei.o.grown (grownBy_putObj' _ D (.deferred none)) I rfl (k7.o);have jw:FrW (XJ bj) W (ib.putObj D (.deferred none)):=QD i3.o ei.o I rfl i8.o;refine ⟨by simp,.inl ⟨_,_,rfl,run_takeDeferred I,?_⟩⟩;exact ⟨zk #[],by simp [results,Tryz.f152,go_sem],rfl,⟨d3,he⟩,jw⟩
 case stop=>
  rintro D c cn W _ _ h _;exact h.elim
end Go.Proofs.YtfffpjkcfnekaaaGreat.Ex
namespace Go.Proofs.YtfffpjkcfnekaaaGreat.Ex
open Go.RowKit
open Go.Value renaming slice -> O, int -> zd, bool -> zg, agg -> zh, pointer -> zi, tuple -> zk
open Go.IntKind renaming i64 -> U
open Go.Obj renaming cells -> ze
open Go.Ending renaming returned -> zj
theorem Pp (cs:List Value) (av:Value) (w:World) (hl:cs.length=10):AM cs w w.heap.size av [] (O none 0 0) (w.alloc (.cells (cs++[av,Value.slice none 0 0]:List Value).toArray 165)):=
 ⟨bA w _,Ad.new _ _ _,fun j=>by simp [go_sem],World.ownsRow_nil ..,by simp [Value.ownBlock],⟨Nat.le_refl _,by simp⟩,hl⟩
theorem Nw (c:WC) (gs) (w:World) (hg:AA w (O c.ga c.gn c.gc) gs) (hE:AR c.n gs=0) :
  Calls Tryz.prog 86 #[zh #[zd U (c.n:Int),O c.ga c.gn c.gc,O c.sa c.sn c.sc,O c.ya c.yn c.yc,O c.oa c.on c.oc,O c.va c.vn c.vc,O c.fa c.fn c.fc,O c.ba c.bn c.bc],zh #[O c.la c.ln c.lc,O c.ka c.kn c.kc]] w fun e w'=>∃ w1 ob,e=zj (zi (some ⟨w1.heap.size,0,none⟩))/\CZ w1 ob c.n (Ax gs) c.n/\Ov w w1/\w'=w1.alloc (.cells (c.cs++[Value.slice (some ⟨ob,0,none⟩) c.n c.n,Value.slice none 0 0]:List Value).toArray 165):=by
 obtain ⟨n,H,J,I,g,i,h⟩:=Dr hE;obtain rfl:c.n=n:=by omega
 have p:Ov w ((w.alloc (ze #[zd U (c.n:Int),O c.ga c.gn c.gc,O c.sa c.sn c.sc,O c.ya c.yn c.yc,O c.oa c.on c.oc,O c.va c.vn c.vc,O c.fa c.fn c.fc,O c.ba c.bn c.bc] 31)).alloc (ze #[O c.la c.ln c.lc,O c.ka c.kn c.kc] 44)):=(bA w _).alloc (by simp) _;have L:=Aa (PA c.n J I (O c.ga c.gn c.gc) (Ax gs) ((w.alloc (ze #[zd U (c.n:Int),O c.ga c.gn c.gc,O c.sa c.sn c.sc,O c.ya c.yn c.yc,O c.oa c.on c.oc,O c.va c.vn c.vc,O c.fa c.fn c.fc,O c.ba c.bn c.bc] 31)).alloc (ze #[O c.la c.ln c.lc,O c.ka c.kn c.kc] 44)) (by rw [g];exact Af hg p) i h (by rw [g];exact hE));have N:=Aa p;have k:Ad [zd U (c.n:Int),O c.ga c.gn c.gc,O c.sa c.sn c.sc,O c.ya c.yn c.yc,O c.oa c.on c.oc,O c.va c.vn c.vc,O c.fa c.fn c.fc,O c.ba c.bn c.bc] ((w.alloc (ze #[zd U (c.n:Int),O c.ga c.gn c.gc,O c.sa c.sn c.sc,O c.ya c.yn c.yc,O c.oa c.on c.oc,O c.va c.vn c.vc,O c.fa c.fn c.fc,O c.ba c.bn c.bc] 31)).alloc (ze #[O c.la c.ln c.lc,O c.ka c.kn c.kc] 44)) w.heap.size:=(Ad.new _ _ _).over (bA _ _);have l:Ad [O c.la c.ln c.lc,O c.ka c.kn c.kc] ((w.alloc (ze #[zd U (c.n:Int),O c.ga c.gn c.gc,O c.sa c.sn c.sc,O c.ya c.yn c.yc,O c.oa c.on c.oc,O c.va c.vn c.vc,O c.fa c.fn c.fc,O c.ba c.bn c.bc] 31)).alloc (ze #[O c.la c.ln c.lc,O c.ka c.kn c.kc] 44)) (w.heap.size+1):=by
  have r:=Ad.new [O c.la c.ln c.lc,O c.ka c.kn c.kc] 44 (w.alloc (ze #[zd U (c.n:Int),O c.ga c.gn c.gc,O c.sa c.sn c.sc,O c.ya c.yn c.yc,O c.oa c.on c.oc,O c.va c.vn c.vc,O c.fa c.fn c.fc,O c.ba c.bn c.bc] 31));simpa using r
 have f:=Aa k;have t:=Aa l;clear hg hE g i h p H;obtain ⟨G,F,E,C,B,A,y,u⟩:=rc8 k;obtain ⟨u0,u1⟩:=rc2 l;clear k l;go_enter Tryz.func86,Tryz.ntmps86;go_wp2_with fail;refine (L.o).mono ?_;rintro e w1 ⟨ob,rfl,s,b⟩;have q0:=Ab b _ _ (f.o 0 _ rfl);have q1:=Ab b _ _ (f.o 1 _ rfl);have Z:=Ab b _ _ (f.o 2 _ rfl);have W:=Ab b _ _ (f.o 3 _ rfl);have V:=Ab b _ _ (f.o 4 _ rfl);have T:=Ab b _ _ (f.o 5 _ rfl);have S:=Ab b _ _ (f.o 6 _ rfl);have R:=Ab b _ _ (f.o 7 _ rfl);have Q:=Ab b _ _ (t.o 0 _ rfl);have P:=Ab b _ _ (t.o 1 _ rfl);have q:=Aa (Ac N.o b);have M:=Aa s;clear b s G F E C B A y u u0 u1;go_wp2_with fail;go_ret;exact ⟨w1,ob,rfl,M.o,q.o,rfl⟩
def BH (n K kf:Nat) (gs:List (Int × Int)) (sp:List Int) (Ls Fs:List Lev) (vs:List (Bool × Lab)) (ls ms:List Lab) (fs:List FnD) (l:List D):List (Int × Int):=
 D6 n K (fun _=>Ls) (Fk n K (Ax gs) sp Ls vs ls ms fs) (fun _=>Fs) kf fs l []
def QV (K kf:Nat) (m:Int) (vn yn on:Nat) (gs:List (Int × Int)) (sp:List Int) (ls ms:List Lab) (vs:List (Bool × Lab)) (fs:List FnD) (l:List D) (P:Int->Prop) (w:World) (e:Ending) (w':World):Prop:=
 ∃ why:Int,P why/\Ov w w'/\((why≠0/\e=zj (zk #[O none 0 0,zd U why])) \/
  (why=0/\okP K kf m vn yn on gs sp ls ms vs fs l/\∃ (n:Nat) (st:ISt) (fv:Value) (B:Nat),m=n/\e=zj (zk #[fv,zd U 0])/\B2 n K kf gs vs ls fs l st/\(∀ x∈st.vs,x.len n)/\(∀ x∈st.fs,x.len n)/\st.vs.length=vn/\st.fs.length=fs.length/\w.heap.size<=B/\w'.ownsRow B 89 2 fv (BH n K kf gs sp st.vs st.fs vs ls ms fs l).length (Cc (BH n K kf gs sp st.vs st.fs vs ls ms fs l))))
theorem Mp (args:Array Value) (w:World):(callFunc 88 args).run Tryz.prog w=.ok (.enter 88 args) w:=by simp [go_sem]
theorem Qj (K kf n:Nat) (ga gn gc sa sn sc ya yn yc oa on oc va vn vc fa fn fc ba bn bc) (la ln lc ka kn kc) (gs sp ls ms vs fs l) (st:ISt) (w:World) (h:BD K kf (n:Int) ga gn gc sa sn sc ya yn yc oa on oc va vn vc fa fn fc ba bn bc gs sp ls ms vs fs l w) (hok:okP K kf (n:Int) vn yn on gs sp ls ms vs fs l) (hs:(sp.length:Int)<=n) (hlv:BW w (O la ln lc) st.vs) (hlf:BW w (O ka kn kc) st.fs) (hll:∀ x∈st.vs,x.len n) (hfl:∀ x∈st.fs,x.len n) (hvn:st.vs.length=vn) (hfn:st.fs.length=fs.length) (ob:Nat) (hR:CZ w ob n (Ax gs) n) :
  Calls Tryz.prog 87 #[zh #[zd U (n:Int),O ga gn gc,O sa sn sc,O ya yn yc,O oa on oc,O va vn vc,O fa fn fc,O ba bn bc,O la ln lc,O ka kn kc],.func (.func 88) #[zi (some ⟨w.heap.size,0,none⟩)] #[]] (w.alloc (ze #[zd U (n:Int),O ga gn gc,O sa sn sc,O ya yn yc,O oa on oc,O va vn vc,O fa fn fc,O ba bn bc,O la ln lc,O ka kn kc,O (some ⟨ob,0,none⟩) n n,O none 0 0] 165)) fun e W'=>e=zj (zk #[])/\(∃ fv,AM [zd U (n:Int),O ga gn gc,O sa sn sc,O ya yn yc,O oa on oc,O va vn vc,O fa fn fc,O ba bn bc,O la ln lc,O ka kn kc] w w.heap.size (O (some ⟨ob,0,none⟩) n n) (BH n K kf gs sp st.vs st.fs vs ls ms fs l) fv W'):=by
 obtain ⟨f,P,V,T,-⟩:=Dr hok.chk;obtain rfl:f=n:=by omega
 clear P;have N:=h.vars;obtain rfl:vn=vs.length:=by obtain ⟨-,a,c,q,-⟩:=h.vars;injection q
 obtain rfl:yn=ls.length:=by obtain ⟨-,a,c,q,-⟩:=h.ins;injection q
 obtain rfl:on=ms.length:=by obtain ⟨-,a,c,q,-⟩:=h.outs;injection q
 obtain rfl:fn=fs.length:=by obtain ⟨-,a,c,q,-⟩:=h.funcs;injection q
 obtain ⟨c,g⟩:∃ c:WC,c=⟨f,ga,gn,gc,sa,sn,sc,ya,ls.length,yc,oa,ms.length,oc,va,vs.length,vc,fa,fs.length,fc,ba,bn,bc,la,ln,lc,ka,kn,kc⟩:=⟨_,rfl⟩;have J:JSt c w gs st.vs st.fs:=by
  subst g;exact ⟨V,T,h.grants,hok.chk,hlv,hll,hlf,hfl,by have:=hok.vars;omega⟩
 have A:JAc c w (O (some ⟨ob,0,none⟩) f f) (Ax gs) sp:=by
  subst g;exact ⟨⟨ob,rfl,hR⟩,h.speak,by show sp.length<=6;omega,fun x M=>hok.speak x M⟩
 have k:Bs w (O c.va c.vn c.vc) vs:=by subst g;exact h.vars
 have F:AW w (O c.ya c.yn c.yc) ls:=by subst g;exact h.ins
 have B:AW w (O c.oa c.on c.oc) ms:=by subst g;exact h.outs
 have y:Bv w K kf (O c.fa c.fn c.fc) fs:=by subst g;exact h.funcs
 have Q:Bj w K kf (O c.ba c.bn c.bc) l:=by subst g;exact h.main
 have t:c.n=f:=by subst g;rfl
 have p:∀ v∈vs,Bb c.n gs v.2=0:=by rw [t];exact hok.labs.2.1
 have G:∀ b∈ls,Bb c.n gs b=0:=by rw [t];exact fun b H=>hok.labs.1 b (List.mem_append.2 (Or.inl H))
 have E:∀ b∈ms,Bb c.n gs b=0:=by rw [t];exact fun b H=>hok.labs.1 b (List.mem_append.2 (Or.inr H))
 have u:∀ i (h:i < fs.length),okF K st.vs.length ls.length ms.length (i:Int) fs kf fs[i]:=by rw [hvn];exact hok.body
 have C:∀ s∈l,okS K st.vs.length ls.length ms.length (fs.length:Int) fs kf s:=by rw [hvn];exact hok.main
 have L:=P7 c w w.heap.size (O (some ⟨ob,0,none⟩) f f) gs st.vs st.fs J sp A K ls.length ms.length fs vs k hvn.symm p;have I:=RL c w w.heap.size (O (some ⟨ob,0,none⟩) f f) gs st.vs st.fs J sp A K ls.length ms.length fs vs k hvn.symm p;have S:=jDo c w w.heap.size (O (some ⟨ob,0,none⟩) f f) gs st.vs st.fs J sp A K ls.length ms.length fs vs k hvn.symm p ls F G rfl hok.ins ms B E rfl hok.outs kf y hok.funcs u L I;have R:=RG (K:=K) (nv:=st.vs.length) (ni:=ls.length) (no:=ms.length) (kf:=kf) (Th (bj:=w.heap.size) (av:=O (some ⟨ob,0,none⟩) f f) J fs hfn) (Fk c.n K (Ax gs) sp st.vs vs ls ms fs) 88 [zi (some ⟨w.heap.size,0,none⟩)] [] pmJ (O9 c.n K (Ax gs) sp st.vs vs ls ms fs) Mp S l y Q u C hok.many hok.funcs [] (w.alloc (.cells (c.cs++[Value.slice (some ⟨ob,0,none⟩) f f,Value.slice none 0 0]:List Value).toArray 165)) ⟨_,Pp c.cs (O (some ⟨ob,0,none⟩) f f) w rfl⟩ (by unfold pmJ;simp);subst g;exact R.mono fun e W' h=>⟨h.1,h.2.1⟩
theorem QJ (K kf:Nat) (m:Int) (ga gn gc sa sn sc ya yn yc oa on oc va vn vc fa fn fc ba bn bc) (gs sp ls ms vs fs l) (w:World) (h:BD K kf m ga gn gc sa sn sc ya yn yc oa on oc va vn vc fa fn fc ba bn bc gs sp ls ms vs fs l w) (P:Int->Prop) (KS:∀ W,Ov w W->Calls Tryz.prog 53 #[zh #[zd U m,O ga gn gc,O sa sn sc,O ya yn yc,O oa on oc,O va vn vc,O fa fn fc,O ba bn bc]] W fun e w'=>∃ why:Int,e=zj (zd U why)/\P why/\Ov W w') (hP:P 0->okP K kf m vn yn on gs sp ls ms vs fs l) (hS:P 0->(sp.length:Int)<=m) :
  Calls Tryz.prog 35 #[zh #[zd U m,O ga gn gc,O sa sn sc,O ya yn yc,O oa on oc,O va vn vc,O fa fn fc,O ba bn bc]] w (QV K kf m vn yn on gs sp ls ms vs fs l P w):=by
 have B:Ov w (w.alloc (ze #[zd U m,O ga gn gc,O sa sn sc,O ya yn yc,O oa on oc,O va vn vc,O fa fn fc,O ba bn bc] 31)):=bA w _;have k:=Ad.new [zd U m,O ga gn gc,O sa sn sc,O ya yn yc,O oa on oc,O va vn vc,O fa fn fc,O ba bn bc] 31 w;have K1:=Aa (Pr K kf m ga gn gc sa sn sc ya yn yc oa on oc va vn vc fa fn fc ba bn bc gs sp ls ms vs fs l _ (h.over B) P (fun W hW=>KS W (Ac B hW)) hP);have Z:=Aa B;have HR:=Aa k;have HH:=Aa h;have HS:=Aa hS;obtain ⟨p0,p1,p2,p3,p4,p5,p6,p7⟩:=rc8 k;clear B k h KS hP hS;go_enter Tryz.func35,Tryz.ntmps35;go_wp2_with fail;refine (K1.o).mono ?_;rintro e M ⟨why,y,u,F⟩;have A:=Aa (Ac Z.o u);have J:=Aa u;rcases F with ⟨E,rfl⟩ | ⟨rfl,i,n,st,la,ln,lc,ka,kn,kc,rfl,rfl,H,I,q,t,p,s,g,-,-⟩
 ·have hz:¬ why=0:=E
  have S:=Aa y;have T:=Aa E;clear y u E;go_wp2_with fail;refine bodyPost_ret (v:=zk #[O none 0 0,zd U why]) (by simp [results,Tryz.results35,go_sem]) rfl ?_;exact ⟨why,S.o,Ac A.o (bA _ _),Or.inl ⟨T.o,rfl⟩⟩
 ·have f:Ov M (M.alloc (ze #[O la ln lc,O ka kn kc] 44)):=bA _ _
  have r2:=Ad.new [O la ln lc,O ka kn kc] 44 M;obtain ⟨q0,q1⟩:=rc2 r2;obtain ⟨s0,s1,s2,s3,s4,s5,s6,s7⟩:=co8 (Ac u f) p0 p1 p2 p3 p4 p5 p6 p7;have KN:=Aa (Nw ⟨n,ga,gn,gc,sa,sn,sc,ya,yn,yc,oa,on,oc,va,vn,vc,fa,fn,fc,ba,bn,bc,la,ln,lc,ka,kn,kc⟩ gs _ (Af HH.o.grants (Ac A.o f)) i.chk);have KG:=Aa (fun (C:World) (b:Ov (M.alloc (ze #[O la ln lc,O ka kn kc] 44)) C) (ob:Nat) (N:CZ C ob n (Ax gs) n)=>Qj K kf n ga gn gc sa sn sc ya yn yc oa on oc va vn vc fa fn fc ba bn bc la ln lc ka kn kc gs sp ls ms vs fs l st C (HH.o.over (Ac (Ac A.o f) b)) i (HS.o y) (CH (CH H f) b) (CH (CH I f) b) q t p s ob N);have V:=Aa (Ac A.o f);have L:=Aa (show P 0/\okP K kf (n:Int) vn yn on gs sp ls ms vs fs l/\B2 n K kf gs vs ls fs l st/\(∀ x∈st.vs,x.len n)/\(∀ x∈st.fs,x.len n)/\st.vs.length=vn/\st.fs.length=fs.length from ⟨y,i,g,q,t,p,s⟩);clear y u i H I q t p s g r2 f A J HR p0 p1 p2 p3 p4 p5 p6 p7;go_wp2_with fail;refine (KN.o).mono ?_;rintro e w4 ⟨C,ob,rfl,N,b,rfl⟩;have R:=Aa (KG.o C b ob N);have G:=Aa (Ac V.o b);have r4:=Ad.new [zd U (n:Int),O ga gn gc,O sa sn sc,O ya yn yc,O oa on oc,O va vn vc,O fa fn fc,O ba bn bc,O la ln lc,O ka kn kc,O (some ⟨ob,0,none⟩) n n,O none 0 0] 165 C;obtain ⟨t0,t1,t2,t3,t4,t5,t6,t7,t8,t9⟩:=Ch r4;simp only [List.cons_append,List.nil_append] at *;clear N b r4 KG KN s0 s1 s2 s3 s4 s5 s6 s7 q0 q1;go_wp2_with fail;refine (R.o).mono ?_;rintro e w5 ⟨rfl,fv,Q⟩;have c11:=Q.c11;have HJ:=Aa Q;clear Q t0 t1 t2 t3 t4 t5 t6 t7 t8 t9;go_wp2_with fail;obtain ⟨h0,i,g,q,t,p,s⟩:=L.o;refine bodyPost_ret (v:=zk #[fv,zd U 0]) (by simp [results,Tryz.results35,go_sem]) rfl ?_;exact ⟨0,h0,G.o.trans (HJ.o.below.mono G.o.size),Or.inr ⟨rfl,i,n,st,fv,C.heap.size,rfl,rfl,g,q,t,p,s,G.o.size,HJ.o.own⟩⟩
abbrev Ev4:=Int × Int × Int × Int
structure WSt where
 vs:List Lev
 ps:List Lev
abbrev Ob:=Nat->Int->Nat->D->WSt->Bool × WSt
structure RSt where
 ev:List Ev4
 vars:List Int
 taken:List Int
 steps:Nat
 en:Int
 sp:Int
 o:WSt
def RSt.step (st:RSt):RSt:={ st with steps:=st.steps+1 }
def RSt.out (st:RSt):RSt:={ st with en:=2 }
def RSt.setv (st:RSt) (v x:Int):RSt:={ st with vars:=st.vars.set v.toNat x }
def RSt.tell (st:RSt) (e:Ev4):RSt:={ st with ev:=st.ev++[e] }
def RSt.took (st:RSt) (c:Int):RSt:={ st with taken:=st.taken.set c.toNat (st.taken.getD c.toNat 0+1) }
def RSt.held (st:RSt) (o:WSt):RSt:={ st with o:=o }
def RSt.stop (st:RSt) (a:Int) (o:WSt):RSt:={ st with o:=o,en:=3,sp:=a }
def Dj (ins:List (List Int)) (st:RSt) (c:Int):Int:=(ins.getD c.toNat []).getD (st.taken.getD c.toNat 0).toNat 0
def BP (vs:List Int) (l:List (Int × Int)):List Int:=l.foldl (fun vs q=>vs.set q.1.toNat q.2) vs
def A0 (r:Bool × RSt) (f:RSt->Bool × RSt):Bool × RSt:=if r.1=true then f r.2 else r
def Bq (ob:Ob) (kind:Nat) (a:Int) (dp:Nat) (d:D) (st:RSt):Bool × RSt:=
 if (ob kind a dp d st.o).1=true then (true,st.held (ob kind a dp d st.o).2) else (false,st.stop a (ob kind a dp d st.o).2)
def DR (K:Nat) (ins:List (List Int)) (d:D) (a:Int) (st:RSt):RSt:=
 if Ag d=1 then st.setv (Ap d) (AC st.vars K (Am d))
 else if Ag d=3 then (st.took (Ae d)).setv (Ap d) (Dj ins st (Ae d))
 else if Ag d=4 then st.tell (1,a,Ae d,AC st.vars K (Am d))
 else if Ag d=5 then (st.setv (Ap d) (AC st.vars K (Am d))).tell (2,a,Ap d,AC st.vars K (Am d))
 else if Ag d=6 then (st.setv (Ap d) (AC st.vars K (Am d))).tell (3,a,Ap d,AC st.vars K (Am d))
 else st
def RSt.args (K:Nat) (fs:List FnD) (d:D) (st:RSt):RSt:={ st with vars:=BP st.vars ((BV fs (Ae d)).ps.zip ((Ai d).map (AC st.vars K))) }
def rn (K kf:Nat) (fs:List FnD) (F:Nat) (ins:List (List Int)) (ob:Ob):Nat->Nat->Nat->List D->Int->Nat->RSt->Bool × RSt
 | 0,_,_,_,_,_,st=>(false,st)
 | g+1,0,k,l,a,dp,st=>
  match l with
  | []=>(true,st)
  | d::r=>if st.steps=F then (false,st.out) else A0 (Bq ob 1 a dp d st.step) (fun st1=>A0 (rn K kf fs F ins ob g 1 k [d] a dp st1) (fun st'=>rn K kf fs F ins ob g 0 k r (a+CY k d) dp st'))
 | g+1,1,k,l,a,dp,st=>
  match l with
  | []=>(true,st)
  | d::_=>
   if Ag d=2 then A0 (rn K kf fs F ins ob g 0 kf (BV fs (Ae d)).body (A2 kf (fs.take (Ae d).toNat)) dp (st.args K fs d)) (fun st1=>A0 (Bq ob 3 a dp d st1) (fun st'=>(true,st'.setv (Ap d) (AC st'.vars K (BV fs (Ae d)).res))))
   else if Ag d=7 then (if AC st.vars K (Am d)=0 then rn K kf fs F ins ob g 0 (k - 1) (Ao d) (a+1+AI (k - 1) (Aj d)) (dp+1) st else rn K kf fs F ins ob g 0 (k - 1) (Aj d) (a+1) (dp+1) st)
   else if Ag d=8 then rn K kf fs F ins ob g 2 k [d] a dp st
   else (true,DR K ins d a st)
 | g+1,_+2,k,l,a,dp,st=>
  match l with
  | []=>(true,st)
  | d::_=>if AC st.vars K (Am d)=0 then (true,st) else A0 (rn K kf fs F ins ob g 0 (k - 1) (Aj d) (a+1) (dp+1) st) (fun st'=>if st'.steps=F then (false,st'.out) else A0 (Bq ob 2 a dp d st'.step) (fun st1=>rn K kf fs F ins ob g 2 k [d] a dp st1))
structure Gr (st st':RSt):Prop where
 ev:st.ev <+: st'.ev
 steps:st.steps<=st'.steps
 len:st'.taken.length=st.taken.length
 taken:∀ c,st.taken.getD c 0<=st'.taken.getD c 0
theorem Gr.refl (st:RSt):Gr st st:=⟨List.prefix_rfl,Nat.le_refl _,rfl,fun _=>Int.le_refl _⟩
theorem Gr.trans {a b c:RSt} (h:Gr a b) (k:Gr b c):Gr a c:=⟨h.ev.trans k.ev,Nat.le_trans h.steps k.steps,k.len.trans h.len,fun x=>Int.le_trans (h.taken x) (k.taken x)⟩
theorem Gr.step (st:RSt):Gr st st.step:=⟨List.prefix_rfl,Nat.le_succ _,rfl,fun _=>Int.le_refl _⟩
theorem Gr.setv (st:RSt) (v x:Int):Gr st (st.setv v x):=⟨List.prefix_rfl,Nat.le_refl _,rfl,fun _=>Int.le_refl _⟩
theorem Gr.tell (st:RSt) (e:Ev4):Gr st (st.tell e):=⟨List.prefix_append _ _,Nat.le_refl _,rfl,fun _=>Int.le_refl _⟩
theorem Gr.args (K:Nat) (fs d) (st:RSt):Gr st (st.args K fs d):=⟨List.prefix_rfl,Nat.le_refl _,rfl,fun _=>Int.le_refl _⟩
theorem KU {l:List Int} {i j:Nat} {x:Int}:(l.set i x).getD j 0=if i=j/\i < l.length then x else l.getD j 0:=by
 rw [List.getD_eq_getElem?_getD,List.getD_eq_getElem?_getD,List.getElem?_set];by_cases h:i=j
 ·subst h
  by_cases h2:i < l.length
  ·simp [h2]
  ·simp [h2]
 ·simp [h]
theorem Gr.took (st:RSt) (c:Int):Gr st (st.took c):=⟨List.prefix_rfl,Nat.le_refl _,by simp [RSt.took],fun x=>by
 simp only [RSt.took,KU];split
 ·rename_i h
  rw [<-h.1];omega
 ·exact Int.le_refl _⟩
theorem Gr.one (K:Nat) (ins d) (a:Int) (st:RSt):Gr st (DR K ins d a st):=by
 unfold DR;split
 ·exact Gr.setv _ _ _
 ·split
  ·exact (Gr.took _ _).trans (Gr.setv _ _ _)
  ·split
   ·exact Gr.tell _ _
   ·split
    ·exact (Gr.setv _ _ _).trans (Gr.tell _ _)
    ·split
     ·exact (Gr.setv _ _ _).trans (Gr.tell _ _)
     ·exact Gr.refl _
theorem Gr.out (st:RSt):Gr st st.out:=⟨List.prefix_rfl,Nat.le_refl _,rfl,fun _=>Int.le_refl _⟩
theorem Gr.pass (ob:Ob) (kind:Nat) (a:Int) (dp:Nat) (d) (st:RSt):Gr st (Bq ob kind a dp d st).2:=by
 unfold Bq;split
 ·exact ⟨List.prefix_rfl,Nat.le_refl _,rfl,fun _=>Int.le_refl _⟩
 ·exact ⟨List.prefix_rfl,Nat.le_refl _,rfl,fun _=>Int.le_refl _⟩
theorem Ha (ob:Ob) (kind:Nat) (a:Int) (dp:Nat) (d) (st:RSt):(Bq ob kind a dp d st).2.steps=st.steps:=by
 unfold Bq;split <;> rfl
theorem CR {st:RSt} {r:Bool × RSt} {f:RSt->Bool × RSt} (h:Gr st r.2) (hf:∀ st',Gr st' (f st').2):Gr st (A0 r f).2:=by
 unfold A0;split
 ·exact h.trans (hf _)
 ·exact h
theorem Gn (K kf:Nat) (fs) (F:Nat) (ins) (ob:Ob):∀ (g m k:Nat) (l:List D) (a:Int) (dp:Nat) (st:RSt),Gr st (rn K kf fs F ins ob g m k l a dp st).2:=by
 intro g
 induction g with
 | zero=>intro m k l a dp st;exact Gr.refl _
 | succ g ih=>
  intro m k l a dp st
  match m,l with
  | 0,[]=>exact Gr.refl _
  | 0,d::r=>
   simp only [rn];split
   ·exact Gr.out _
   ·exact CR ((Gr.step st).trans (Gr.pass _ _ _ _ _ _)) (fun e=>CR (ih _ _ _ _ _ _) (fun b=>ih _ _ _ _ _ _))
  | 1,[]=>exact Gr.refl _
  | 1,d::r=>
   simp only [rn];split
   ·exact CR ((Gr.args K fs d st).trans (ih _ _ _ _ _ _)) (fun e=>CR (Gr.pass _ _ _ _ _ _) (fun b=>Gr.setv _ _ _))
   ·split
    ·split
     ·exact ih _ _ _ _ _ _
     ·exact ih _ _ _ _ _ _
    ·split
     ·exact ih _ _ _ _ _ _
     ·exact Gr.one _ _ _ _ _
  | m+2,[]=>exact Gr.refl _
  | m+2,d::r=>
   simp only [rn];split
   ·exact Gr.refl _
   ·refine CR (ih _ _ _ _ _ _) (fun b=>?_)
    split
    ·exact Gr.out _
    ·exact CR ((Gr.step b).trans (Gr.pass _ _ _ _ _ _)) (fun e=>ih _ _ _ _ _ _)
abbrev Cj (l:List Int):List Value:=l.map fun x=>Value.int U x
def Bi:List Ev4->List Value
 | []=>[]
 | e::r=>zd U e.1::zd U e.2.1::zd U e.2.2.1::zd U e.2.2.2::Bi r
theorem CP:∀ (l m:List Ev4),Bi (l++m)=Bi l++Bi m
 | [],m=>rfl
 | e::r,m=>by simp [Bi,CP r m]
structure Ow where
 ev:Value
 X:Nat->Prop
def Ow.at (E:Ow) (k:Nat):Prop:=E.ev.ownBlock=some k\/E.X k
def Yb (br b1 b2:Nat) (ev:Value) (k:Nat):Prop:=k=br\/k=b1\/k=b2\/ev.ownBlock=some k
structure Ca where
 fn:FuncId
 fre:List Value
 cap:List Value
 ent:∀ (args:Array Value) (w:World),(callFunc fn args).run Tryz.prog w=.ok (.enter fn args) w
 ob:Ob
 In:(Nat->Prop)->WSt->(Nat->Prop)->World->Prop
 ok:Nat->WSt->Prop
 lt:∀ {Y s X w},In Y s X w->∀ k,X k->k < w.heap.size/\¬ Y k
 kept:∀ {Y Y' s X w w'},In Y s X w->w'.os=w.os->w'.tape=w.tape->w'.output=w.output->w.heap.size<=w'.heap.size->(∀ k,k < w.heap.size->¬ Y k->w'.heap[k]? = w.heap[k]?)->(∀ k,Y' k->Y k\/w.heap.size<=k)->(∀ k,Y' k->k < w'.heap.size)->In Y' s X w'
 less:∀ {dp s},ok (dp+1) s->ok dp s
structure RnG (I:Ca) (B:Nat) (R:List Value) (br b1 b2 b3:Nat) (fl:List Int) (dp:Nat) (st:RSt) (ev:Ow) (w:World):Prop where
 row:Ad (ev.ev::O (some ⟨b1,0,none⟩) st.vars.length st.vars.length::O (some ⟨b2,0,none⟩) st.taken.length st.taken.length::zd U (st.steps:Int)::zd U st.en::zd U st.sp::(R++[zd U (dp:Int),.func (.func I.fn) I.fre.toArray I.cap.toArray])) w br
 vars:Ad (Cj st.vars) w b1
 taken:Ad (Cj st.taken) w b2
 first:Ad (Cj fl) w b3
 own:w.ownsRow B 136 4 ev.ev st.ev.length (Bi st.ev)
 z0:∀ j,w.frozen? ⟨br,j,none⟩=false
 z1:∀ j,w.frozen? ⟨b1,j,none⟩=false
 z2:∀ j,w.frozen? ⟨b2,j,none⟩=false
 apart:br≠b1/\br≠b2/\b1≠b2/\b3≠br/\b3≠b1/\b3≠b2
 evA:¬ ev.at br/\¬ ev.at b1/\¬ ev.at b2/\¬ ev.at b3
 lo:B<=br/\B<=b1/\B<=b2
 hi:br < w.heap.size/\b1 < w.heap.size/\b2 < w.heap.size/\b3 < w.heap.size/\B<=w.heap.size
 ob:I.In (Yb br b1 b2 ev.ev) st.o ev.X w
 xlo:∀ k,ev.X k->B<=k
 okd:I.ok dp st.o
theorem RnG.ev' {I:Ca} {B:Nat} {R:List Value} {br b1 b2 b3:Nat} {fl:List Int} {dp:Nat} {st:RSt} {ev:Ow} {w:World} (h:RnG I B R br b1 b2 b3 fl dp st ev w):∀ k,ev.at k->B<=k/\k < w.heap.size:=fun k hk=>by
 rcases hk with hk | hk
 ·exact h.own.lt k hk
 ·exact ⟨h.xlo k hk,(I.lt h.ob k hk).1⟩
theorem MJ {br b1 b2:Nat} {ev:Value} {B e s n:Nat} {xs:List Value} {w:World} (h:w.ownsRow B e s ev n xs) (h0:br < w.heap.size) (h1:b1 < w.heap.size) (h2:b2 < w.heap.size):∀ k,Yb br b1 b2 ev k->k < w.heap.size:=fun k hk=>by
 rcases hk with hk | hk | hk | hk
 ·omega
 ·omega
 ·omega
 ·exact (h.lt k hk).2
theorem RnG.over {I:Ca} {B:Nat} {R:List Value} {br b1 b2 b3:Nat} {fl:List Int} {dp:Nat} {st:RSt} {ev:Ow} {w w':World} (h:RnG I B R br b1 b2 b3 fl dp st ev w) (hb:Ov w w'):RnG I B R br b1 b2 b3 fl dp st ev w':=by
 obtain ⟨g,b⟩:=An hb;have f:=hb.size;refine ⟨h.row.over hb,h.vars.over hb,h.taken.over hb,h.first.over hb,?_,fun j=>(b _ _ h.hi.1).trans (h.z0 j),fun j=>(b _ _ h.hi.2.1).trans (h.z1 j),fun j=>(b _ _ h.hi.2.2.1).trans (h.z2 j),h.apart,h.evA,h.lo,⟨by have:=h.hi;omega,by have:=h.hi;omega,by have:=h.hi;omega,by have:=h.hi;omega,by have:=h.hi;omega⟩,I.kept h.ob hb.os hb.tape hb.output hb.size (fun k hk _=>hb.block k hk) (fun k hk=>Or.inl hk) (fun k hk=>Nat.lt_of_lt_of_le (MJ h.own h.hi.1 h.hi.2.1 h.hi.2.2.1 k hk) hb.size),h.xlo,h.okd⟩;have e:w.grownBy w' none:=⟨hb.os,hb.tape,hb.output,hb.size,fun k hk _=>hb.block k hk⟩;exact h.own.kept e (by cases hv:ev.ev.ownBlock <;> simp)
structure Fr (br b1 b2:Nat) (ev ev':Ow) (w w':World):Prop where
 os:w'.os=w.os
 tape:w'.tape=w.tape
 output:w'.output=w.output
 size:w.heap.size<=w'.heap.size
 block:∀ k,k < w.heap.size->k≠br->k≠b1->k≠b2->¬ ev.at k->w'.heap[k]? = w.heap[k]?
 evB:∀ k,ev'.at k->ev.at k\/w.heap.size<=k
theorem Fr.of_below {br b1 b2:Nat} {ev:Ow} {w w':World} (h:Ov w w'):Fr br b1 b2 ev ev w w':=⟨h.os,h.tape,h.output,h.size,fun k hk _ _ _ _=>h.block k hk,fun k hk=>Or.inl hk⟩
theorem Fr.refl (br b1 b2:Nat) (ev:Ow) (w:World):Fr br b1 b2 ev ev w w:=Fr.of_below (Below.refl _ _)
theorem Fr.trans {br b1 b2:Nat} {ev ev1 ev2:Ow} {w w1 w2:World} (h:Fr br b1 b2 ev ev1 w w1) (k:Fr br b1 b2 ev1 ev2 w1 w2):Fr br b1 b2 ev ev2 w w2:=by
 refine ⟨k.os.trans h.os,k.tape.trans h.tape,k.output.trans h.output,Nat.le_trans h.size k.size,fun i hi g f e b=>?_,fun i hi=>?_⟩
 ·refine (k.block i (Nat.lt_of_lt_of_le hi h.size) g f e (fun l=>?_)).trans (h.block i hi g f e b)
  rcases h.evB i l with he | he
  ·exact b he
  ·omega
 ·rcases k.evB i hi with he | he
  ·exact h.evB i he
  ·exact Or.inr (Nat.le_trans h.size he)
theorem Fr.over {br b1 b2:Nat} {ev ev1:Ow} {w w1 w2:World} (h:Fr br b1 b2 ev ev1 w w1) (k:Ov w1 w2):Fr br b1 b2 ev ev1 w w2:=h.trans (Fr.of_below k)
theorem Fr.cell {br b1 b2:Nat} {ev ev':Ow} {w w':World} (h:Fr br b1 b2 ev ev' w w') {b j:Nat} {u:Value} (hc:w.cell? ⟨b,j,none⟩=some u) (h0:b≠br) (h1:b≠b1) (h2:b≠b2) (h3:¬ ev.at b):w'.cell? ⟨b,j,none⟩=some u:=
 (World.cell?_of_block (h.block b (bL hc) h0 h1 h2 h3)).trans hc
section
variable {I:Ca} {B:Nat} {R:List Value} {br b1 b2 b3:Nat} {fl:List Int} {dp:Nat} {st:RSt} {ev:Ow} {w:World}
theorem RnG.below {ev':Ow} {w':World} (h:RnG I B R br b1 b2 b3 fl dp st ev w) (f:Fr br b1 b2 ev ev' w w'):Below B w w':=
 ⟨f.os,f.tape,f.output,f.size,fun k hk=>f.block k (by have:=h.hi;omega) (by have:=h.lo;omega) (by have:=h.lo;omega) (by have:=h.lo;omega) (fun hx=>by have:=(h.ev' k hx).1;omega)⟩
theorem RnG.box {ev':Ow} {w1 w2:World} {b j:Nat} {u:Value} (h:RnG I B R br b1 b2 b3 fl dp st ev w) (f:Fr br b1 b2 ev ev' w1 w2) (hb:w.heap.size<=b) (hc:w1.cell? ⟨b,j,none⟩=some u):w2.cell? ⟨b,j,none⟩=some u:=by
 have:=h.hi;exact f.cell hc (by omega) (by omega) (by omega) (fun e=>by have:=(h.ev' b e).2;omega)
theorem RnG.ints (h:RnG I B R br b1 b2 b3 fl dp st ev w):AN w (O (some ⟨b1,0,none⟩) st.vars.length st.vars.length) st.vars:=by
 refine ⟨_,_,rfl,fun _=>⟨b1,0,rfl,fun i hi=>?_⟩⟩;rw [Nat.zero_add];exact h.vars i _ (by simp [hi])
theorem Bg {r j:Nat} {u:Value}:w.grownBy (w.setCell ⟨r,j,none⟩ u) (some r):=C3 (n:=0)
theorem Be {a b j k:Nat} {u:Value}:(w.setCell ⟨a,j,none⟩ u).frozen? ⟨b,k,none⟩=w.frozen? ⟨b,k,none⟩:=by simp [go_sem]
theorem RnG.obSet (h:RnG I B R br b1 b2 b3 fl dp st ev w) (r j:Nat) (u:Value) (hr:r=br\/r=b1\/r=b2):I.In (Yb br b1 b2 ev.ev) st.o ev.X (w.setCell ⟨r,j,none⟩ u):=
 have g:=Bg (w:=w) (r:=r) (j:=j) (u:=u)
 I.kept h.ob g.os g.tape g.output g.size (fun k hk hy=>g.block k hk (fun e=>hy (by
  have e:=Option.some.inj e;rcases hr with hr | hr | hr
  ·exact Or.inl (by omega)
  ·exact Or.inr (Or.inl (by omega))
  ·exact Or.inr (Or.inr (Or.inl (by omega)))))) (fun k hk=>Or.inl hk) (fun k hk=>Nat.lt_of_lt_of_le (MJ h.own h.hi.1 h.hi.2.1 h.hi.2.2.1 k hk) g.size)
theorem RnG.set0 (h:RnG I B R br b1 b2 b3 fl dp st ev w) (j:Nat) (u:Value) {dp':Nat} {st':RSt} (hv:st'.vars=st.vars) (ht:st'.taken=st.taken) (he:st'.ev=st.ev) (ho:st'.o=st.o) (hd:I.ok dp' st.o) (hj:j < 8+R.length)
  (hr:(ev.ev::O (some ⟨b1,0,none⟩) st.vars.length st.vars.length::O (some ⟨b2,0,none⟩) st.taken.length st.taken.length::zd U (st.steps:Int)::zd U st.en::zd U st.sp::(R++[zd U (dp:Int),.func (.func I.fn) I.fre.toArray I.cap.toArray])).set j u=ev.ev::O (some ⟨b1,0,none⟩) st.vars.length st.vars.length::O (some ⟨b2,0,none⟩) st.taken.length st.taken.length::zd U (st'.steps:Int)::zd U st'.en::zd U st'.sp::(R++[zd U (dp':Int),.func (.func I.fn) I.fre.toArray I.cap.toArray])) :
  RnG I B R br b1 b2 b3 fl dp' st' ev (w.setCell ⟨br,j,none⟩ u):=by
 obtain ⟨g,f,p,e,l,i⟩:=h.apart;refine ⟨?_,?_,?_,h.first.other e,?_,fun k=>Be.trans (h.z0 k),fun k=>Be.trans (h.z1 k),fun k=>Be.trans (h.z2 k),h.apart,h.evA,h.lo,by simpa [World.setCell] using h.hi,?_,h.xlo,?_⟩
 ·rw [hv,ht,<-hr]
  exact h.row.set (by simp;omega)
 ·rw [hv];exact h.vars.other (Ne.symm g)
 ·rw [ht];exact h.taken.other (Ne.symm f)
 ·rw [he];exact h.own.kept Bg (Or.inr (fun b=>h.evA.1 (Or.inl b)))
 ·rw [ho];exact h.obSet br j u (Or.inl rfl)
 ·rw [ho];exact hd
theorem RnG.setStep (h:RnG I B R br b1 b2 b3 fl dp st ev w):RnG I B R br b1 b2 b3 fl dp st.step ev (w.setCell ⟨br,3,none⟩ (zd U ((st.steps:Int)+1))):=
 h.set0 3 _ rfl rfl rfl rfl h.okd (by omega) (by simp [RSt.step])
theorem RnG.setEnd (h:RnG I B R br b1 b2 b3 fl dp st ev w) (en':Int):RnG I B R br b1 b2 b3 fl dp { st with en:=en' } ev (w.setCell ⟨br,4,none⟩ (zd U en')):=
 h.set0 4 _ rfl rfl rfl rfl h.okd (by omega) (by simp)
theorem RnG.setStop (h:RnG I B R br b1 b2 b3 fl dp st ev w) (a:Int):RnG I B R br b1 b2 b3 fl dp { st with sp:=a } ev (w.setCell ⟨br,5,none⟩ (zd U a)):=
 h.set0 5 _ rfl rfl rfl rfl h.okd (by omega) (by simp)
theorem DX (h:RnG I B R br b1 b2 b3 fl dp st ev w) (j:Nat) (u:Value):Fr br b1 b2 ev ev w (w.setCell ⟨br,j,none⟩ u):=
 have g:=Bg (w:=w) (r:=br) (j:=j) (u:=u)
 ⟨g.os,g.tape,g.output,g.size,fun k hk h0 _ _ _=>g.block k hk (by simpa using h0),fun k hk=>Or.inl hk⟩
theorem EQ (h:RnG I B R br b1 b2 b3 fl dp st ev w) (j:Nat) (u:Value):Fr br b1 b2 ev ev w (w.setCell ⟨b1,j,none⟩ u):=
 have g:=Bg (w:=w) (r:=b1) (j:=j) (u:=u)
 ⟨g.os,g.tape,g.output,g.size,fun k hk _ h0 _ _=>g.block k hk (by simpa using h0),fun k hk=>Or.inl hk⟩
theorem QE (h:RnG I B R br b1 b2 b3 fl dp st ev w) (j:Nat) (u:Value):Fr br b1 b2 ev ev w (w.setCell ⟨b2,j,none⟩ u):=
 have g:=Bg (w:=w) (r:=b2) (j:=j) (u:=u)
 ⟨g.os,g.tape,g.output,g.size,fun k hk _ _ h0 _=>g.block k hk (by simpa using h0),fun k hk=>Or.inl hk⟩
theorem RnG.setVar (h:RnG I B R br b1 b2 b3 fl dp st ev w) (v x:Int) (hv:v.toNat < st.vars.length):RnG I B R br b1 b2 b3 fl dp (st.setv v x) ev (w.setCell ⟨b1,v.toNat,none⟩ (zd U x)):=by
 obtain ⟨g,p,f,l,e,i⟩:=h.apart;refine ⟨?_,?_,h.taken.other (Ne.symm f),h.first.other e,h.own.kept Bg (Or.inr (fun b=>h.evA.2.1 (Or.inl b))),fun k=>Be.trans (h.z0 k),fun k=>Be.trans (h.z1 k),fun k=>Be.trans (h.z2 k),h.apart,h.evA,h.lo,by simpa [World.setCell] using h.hi,h.obSet b1 _ _ (Or.inr (Or.inl rfl)),h.xlo,h.okd⟩
 ·have:=h.row.other (j:=v.toNat) (v:=zd U x) g
  simpa [RSt.setv] using this
 ·have:=h.vars.set (j:=v.toNat) (v:=zd U x) (by simpa using hv)
  simpa [RSt.setv,Cj] using this
theorem RnG.setTaken (h:RnG I B R br b1 b2 b3 fl dp st ev w) (c:Nat) (x:Int) (hv:c < st.taken.length):RnG I B R br b1 b2 b3 fl dp { st with taken:=st.taken.set c x } ev (w.setCell ⟨b2,c,none⟩ (zd U x)):=by
 obtain ⟨p,g,f,l,i,e⟩:=h.apart;refine ⟨?_,h.vars.other f,?_,h.first.other e,h.own.kept Bg (Or.inr (fun b=>h.evA.2.2.1 (Or.inl b))),fun k=>Be.trans (h.z0 k),fun k=>Be.trans (h.z1 k),fun k=>Be.trans (h.z2 k),h.apart,h.evA,h.lo,by simpa [World.setCell] using h.hi,h.obSet b2 _ _ (Or.inr (Or.inr rfl)),h.xlo,h.okd⟩
 ·have:=h.row.other (j:=c) (v:=zd U x) g
  simpa using this
 ·have:=h.taken.set (j:=c) (v:=zd U x) (by simpa using hv)
  simpa [Cj] using this
theorem RnG.grown {v':Value} {w':World} (h:RnG I B R br b1 b2 b3 fl dp st ev w) (e:Ev4) (hg:w.grownBy w' ev.ev.ownBlock) (ho:w'.ownsRow B 136 4 v' (st.ev.length+1) (Bi st.ev++Bi [e])) (hat:v'.ownBlock=ev.ev.ownBlock\/v'.ownBlock=some w.heap.size) :
  RnG I B R br b1 b2 b3 fl dp (st.tell e) ⟨v',ev.X⟩ (w'.setCell ⟨br,0,none⟩ v')/\Fr br b1 b2 ev ⟨v',ev.X⟩ w (w'.setCell ⟨br,0,none⟩ v'):=by
 obtain ⟨P,O,U,N,T,S⟩:=h.apart;have A:ev.ev.ownBlock≠some br:=fun f=>h.evA.1 (Or.inl f);have E:ev.ev.ownBlock≠some b1:=fun f=>h.evA.2.1 (Or.inl f);have C:ev.ev.ownBlock≠some b2:=fun f=>h.evA.2.2.1 (Or.inl f);have M:ev.ev.ownBlock≠some b3:=fun f=>h.evA.2.2.2 (Or.inl f);have hi:=h.hi;have hk:∀ b,b < w.heap.size->ev.ev.ownBlock≠some b->w'.heap[b]? = w.heap[b]?:=fun b s l=>hg.block b s (fun f=>l f.symm);have i:∀ (cs:List Value) (b:Nat),Ad cs w b->b < w.heap.size->ev.ev.ownBlock≠some b->Ad cs w' b:=fun cs b G s l j u F=>(World.cell?_of_block (hk b s l)).trans (G j u F);have l:∀ b,b < w.heap.size->ev.ev.ownBlock≠some b->v'.ownBlock≠some b:=fun b s f=>by
  rcases hat with h1 | h1
  ·rw [h1];exact f
  ·rw [h1];intro hy;injection hy;omega
 have p:∀ b,b < w.heap.size->¬ ev.at b->¬ (Ow.mk v' ev.X).at b:=fun b s f hy=>by
  rcases hy with hy | hy
  ·exact l b s (fun q=>f (Or.inl q)) hy
  ·exact f (Or.inr hy)
 have y:∀ b k,b < w.heap.size->ev.ev.ownBlock≠some b->w'.frozen? ⟨b,k,none⟩=w.frozen? ⟨b,k,none⟩:=fun b k s f=>World.frozen?_of_block (hk b s f);have Q:=hg.size;have g:=Bg (w:=w') (r:=br) (j:=0) (u:=v');constructor
 ·refine ⟨?_,(i _ _ h.vars hi.2.1 E).other (Ne.symm P),(i _ _ h.taken hi.2.2.1 C).other (Ne.symm O),(i _ _ h.first hi.2.2.2.1 M).other N,?_,fun k=>Be.trans ((y _ _ hi.1 A).trans (h.z0 k)),fun k=>Be.trans ((y _ _ hi.2.1 E).trans (h.z1 k)),fun k=>Be.trans ((y _ _ hi.2.2.1 C).trans (h.z2 k)),h.apart,⟨p _ hi.1 h.evA.1,p _ hi.2.1 h.evA.2.1,p _ hi.2.2.1 h.evA.2.2.1,p _ hi.2.2.2.1 h.evA.2.2.2⟩,h.lo,by simp [World.setCell];omega,?_,h.xlo,h.okd⟩
  ·have:=(i _ _ h.row hi.1 A).set (j:=0) (v:=v') (by simp)
   simpa [RSt.tell] using this
  ·have hl:(st.tell e).ev.length=st.ev.length+1:=by simp [RSt.tell]
   have H:Bi (st.tell e).ev=Bi st.ev++Bi [e]:=CP _ _;rw [hl,H];exact ho.kept Bg (Or.inr (l _ hi.1 A))
  ·refine I.kept h.ob (g.os.trans hg.os) (g.tape.trans hg.tape) (g.output.trans hg.output) (Nat.le_trans hg.size g.size) (fun k t hy=>(g.block k (by omega) (fun q=>hy (Or.inl (Option.some.inj q)))).trans (hk k t (fun q=>hy (Or.inr (Or.inr (Or.inr q)))))) (fun k hy=>?_) (fun k hy=>?_)
   rotate_left
   ·exact Nat.lt_of_lt_of_le (MJ ho (Nat.lt_of_lt_of_le hi.1 hg.size) (Nat.lt_of_lt_of_le hi.2.1 hg.size) (Nat.lt_of_lt_of_le hi.2.2.1 hg.size) k hy) g.size
   rcases hy with hy | hy | hy | hy
   ·exact Or.inl (Or.inl hy)
   ·exact Or.inl (Or.inr (Or.inl hy))
   ·exact Or.inl (Or.inr (Or.inr (Or.inl hy)))
   ·rcases hat with h1 | h1
    ·rw [h1] at hy;exact Or.inl (Or.inr (Or.inr (Or.inr hy)))
    ·rw [h1] at hy;injection hy with hy;exact Or.inr (by omega)
 ·refine ⟨g.os.trans hg.os,g.tape.trans hg.tape,g.output.trans hg.output,Nat.le_trans hg.size g.size,fun k t L _ _ J=>(g.block k (by omega) (by simpa using L)).trans (hk k t (fun q=>J (Or.inl q))),fun k hy=>?_⟩
  rcases hy with hy | hy
  ·rcases hat with h1 | h1
   ·exact Or.inl (Or.inl (h1 ▸ hy))
   ·have hy:v'.ownBlock=some k:=hy
    rw [h1] at hy;injection hy with hy;exact Or.inr (by omega)
  ·exact Or.inl (Or.inr hy)
end
structure Bh (nv ni F:Nat) (st:RSt):Prop where
 vl:st.vars.length=nv
 tl:st.taken.length=ni
 i32:∀ x∈st.vars,I32 x
 tk:∀ x∈st.taken,0<=x/\x<=(st.steps:Int)
 el:st.ev.length<=st.steps
 sb:st.steps<=F
theorem Bh.step {nv ni F:Nat} {st:RSt} (h:Bh nv ni F st) (hs:st.steps < F):Bh nv ni F st.step:=
 ⟨h.vl,h.tl,h.i32,fun x hx=>⟨(h.tk x hx).1,by have:=(h.tk x hx).2;simp [RSt.step];omega⟩,Nat.le_succ_of_le h.el,hs⟩
theorem Bh.o {nv ni F:Nat} {st:RSt} (h:Bh nv ni F st):Bh nv ni F st.out:=⟨h.vl,h.tl,h.i32,h.tk,h.el,h.sb⟩
theorem Bh.pass {nv ni F:Nat} {st:RSt} (h:Bh nv ni F st) (ob:Ob) (kind:Nat) (a:Int) (dp:Nat) (d):Bh nv ni F (Bq ob kind a dp d st).2:=by
 unfold Bq;split
 ·exact ⟨h.vl,h.tl,h.i32,h.tk,h.el,h.sb⟩
 ·exact ⟨h.vl,h.tl,h.i32,h.tk,h.el,h.sb⟩
theorem Jt {l:List Int} {i:Nat} {x y:Int} (h:y∈l.set i x):y=x\/y∈l:=by
 rcases List.mem_or_eq_of_mem_set h with h | h
 ·exact Or.inr h
 ·exact Or.inl h
theorem Bh.setv {nv ni F:Nat} {st:RSt} (h:Bh nv ni F st) {v x:Int} (hx:I32 x):Bh nv ni F (st.setv v x):=
 ⟨by simp [RSt.setv,h.vl],h.tl,fun y hy=>by rcases Jt hy with rfl | hy;exact hx;exact h.i32 y hy,h.tk,h.el,h.sb⟩
theorem Bh.tell {nv ni F:Nat} {st:RSt} (h:Bh nv ni F st) (e:Ev4) (hl:st.ev.length < st.steps):Bh nv ni F (st.tell e):=
 ⟨h.vl,h.tl,h.i32,h.tk,by simp [RSt.tell];omega,h.sb⟩
structure Gl (nv ni F:Nat) (st:RSt):Prop where
 ok:Bh nv ni F st
 el:st.ev.length < st.steps
 tk:∀ x∈st.taken,x+1<=(st.steps:Int)
theorem Bh.stepS {nv ni F:Nat} {st:RSt} (h:Bh nv ni F st) (hs:st.steps < F):Gl nv ni F st.step:=
 ⟨h.step hs,Nat.lt_succ_of_le h.el,fun x hx=>by have:=(h.tk x hx).2;show x+1<=((st.steps+1:Nat):Int);omega⟩
theorem Gl.pass {nv ni F:Nat} {st:RSt} (h:Gl nv ni F st) (ob:Ob) (kind:Nat) (a:Int) (dp:Nat) (d):Gl nv ni F (Bq ob kind a dp d st).2:=by
 refine ⟨h.ok.pass ob kind a dp d,?_,?_⟩
 ·unfold Bq
  split
  ·exact h.el
  ·exact h.el
 ·unfold Bq
  split
  ·exact h.tk
  ·exact h.tk
theorem Gl.took {nv ni F:Nat} {st:RSt} (h:Gl nv ni F st) (c:Int):Bh nv ni F (st.took c):=by
 refine ⟨h.ok.vl,by simp [RSt.took,h.ok.tl],h.ok.i32,fun y hy=>?_,h.ok.el,h.ok.sb⟩;have b:(st.took c).steps=st.steps:=rfl;rw [b];rcases Jt hy with rfl | hy
 ·have:st.taken.getD c.toNat 0=0\/st.taken.getD c.toNat 0∈st.taken:=by
   rw [List.getD_eq_getElem?_getD]
   cases hc:st.taken[c.toNat]? with
   | none=>exact Or.inl rfl
   | some x=>exact Or.inr (List.mem_of_getElem? hc)
  rcases this with hz | hz
  ·have:=h.el;rw [hz];omega
  ·have:=h.ok.tk _ hz;have:=h.tk _ hz;omega
 ·exact h.ok.tk y hy
theorem Gl.tell {nv ni F:Nat} {st:RSt} (h:Gl nv ni F st) (e:Ev4):Bh nv ni F (st.tell e):=h.ok.tell e h.el
theorem Gl.setv {nv ni F:Nat} {st:RSt} (h:Gl nv ni F st) {v x:Int} (hx:I32 x):Gl nv ni F (st.setv v x):=⟨h.ok.setv hx,h.el,h.tk⟩
theorem RE {w w0 w1:World} {a0 a1:Addr} {v0 v1:Value} (h:w0.cell? a0=some v0/\w0.cell? a1=some v1/\Ov w w0) (hb:Ov w0 w1) :
  w1.cell? a0=some v0/\w1.cell? a1=some v1/\Ov w w1:=⟨Ab hb _ _ h.1,Ab hb _ _ h.2.1,Ac h.2.2 hb⟩
theorem Ng (kd va ot ek en:Int) (xa xl xc aa al ac ta tl tc ea el ec) (n1 n2:Int) (w:World) (h1:0<=n1/\n1<=100) (h2:0<=n2/\n2<=100)
  (KT:Hx (∀ W,Ov w W->Calls Tryz.prog 181 #[O ta tl tc] W fun e w'=>e=zj (zd U n1)/\Ov W w'))
  (KE:Hx (∀ W,Ov w W->Calls Tryz.prog 181 #[O ea el ec] W fun e w'=>e=zj (zd U n2)/\Ov W w')) :
  Calls Tryz.prog 185 #[zh #[zd U kd,zd U va,zd U ot,zd U ek,zd U en,O xa xl xc,O aa al ac,O ta tl tc,O ea el ec]] w fun e w'=>e=zj (zd U (1+n1+n2))/\Ov w w':=by
 have b:Ov w (w.alloc (ze #[zd U kd,zd U va,zd U ot,zd U ek,zd U en,O xa xl xc,O aa al ac,O ta tl tc,O ea el ec] 130)):=bA w _;have f:=B3 w [zd U kd,zd U va,zd U ot,zd U ek,zd U en,O xa xl xc,O aa al ac,O ta tl tc,O ea el ec] 130;have h:=f 7 _ rfl;have g:=f 8 _ rfl;clear f;obtain ⟨u,t⟩:=h1;obtain ⟨s,q⟩:=h2;go_enter Tryz.func185,Tryz.ntmps185;go_wp2_with fail;go_region_held3 (fun W=>W.cell? ⟨w.heap.size,7,none⟩=some (O ta tl tc)/\W.cell? ⟨w.heap.size,8,none⟩=some (O ea el ec)/\Ov w W) (first | assumption | exact ⟨h,g,below_drewN b 1⟩ | exact RE (by assumption) hbp | exact RE (by assumption) hbq | fail) (first | (go_at_call_of 181 (Value.slice ta tl tc);refine (KT.o _ (by assumption:_/\_/\Below _ _ _).2.2).mono ?_;rintro e p ⟨rfl,hbp⟩) | (go_at_call_of 181 (Value.slice ea el ec);refine (KE.o _ (by assumption:_/\_/\Below _ _ _).2.2).mono ?_;rintro e l ⟨rfl,hbq⟩));obtain ⟨-,-,i⟩:=(by assumption:_/\_/\Below _ _ _);have k:Hx (IntKind.i64.wrap (IntKind.i64.wrap (1+n1)+n2)=1+n1+n2):=by
  show _=_;rw [IntWalk.i64_in (1+n1) (by omega),IntWalk.i64_in _ (by omega)]
 clear h g b KT KE;go_wp2_with fail;go_ret;refine ⟨?_,i⟩;first | rfl | (rw [<-k.o];rfl)
def Mz (K k:Nat):Prop:=∀ (v:Value) (l:List D) (w:World),Bj w K k v l->AI k l<=100->Calls Tryz.prog 181 #[v] w fun e w'=>e=zj (zd U (AI k l:Nat))/\Ov w w'
def My (K k:Nat):Prop:=∀ (cs:List Value) (d:D) (w:World),RS w K k cs d->CY k d<=100->Calls Tryz.prog 185 #[.agg cs.toArray] w fun e w'=>e=zj (zd U (CY k d:Nat))/\Ov w w'
theorem IK (K k:Nat) (h:Mz K k):My K (k+1):=by
 intro cs d w p q;have b:CY (k+1) d=1+AI k (Aj d)+AI k (Ao d):=rfl;obtain ⟨u,en,g,e,f,C,B,l,i,A,y,rfl,-,-,-,-,-,s,t,-,-,-⟩:=p.form;rw [b] at q ⊢;have:=Ng (Ag d) (Ap d) (Ae d) u en g e f C (Ai d).length B l (Aj d).length i A (Ao d).length y (AI k (Aj d):Nat) (AI k (Ao d):Nat) w (by omega) (by omega)
  (Aa fun W hW=>h _ _ W (s.over hW) (by omega)) (Aa fun W hW=>h _ _ W (t.over hW) (by omega))
 push_cast
 exact this
theorem MR (K k:Nat) (h:My K k):Mz K k:=by
 intro v l w hl hc;have ad:l.length<=9223372036854775807:=hl.1;obtain ⟨ao,cap,rfl,E⟩:=hl.2;have HC:=Aa E;have HS:=Aa h;have ab:=Aa hc;clear E hl h hc;go_enter Tryz.func181,Tryz.ntmps181;go_wp2_with fail;go_loopw [3,8] (fun c i wr=>∃ j:Nat,j<=l.length/\i=zd U j/\c=zd U (AI k (l.take j):Nat)/\Ov w wr) (fun _ i _=>l.length - (intOf i).toNat)
 case atStart=>exact ⟨0,Nat.zero_le _,rfl,by simp [AI],Below.refl _ w⟩
 case round=>
  obtain ⟨j,hj,rfl,rfl,g⟩:=hrel;by_cases hjl:j < l.length
  ·obtain ⟨b,off,rfl,C⟩:=HC.o (by rintro rfl;simp at hjl)
   obtain ⟨cs,R,f,L⟩:=C j l[j] (List.getElem?_eq_getElem hjl);have q:=Gd (k:=k) hjl;have Q:AI k (l.take (j+1))<=100:=by
    have e1:AI k l=AI k (l.take (j+1))+AI k (l.drop (j+1)):=by
     unfold AI;rw [<-List.sum_append,<-List.map_append,List.take_append_drop]
    have:=ab.o;omega
   obtain ⟨J,rfl⟩:∃ J,k=J + 1:=by
    cases k with
    | zero=>exact L.elim
    | succ k=>exact ⟨k,rfl⟩
   have P:=Aa fun W (hW:Ov w W)=>HS.o cs l[j] W (RS.mono (Ab hW) _ _ _ _ (Nat.le_refl _) L) (by omega);obtain ⟨ek,en,xa,xl,xc,aa,ac,ta,tc,ea,ec,B,-,-,-,-,-,-,-,-,-,-⟩:=L.form;subst B;obtain ⟨kd,y⟩:=nm (Ag l[j]);obtain ⟨va,s⟩:=nm (Ap l[j]);obtain ⟨ot,u⟩:=nm (Ae l[j]);obtain ⟨al,H⟩:=nm ((Ai l[j]).length);obtain ⟨tl,t⟩:=nm ((Aj l[j]).length);obtain ⟨el,A⟩:=nm ((Ao l[j]).length);rw [<-y,<-s,<-u,<-H,<-t,<-A] at f P;obtain ⟨M,T⟩:∃ M:Nat,M=AI (J + 1) (l.take j):=⟨_,rfl⟩;obtain ⟨N,S⟩:∃ N:Nat,N=CY (J + 1) l[j]:=⟨_,rfl⟩;rw [<-T,<-S] at q;rw [<-S] at P;rw [<-T];have Z:=Aa q;have a2:M+N<=100:=by omega
   have q0:wr.cell? ⟨b,off+j*9,none⟩=_:=Ab g _ _ (f 0 _ rfl);have q1:=Ab g _ _ (f 1 _ rfl);have q2:=Ab g _ _ (f 2 _ rfl);have q3:=Ab g _ _ (f 3 _ rfl);have q4:=Ab g _ _ (f 4 _ rfl);have q5:=Ab g _ _ (f 5 _ rfl);have q6:=Ab g _ _ (f 6 _ rfl);have q7:=Ab g _ _ (f 7 _ rfl);have q8:=Ab g _ _ (f 8 _ rfl);have F:Ov wr (wr.alloc (ze #[zd U kd,zd U va,zd U ot,zd U ek,zd U en,O xa xl xc,O aa al ac,O ta tl tc,O ea el ec] 130)):=bA wr _;have p:=g.trans (F.mono g.size);have I:=Aa (P.o _ p);clear f C L R y s u H t A T S q Q P HS;go_wp2_with fail;refine (I.o).mono ?_;rintro e w1 ⟨rfl,G⟩;have V:=p.trans (G.mono p.size);clear I G p F q0 q1 q2 q3 q4 q5 q6 q7 q8 g;go_wp2_with fail;refine ⟨⟨j+1,by omega,by go_num,?_,V⟩,by simp [intOf];omega⟩;rw [Z.o];simp
  ·have hd:l.take j=l:=List.take_of_length_le (by omega)
   rw [hd];go_wp2_with fail;go_ret;exact ⟨rfl,g⟩
theorem FD (K:Nat):∀ k,Mz K k
 | 0=>MR K 0 (fun cs d w hr _=>hr.elim)
 | k+1=>MR K (k+1) (IK K k (FD K k))
theorem OT (K:Nat):∀ k,My K k
 | 0=>fun cs d w hr _=>hr.elim
 | k+1=>IK K k (FD K k)
end Go.Proofs.YtfffpjkcfnekaaaGreat.Ex
