/- One who judges: a command that trusts. -/
import Derived.Test.YtfffpjkcfnekaaaGreatE08
import Derived.Maps.AppendAt
set_option linter.unusedVariables false
set_option maxHeartbeats 8000000
set_option maxRecDepth 100000
namespace Go.Proofs.YtfffpjkcfnekaaaGreat.Ex
open Go.RowKit
open Go.Value renaming slice -> O, int -> zd, bool -> zg, agg -> zh, pointer -> zi, tuple -> zk
open Go.IntKind renaming i64 -> U
open Go.Obj renaming cells -> ze
open Go.Ending renaming returned -> zj
theorem Cw {P:Program} {id:Nat} {ops:Array Oper} {dr:Bool} {Q:Exit->Act->World->Prop} {a:Act} {w:World} (R:Act->World->Prop) (h:(Code.region id ops dr).wp P (Ef R) a w) (hq:∀ a w,R a w->Q .normal a w):(Code.region id ops dr).wp P Q a w:=
 wp_mono h fun e a w h=>by cases e <;> first | exact hq _ _ h | exact h.elim
theorem J5 {P:Program} {id:Nat} {ops:Array Oper} {dr:Bool} {Q:Exit->Act->World->Prop} {a:Act} {w:World} (h:(Code.region id ops dr).wp P (Ef (Q .normal)) a w):(Code.region id ops dr).wp P Q a w:=
 Cw (Q .normal) h fun _ _ h=>h
theorem Ba {R:Act->World->Prop} {a:Act} {w:World} (h:R a w):Ef R .normal a w:=h
structure ZB (b:Nat) (W:World):Prop where
 c0:W.cell? ⟨b,0,none⟩=some (O none 0 0)
 c1:W.cell? ⟨b,1,none⟩=some (O none 0 0)
 z0:W.frozen? ⟨b,0,none⟩=false
 z1:W.frozen? ⟨b,1,none⟩=false
theorem ZB.lt {b:Nat} {W:World} (h:ZB b W):b < W.heap.size:=bL h.c0
theorem DJ (t:Nat) (W:World):ZB W.heap.size (W.alloc (ze #[O none 0 0,O none 0 0] t)):=⟨by simp [go_sem],by simp [go_sem],by simp [go_sem],by simp [go_sem]⟩
theorem Jc {b:Nat} {W:World} (h:ZB b W):ZB b W.drew:=⟨h.c0,h.c1,h.z0,h.z1⟩
theorem ZB.over {b:Nat} {W W':World} (h:ZB b W) (hb:Ov W W'):ZB b W':=⟨Ab hb _ _ h.c0,Ab hb _ _ h.c1,((An hb).2 _ _ h.lt).trans h.z0,((An hb).2 _ _ h.lt).trans h.z1⟩
def BC (W:World) (b:Nat) (x y:Value):World:=(W.setCell ⟨b,0,none⟩ x).setCell ⟨b,1,none⟩ y
theorem ZB.fill {b:Nat} {W:World} (h:ZB b W) (x y:Value):Ad [x,y] (BC W b x y) b:=by
 have f:Ad [O none 0 0,O none 0 0] W b:=fun j u e=>by
  match j with
  | 0=>simp at e;subst e;exact h.c0
  | 1=>simp at e;subst e;exact h.c1
  | j+2=>simp at e
 have r:=BK (j:=1) (v:=y) (BK (j:=0) (v:=x) f (by simp)) (by simp);simpa [BC] using r
theorem Ck {W:World} {b:Nat} {x y:Value} {k:Nat} (h:k≠b):(BC W b x y).heap[k]? = W.heap[k]?:=by
 unfold BC;rw [Au (Ne.symm h),Au (Ne.symm h)]
theorem H3 {W:World} {b:Nat} {x y:Value}:(BC W b x y).heap.size=W.heap.size:=by simp [BC,World.setCell]
theorem ZB.other {b b':Nat} {W:World} (h:ZB b W) (hne:b≠b') (x y:Value):ZB b (BC W b' x y):=
 ⟨(World.cell?_of_block (a:=⟨b,0,none⟩) (Ck hne)).trans h.c0,(World.cell?_of_block (a:=⟨b,1,none⟩) (Ck hne)).trans h.c1,(World.frozen?_of_block (a:=⟨b,0,none⟩) (Ck hne)).trans h.z0,(World.frozen?_of_block (a:=⟨b,1,none⟩) (Ck hne)).trans h.z1⟩
theorem J4 {cs:List Value} {b b':Nat} {W:World} (h:Ad cs W b) (hne:b≠b') (x y:Value):Ad cs (BC W b' x y) b:=fun j u hu=>(World.cell?_of_block (a:=⟨b,j,none⟩) (Ck hne)).trans (h j u hu)
theorem B7 {B:Nat} {A W:World} (h:Below B A W) {b:Nat} (hb:B<=b) (x y:Value):Below B A (BC W b x y):=(h.setCell hb _).setCell hb _
theorem EO {n bj b:Nat} {W:World} {v:Value} {l:Lev} (h:Aw n (XJ bj) W v l) (hz:ZB b W) (hne:bj≠b) (x y:Value):Aw n (XJ bj) (BC W b x y) v l:=by
 obtain ⟨u,w,i,p,hw⟩:=h.off;have g:∀ k,XJ bj (BC W b x y) k->XJ bj W k:=by
  rintro k (hk | hk | ⟨q,s,t⟩)
  ·rw [H3] at hk;exact Or.inl hk
  ·exact Or.inr (Or.inl hk)
  ·exact Or.inr (Or.inr ⟨q,(World.cell?_of_block (a:=⟨bj,11,none⟩) (Ck hne)).symm.trans s,t⟩)
 have f:(W.setCell ⟨b,0,none⟩ x).cell? ⟨b,1,none⟩=some (O none 0 0):=by rw [World.cell?_setCell_other _ _ _ _ (by simp)];exact hz.c1
 exact ⟨Cz f (Cz hz.c0 h.at_ _) _,h.len,u,w,i,fun a m c e q=>p a m c e (g _ q),fun a m c e q=>hw a m c e (g _ q)⟩
def TB (bj:Nat) (L:List (Nat × List Value)) (W:World):Prop:=∀ q∈L,Ad q.2 W q.1/\¬ XJ bj W q.1/\q.1 < W.heap.size
theorem TB.keep {bj:Nat} {L:List (Nat × List Value)} {W W':World} (h:TB bj L W) (hf:FrW (XJ bj) W W'):TB bj L W':=fun q hq=>⟨hf.row (h q hq).1 (h q hq).2.1,fun e=>(h q hq).2.1 (hf.mov _ (h q hq).2.2 e),Nat.lt_of_lt_of_le (h q hq).2.2 hf.size⟩
theorem TB.row {bj:Nat} {L:List (Nat × List Value)} {W:World} (h:TB bj L W) (i:Nat) {q:Nat × List Value} (hi:L[i]? = some q):Ad q.2 W q.1:=(h q (List.mem_of_getElem? hi)).1
theorem TB.off {bj:Nat} {L:List (Nat × List Value)} {W:World} (h:TB bj L W) (i:Nat) {q:Nat × List Value} (hi:L[i]? = some q):¬ XJ bj W q.1:=(h q (List.mem_of_getElem? hi)).2.1
theorem TB.add {bj:Nat} {L:List (Nat × List Value)} {W:World} (h:TB bj L W) {b:Nat} {cs:List Value} (hr:Ad cs W b) (hx:¬ XJ bj W b) (hl:b < W.heap.size):TB bj ((b,cs)::L) W:=fun q hq=>by
 rcases List.mem_cons.1 hq with rfl | hq
 ·exact ⟨hr,hx,hl⟩
 ·exact h q hq
theorem TB.nil {bj:Nat} {W:World}:TB bj [] W:=fun q hq=>by cases hq
theorem EU (n:Nat):(A7 n).len n:=by simp [A7,Lev.len]
theorem Kr {n:Nat} {gs:List (Int × Int)} {b:Lab} (h:Bb n gs b=0):(b.r.length<=4/\∀ q∈b.r,E5 n q)/\(b.w.length<=4/\∀ q∈b.w,E5 n q):=by
 unfold Bb at h;split at h
 ·exact IV h
 ·rename_i e;exact absurd h e
abbrev Rf (bj:Nat) (c:WC) (bv ov bl ol:Nat) (W:World) (jv:Nat) (ek en:Int) (xa:Option Addr) (xl xc:Nat) (a1:Option Addr) (a2 a3:Nat) (a4:Option Addr) (a5 a6:Nat) (Wz:World):Prop:=Wz.cell? ⟨bj,0,none⟩=some (zd U (c.n:Int))/\Wz.cell? ⟨bj,1,none⟩=some (O c.ga c.gn c.gc)/\Wz.cell? ⟨bj,2,none⟩=some (O c.sa c.sn c.sc)/\Wz.cell? ⟨bj,3,none⟩=some (O c.ya c.yn c.yc)/\Wz.cell? ⟨bj,4,none⟩=some (O c.oa c.on c.oc)/\Wz.cell? ⟨bj,5,none⟩=some (O (some ⟨bv,ov,none⟩) c.vn c.vc)/\Wz.cell? ⟨bj,6,none⟩=some (O c.fa c.fn c.fc)/\Wz.cell? ⟨bj,7,none⟩=some (O c.ba c.bn c.bc)/\Wz.cell? ⟨bj,8,none⟩=some (O (some ⟨bl,ol,none⟩) c.ln c.lc)/\Wz.cell? ⟨bj,9,none⟩=some (O c.ka c.kn c.kc)/\Wz.cell? ⟨W.heap.size,1,none⟩=some (zd U (jv:Int))/\Wz.cell? ⟨W.heap.size,3,none⟩=some (zd U ek)/\Wz.cell? ⟨W.heap.size,4,none⟩=some (zd U en)/\Wz.cell? ⟨W.heap.size,5,none⟩=some (O xa xl xc)/\Wz.cell? ⟨bl,ol+jv*2,none⟩=some (O a1 a2 a3)/\Wz.cell? ⟨bl,ol+jv*2+1,none⟩=some (O a4 a5 a6)
abbrev Re (bj:Nat) (c:WC) (bv ov bl ol:Nat) (W:World) (p1:Option Addr) (q1 r1:Nat) (p2:Option Addr) (q2 r2 bo:Nat) (a1:Option Addr) (a2 a3:Nat) (a4:Option Addr) (a5 a6:Nat) (Wz:World):Prop:=Wz.cell? ⟨bj,0,none⟩=some (zd U (c.n:Int))/\Wz.cell? ⟨bj,1,none⟩=some (O c.ga c.gn c.gc)/\Wz.cell? ⟨bj,2,none⟩=some (O c.sa c.sn c.sc)/\Wz.cell? ⟨bj,3,none⟩=some (O c.ya c.yn c.yc)/\Wz.cell? ⟨bj,4,none⟩=some (O c.oa c.on c.oc)/\Wz.cell? ⟨bj,5,none⟩=some (O (some ⟨bv,ov,none⟩) c.vn c.vc)/\Wz.cell? ⟨bj,6,none⟩=some (O c.fa c.fn c.fc)/\Wz.cell? ⟨bj,7,none⟩=some (O c.ba c.bn c.bc)/\Wz.cell? ⟨bj,8,none⟩=some (O (some ⟨bl,ol,none⟩) c.ln c.lc)/\Wz.cell? ⟨bj,9,none⟩=some (O c.ka c.kn c.kc)/\Wz.cell? ⟨W.heap.size+1,0,none⟩=some (O p1 q1 r1)/\Wz.cell? ⟨W.heap.size+1,1,none⟩=some (O p2 q2 r2)/\Wz.cell? ⟨bo,0,none⟩=some (O a1 a2 a3)/\Wz.cell? ⟨bo,1,none⟩=some (O a4 a5 a6)
abbrev Ou (bj bv ov:Nat) (c:WC) (W:World) (jv:Nat) (kn:Bool) (pa1:Option Addr) (pn1 pc1:Nat) (pa2:Option Addr) (pn2 pc2:Nat) (Wz:World):Prop:=Wz.cell? ⟨bj,5,none⟩=some (O (some ⟨bv,ov,none⟩) c.vn c.vc)/\Wz.cell? ⟨W.heap.size,1,none⟩=some (zd U (jv:Int))/\Wz.cell? ⟨bv,ov+jv*3,none⟩=some (zg kn)/\Wz.cell? ⟨bv,ov+jv*3+1,none⟩=some (O pa1 pn1 pc1)/\Wz.cell? ⟨bv,ov+jv*3+2,none⟩=some (O pa2 pn2 pc2)
theorem RL (c) (w0:World) (bj:Nat) (av:Value) (gs Ls Fs) (J:JSt c w0 gs Ls Fs) (sp) (A:JAc c w0 av (Ax gs) sp) (K ni no:Nat) (fs vs) (hvs:Bs w0 (O c.va c.vn c.vc) vs) (hvn:vs.length=Ls.length) (hvc:∀ v∈vs,Bb c.n gs v.2=0) :
  Gi c w0 bj av K Ls.length ni no fs 6 (GZ c.n K (Ax gs) sp Ls vs) 153:=by
 intro fl fv s a k cs lv d p funcs W gw h t hl eg dk hk;obtain ⟨p1,q1,r1,p2,q2,F,er⟩:=hl.form;have eq:lv=[O p1 q1 r1,O p2 q2 F]:=by simpa using er
 subst eq;clear er;obtain ⟨ek,en,xa,xl,xc,aa,ac,ta,tc,ea,ec,rfl,i0,i1,i2,hX,hA,hT,hE,-,-,-⟩:=eg.form;have gu:=dk.2.1 (by omega);obtain ⟨C,cr⟩:∃ j:Nat,Ap d=(j:Int):=⟨(Ap d).toNat,by omega⟩;have ct:C < Ls.length:=by omega
 have b0:C < vs.length:=by omega
 obtain ⟨bl,ol,a1,a2,a3,a4,a5,a6,bz,et,k0,k1,bu⟩:=Fh J.levs ct;have e5:=hvs;obtain ⟨gq,ie,ic,gt,aq⟩:=hvs;injection gt with v1 v2 v3;obtain ⟨bv,ov,eb,aq⟩:=aq (by rintro rfl;simp at b0);have a9:c.va=some ⟨bv,ov,none⟩:=v1.trans eb;have ed:c.vn=vs.length:=v2;have ew:sC (Ag d) (Ap d) (Ae d) ek en xa xl xc aa (Ai d).length ac ta (Aj d).length tc ea (Ao d).length ec=sC 6 (C:Int) (Ae d) ek en xa xl xc aa (Ai d).length ac ta (Aj d).length tc ea (Ao d).length ec:=by rw [hk,cr]
 rw [ew];clear ew;obtain ⟨ot,em⟩:=nm (Ae d);obtain ⟨al,e4⟩:=nm ((Ai d).length);obtain ⟨tn,ee⟩:=nm ((Aj d).length);obtain ⟨el,ey⟩:=nm ((Ao d).length);rw [<-em,<-e4,<-ee,<-ey];have dq:Ls.getD (Ap d).toNat Ah=Ls[C]:=by rw [cr];simp [List.getD_eq_getElem?_getD,ct]
 obtain ⟨lz,dl⟩:=nm (Ls[C]);have da:lz.len c.n:=by rw [dl];exact J.lens _ (List.getElem_mem ct)
 rw [<-dl] at bu dq;have ex:vs.getD (Ap d).toNat (false,⟨[],[]⟩)=vs[C]:=by rw [cr];simp [List.getD_eq_getElem?_getD,b0]
 have du:c.v=(zh #[zd U (c.n:Int),O c.ga c.gn c.gc,O c.sa c.sn c.sc,O c.ya c.yn c.yc,O c.oa c.on c.oc,O (some ⟨bv,ov,none⟩) c.vn c.vc,O c.fa c.fn c.fc,O c.ba c.bn c.bc,O (some ⟨bl,ol,none⟩) c.ln c.lc,O c.ka c.kn c.kc]):=by show Value.agg #[zd U (c.n:Int),O c.ga c.gn c.gc,O c.sa c.sn c.sc,O c.ya c.yn c.yc,O c.oa c.on c.oc,O c.va c.vn c.vc,O c.fa c.fn c.fc,O c.ba c.bn c.bc,O c.la c.ln c.lc,O c.ka c.kn c.kc]=_;rw [a9,bz]
 obtain ⟨pr,pw,g0,g1,g2,ej,dj⟩:=aq C b0;obtain ⟨P,M,N,rfl⟩:=Az ej;obtain ⟨I,G,H,rfl⟩:=Az dj;obtain ⟨V1,bf⟩:=nm (((W.alloc (ze #[zd U 6,zd U (C:Int),zd U ot,zd U ek,zd U en,O xa xl xc,O aa al ac,O ta tn tc,O ea el ec] 130)).alloc (ze #[O p1 q1 r1,O p2 q2 F] 50)));have be:Ov W V1:=by rw [bf];exact (bA W _).alloc (by simp) _
 obtain ⟨tl,di⟩:=nm ((A6 c.n Ls (A7 c.n) (AG K (Am d))));have ao:=Aa (h.over be);have c4:=Aa J.n1;have fq:=Aa (fun (f:World) {fl2:List (Int × Int)} {fv2:Value} (l:AM c.cs w0 bj av fl2 fv2 f)=>Hk J.n1 l bu da);have de:Hx (∀ (f:World),Calls Tryz.prog 104 #[(zh #[zd U (c.n:Int),O c.ga c.gn c.gc,O c.sa c.sn c.sc,O c.ya c.yn c.yc,O c.oa c.on c.oc,O (some ⟨bv,ov,none⟩) c.vn c.vc,O c.fa c.fn c.fc,O c.ba c.bn c.bc,O (some ⟨bl,ol,none⟩) c.ln c.lc,O c.ka c.kn c.kc])] f fun e w'=>∃ vj,e=zj vj/\A1 f w' vj (A7 c.n)/\Ov f w'):=fun f=>by
  have:=ET c.n J.n1 J.n6 c.ga c.gn c.gc c.sa c.sn c.sc c.ya c.yn c.yc c.oa c.on c.oc c.va c.vn c.vc c.fa c.fn c.fc c.ba c.bn c.bc c.la c.ln c.lc c.ka c.kn c.kc f;rw [a9,bz] at this;exact this
 have KW:Hx (∀ (f:World) {x:Value},AM c.cs w0 bj av fl fv f->Aw c.n (XJ bj) f x (A7 c.n)->Calls Tryz.prog 103 #[(zh #[zd U (c.n:Int),O c.ga c.gn c.gc,O c.sa c.sn c.sc,O c.ya c.yn c.yc,O c.oa c.on c.oc,O (some ⟨bv,ov,none⟩) c.vn c.vc,O c.fa c.fn c.fc,O c.ba c.bn c.bc,O (some ⟨bl,ol,none⟩) c.ln c.lc,O c.ka c.kn c.kc]),x,zh #[zd U ek,zd U en,O xa xl xc]] f fun e w'=>(∃ p1 q1 r1 p2 q2 F,e=zj (zh #[O p1 q1 r1,O p2 q2 F])/\Aw c.n (XJ bj) w' (zh #[O p1 q1 r1,O p2 q2 F]) tl)/\Ov f w'):=fun f x l hx=>by
  have:=JT J l x (A7 c.n) K [zd U ek,zd U en,O xa xl xc] (Am d) hx hX (Bd dk);rw [du,<-di] at this;exact this
 obtain ⟨f5,dt⟩:=nm (Av p lz c.n);have KF:Hx (∀ (f:World) {fl2:List (Int × Int)} {fv2 x y:Value},AM c.cs w0 bj av fl2 fv2 f->Aw c.n (XJ bj) f x p->Aw c.n (XJ bj) f y lz->Calls Tryz.prog 57 #[(zh #[zd U (c.n:Int),O c.ga c.gn c.gc,O c.sa c.sn c.sc,O c.ya c.yn c.yc,O c.oa c.on c.oc,O (some ⟨bv,ov,none⟩) c.vn c.vc,O c.fa c.fn c.fc,O c.ba c.bn c.bc,O (some ⟨bl,ol,none⟩) c.ln c.lc,O c.ka c.kn c.kc]),x,y] f fun e W'=>e=zj (zg f5)/\Ov f W'):=fun f fl2 fv2 x y l hx hy=>by
  have:=DY c gs x y _ _ f (Af J.gr l.below) J.chk hx.at_ hx.len hy.at_ hy.len;rw [du,<-dt] at this;exact this
 have KB:=Aa (fun (f:World) {fl2:List (Int × Int)} {fv2:Value} (l:AM c.cs w0 bj av fl2 fv2 f) (hj:f.cell? ⟨s,0,none⟩=some (zi (some ⟨bj,0,none⟩))) (ha:f.cell? ⟨s+1,0,none⟩=some (zd U a)) (nj:¬ XJ bj f s) (na:¬ XJ bj f (s+1)) (gv:fl2.length<=1000) (k:Int) (is:Bool)=>Ge c.cs w0 bj av fl2 fv2 a k is s (s+1) f l hj ha nj na gv);have eu:=hvc vs[C] (List.getElem_mem b0);have bx:=Kr eu;unfold GZ toL JV Eb;rw [dq,ex,<-dt,<-di];obtain ⟨f6,ds⟩:=nm ((vs[C].2.w.any fun q=>FB (Ax gs) c.n sp q.owner.toNat));obtain ⟨kn,dm⟩:=nm (vs[C].1);obtain ⟨f8,dr⟩:=nm (((List.range c.n).any fun i=>lz.r[i]?.getD false && !(tl.r[i]?.getD false)));rw [<-ds,<-dm,<-dr];rw [<-dm] at g0;have KM:Hx (∀ (f:World) {fl2:List (Int × Int)} {fv2:Value},AM c.cs w0 bj av fl2 fv2 f->Calls Tryz.prog 202 #[zi (some ⟨bj,0,none⟩),O I G H] f fun e W'=>e=zj (zg f6)/\Ov f W'):=fun f fl2 fv2 l=>by
  rw [ds];exact Rv c w0 bj av fl2 fv2 (Ax gs) sp A _ _ f l J.n6 (Ak dj l.below) (by have:=bx.2.1;omega) (fun q hq=>(bx.2.2 q hq).1)
 have KS:Hx (∀ (f:World) {fl2:List (Int × Int)} {fv2:Value} {bt bo:Nat} {u1 u2:Value},AM c.cs w0 bj av fl2 fv2 f->f.cell? ⟨bo,0,none⟩=some (O a1 a2 a3)->f.cell? ⟨bt,0,none⟩=some u1->Aw c.n (XJ bj) f (zh #[u1,u2]) tl->Calls Tryz.prog 203 #[zi (some ⟨bj,0,none⟩),.func (.func 207) #[] #[zi (some ⟨bo,0,none⟩),zi (some ⟨bt,0,none⟩)]] f fun e W'=>e=zj (zg f8)/\Ov f W'):=fun f fl2 fv2 bt bo u1 u2 l ho ht bs=>by
  rw [dr];have es:=fq.o f l;obtain ⟨x,y,e1,b1,-⟩:=id es.at_;obtain ⟨x',y',e2,b2,-⟩:=id bs.at_;simp at e1 e2;obtain ⟨rfl,rfl⟩:=e1;obtain ⟨rfl,rfl⟩:=e2;refine FU c w0 bj av fl2 fv2 207 [zi (some ⟨bo,0,none⟩),zi (some ⟨bt,0,none⟩)] _ f l J.n6 (fun i hi w1 B=>?_) JH;exact PW c.n i bo bt _ _ _ _ w1 J.n6 hi (Ab B _ _ ho) (Ab B _ _ ht) (AF b1 B) es.len.1 (AF b2 B) bs.len.1
 have cg:Hx (TB bj [(W.heap.size,[zd U 6,zd U (C:Int),zd U ot,zd U ek,zd U en,O xa xl xc,O aa al ac,O ta tn tc,O ea el ec]),(W.heap.size+1,[O p1 q1 r1,O p2 q2 F]),(s,[zi (some ⟨bj,0,none⟩)]),(s+1,[zd U a])] V1):=by
  have hF:=FrW.of_below (Al bj) be;have e5:V1.heap.size=W.heap.size+1+1:=by rw [bf];simp
  have bb:∀ q,W.heap.size<=q->¬ XJ bj V1 q:=fun q hq e=>by have:=(h.xlt q ((Al bj).below _ _ be q e)).2;omega
  refine TB.add (TB.add (TB.add (TB.add TB.nil ?_ ?_ ?_) ?_ ?_ ?_) ?_ (bb _ (by omega)) (by omega)) ?_ (bb _ (Nat.le_refl _)) (by omega)
  ·exact hF.row (fun j u hu=>by match j with | 0=>simp at hu;subst hu;exact t.a | j+1=>simp at hu) (t.x _ (by omega) (by omega))
  ·exact fun e=>t.x _ (by omega) (by omega) (hF.mov _ (by have:=t.lt;omega) e)
  ·have:=t.lt;have:=hF.size;omega
  ·exact hF.row (fun j u hu=>by match j with | 0=>simp at hu;subst hu;exact t.j | j+1=>simp at hu) (t.x _ (by omega) (by omega))
  ·exact fun e=>t.x _ (by omega) (by omega) (hF.mov _ (by have:=t.lt;omega) e)
  ·have:=t.lt;have:=hF.size;omega
  ·rw [bf]
   have r:=Ad.new [O p1 q1 r1,O p2 q2 F] 50 (W.alloc (ze #[zd U 6,zd U (C:Int),zd U ot,zd U ek,zd U en,O xa xl xc,O aa al ac,O ta tn tc,O ea el ec] 130));simpa using r
  ·rw [bf]
   exact (Ad.new [zd U 6,zd U (C:Int),zd U ot,zd U ek,zd U en,O xa xl xc,O aa al ac,O ta tn tc,O ea el ec] 130 W).over (bA _ _)
 have HS:Hx (∀ (f:World),Ov V1 f->Rf bj c bv ov bl ol W C ek en xa xl xc a1 a2 a3 a4 a5 a6 f):=fun f e3=>by
  have l:=ao.o.over e3;have F:Ad [zd U 6,zd U (C:Int),zd U ot,zd U ek,zd U en,O xa xl xc,O aa al ac,O ta tn tc,O ea el ec] f W.heap.size:=(cg.o.row 0 rfl).over e3;exact ⟨l.cw 0 _ rfl,l.cw 1 _ rfl,l.cw 2 _ rfl,l.cw 3 _ rfl,l.cw 4 _ rfl,by rw [<-a9];exact l.cw 5 _ rfl,l.cw 6 _ rfl,l.cw 7 _ rfl,by rw [<-bz];exact l.cw 8 _ rfl,l.cw 9 _ rfl,F 1 _ rfl,F 3 _ rfl,F 4 _ rfl,F 5 _ rfl,Ab l.below _ _ k0,Ab l.below _ _ k1⟩
 have c2:Hx (∀ (f:World) {fl2:List (Int × Int)} {fv2:Value} {bt bo bw:Nat} {t1:Option Addr} {t2 t3:Nat} {t4:Option Addr} {t5 t6:Nat},AM c.cs w0 bj av fl2 fv2 f->TB bj ((bw,[zg kn,O P M N,O I G H])::[(bt,[O t1 t2 t3,O t4 t5 t6]),(bo,[O a1 a2 a3,O a4 a5 a6]),(W.heap.size,[zd U 6,zd U (C:Int),zd U ot,zd U ek,zd U en,O xa xl xc,O aa al ac,O ta tn tc,O ea el ec]),(W.heap.size+1,[O p1 q1 r1,O p2 q2 F]),(s,[zi (some ⟨bj,0,none⟩)]),(s+1,[zd U a])]) f->Re bj c bv ov bl ol W p1 q1 r1 p2 q2 F bo a1 a2 a3 a4 a5 a6 f):=fun f fl2 fv2 bt bo bw t1 t2 t3 t4 t5 t6 l F=>⟨l.cw 0 _ rfl,l.cw 1 _ rfl,l.cw 2 _ rfl,l.cw 3 _ rfl,l.cw 4 _ rfl,by rw [<-a9];exact l.cw 5 _ rfl,l.cw 6 _ rfl,l.cw 7 _ rfl,by rw [<-bz];exact l.cw 8 _ rfl,l.cw 9 _ rfl,(F.row 4 rfl) 0 _ rfl,(F.row 4 rfl) 1 _ rfl,(F.row 2 rfl) 0 _ rfl,(F.row 2 rfl) 1 _ rfl⟩;have dg:Hx (∀ (f:World),AM c.cs w0 bj av fl fv f->f.cell? ⟨W.heap.size,1,none⟩=some (zd U (C:Int))->Ou bj bv ov c W C kn P M N I G H f):=fun f l F=>⟨by rw [<-a9];exact l.cw 5 _ rfl,F,Ab l.below _ _ g0,Ab l.below _ _ g1,Ab l.below _ _ g2⟩;have c7:Hx (Ov V1 V1.drew):=(bD _);have fp:=Aa (hl.over (Al bj) be);have gb:=Aa (FrW.of_below (Al bj) be);have f3:Hx (fl.length<=1000):=by unfold Hx;omega
 have f2:Hx ((addF a 5 fl (!f5)).length<=1000):=Nat.le_trans (AV _ _ _ _) (by omega);have fy:Hx ((addF a 6 (addF a 5 fl (!f5)) f6).length<=1000):=Nat.le_trans (AV _ _ _ _) (by have:=AV a 5 fl (!f5);omega);have fx:Hx ((addF a 7 (addF a 6 (addF a 5 fl (!f5)) f6) (!kn)).length<=1000):=Nat.le_trans (AV _ _ _ _) (by have:=AV a 5 fl (!f5);have:=AV a 6 (addF a 5 fl (!f5)) f6;omega);have iy:(C:Int) < (c.ln:Int):=by omega
 have ix:c.ln<=16:=by rw [et];exact J.l16
 have iw:(C:Int) < (c.vn:Int):=by omega
 have iv:c.vn<=16:=by have:=J.l16;omega
 obtain ⟨u0,u1,u2,u3,u4,u5,u6,u7,u8,u9,u10,u11,u12,u13,u14,u15⟩:=HS.o _ (Below.refl _ _);clear dl da di dt ds dm dr g0 g1 g2 ej dj eu bx dq ex du eb a9 ed aq v1 v2 v3 gq bz et k0 k1 bu cr gu em e4 ee ey hl eg hX hA hT hE dk J A e5 hvc gw hk i0 i1 i2 ct b0 be t h;go_enter Tryz.func153,Tryz.ntmps153;go_wp2_with fail;rw [<-bf];clear bf;refine Cw (fun dd f=>∃ (bt bo:Nat) (x11 x12 x13 x14 x15 x16 x17 x18 x19 x20 x21 x22 x23 x24 x25 x26 x27 x28 x29 x30 x31 x32:Value) (t1:Option Addr) (t2 t3:Nat) (t4:Option Addr) (t5 t6:Nat),dd={ tmps:=#[zi (some ⟨bj,0,none⟩),zh #[zd U 6,zd U (C:Int),zd U ot,zd U ek,zd U en,O xa xl xc,O aa al ac,O ta tn tc,O ea el ec],zh #[O p1 q1 r1,O p2 q2 F],.func (.func 149) #[] #[zi (some ⟨s,0,none⟩),zi (some ⟨s+1,0,none⟩)],undef,zi (some ⟨W.heap.size,0,none⟩),zi (some ⟨W.heap.size+1,0,none⟩),undef,zi (some ⟨bt,0,none⟩),zi (some ⟨bo,0,none⟩),undef,x11,x12,x13,x14,x15,x16,x17,x18,x19,x20,x21,x22,x23,x24,x25,x26,x27,x28,x29,x30,x31,x32,undef,undef,undef,undef,undef,undef,undef,undef,undef,undef,undef,undef,undef,undef,undef,undef,undef,undef,undef,undef,undef,undef,undef,undef,undef,undef,undef,undef,undef,undef,undef,undef,undef,undef,undef,undef,undef],defers:=[] }/\Ov V1 f/\Ad [O t1 t2 t3,O t4 t5 t6] f bt/\Ad [O a1 a2 a3,O a4 a5 a6] f bo/\Aw c.n (XJ bj) f (zh #[O t1 t2 t3,O t4 t5 t6]) tl/\(V1.heap.size<=bt/\bt < f.heap.size)/\(V1.heap.size<=bo/\bo < f.heap.size)/\bt≠bo) ?_ ?_
 ·refine gS (Rf bj c bv ov bl ol W C ek en xa xl xc a1 a2 a3 a4 a5 a6) (HS.o _ c7.o) fun g=>?_
  refine kT 0 ?_;refine kT 1 ?_;refine kT 2 ?_;refine kT 3 ?_;refine kT 4 ?_;refine kT 5 ?_;refine kT 6 ?_;refine kT 7 ?_;refine kT 9 ?_;refine kT 10 ?_;refine kT 12 ?_;refine kT 13 ?_;refine kT 14 ?_;refine kT 15 ?_;refine kT 16 ?_;refine kT 17 ?_;refine kT 18 ?_;refine kT 19 ?_;refine kT 20 ?_;refine kT 21 ?_;have L:=c7;generalize V1.drew=Wc at L g ⊢;clear c7;refine rdC 8 22 23 rfl (fun K h8=>?_) rfl (fun K S=>?_) rfl (fun K R=>?_) (by decide +kernel);all_goals repeat' first
   | (
    have hi:=h8;clear hi;go_simp;refine (de.o _).mono ?_;rintro e Wc ⟨vj,rfl,hL,B⟩;have hN:=Bm hL;have hA:=Aq hL;obtain ⟨v1,v2,rfl,ep,eo,-⟩:=hL;obtain ⟨y1,y2,y3,rfl⟩:=AE ep;obtain ⟨y4,y5,y6,rfl⟩:=AE eo;have hN:=EL hN L.o.size;replace L:=Aa (Ac L.o B);have bi:=Aa (⟨hA,EU _,B8 (Al bj) L.o (fun k hk=>(ao.o.xlt k hk).2) hN⟩:Aw c.n (XJ bj) Wc _ (A7 c.n));(try replace HT:=Aa (HT.o.over B))
    (try replace HO:=Aa (HO.o.over B))
    clear hN hA ep eo B;go_simp;refine xK h8 (HS.o _ L.o) fun g=>?_;clear h8 K;first | (refine rdC 11 22 23 rfl (fun K T=>?_) rfl (fun K S=>?_) rfl (fun K R=>?_) (by decide +kernel)) | (refine rdA 11 rfl (fun K T=>?_) (by decide +kernel)) | (refine rdB 11 22 rfl (fun K T=>?_) rfl (fun K S=>?_) (by decide +kernel)) | (refine rdB 11 23 rfl (fun K T=>?_) rfl (fun K R=>?_) (by decide +kernel)))
   | (
    have hi:=T;clear hi;go_simp;refine (KW.o _ (ao.o.over L.o) bi.o).mono ?_;rintro e Wc ⟨⟨o1,o2,o3,o4,o5,o6,rfl,hL⟩,B⟩;replace L:=Aa (Ac L.o B);(try replace HT:=Aa (HT.o.over B))
    (try replace HO:=Aa (HO.o.over B))
    have bh:=Aa hL;clear bi hL B;go_simp;refine xK T (HS.o _ L.o) fun g=>?_;clear T K;first | (refine rdB 22 23 rfl (fun K S=>?_) rfl (fun K R=>?_) (by decide +kernel)) | (refine rdA 24 rfl (fun K b6=>?_) (by decide +kernel)) | (refine rdA 22 rfl (fun K S=>?_) (by decide +kernel)) | (refine rdA 23 rfl (fun K R=>?_) (by decide +kernel)))
   | (
    have hi:=S;clear hi;have B:=bA Wc (ze #[O none 0 0,O none 0 0] 50);have hz:=DJ 50 Wc;have dn:=L.o.size;obtain ⟨bt,hq⟩:∃ b:Nat,b=Wc.heap.size:=⟨_,rfl⟩;rw [<-hq] at hz dn;(try have bd:bt≠bo:=by have:=HO.o.lt;omega)
    go_simp;rw [<-hq];obtain ⟨Wc,E⟩:=nm (Wc.alloc (ze #[O none 0 0,O none 0 0] 50));rw [<-E] at B hz ⊢;replace L:=Aa (Ac L.o B);(try replace HO:=Aa (HO.o.over B))
    (try replace bi:=Aa (bi.o.over (Al bj) B))
    (try replace bh:=Aa (bh.o.over (Al bj) B))
    have HT:=Aa hz;clear B hz E hq;refine xK S (HS.o _ L.o) fun g=>?_;clear S K;first | (refine rdA 24 rfl (fun K b6=>?_) (by decide +kernel)) | (refine rdB 8 23 rfl (fun K h8=>?_) rfl (fun K R=>?_) (by decide +kernel)) | (refine rdB 11 23 rfl (fun K T=>?_) rfl (fun K R=>?_) (by decide +kernel)) | (refine rdA 23 rfl (fun K R=>?_) (by decide +kernel)) | (refine rdA 8 rfl (fun K h8=>?_) (by decide +kernel)) | (refine rdA 11 rfl (fun K T=>?_) (by decide +kernel)))
   | (
    have hi:=R;clear hi;have B:=bA Wc (ze #[O none 0 0,O none 0 0] 50);have hz:=DJ 50 Wc;have dp:=L.o.size;obtain ⟨bo,hq⟩:∃ b:Nat,b=Wc.heap.size:=⟨_,rfl⟩;rw [<-hq] at hz dp;(try have bd:bt≠bo:=by have:=HT.o.lt;omega)
    go_simp;rw [<-hq];obtain ⟨Wc,E⟩:=nm (Wc.alloc (ze #[O none 0 0,O none 0 0] 50));rw [<-E] at B hz ⊢;replace L:=Aa (Ac L.o B);(try replace HT:=Aa (HT.o.over B))
    (try replace bi:=Aa (bi.o.over (Al bj) B))
    (try replace bh:=Aa (bh.o.over (Al bj) B))
    have HO:=Aa hz;clear B hz E hq;refine xK R (HS.o _ L.o) fun g=>?_;clear R K;first | (refine rdA 24 rfl (fun K b6=>?_) (by decide +kernel)) | (refine rdB 8 22 rfl (fun K h8=>?_) rfl (fun K S=>?_) (by decide +kernel)) | (refine rdB 11 22 rfl (fun K T=>?_) rfl (fun K S=>?_) (by decide +kernel)) | (refine rdA 22 rfl (fun K S=>?_) (by decide +kernel)) | (refine rdA 8 rfl (fun K h8=>?_) (by decide +kernel)) | (refine rdA 11 rfl (fun K T=>?_) (by decide +kernel)))
   | (
    have hi:=b6;clear hi;have d0:=HT.o.c0;have d1:=HT.o.c1;have z0:=HT.o.z0;have z1:=HT.o.z1;have ip:bj < V1.heap.size:=ao.o.lo.2;obtain ⟨Wn,E⟩:=nm (BC Wc bt (O o1 o2 o3) (O o4 o5 o6));replace L:Hx (Ov V1 Wn):=by rw [E];exact B7 L.o dn _ _
    replace HO:Hx (ZB bo Wn):=by rw [E];exact HO.o.other (Ne.symm bd) _ _
    have HR:Hx (Ad [O o1 o2 o3,O o4 o5 o6] Wn bt):=by rw [E];exact HT.o.fill _ _
    have HL:Hx (Aw c.n (XJ bj) Wn (zh #[O o1 o2 o3,O o4 o5 o6]) tl):=by rw [E];exact EO bh.o HT.o (by omega) _ _
    unfold BC at E;go_simp;rw [<-E];clear E d0 d1 z0 z1 bh HT;refine xK b6 (HS.o _ L.o) fun g=>?_;clear b6 K;refine rdA 25 rfl (fun K dx=>?_) (by decide +kernel))
   | (
    have hi:=dx;clear hi;have e0:=HO.o.c0;have e1:=HO.o.c1;have y0:=HO.o.z0;have y1:=HO.o.z1;obtain ⟨Wm,aj⟩:=nm (BC Wn bo (O a1 a2 a3) (O a4 a5 a6));replace L:Hx (Ov V1 Wm):=by rw [aj];exact B7 L.o dp _ _
    replace HR:Hx (Ad [O o1 o2 o3,O o4 o5 o6] Wm bt):=by rw [aj];exact J4 HR.o bd _ _
    have HQ:Hx (Ad [O a1 a2 a3,O a4 a5 a6] Wm bo):=by rw [aj];exact HO.o.fill _ _
    replace HL:Hx (Aw c.n (XJ bj) Wm (zh #[O o1 o2 o3,O o4 o5 o6]) tl):=by rw [aj];exact EO HL.o HO.o (by omega) _ _
    unfold BC at aj;go_simp;rw [<-aj];clear aj;refine xK dx (HS.o _ L.o) fun g=>?_;clear dx K;refine gE ?_;exact Ba ⟨bt,bo,_,_,_,_,_,_,_,_,_,_,_,_,_,_,_,_,_,_,_,_,_,_,o1,o2,o3,o4,o5,o6,rfl,L.o,HR.o,HQ.o,HL.o,⟨dn,bL (HR.o 0 _ rfl)⟩,⟨dp,bL (HQ.o 0 _ rfl)⟩,bd⟩)
 rintro dd f ⟨bt,bo,x11,x12,x13,x14,x15,x16,x17,x18,x19,x20,x21,x22,x23,x24,x25,x26,x27,x28,x29,x30,x31,x32,t1,t2,t3,t4,t5,t6,rfl,bg,ef,eh,bs,⟨fb,e9⟩,⟨ff,fe⟩,bd⟩;clear u0 u1 u2 u3 u4 u5 u6 u7 u8 u9 u10 u11 u12 u13 u14 u15 HS c7;have bb:∀ q,V1.heap.size<=q->¬ XJ bj f q:=fun q hq e=>by have:=(ao.o.xlt q ((Al bj).below _ _ bg q e)).2;omega
 have c6:=Aa (ao.o.over bg);have f4:=Aa (gb.o.trans (FrW.of_below (Al bj) bg));have cf:Hx (TB bj [(bt,[O t1 t2 t3,O t4 t5 t6]),(bo,[O a1 a2 a3,O a4 a5 a6]),(W.heap.size,[zd U 6,zd U (C:Int),zd U ot,zd U ek,zd U en,O xa xl xc,O aa al ac,O ta tn tc,O ea el ec]),(W.heap.size+1,[O p1 q1 r1,O p2 q2 F]),(s,[zi (some ⟨bj,0,none⟩)]),(s+1,[zd U a])] f):=((cg.o.keep (FrW.of_below (Al bj) bg)).add eh (bb _ ff) fe).add ef (bb _ fb) e9;have fo:=Aa (fp.o.over (Al bj) bg);have fk:=Aa bs;have ci:Hx (∀ (W3:World),Ov f W3->Ou bj bv ov c W C kn P M N I G H W3):=fun W3 ez=>dg.o W3 (c6.o.over ez) (Ab ez _ _ ((cf.o.row 2 rfl) 1 _ rfl));obtain ⟨u0,u1,u2,u3,u4⟩:=ci.o _ (Below.refl _ _);clear bb bg ef eh bs fb e9 ff fe bd fp cg gb ao de KW dg;go_wp2_with fail;refine gS (Ou bj bv ov c W C kn P M N I G H) (ci.o _ (bD _)) fun g=>?_;refine kT 0 ?_;refine kT 1 ?_;refine kT 2 ?_;refine kT 3 ?_;refine kT 4 ?_;refine kT 5 ?_;refine kT 6 ?_;refine kT 7 ?_;refine kT 8 ?_;refine kT 9 ?_;refine rdA 10 rfl fun K hK=>?_;go_simp;refine xK hK (ci.o _ ((bA _ _).drew)) fun g=>?_;clear hK K;refine rdA 11 rfl fun K hK=>?_;go_simp;refine xK hK (ci.o _ ((bA _ _).drew)) fun g=>?_;clear hK K;refine gE ?_;have ai:Ov f ((f.alloc (ze #[zg kn,O P M N,O I G H] 41)).drew):=(bA _ _).drew;have ei:Ad [zg kn,O P M N,O I G H] ((f.alloc (ze #[zg kn,O P M N,O I G H] 41)).drew) f.heap.size:=(Ad.new [zg kn,O P M N,O I G H] 41 f).over (bD _);have ax:=Aa (c6.o.over ai);have ck:=Aa (f4.o.trans (FrW.of_below (Al bj) ai));have ab:Hx (TB bj ((f.heap.size,[zg kn,O P M N,O I G H])::[(bt,[O t1 t2 t3,O t4 t5 t6]),(bo,[O a1 a2 a3,O a4 a5 a6]),(W.heap.size,[zd U 6,zd U (C:Int),zd U ot,zd U ek,zd U en,O xa xl xc,O aa al ac,O ta tn tc,O ea el ec]),(W.heap.size+1,[O p1 q1 r1,O p2 q2 F]),(s,[zi (some ⟨bj,0,none⟩)]),(s+1,[zd U a])]) ((f.alloc (ze #[zg kn,O P M N,O I G H] 41)).drew)):=(cf.o.keep (FrW.of_below (Al bj) ai)).add ei (fun e=>by have:=(c6.o.xlt _ ((Al bj).below _ _ ai _ e)).2;omega) (by simp);have cj:=Aa (fo.o.over (Al bj) ai);have ch:=Aa (fk.o.over (Al bj) ai);obtain ⟨bw,dv⟩:=nm f.heap.size;obtain ⟨W4,cu⟩:=nm ((f.alloc (ze #[zg kn,O P M N,O I G H] 41)).drew);rw [<-dv,<-cu] at ab;rw [<-cu] at ax ck cj ch;rw [<-dv,<-cu];clear ai ei u0 u1 u2 u3 u4 ci fo fk cf f4 c6 dv cu;have c5:=Aa (ax.o.over (bD _));have hs:=Aa (ck.o.trans (FrW.of_below (Al bj) (bD _)));have df:=Aa (ab.o.keep (FrW.of_below (Al bj) (bD _)));have hc:=Aa (cj.o.over (Al bj) (bD _));have g6:=Aa (ch.o.over (Al bj) (bD _));have hd:=Aa (fq.o _ c5.o);have g9:=Aa (c2.o _ c5.o df.o);obtain ⟨u0,u1,u2,u3,u4,u5,u6,u7,u8,u9,u10,u11,u12,u13⟩:=c2.o _ ax.o ab.o;clear ax ck ab cj ch;go_wp2_with fail;refine gS (Re bj c bv ov bl ol W p1 q1 r1 p2 q2 F bo a1 a2 a3 a4 a5 a6) (g9.o) fun g=>?_;refine kT 0 ?_;refine kT 1 ?_;refine kT 2 ?_;refine kT 3 ?_;refine kT 4 ?_;refine kT 5 ?_;refine kT 6 ?_;refine rdA 7 rfl fun K hK=>?_;go_simp;refine (KF.o _ c5.o hc.o hd.o).mono ?_;rintro e W5 ⟨rfl,b4⟩;have ft:=Aa (c5.o.over b4);have Z:=Aa (df.o.keep (FrW.of_below (Al bj) b4));have g8:=Aa (c2.o W5 ft.o Z.o);have hr:=Aa (hs.o.trans (FrW.of_below (Al bj) b4));have g5:=Aa (g6.o.over (Al bj) b4);clear b4;go_simp;refine xK hK (g8.o) fun g=>?_;clear hK K;refine kT 8 ?_;refine rdA 9 rfl fun K hK=>?_;go_simp;refine (KB.o _ ft.o ((Z.o.row 5 rfl) 0 _ rfl) ((Z.o.row 6 rfl) 0 _ rfl) (Z.o.off 5 rfl) (Z.o.off 6 rfl) f3.o 5 _).mono ?_;rintro e W6 ⟨rfl,⟨i4,e8⟩,cy⟩;have dz:=Aa e8;have au:=Aa (Z.o.keep cy);have hp:=Aa (hr.o.trans cy);have g4:=Aa (g5.o.keep c4.o cy);have g7:=Aa (c2.o W6 dz.o au.o);clear e8 cy;go_simp;refine xK hK (g7.o) fun g=>?_;clear hK K;refine gE ?_;have g2:=(au.o.row 0 rfl) 2 _ rfl;have g0:=(au.o.row 0 rfl) 0 _ rfl;go_wp2_with fail;refine (KM.o _ dz.o).mono ?_;rintro e W7 ⟨rfl,b3⟩;have hg:=Aa (dz.o.over b3);have ae:=Aa (au.o.keep (FrW.of_below (Al bj) b3));have hn:=Aa (hp.o.trans (FrW.of_below (Al bj) b3));have g3:=Aa (g4.o.over (Al bj) b3);clear b3 g0 g2;go_wp2_with fail;refine (KB.o _ hg.o ((ae.o.row 5 rfl) 0 _ rfl) ((ae.o.row 6 rfl) 0 _ rfl) (ae.o.off 5 rfl) (ae.o.off 6 rfl) f2.o 6 _).mono ?_;rintro e W8 ⟨rfl,⟨i3,e7⟩,cx⟩;have hf:=Aa e7;have V:=Aa (ae.o.keep cx);have hm:=Aa (hn.o.trans cx);have gz:=Aa (g3.o.keep c4.o cx);have g0:=(V.o.row 0 rfl) 0 _ rfl;clear e7 cx;go_wp2_with fail;refine (KB.o _ hf.o ((V.o.row 5 rfl) 0 _ rfl) ((V.o.row 6 rfl) 0 _ rfl) (V.o.off 5 rfl) (V.o.off 6 rfl) fy.o 7 _).mono ?_;rintro e W9 ⟨rfl,⟨iz,e6⟩,cv⟩;have fr:=Aa e6;have ce:=Aa (V.o.keep cv);have hh:=Aa (hm.o.trans cv);have fj:=Aa (gz.o.keep c4.o cv);clear e6 cv g0;go_wp2_with fail;refine (KS.o _ fr.o ((ce.o.row 2 rfl) 0 _ rfl) ((ce.o.row 1 rfl) 0 _ rfl) fj.o).mono ?_;rintro e je ⟨rfl,ad⟩;have fw:=Aa (fr.o.over ad);have Q:=Aa (ce.o.keep (FrW.of_below (Al bj) ad));have f9:=Aa (hh.o.trans (FrW.of_below (Al bj) ad));have fm:=Aa (fj.o.over (Al bj) ad);clear ad;go_wp2_with fail;refine (KB.o _ fw.o ((Q.o.row 5 rfl) 0 _ rfl) ((Q.o.row 6 rfl) 0 _ rfl) (Q.o.off 5 rfl) (Q.o.off 6 rfl) fx.o 8 _).mono ?_;rintro e jd ⟨rfl,⟨fg,db⟩,ar⟩;have fu:=Aa db;have gy:=Aa (Q.o.keep ar);have f7:=Aa (f9.o.trans ar);have h7:=Aa (fm.o.keep c4.o ar);clear db ar;go_wp2_with fail;go_end0;exact ⟨rfl,⟨fg,fu.o⟩,f7.o⟩
end Go.Proofs.YtfffpjkcfnekaaaGreat.Ex
namespace Go.Proofs.YtfffpjkcfnekaaaGreat.Ex
open Go.RowKit Go.Shelf
open Go.Value renaming slice -> O, int -> zd, bool -> zg, agg -> zh, pointer -> zi, tuple -> zk
open Go.IntKind renaming i64 -> U
open Go.Obj renaming cells -> ze
open Go.Ending renaming returned -> zj
attribute [local go_sem] Oper.semAt_some
theorem JG {W:World} {b j:Nat} {v:Value} {o:Obj} (hc:W.cell? ⟨b,j,none⟩=some v) (ho:W.heap[b]? = some o):o.isCells=true:=by
 cases o <;> simp_all [World.cell?,Obj.isCells]
def RvI (s:Nat) (fm fh:Int->Bool) (nv:Nat) (pre:List (EW nv)) (W:World):Prop:=
 W.cell? ⟨s,0,none⟩=some (zg ((pre.map Subtype.val).any fm))/\W.frozen? ⟨s,0,none⟩=false/\W.cell? ⟨s+1,0,none⟩=some (zg ((pre.map Subtype.val).any fh))/\W.frozen? ⟨s+1,0,none⟩=false
theorem PZ (s:Nat) (fm fh:Int->Bool) (nv:Nat):Own (RvI s fm fh nv):=by
 rintro f A B row ⟨c0,f0,c1,f1⟩ e b;exact ⟨cell_kept c0 e b,(frozen_kept c0 e b).trans f0,cell_kept c1 e b,(frozen_kept c1 e b).trans f1⟩
theorem PY {fm fh:Int->Bool} {nv:Nat} {pre:List (EW nv)} {x:EW nv} {w W W2:World} {m0 h0 m1 h1:Bool} (c0:W.cell? ⟨w.heap.size,0,none⟩=some (zg m0)) (f0:W.frozen? ⟨w.heap.size,0,none⟩=false) (c1:W.cell? ⟨w.heap.size+1,0,none⟩=some (zg h0)) (f1:W.frozen? ⟨w.heap.size+1,0,none⟩=false) (hm:(pre.map Subtype.val).any fm=m0) (hh:(pre.map Subtype.val).any fh=h0) (hB:Ov w W) (hb2:Ov W W2) (hm1:m1=(m0 || fm x.1)) (hh1:h1=(h0 || fh x.1)) :
  KeepsOthers W ((W2.setCell ⟨w.heap.size,0,none⟩ (zg m1)).setCell ⟨w.heap.size+1,0,none⟩ (zg h1))/\Below w.heap.size W ((W2.setCell ⟨w.heap.size,0,none⟩ (zg m1)).setCell ⟨w.heap.size+1,0,none⟩ (zg h1))/\RvI w.heap.size fm fh nv (pre++[x]) ((W2.setCell ⟨w.heap.size,0,none⟩ (zg m1)).setCell ⟨w.heap.size+1,0,none⟩ (zg h1))/\Ov w ((W2.setCell ⟨w.heap.size,0,none⟩ (zg m1)).setCell ⟨w.heap.size+1,0,none⟩ (zg h1)):=by
 have g:=bL c1;have f:=bL c0;have b:Below w.heap.size W ((W2.setCell ⟨w.heap.size,0,none⟩ (zg m1)).setCell ⟨w.heap.size+1,0,none⟩ (zg h1)):=((hb2.mono hB.size).setCell (Nat.le_refl _) _).setCell (by simp) _;refine ⟨(GB hb2).trans ((KeepsOthers.setCell _ _ _).trans (KeepsOthers.setCell _ _ _)),b,?_,hB.trans b⟩;refine ⟨?_,?_,?_,?_⟩
 ·have e:=Ab hb2 _ _ c0
  rw [List.map_append,List.any_append,hm];simp [go_sem,e,hm1]
 ·simp [go_sem,((An hb2).2 _ _ f).trans f0]
 ·have e:=Ab hb2 _ _ c1
  rw [List.map_append,List.any_append,hh];simp [go_sem,e,hh1]
 ·simp [go_sem,((An hb2).2 _ _ g).trans f1]
theorem AM.grown {cs:List Value} {w0:World} {bj:Nat} {av:Value} {fl:List (Int × Int)} {fv:Value} {A B:World} {r:Nat} {o:Obj} (h:AM cs w0 bj av fl fv A) (hg:A.grownBy B (some r)) (hr:A.heap[r]? = some o) (ho:o.isCells=false) (hlo:w0.heap.size<=r):AM cs w0 bj av fl fv B:=by
 have y:∀ q,(some r:Option Nat)=some q->∃ o:Obj,A.heap[q]? = some o/\o.isCells=false:=fun q e=>by injection e with e;subst e;exact ⟨o,hr,ho⟩
 have i:fv.ownBlock≠some r:=fun e=>by
  rcases h.own.2 with ⟨t,-⟩ | ⟨g,cap,E,t,G,b,-⟩
  ·rw [t] at e;simp [Value.ownBlock] at e
  ·rw [t] at e
   simp [Value.ownBlock] at e;subst e;rw [hr] at b;injection b with b;subst b;simp [Obj.isCells] at ho
 refine ⟨h.below.trans ⟨hg.os,hg.tape,hg.output,hg.size,fun k hk=>hg.block k (Nat.lt_of_lt_of_le hk h.below.size) (fun e=>by injection e with e;omega)⟩,fun j u C=>cell_kept (h.row j u C) hg y,fun j=>?_,h.own.kept hg (Or.inr i),h.ap,⟨h.lo.1,Nat.lt_of_lt_of_le h.lo.2 hg.size⟩,h.len⟩;have p:bj≠r:=fun e=>by
  have s:=h.c11;obtain ⟨F,f,l⟩:=y r rfl;subst e;exact absurd (JG s f) (by rw [l];simp)
 exact (World.frozen?_of_block (a:=⟨bj,j,none⟩) (hg.block bj h.lo.2 (fun e=>by injection e with e;exact p e))).trans (h.fz j)
def DK (bj D:Nat) (W:World):Prop:=W.heap[D]? = some (.deferred (some []))/\¬ XJ bj W D
theorem DK.keep {bj D:Nat} {W W':World} (h:DK bj D W) (hf:FrW (XJ bj) W W'):DK bj D W':=
 have hlt:D < W.heap.size:=(Array.getElem?_eq_some_iff.1 h.1).1
 ⟨(hf.block D hlt h.2).trans h.1,fun e=>h.2 (hf.mov D hlt e)⟩
theorem TB.one {bj b:Nat} {v:Value} {L:List (Nat × List Value)} {W:World} (h:TB bj L W) (hc:W.cell? ⟨b,0,none⟩=some v) (hx:¬ XJ bj W b):TB bj ((b,[v])::L) W:=
 h.add (fun j u hu=>by match j with | 0=>simp at hu;subst hu;exact hc | j+1=>simp at hu) hx (bL hc)
theorem QD {cs:List Value} {w0:World} {bj:Nat} {av:Value} {fl:List (Int × Int)} {fv:Value} {W A:World} {D:Nat} {o o':Obj} (hf:FrW (XJ bj) W A) (h:AM cs w0 bj av fl fv A) (hr:A.heap[D]? = some o) (ho:o.isCells=false) (hlo:W.heap.size<=D):FrW (XJ bj) W (A.putObj D o'):=by
 have b:=grownBy_putObj' A D o';refine ⟨b.os.trans hf.os,b.tape.trans hf.tape,b.output.trans hf.output,Nat.le_trans hf.size b.size,fun k hk hx=>(b.block k (Nat.lt_of_lt_of_le hk hf.size) (fun e=>by injection e with e;omega)).trans (hf.block k hk hx),fun k hk hx=>hf.mov k hk ?_⟩;rcases hx with hx | hx | ⟨v,f,hw⟩
 ·exact Or.inl (Nat.le_trans b.size hx)
 ·exact Or.inr (Or.inl hx)
 ·refine Or.inr (Or.inr ⟨v,?_,hw⟩)
  have:=cell_kept h.c11 b (fun q e=>by injection e with e;subst e;exact ⟨o,hr,ho⟩);rw [this] at f;injection f with f;rw [<-f];exact h.c11
abbrev Rd (W:World) (bj:Nat) (c:WC) (bv ov bl ol jv:Nat) (ek en:Int) (xa:Option Addr) (xl xc:Nat) (a1:Option Addr) (a2 a3:Nat) (a4:Option Addr) (a5 a6:Nat) (Wz:World):Prop:=Wz.cell? ⟨W.heap.size,0,none⟩=some (zi (some ⟨bj,0,none⟩))/\Wz.cell? ⟨bj,0,none⟩=some (zd U (c.n:Int))/\Wz.cell? ⟨bj,1,none⟩=some (O c.ga c.gn c.gc)/\Wz.cell? ⟨bj,2,none⟩=some (O c.sa c.sn c.sc)/\Wz.cell? ⟨bj,3,none⟩=some (O c.ya c.yn c.yc)/\Wz.cell? ⟨bj,4,none⟩=some (O c.oa c.on c.oc)/\Wz.cell? ⟨bj,5,none⟩=some (O (some ⟨bv,ov,none⟩) c.vn c.vc)/\Wz.cell? ⟨bj,6,none⟩=some (O c.fa c.fn c.fc)/\Wz.cell? ⟨bj,7,none⟩=some (O c.ba c.bn c.bc)/\Wz.cell? ⟨bj,8,none⟩=some (O (some ⟨bl,ol,none⟩) c.ln c.lc)/\Wz.cell? ⟨bj,9,none⟩=some (O c.ka c.kn c.kc)/\Wz.cell? ⟨W.heap.size+1,1,none⟩=some (zd U (jv:Int))/\Wz.cell? ⟨W.heap.size+1,3,none⟩=some (zd U ek)/\Wz.cell? ⟨W.heap.size+1,4,none⟩=some (zd U en)/\Wz.cell? ⟨W.heap.size+1,5,none⟩=some (O xa xl xc)/\Wz.cell? ⟨bl,ol+jv*2,none⟩=some (O a1 a2 a3)/\Wz.cell? ⟨bl,ol+jv*2+1,none⟩=some (O a4 a5 a6)
abbrev Rc (W:World) (bj:Nat) (c:WC) (bv ov bl ol:Nat) (p1:Option Addr) (q1 r1:Nat) (p2:Option Addr) (q2 r2 bo:Nat) (a1:Option Addr) (a2 a3:Nat) (a4:Option Addr) (a5 a6:Nat) (Wz:World):Prop:=Wz.cell? ⟨W.heap.size,0,none⟩=some (zi (some ⟨bj,0,none⟩))/\Wz.cell? ⟨bj,0,none⟩=some (zd U (c.n:Int))/\Wz.cell? ⟨bj,1,none⟩=some (O c.ga c.gn c.gc)/\Wz.cell? ⟨bj,2,none⟩=some (O c.sa c.sn c.sc)/\Wz.cell? ⟨bj,3,none⟩=some (O c.ya c.yn c.yc)/\Wz.cell? ⟨bj,4,none⟩=some (O c.oa c.on c.oc)/\Wz.cell? ⟨bj,5,none⟩=some (O (some ⟨bv,ov,none⟩) c.vn c.vc)/\Wz.cell? ⟨bj,6,none⟩=some (O c.fa c.fn c.fc)/\Wz.cell? ⟨bj,7,none⟩=some (O c.ba c.bn c.bc)/\Wz.cell? ⟨bj,8,none⟩=some (O (some ⟨bl,ol,none⟩) c.ln c.lc)/\Wz.cell? ⟨bj,9,none⟩=some (O c.ka c.kn c.kc)/\Wz.cell? ⟨W.heap.size+1+1,0,none⟩=some (O p1 q1 r1)/\Wz.cell? ⟨W.heap.size+1+1,1,none⟩=some (O p2 q2 r2)/\Wz.cell? ⟨bo,0,none⟩=some (O a1 a2 a3)/\Wz.cell? ⟨bo,1,none⟩=some (O a4 a5 a6)
abbrev Ot (W:World) (bj bv ov:Nat) (c:WC) (j:Nat) (kn:Bool) (pa1:Option Addr) (pn1 pc1:Nat) (Wz:World):Prop:=Wz.cell? ⟨W.heap.size,0,none⟩=some (zi (some ⟨bj,0,none⟩))/\Wz.cell? ⟨bj,5,none⟩=some (O (some ⟨bv,ov,none⟩) c.vn c.vc)/\Wz.cell? ⟨bv,ov+j*3,none⟩=some (zg kn)/\Wz.cell? ⟨bv,ov+j*3+1,none⟩=some (O pa1 pn1 pc1)
theorem P7 (c) (w0:World) (bj:Nat) (av:Value) (gs Ls Fs) (J:JSt c w0 gs Ls Fs) (sp) (A:JAc c w0 av (Ax gs) sp) (K ni no:Nat) (fs vs) (hvs:Bs w0 (O c.va c.vn c.vc) vs) (hvn:vs.length=Ls.length) (hvc:∀ v∈vs,Bb c.n gs v.2=0) :
  Gi c w0 bj av K Ls.length ni no fs 5 (Fz c.n K (Ax gs) sp Ls vs) 152:=by
 intro fl fv s a k cs lv d p funcs W jw h C hl gt df hk;obtain ⟨p1,q1,r1,p2,q2,r2,g2⟩:=hl.form;have gz:lv=[O p1 q1 r1,O p2 q2 r2]:=by simpa using g2
 subst gz;clear g2;obtain ⟨ek,en,Z,T,V,aa,ac,ta,tc,ea,ec,rfl,i0,i1,i2,hX,hA,hT,hE,-,-,-⟩:=gt.form;have jo:=df.2.1 (by omega);obtain ⟨jv,dh⟩:∃ j:Nat,Ap d=(j:Int):=⟨(Ap d).toNat,by omega⟩;have di:jv < Ls.length:=by omega
 have ex:jv < vs.length:=by omega
 obtain ⟨bl,ol,a1,a2,a3,a4,a5,a6,co,g8,k0,k1,cn⟩:=Fh J.levs di;have j0:=hvs;obtain ⟨jm,l6,l5,jn,bz⟩:=hvs;injection jn with v1 v2 v3;obtain ⟨bv,ov,gm,bz⟩:=bz (by rintro rfl;simp at ex);have b5:c.va=some ⟨bv,ov,none⟩:=v1.trans gm;have dv:c.vn=vs.length:=v2;have g9:sC (Ag d) (Ap d) (Ae d) ek en Z T V aa (Ai d).length ac ta (Aj d).length tc ea (Ao d).length ec=sC 5 (jv:Int) (Ae d) ek en Z T V aa (Ai d).length ac ta (Aj d).length tc ea (Ao d).length ec:=by rw [hk,dh]
 rw [g9];clear g9;obtain ⟨ot,gv⟩:=nm (Ae d);obtain ⟨al,hf⟩:=nm ((Ai d).length);obtain ⟨tn,gp⟩:=nm ((Aj d).length);obtain ⟨el,he⟩:=nm ((Ao d).length);rw [<-gv,<-hf,<-gp,<-he];have e4:Ls.getD (Ap d).toNat Ah=Ls[jv]:=by rw [dh];simp [List.getD_eq_getElem?_getD,di]
 obtain ⟨lz,eu⟩:=nm (Ls[jv]);have dw:lz.len c.n:=by rw [eu];exact J.lens _ (List.getElem_mem di)
 rw [<-eu] at cn e4;have jt:vs.getD (Ap d).toNat (false,⟨[],[]⟩)=vs[jv]:=by rw [dh];simp [List.getD_eq_getElem?_getD,ex]
 have ff:c.v=(zh #[zd U (c.n:Int),O c.ga c.gn c.gc,O c.sa c.sn c.sc,O c.ya c.yn c.yc,O c.oa c.on c.oc,O (some ⟨bv,ov,none⟩) c.vn c.vc,O c.fa c.fn c.fc,O c.ba c.bn c.bc,O (some ⟨bl,ol,none⟩) c.ln c.lc,O c.ka c.kn c.kc]):=by show Value.agg #[zd U (c.n:Int),O c.ga c.gn c.gc,O c.sa c.sn c.sc,O c.ya c.yn c.yc,O c.oa c.on c.oc,O c.va c.vn c.vc,O c.fa c.fn c.fc,O c.ba c.bn c.bc,O c.la c.ln c.lc,O c.ka c.kn c.kc]=_;rw [b5,co]
 obtain ⟨V1,bg⟩:=nm ((((W.alloc (ze #[zi (some ⟨bj,0,none⟩)] 161)).alloc (ze #[zd U 5,zd U (jv:Int),zd U ot,zd U ek,zd U en,O Z T V,O aa al ac,O ta tn tc,O ea el ec] 130)).alloc (ze #[O p1 q1 r1,O p2 q2 r2] 50)));have b9:Ov W V1:=by rw [bg];exact ((bA W _).alloc (by simp) _).alloc (by simp <;> omega) _
 obtain ⟨tl,eq⟩:=nm ((A6 c.n Ls (A7 c.n) (AG K (Am d))));have br:=Aa (h.over b9);have ah:=Aa J.n1;have im:=Aa (fun (f:World) {fl2:List (Int × Int)} {fv2:Value} (B:AM c.cs w0 bj av fl2 fv2 f)=>Hk J.n1 B cn dw);have d8:Hx (∀ (f:World),Calls Tryz.prog 104 #[(zh #[zd U (c.n:Int),O c.ga c.gn c.gc,O c.sa c.sn c.sc,O c.ya c.yn c.yc,O c.oa c.on c.oc,O (some ⟨bv,ov,none⟩) c.vn c.vc,O c.fa c.fn c.fc,O c.ba c.bn c.bc,O (some ⟨bl,ol,none⟩) c.ln c.lc,O c.ka c.kn c.kc])] f fun e w'=>∃ vj,e=zj vj/\A1 f w' vj (A7 c.n)/\Ov f w'):=fun f=>by
  have:=ET c.n J.n1 J.n6 c.ga c.gn c.gc c.sa c.sn c.sc c.ya c.yn c.yc c.oa c.on c.oc c.va c.vn c.vc c.fa c.fn c.fc c.ba c.bn c.bc c.la c.ln c.lc c.ka c.kn c.kc f;rw [b5,co] at this;exact this
 have KW:Hx (∀ (f:World) {x:Value},AM c.cs w0 bj av fl fv f->Aw c.n (XJ bj) f x (A7 c.n)->Calls Tryz.prog 103 #[(zh #[zd U (c.n:Int),O c.ga c.gn c.gc,O c.sa c.sn c.sc,O c.ya c.yn c.yc,O c.oa c.on c.oc,O (some ⟨bv,ov,none⟩) c.vn c.vc,O c.fa c.fn c.fc,O c.ba c.bn c.bc,O (some ⟨bl,ol,none⟩) c.ln c.lc,O c.ka c.kn c.kc]),x,zh #[zd U ek,zd U en,O Z T V]] f fun e w'=>(∃ p1 q1 r1 p2 q2 r2,e=zj (zh #[O p1 q1 r1,O p2 q2 r2])/\Aw c.n (XJ bj) w' (zh #[O p1 q1 r1,O p2 q2 r2]) tl)/\Ov f w'):=fun f x B hx=>by
  have:=JT J B x (A7 c.n) K [zd U ek,zd U en,O Z T V] (Am d) hx hX (Bd df);rw [ff,<-eq] at this;exact this
 obtain ⟨f5,fe⟩:=nm (Av p lz c.n);have KF:Hx (∀ (f:World) {fl2:List (Int × Int)} {fv2 x y:Value},AM c.cs w0 bj av fl2 fv2 f->Aw c.n (XJ bj) f x p->Aw c.n (XJ bj) f y lz->Calls Tryz.prog 57 #[(zh #[zd U (c.n:Int),O c.ga c.gn c.gc,O c.sa c.sn c.sc,O c.ya c.yn c.yc,O c.oa c.on c.oc,O (some ⟨bv,ov,none⟩) c.vn c.vc,O c.fa c.fn c.fc,O c.ba c.bn c.bc,O (some ⟨bl,ol,none⟩) c.ln c.lc,O c.ka c.kn c.kc]),x,y] f fun e W'=>e=zj (zg f5)/\Ov f W'):=fun f fl2 fv2 x y B hx hy=>by
  have:=DY c gs x y _ _ f (Af J.gr B.below) J.chk hx.at_ hx.len hy.at_ hy.len;rw [ff,<-fe] at this;exact this
 have KB:=Aa (fun (f:World) {fl2:List (Int × Int)} {fv2:Value} (B:AM c.cs w0 bj av fl2 fv2 f) (hj:f.cell? ⟨s,0,none⟩=some (zi (some ⟨bj,0,none⟩))) (ha:f.cell? ⟨s+1,0,none⟩=some (zd U a)) (nj:¬ XJ bj f s) (na:¬ XJ bj f (s+1)) (js:fl2.length<=1000) (k:Int) (is:Bool)=>Ge c.cs w0 bj av fl2 fv2 a k is s (s+1) f B hj ha nj na js);obtain ⟨fm,e5⟩:∃ g:Int->Bool,g=fun v=>(Eb vs v).2.r.any fun q=>FB (Ax gs) c.n sp q.owner.toNat:=⟨_,rfl⟩;obtain ⟨fh,e6⟩:∃ g:Int->Bool,g=fun v=>!(Eb vs v).1:=⟨_,rfl⟩;have ft:Hx (∀ (j:Nat) (hj:j < vs.length) (f:World),AM c.cs w0 bj av fl fv f->∀ x,AL f x vs[j].2.r->Calls Tryz.prog 202 #[zi (some ⟨bj,0,none⟩),x] f fun e W'=>e=zj (zg (fm (j:Int)))/\Ov f W'):=fun j hj f B x hx=>by
  have dx:=Kr (hvc vs[j] (List.getElem_mem hj));have:=Rv c w0 bj av fl fv (Ax gs) sp A _ _ f B J.n6 hx (by have:=dx.1.1;omega) (fun q hq=>(dx.1.2 q hq).1);have e:Eb vs (j:Int)=vs[j]:=by unfold Eb;simp [List.getD_eq_getElem?_getD,hj]
  rw [e5];dsimp only;rw [e];exact this
 have kw:Hx (∀ (j:Nat) (hj:j < vs.length),fh (j:Int)=!vs[j].1):=fun j hj=>by
  have e:Eb vs (j:Int)=vs[j]:=by unfold Eb;simp [List.getD_eq_getElem?_getD,hj]
  rw [e6];dsimp only;rw [e]
 unfold Fz toL JV;rw [e4,<-fe,<-eq,<-e5,<-e6];obtain ⟨f6,fb⟩:=nm ((AG K (Am d)).any fm);obtain ⟨f7,e9⟩:=nm ((AG K (Am d)).any fh);obtain ⟨f8,e8⟩:=nm (((List.range c.n).any fun i=>tl.w[i]?.getD false && !(lz.w[i]?.getD false)));obtain ⟨f9,e7⟩:=nm (((List.range c.n).any fun i=>(tl.w[i]?.getD false || p.w[i]?.getD false) && !K7 (Ax gs) c.n sp i));rw [<-fb,<-e9,<-e8,<-e7];have j7:Hx (∀ (f:World) {fl2:List (Int × Int)} {fv2:Value} {bt bo:Nat} {u1 u2:Value},AM c.cs w0 bj av fl2 fv2 f->f.cell? ⟨bt,1,none⟩=some u2->f.cell? ⟨bo,1,none⟩=some (O a4 a5 a6)->Aw c.n (XJ bj) f (zh #[u1,u2]) tl->Calls Tryz.prog 203 #[zi (some ⟨bj,0,none⟩),.func (.func 204) #[] #[zi (some ⟨bt,0,none⟩),zi (some ⟨bo,0,none⟩)]] f fun e W'=>e=zj (zg f8)/\Ov f W'):=fun f fl2 fv2 bt bo u1 u2 B ht ho ax=>by
  rw [e8];have g7:=im.o f B;obtain ⟨x,y,e1,-,b1⟩:=id g7.at_;obtain ⟨x',y',e2,-,b2⟩:=id ax.at_;simp at e1 e2;obtain ⟨rfl,rfl⟩:=e1;obtain ⟨rfl,rfl⟩:=e2;refine FU c w0 bj av fl2 fv2 204 [zi (some ⟨bt,0,none⟩),zi (some ⟨bo,0,none⟩)] _ f B J.n6 (fun i hi w1 E=>?_) Iz;exact O7 c.n i bt bo _ _ _ _ w1 J.n6 hi (Ab E _ _ ht) (Ab E _ _ ho) (AF b2 E) ax.len.2 (AF b1 E) g7.len.2
 have j6:Hx (∀ (f:World) {fl2:List (Int × Int)} {fv2:Value} {bt bp b3:Nat} {u1 u2 u3 u4:Value},AM c.cs w0 bj av fl2 fv2 f->f.cell? ⟨bt,1,none⟩=some u2->f.cell? ⟨bp,1,none⟩=some u4->f.cell? ⟨b3,0,none⟩=some (zi (some ⟨bj,0,none⟩))->Aw c.n (XJ bj) f (zh #[u1,u2]) tl->Aw c.n (XJ bj) f (zh #[u3,u4]) p->Calls Tryz.prog 203 #[zi (some ⟨bj,0,none⟩),.func (.func 205) #[] #[zi (some ⟨bt,0,none⟩),zi (some ⟨bp,0,none⟩),zi (some ⟨b3,0,none⟩)]] f fun e W'=>e=zj (zg f9)/\Ov f W'):=fun f fl2 fv2 bt bp b3 u1 u2 u3 u4 B ht hp h3 ax g6=>by
  rw [e7];obtain ⟨x,y,e1,-,b1⟩:=id g6.at_;obtain ⟨x',y',e2,-,b2⟩:=id ax.at_;simp at e1 e2;obtain ⟨rfl,rfl⟩:=e1;obtain ⟨rfl,rfl⟩:=e2;refine FU c w0 bj av fl2 fv2 205 [zi (some ⟨bt,0,none⟩),zi (some ⟨bp,0,none⟩),zi (some ⟨b3,0,none⟩)] _ f B J.n6 (fun i hi w1 E=>?_) Iy;exact O6 c.n i bt bp b3 bj _ _ _ _ (K7 (Ax gs) c.n sp i) w1 J.n6 hi (Ab E _ _ ht) (Ab E _ _ hp) (Ab E _ _ h3) (AF b2 E) ax.len.2 (AF b1 E) g6.len.2 (fun W3 fj=>SB c w0 bj av fl2 fv2 (Ax gs) sp A i W3 ((B.over E).over fj) J.n6 hi)
 have hg:V1.heap.size=W.heap.size+1+1+1:=by rw [bg];simp
 have R:Hx (TB bj [(W.heap.size,[zi (some ⟨bj,0,none⟩)]),(W.heap.size+1,[zd U 5,zd U (jv:Int),zd U ot,zd U ek,zd U en,O Z T V,O aa al ac,O ta tn tc,O ea el ec]),(W.heap.size+1+1,[O p1 q1 r1,O p2 q2 r2]),(s,[zi (some ⟨bj,0,none⟩)]),(s+1,[zd U a])] V1):=by
  have hF:=FrW.of_below (Al bj) b9;have I:∀ q,W.heap.size<=q->¬ XJ bj V1 q:=fun q hq e=>by have:=(h.xlt q ((Al bj).below _ _ b9 q e)).2;omega
  refine TB.add (TB.add (TB.add (TB.add (TB.add TB.nil ?_ ?_ ?_) ?_ ?_ ?_) ?_ (I _ (by omega)) (by omega)) ?_ (I _ (by omega)) (by omega)) ?_ (I _ (Nat.le_refl _)) (by omega)
  ·exact hF.row (fun j u hu=>by match j with | 0=>simp at hu;subst hu;exact C.a | j+1=>simp at hu) (C.x _ (by omega) (by omega))
  ·exact fun e=>C.x _ (by omega) (by omega) (hF.mov _ (by have:=C.lt;omega) e)
  ·have:=C.lt;have:=hF.size;omega
  ·exact hF.row (fun j u hu=>by match j with | 0=>simp at hu;subst hu;exact C.j | j+1=>simp at hu) (C.x _ (by omega) (by omega))
  ·exact fun e=>C.x _ (by omega) (by omega) (hF.mov _ (by have:=C.lt;omega) e)
  ·have:=C.lt;have:=hF.size;omega
  ·rw [bg]
   have r:=Ad.new [O p1 q1 r1,O p2 q2 r2] 50 ((W.alloc (ze #[zi (some ⟨bj,0,none⟩)] 161)).alloc (ze #[zd U 5,zd U (jv:Int),zd U ot,zd U ek,zd U en,O Z T V,O aa al ac,O ta tn tc,O ea el ec] 130));simpa using r
  ·rw [bg]
   have r:=(Ad.new [zd U 5,zd U (jv:Int),zd U ot,zd U ek,zd U en,O Z T V,O aa al ac,O ta tn tc,O ea el ec] 130 (W.alloc (ze #[zi (some ⟨bj,0,none⟩)] 161))).over (bA _ (ze #[O p1 q1 r1,O p2 q2 r2] 50));simpa using r
  ·rw [bg]
   exact (Ad.new [zi (some ⟨bj,0,none⟩)] 161 W).over ((bA _ _).alloc (by simp) _)
 have HS:Hx (∀ (f:World),Ov V1 f->Rd W bj c bv ov bl ol jv ek en Z T V a1 a2 a3 a4 a5 a6 f):=fun f b8=>by
  have B:=br.o.over b8;exact ⟨((R.o.row 0 rfl).over b8) 0 _ rfl,B.cw 0 _ rfl,B.cw 1 _ rfl,B.cw 2 _ rfl,B.cw 3 _ rfl,B.cw 4 _ rfl,by rw [<-b5];exact B.cw 5 _ rfl,B.cw 6 _ rfl,B.cw 7 _ rfl,by rw [<-co];exact B.cw 8 _ rfl,B.cw 9 _ rfl,((R.o.row 1 rfl).over b8) 1 _ rfl,((R.o.row 1 rfl).over b8) 3 _ rfl,((R.o.row 1 rfl).over b8) 4 _ rfl,((R.o.row 1 rfl).over b8) 5 _ rfl,Ab B.below _ _ k0,Ab B.below _ _ k1⟩
 have dp:Hx (∀ (f:World) {fl2:List (Int × Int)} {fv2:Value} {bm bh bt bo:Nat} {t1:Option Addr} {t2 t3:Nat} {t4:Option Addr} {t5 t6:Nat},AM c.cs w0 bj av fl2 fv2 f->TB bj ([(bm,[zg f6]),(bh,[zg f7]),(bt,[O t1 t2 t3,O t4 t5 t6]),(bo,[O a1 a2 a3,O a4 a5 a6]),(W.heap.size,[zi (some ⟨bj,0,none⟩)]),(W.heap.size+1,[zd U 5,zd U (jv:Int),zd U ot,zd U ek,zd U en,O Z T V,O aa al ac,O ta tn tc,O ea el ec]),(W.heap.size+1+1,[O p1 q1 r1,O p2 q2 r2]),(s,[zi (some ⟨bj,0,none⟩)]),(s+1,[zd U a])]) f->Rc W bj c bv ov bl ol p1 q1 r1 p2 q2 r2 bo a1 a2 a3 a4 a5 a6 f):=fun f fl2 fv2 bm bh bt bo t1 t2 t3 t4 t5 t6 B r2=>⟨(r2.row 4 rfl) 0 _ rfl,B.cw 0 _ rfl,B.cw 1 _ rfl,B.cw 2 _ rfl,B.cw 3 _ rfl,B.cw 4 _ rfl,by rw [<-b5];exact B.cw 5 _ rfl,B.cw 6 _ rfl,B.cw 7 _ rfl,by rw [<-co];exact B.cw 8 _ rfl,B.cw 9 _ rfl,(r2.row 6 rfl) 0 _ rfl,(r2.row 6 rfl) 1 _ rfl,(r2.row 3 rfl) 0 _ rfl,(r2.row 3 rfl) 1 _ rfl⟩;have dt:Hx (Ov V1 V1.drew):=(bD _);have il:=Aa (hl.over (Al bj) b9);have i6:=Aa (FrW.of_below (Al bj) b9);have iy:Hx (fl.length<=1000):=by unfold Hx;omega
 have ix:Hx ((addF a 5 fl (!f5)).length<=1000):=Nat.le_trans (AV _ _ _ _) (by omega);have iw:Hx ((addF a 6 (addF a 5 fl (!f5)) f6).length<=1000):=Nat.le_trans (AV _ _ _ _) (by have:=AV a 5 fl (!f5);omega);have iv:Hx ((addF a 7 (addF a 6 (addF a 5 fl (!f5)) f6) f7).length<=1000):=Nat.le_trans (AV _ _ _ _) (by have:=AV a 5 fl (!f5);have:=AV a 6 (addF a 5 fl (!f5)) f6;omega);have iu:Hx ((addF a 8 (addF a 7 (addF a 6 (addF a 5 fl (!f5)) f6) f7) f8).length<=1000):=Nat.le_trans (AV _ _ _ _) (by have:=AV a 5 fl (!f5);have:=AV a 6 (addF a 5 fl (!f5)) f6;have:=AV a 7 (addF a 6 (addF a 5 fl (!f5)) f6) f7;omega);have mx:(jv:Int) < (c.ln:Int):=by omega
 have mw:c.ln<=16:=by rw [g8];exact J.l16
 have mv:c.vn<=16:=by have:=J.l16;omega
 obtain ⟨ys,eo⟩:∃ ys:List (EW Ls.length),ys.map ay.val=AG K (Am d):=OJ Ls.length _ (Bd df);have fq:=Aa eo;have fx:=Aa fb;have fw:=Aa e9;have ee:=Aa (fun (f:World) (B:AM c.cs w0 bj av fl fv f) (W3:World) (fj:Ov f W3) (bx:Nat) (jy:bx < W3.heap.size) (k0:W3.cell? ⟨bx,0,none⟩=some (zd U ek)) (k1:W3.cell? ⟨bx,1,none⟩=some (zd U en)) (k2:W3.cell? ⟨bx,2,none⟩=some (O Z T V))=>GX Fence.wide rfl 2 trivial trivial rfl Ls.length bx K f ek en Z T V (Am d) ys W3 jy fj k0 k1 k2 (hX.over B.below) eo);have ke:=Aa bz;have kf:=Aa b5;have kd:Hx (vs.length=Ls.length):=hvn;have kb:=Aa dv;have j9:Hx (w0.heap.size<=W.heap.size):=h.below.size;obtain ⟨u0,u1,u2,u3,u4,u5,u6,u7,u8,u9,u10,u11,u12,u13,u14,u15,u16⟩:=HS.o _ (Below.refl _ _);clear eo eu dw eq e5 e6 fe fb e9 e8 e7 hg hvn e4 jt ff gm b5 dv bz v1 v2 v3 jm co g8 k0 k1 cn dh jo gv hf gp he hl gt hX hA hT hE df J A j0 hvc jw hk i0 i1 i2 di ex b9 C h;refine (callsIn_wide (n:=3)).1 ?_;refine callsIn_of_wp_marks Tryz.func152 rfl trivial ?_ rfl;simp only [Tryz.ntmps152,List.size_toArray,List.length_cons,List.length_nil,Nat.reduceAdd,Nat.reduceSub,Array.replicate_succ,Array.replicate_zero,List.push_toArray,List.append_toArray,List.nil_append,List.cons_append];refine wpIn_wide.2 ?_;go_wp2_with fail;rw [<-bg];clear bg;refine Cw (fun d5 f=>∃ (bt bo:Nat) (x13 x14 x15 x16 x17 x18 x19 x20 x21 x22 x23 x24 x25 x26 x27 x28 x29 x30 x31 x32 x33 x34:Value) (t1:Option Addr) (t2 t3:Nat) (t4:Option Addr) (t5 t6:Nat),d5={ tmps:=#[zi (some ⟨bj,0,none⟩),zh #[zd U 5,zd U (jv:Int),zd U ot,zd U ek,zd U en,O Z T V,O aa al ac,O ta tn tc,O ea el ec],zh #[O p1 q1 r1,O p2 q2 r2],.func (.func 149) #[] #[zi (some ⟨s,0,none⟩),zi (some ⟨s+1,0,none⟩)],zi (some ⟨W.heap.size,0,none⟩),zi (some ⟨W.heap.size+1,0,none⟩),zi (some ⟨W.heap.size+1+1,0,none⟩),undef,zi (some ⟨bt,0,none⟩),zi (some ⟨bo,0,none⟩),undef,undef,undef,x13,x14,x15,x16,x17,x18,x19,x20,x21,x22,x23,x24,x25,x26,x27,x28,x29,x30,x31,x32,x33,x34,undef,undef,undef,undef,undef,undef,undef,undef,undef,undef,undef,undef,undef,undef,undef,undef,undef,undef,undef,undef,undef,undef,undef,undef,undef,undef,undef,undef,undef,undef,undef,undef,undef,undef,undef,undef,undef,undef,undef,undef,undef,undef,undef,undef,undef,undef,undef,undef,undef,undef,undef,undef,undef,undef,undef,undef,undef,undef,undef,undef],defers:=[] }/\Ov V1 f/\Ad [O t1 t2 t3,O t4 t5 t6] f bt/\Ad [O a1 a2 a3,O a4 a5 a6] f bo/\Aw c.n (XJ bj) f (zh #[O t1 t2 t3,O t4 t5 t6]) tl/\(V1.heap.size<=bt/\bt < f.heap.size)/\(V1.heap.size<=bo/\bo < f.heap.size)/\bt≠bo) ?_ ?_
 ·refine gS (Rd W bj c bv ov bl ol jv ek en Z T V a1 a2 a3 a4 a5 a6) (HS.o _ dt.o) fun t=>?_
  refine kT 0 ?_;refine kT 1 ?_;refine kT 2 ?_;refine kT 3 ?_;refine kT 4 ?_;refine kT 5 ?_;refine kT 6 ?_;refine kT 7 ?_;refine kT 9 ?_;refine kT 10 ?_;refine kT 12 ?_;refine kT 13 ?_;refine kT 14 ?_;refine kT 15 ?_;refine kT 16 ?_;refine kT 17 ?_;refine kT 18 ?_;refine kT 19 ?_;refine kT 20 ?_;refine kT 21 ?_;have L:=dt;generalize V1.drew=Wc at L t ⊢;clear dt;refine rdC 8 22 23 rfl (fun K h8=>?_) rfl (fun K ae=>?_) rfl (fun K ad=>?_) (by decide +kernel);all_goals repeat' first
   | (
    have hi:=h8;clear hi;go_simp;refine (d8.o _).mono ?_;rintro e Wc ⟨vj,rfl,hL,E⟩;have hN:=Bm hL;have hA:=Aq hL;obtain ⟨v1,v2,rfl,gx,gw,-⟩:=hL;obtain ⟨y1,y2,y3,rfl⟩:=AE gx;obtain ⟨y4,y5,y6,rfl⟩:=AE gw;have hN:=EL hN L.o.size;replace L:=Aa (Ac L.o E);have cf:=Aa (⟨hA,EU _,B8 (Al bj) L.o (fun k hk=>(br.o.xlt k hk).2) hN⟩:Aw c.n (XJ bj) Wc _ (A7 c.n));(try replace HT:=Aa (HT.o.over E))
    (try replace HO:=Aa (HO.o.over E))
    clear hN hA gx gw E;go_simp;refine xK h8 (HS.o _ L.o) fun t=>?_;clear h8 K;first | (refine rdC 11 22 23 rfl (fun K af=>?_) rfl (fun K ae=>?_) rfl (fun K ad=>?_) (by decide +kernel)) | (refine rdA 11 rfl (fun K af=>?_) (by decide +kernel)) | (refine rdB 11 22 rfl (fun K af=>?_) rfl (fun K ae=>?_) (by decide +kernel)) | (refine rdB 11 23 rfl (fun K af=>?_) rfl (fun K ad=>?_) (by decide +kernel)))
   | (
    have hi:=af;clear hi;go_simp;refine (KW.o _ (br.o.over L.o) cf.o).mono ?_;rintro e Wc ⟨⟨o1,o2,o3,o4,o5,o6,rfl,hL⟩,E⟩;replace L:=Aa (Ac L.o E);(try replace HT:=Aa (HT.o.over E))
    (try replace HO:=Aa (HO.o.over E))
    have ce:=Aa hL;clear cf hL E;go_simp;refine xK af (HS.o _ L.o) fun t=>?_;clear af K;first | (refine rdB 22 23 rfl (fun K ae=>?_) rfl (fun K ad=>?_) (by decide +kernel)) | (refine rdA 24 rfl (fun K cq=>?_) (by decide +kernel)) | (refine rdA 22 rfl (fun K ae=>?_) (by decide +kernel)) | (refine rdA 23 rfl (fun K ad=>?_) (by decide +kernel)))
   | (
    have hi:=ae;clear hi;have E:=bA Wc (ze #[O none 0 0,O none 0 0] 50);have hz:=DJ 50 Wc;have ez:=L.o.size;obtain ⟨bt,hq⟩:∃ b:Nat,b=Wc.heap.size:=⟨_,rfl⟩;rw [<-hq] at hz ez;(try have b7:bt≠bo:=by have:=HO.o.lt;omega)
    go_simp;rw [<-hq];obtain ⟨Wc,H⟩:=nm (Wc.alloc (ze #[O none 0 0,O none 0 0] 50));rw [<-H] at E hz ⊢;replace L:=Aa (Ac L.o E);(try replace HO:=Aa (HO.o.over E))
    (try replace cf:=Aa (cf.o.over (Al bj) E))
    (try replace ce:=Aa (ce.o.over (Al bj) E))
    have HT:=Aa hz;clear E hz H hq;refine xK ae (HS.o _ L.o) fun t=>?_;clear ae K;first | (refine rdA 24 rfl (fun K cq=>?_) (by decide +kernel)) | (refine rdB 8 23 rfl (fun K h8=>?_) rfl (fun K ad=>?_) (by decide +kernel)) | (refine rdB 11 23 rfl (fun K af=>?_) rfl (fun K ad=>?_) (by decide +kernel)) | (refine rdA 23 rfl (fun K ad=>?_) (by decide +kernel)) | (refine rdA 8 rfl (fun K h8=>?_) (by decide +kernel)) | (refine rdA 11 rfl (fun K af=>?_) (by decide +kernel)))
   | (
    have hi:=ad;clear hi;have E:=bA Wc (ze #[O none 0 0,O none 0 0] 50);have hz:=DJ 50 Wc;have e3:=L.o.size;obtain ⟨bo,hq⟩:∃ b:Nat,b=Wc.heap.size:=⟨_,rfl⟩;rw [<-hq] at hz e3;(try have b7:bt≠bo:=by have:=HT.o.lt;omega)
    go_simp;rw [<-hq];obtain ⟨Wc,H⟩:=nm (Wc.alloc (ze #[O none 0 0,O none 0 0] 50));rw [<-H] at E hz ⊢;replace L:=Aa (Ac L.o E);(try replace HT:=Aa (HT.o.over E))
    (try replace cf:=Aa (cf.o.over (Al bj) E))
    (try replace ce:=Aa (ce.o.over (Al bj) E))
    have HO:=Aa hz;clear E hz H hq;refine xK ad (HS.o _ L.o) fun t=>?_;clear ad K;first | (refine rdA 24 rfl (fun K cq=>?_) (by decide +kernel)) | (refine rdB 8 22 rfl (fun K h8=>?_) rfl (fun K ae=>?_) (by decide +kernel)) | (refine rdB 11 22 rfl (fun K af=>?_) rfl (fun K ae=>?_) (by decide +kernel)) | (refine rdA 22 rfl (fun K ae=>?_) (by decide +kernel)) | (refine rdA 8 rfl (fun K h8=>?_) (by decide +kernel)) | (refine rdA 11 rfl (fun K af=>?_) (by decide +kernel)))
   | (
    have hi:=cq;clear hi;have d0:=HT.o.c0;have d1:=HT.o.c1;have z0:=HT.o.z0;have z1:=HT.o.z1;have mm:bj < V1.heap.size:=br.o.lo.2;obtain ⟨Wn,H⟩:=nm (BC Wc bt (O o1 o2 o3) (O o4 o5 o6));replace L:Hx (Ov V1 Wn):=by rw [H];exact B7 L.o ez _ _
    replace HO:Hx (ZB bo Wn):=by rw [H];exact HO.o.other (Ne.symm b7) _ _
    have HR:Hx (Ad [O o1 o2 o3,O o4 o5 o6] Wn bt):=by rw [H];exact HT.o.fill _ _
    have HL:Hx (Aw c.n (XJ bj) Wn (zh #[O o1 o2 o3,O o4 o5 o6]) tl):=by rw [H];exact EO ce.o HT.o (by omega) _ _
    unfold BC at H;go_simp;rw [<-H];clear H d0 d1 z0 z1 ce HT;refine xK cq (HS.o _ L.o) fun t=>?_;clear cq K;refine rdA 25 rfl (fun K fo=>?_) (by decide +kernel))
   | (
    have hi:=fo;clear hi;have e0:=HO.o.c0;have e1:=HO.o.c1;have y0:=HO.o.z0;have y1:=HO.o.z1;obtain ⟨Wm,bf⟩:=nm (BC Wn bo (O a1 a2 a3) (O a4 a5 a6));replace L:Hx (Ov V1 Wm):=by rw [bf];exact B7 L.o e3 _ _
    replace HR:Hx (Ad [O o1 o2 o3,O o4 o5 o6] Wm bt):=by rw [bf];exact J4 HR.o b7 _ _
    have HQ:Hx (Ad [O a1 a2 a3,O a4 a5 a6] Wm bo):=by rw [bf];exact HO.o.fill _ _
    replace HL:Hx (Aw c.n (XJ bj) Wm (zh #[O o1 o2 o3,O o4 o5 o6]) tl):=by rw [bf];exact EO HL.o HO.o (by omega) _ _
    unfold BC at bf;go_simp;rw [<-bf];clear bf;refine xK fo (HS.o _ L.o) fun t=>?_;clear fo K;refine gE ?_;exact Ba ⟨bt,bo,_,_,_,_,_,_,_,_,_,_,_,_,_,_,_,_,_,_,_,_,_,_,o1,o2,o3,o4,o5,o6,rfl,L.o,HR.o,HQ.o,HL.o,⟨ez,bL (HR.o 0 _ rfl)⟩,⟨e3,bL (HQ.o 0 _ rfl)⟩,b7⟩)
 rintro d5 f ⟨bt,bo,x13,x14,x15,x16,x17,x18,x19,x20,x21,x22,x23,x24,x25,x26,x27,x28,x29,x30,x31,x32,x33,x34,t1,t2,t3,t4,t5,t6,rfl,cd,gq,gu,ax,⟨h4,hv⟩,⟨h6,h5⟩,b7⟩;clear u0 u1 u2 u3 u4 u5 u6 u7 u8 u9 u10 u11 u12 u13 u14 u15 u16 HS dt;have I:∀ q,V1.heap.size<=q->¬ XJ bj f q:=fun q hq e=>by have:=(br.o.xlt q ((Al bj).below _ _ cd q e)).2;omega
 have cg:=Aa (br.o.over cd);have fy:=Aa (i6.o.trans (FrW.of_below (Al bj) cd));have an:Hx (TB bj [(bt,[O t1 t2 t3,O t4 t5 t6]),(bo,[O a1 a2 a3,O a4 a5 a6]),(W.heap.size,[zi (some ⟨bj,0,none⟩)]),(W.heap.size+1,[zd U 5,zd U (jv:Int),zd U ot,zd U ek,zd U en,O Z T V,O aa al ac,O ta tn tc,O ea el ec]),(W.heap.size+1+1,[O p1 q1 r1,O p2 q2 r2]),(s,[zi (some ⟨bj,0,none⟩)]),(s+1,[zd U a])] f):=((R.o.keep (FrW.of_below (Al bj) cd)).add gu (I _ h6) h5).add gq (I _ h4) hv;have ij:=Aa (il.o.over (Al bj) cd);have ig:=Aa ax;have ic:Hx (W.heap.size<=f.heap.size):=fy.o.size;have y3:((f.alloc (ze #[zg false] 4)).alloc (ze #[zg false] 4)).cell? ⟨W.heap.size+1,3,none⟩=_:=Ab ((bA f _).alloc (by simp) _) _ _ ((an.o.row 3 rfl) 3 _ rfl);have y4:((f.alloc (ze #[zg false] 4)).alloc (ze #[zg false] 4)).cell? ⟨W.heap.size+1,4,none⟩=_:=Ab ((bA f _).alloc (by simp) _) _ _ ((an.o.row 3 rfl) 4 _ rfl);have y5:((f.alloc (ze #[zg false] 4)).alloc (ze #[zg false] 4)).cell? ⟨W.heap.size+1,5,none⟩=_:=Ab ((bA f _).alloc (by simp) _) _ _ ((an.o.row 3 rfl) 5 _ rfl);clear I cd gq gu ax h4 hv h6 h5 b7 il R i6 br d8 KW;have cp:Ov f (((f.alloc (ze #[zg false] 4)).alloc (ze #[zg false] 4)).alloc (ze #[zd U ek,zd U en,O Z T V] 94)):=((bA f _).alloc (by simp) _).alloc (by simp <;> omega) _
 have c5:=Aa cp;have fu:Hx (RvI f.heap.size fm fh Ls.length [] (((f.alloc (ze #[zg false] 4)).alloc (ze #[zg false] 4)).alloc (ze #[zd U ek,zd U en,O Z T V] 94))):=⟨by simp [go_sem],by simp [go_sem],by simp [go_sem],by simp [go_sem]⟩;have fr:=Aa (ee.o f cg.o _ cp (f.heap.size+1+1) (by simp) (by simp [go_sem]) (by simp [go_sem]) (by simp [go_sem]));clear cp ee;have KV:=Aa fun (w:World)=>(callsIn_wide (n:=3)).1 (MM Fence.wide 3 trivial rfl ek en Z T V w);go_wp2_with fail;refine (KV.o _).mono ?_;rintro e w' ⟨rfl,rfl⟩;go_wp2_with fail;refine (wpIn_wide (n:=3)).1 ?_;refine wpIn_rangeFunc_ownF (F:=Fence.wide) rfl (by omega) (gf:=210) (lb:=#[zi (some ⟨f.heap.size+1+1,0,none⟩)]) rfl trivial (enters_of Tryz.func210 (by kernel_rfl) rfl)
  fr.o belowK_t (belowK_b (by simp <;> omega)) (Below.refl _ _) (fun _=>rfl)
  (fun cm W=>RvI f.heap.size fm fh Ls.length cm W/\Ov f W)
  (fun _ _ _=>False)
  (OwnFrom.and (Own.from (PZ f.heap.size fm fh Ls.length) _) (ownFrom_below (Nat.le_refl _) (by simp <;> omega)))
  (fun _ _ _ _ _ hs _ _=>hs)
  ⟨fu.o,c5.o⟩
  (fun x=>{ tmps:=#[zi (some ⟨bj,0,none⟩),zh #[zd U 5,zd U (jv:Int),zd U ot,zd U ek,zd U en,O Z T V,O aa al ac,O ta tn tc,O ea el ec],zh #[O p1 q1 r1,O p2 q2 r2],.func (.func 149) #[] #[zi (some ⟨s,0,none⟩),zi (some ⟨s+1,0,none⟩)],zi (some ⟨W.heap.size,0,none⟩),zi (some ⟨W.heap.size+1,0,none⟩),zi (some ⟨W.heap.size+1+1,0,none⟩),undef,zi (some ⟨bt,0,none⟩),zi (some ⟨bo,0,none⟩),zi (some ⟨f.heap.size,0,none⟩),zi (some ⟨f.heap.size+1,0,none⟩),zd U x.1,x13,x14,x15,x16,x17,x18,x19,x20,x21,x22,x23,x24,x25,x26,x27,x28,x29,x30,x31,x32,x33,x34,zi (some ⟨W.heap.size+1,3,none⟩),zh #[zd U ek,zd U en,O Z T V],.func (.func 210) #[] #[zi (some ⟨f.heap.size+1+1,0,none⟩)],zd U x.1,undef,undef,undef,undef,undef,undef,undef,undef,undef,undef,undef,undef,undef,undef,undef,undef,undef,undef,undef,undef,undef,undef,undef,undef,undef,undef,undef,undef,undef,undef,undef,undef,undef,undef,undef,undef,undef,undef,undef,undef,undef,undef,undef,undef,undef,undef,undef,undef,undef,undef,undef,undef,undef,undef,undef,undef],defers:=[] }) ?assign ?body ?done ?stop
 case assign=>
  intro l x W K G
  gi_wp2
  exact G
 case body=>
  clear fr fu c5 fq;rintro lo cm x Wr ⟨⟨c0,f0,c1,f1⟩,hB⟩ _;obtain ⟨m0,et⟩:=nm ((cm.map ay.val).any fm);obtain ⟨h0,ey⟩:=nm ((cm.map ay.val).any fh);rw [<-et] at c0;rw [<-ey] at c1;have ao:=Aa fun (Wj:World) (m1 h1:Bool) (dj:Ov Wr Wj) (e1:m1=(m0 || fm x.1)) (e2:h1=(h0 || fh x.1))=>PY (x:=x) c0 f0 c1 f1 et.symm ey.symm hB dj e1 e2;clear et ey;obtain ⟨x,mj,mi⟩:=x;obtain ⟨j,rfl⟩:∃ j:Nat,x=(j:Int):=⟨x.toNat,by omega⟩;have hj:j < vs.length:=by rw [kd.o];omega
  obtain ⟨pr,pw,q0,q1,q2,er,jq⟩:=ke.o j hj;obtain ⟨dd,db,dc,rfl⟩:=Az er;obtain ⟨kn,ew⟩:=nm (vs[j].1);rw [<-ew] at q0;have it:Hx (fh (j:Int)=!kn):=by rw [ew];exact kw.o j hj
  have aq:Hx (∀ Wz:World,Ov f Wz->Ot W bj bv ov c j kn dd db dc Wz):=fun Wz hz=>by
   have B:=cg.o.over hz;exact ⟨Ab hz _ _ ((an.o.row 2 rfl) 0 _ rfl),by rw [<-kf.o];exact B.cw 5 _ rfl,Ab B.below _ _ q0,Ab B.below _ _ q1⟩
  obtain ⟨mr,es⟩:=nm (fm (j:Int));have j8:Hx (∀ Wz:World,Ov f Wz->Calls Tryz.prog 202 #[zi (some ⟨bj,0,none⟩),O dd db dc] Wz fun e W'=>e=zj (zg mr)/\Ov Wz W'):=fun Wz hz=>by
   have B:=cg.o.over hz;rw [es];exact ft.o j hj Wz B _ (Ak er B.below)
  have dr:Hx (fm (j:Int)=mr):=es.symm;have mn:(j:Int) < (c.vn:Int):=by have:=kb.o;omega
  have g5:=bL c0;have g3:=bL c1;clear es ew q0 q1 q2 er jq hj;have gy:Tryz.prog.follows .mixedOrders=true:=by kernel_rfl
  have mo:1<=3 - 1 - 1:=by omega
  cases m0 with
  | true=>
   gi_wp2
   refine DN (S:=fun Wz=>Ot W bj bv ov c j kn dd db dc Wz) gy ?_ ?_
   ·intro i o ho c hc
    match i with
    | 0 | 1 | 2 | 3 | 4 | 5 | 6 | 7 | 8 | 9 | 10 | 11 | 12 | 13 | 14 | 15 | 16=>simp at ho;subst ho;cases hc
    | i+17=>simp at ho
   refine rdA 0 rfl fun K G=>?_;go_simp;refine xK G (aq.o _ (hB.drew)) fun t=>?_;clear G K;refine kT 1 ?_;refine kU 2 ?_;refine kU 3 ?_;refine kU 4 ?_;refine kU 5 ?_;refine kU 6 ?_;refine kU 7 ?_;refine kU 8 ?_;refine kU 9 ?_;refine kU 10 ?_;refine kU 11 ?_;refine kU 12 ?_;refine kU 13 ?_;refine kU 14 ?_;refine kT 15 ?_;refine rdA 16 rfl fun K G=>?_;go_simp;refine xK G (by exact aq.o _ ((hB.drew).setCell (Nat.le_refl _) _)) fun t=>?_;clear G K;refine gE ?_;refine Ba ?_;have hm:=aq.o (Wr.drew.setCell ⟨f.heap.size,0,none⟩ (zg true)) ((hB.drew).setCell (Nat.le_refl _) _);obtain ⟨n0,n1,n2,n3⟩:=hm;cases h0 with
   | true=>
    gi_wp2
    exact ao.o Wr.drew true true (bD Wr) (by simp [dr.o]) (by simp)
   | false=>
    gi_wp2
    exact ao.o Wr.drew true (!kn) (bD Wr) (by simp [dr.o]) (by simp [it.o])
  | false=>
   gi_wp2
   refine DN (S:=fun Wz=>Ot W bj bv ov c j kn dd db dc Wz) gy ?_ ?_
   ·intro i o ho c hc
    match i with
    | 0 | 1 | 2 | 3 | 4 | 5 | 6 | 7 | 8 | 9 | 10 | 11 | 12 | 13 | 14 | 15 | 16=>simp at ho;subst ho;cases hc
    | i+17=>simp at ho
   refine rdA 0 rfl fun K G=>?_;go_simp;refine xK G (aq.o _ (hB.drew)) fun t=>?_;clear G K;refine kT 1 ?_;refine kT 2 ?_;refine kT 3 ?_;refine kT 4 ?_;refine kT 5 ?_;refine kT 6 ?_;refine kT 7 ?_;refine kT 8 ?_;refine kT 9 ?_;refine kT 10 ?_;refine kT 11 ?_;refine kT 12 ?_;refine kT 13 ?_;refine rdA 14 rfl fun K G=>?_;go_simp;refine (j8.o _ (hB.drew)).mono ?_;rintro e wj ⟨rfl,dj⟩;have bs:Hx (Ov Wr wj):=(bD Wr).trans (dj.mono (Nat.le_refl _));have nc:=Ab bs.o _ _ c0;have m7:wj.frozen? ⟨f.heap.size,0,none⟩=false:=((An bs.o).2 _ _ g5).trans f0;have nb:=Ab bs.o _ _ c1;have m6:wj.frozen? ⟨f.heap.size+1,0,none⟩=false:=((An bs.o).2 _ _ g3).trans f1;have c4:=Aa (hB.trans (bs.o.mono hB.size));clear dj;go_simp;refine xK G (aq.o _ c4.o) fun t=>?_;clear G K;refine kT 15 ?_;refine rdA 16 rfl fun K G=>?_;go_simp;refine xK G (by exact aq.o _ ((c4.o).setCell (Nat.le_refl _) _)) fun t=>?_;clear G K;refine gE ?_;refine Ba ?_;have hm:=aq.o (wj.setCell ⟨f.heap.size,0,none⟩ (zg mr)) ((c4.o).setCell (Nat.le_refl _) _);obtain ⟨n0,n1,n2,n3⟩:=hm;cases h0 with
   | true=>
    gi_wp2
    exact ao.o wj mr true bs.o (by simp [dr.o]) (by simp)
   | false=>
    gi_wp2
    exact ao.o wj mr (!kn) bs.o (by simp [dr.o]) (by simp [it.o])
 case done=>
  rintro D zs c2 hD rfl ⟨⟨c0,f0,c1,f1⟩,hB⟩ G;rw [fq.o,<-fx.o] at c0;rw [fq.o,<-fw.o] at c1;obtain ⟨bm,fg⟩:=nm f.heap.size;obtain ⟨bh,fi⟩:=nm (f.heap.size+1);have I:∀ q,f.heap.size<=q->¬ XJ bj c2 q:=fun q hq e=>by have:=(cg.o.xlt q ((Al bj).below _ _ hB q e)).2;omega
  rw [<-fg] at c0;rw [<-fi] at c1;have dk:f.heap.size<=D:=by simp at hD;omega
  have k6:Hx (w0.heap.size<=D):=Nat.le_trans (Nat.le_trans j9.o ic.o) dk;have i7:Hx (W.heap.size<=D):=Nat.le_trans ic.o dk;have c3:=Aa (cg.o.over hB);have ej:=Aa (fy.o.trans (FrW.of_below (Al bj) hB));have bk:Hx (TB bj ([(bm,[zg f6]),(bh,[zg f7]),(bt,[O t1 t2 t3,O t4 t5 t6]),(bo,[O a1 a2 a3,O a4 a5 a6]),(W.heap.size,[zi (some ⟨bj,0,none⟩)]),(W.heap.size+1,[zd U 5,zd U (jv:Int),zd U ot,zd U ek,zd U en,O Z T V,O aa al ac,O ta tn tc,O ea el ec]),(W.heap.size+1+1,[O p1 q1 r1,O p2 q2 r2]),(s,[zi (some ⟨bj,0,none⟩)]),(s+1,[zd U a])]) c2):=((an.o.keep (FrW.of_below (Al bj) hB)).one c1 (I _ (by omega))).one c0 (I _ (by omega));have ef:=Aa (ij.o.over (Al bj) hB);have eb:=Aa (ig.o.over (Al bj) hB);have em:Hx (DK bj D c2):=⟨G,I _ dk⟩;have bb:Ov c2 c2.drew:=(bD _);have ds:=Aa (c3.o.over bb);have k5:=Aa (ej.o.trans (FrW.of_below (Al bj) bb));have d9:=Aa (bk.o.keep (FrW.of_below (Al bj) bb));have ii:=Aa (ef.o.over (Al bj) bb);have kl:=Aa (eb.o.over (Al bj) bb);have lg:=Aa (em.o.keep (FrW.of_below (Al bj) bb));have ku:=Aa (im.o _ ds.o);have ko:=Aa (dp.o _ ds.o d9.o);obtain ⟨u0,u1,u2,u3,u4,u5,u6,u7,u8,u9,u10,u11,u12,u13,u14⟩:=dp.o _ c3.o bk.o;clear c3 ej bk ef eb em bb G c0 f0 c1 f1 hB I hD dk fr fu c5 cg fy an ij ig y3 y4 y5;rw [<-fi,<-fg];clear fg fi;go_wp2_with fail;refine J5 ?_;refine gS (Rc W bj c bv ov bl ol p1 q1 r1 p2 q2 r2 bo a1 a2 a3 a4 a5 a6) (ko.o) fun t=>?_;refine kT 0 ?_;refine kT 1 ?_;refine kT 2 ?_;refine kT 3 ?_;refine kT 4 ?_;refine kT 5 ?_;refine kT 6 ?_;refine rdA 7 rfl fun K G=>?_;go_simp;refine (KF.o _ ds.o ii.o ku.o).mono ?_;rintro e W5 ⟨rfl,be⟩;have iq:=Aa (ds.o.over be);have am:=Aa (d9.o.keep (FrW.of_below (Al bj) be));have k4:=Aa (k5.o.trans (FrW.of_below (Al bj) be));have kk:=Aa (kl.o.over (Al bj) be);have kt:=Aa (ii.o.over (Al bj) be);have le:=Aa (lg.o.keep (FrW.of_below (Al bj) be));have aq:=Aa (dp.o W5 iq.o am.o);clear be;go_simp;refine xK G (aq.o) fun t=>?_;clear G K;refine kT 8 ?_;refine rdA 9 rfl fun K G=>?_;go_simp;refine (KB.o _ iq.o ((am.o.row 7 rfl) 0 _ rfl) ((am.o.row 8 rfl) 0 _ rfl) (am.o.off 7 rfl) (am.o.off 8 rfl) iy.o 5 _).mono ?_;rintro e W6 ⟨rfl,⟨m5,hr⟩,cc⟩;have ip:=Aa hr;have N:=Aa (am.o.keep cc);have fx:=Aa (k4.o.trans cc);have kj:=Aa (kk.o.keep ah.o cc);have ks:=Aa (kt.o.keep ah.o cc);have ld:=Aa (le.o.keep cc);have km:=Aa (dp.o W6 ip.o N.o);clear hr cc;go_simp;refine xK G (km.o) fun t=>?_;clear G K;refine gE ?_;refine Ba ?_;have g0:=(N.o.row 0 rfl) 0 _ rfl;go_wp2_with fail;refine (KB.o _ ip.o ((N.o.row 7 rfl) 0 _ rfl) ((N.o.row 8 rfl) 0 _ rfl) (N.o.off 7 rfl) (N.o.off 8 rfl) ix.o 6 _).mono ?_;rintro e W7 ⟨rfl,⟨m4,hn⟩,cb⟩;have ky:=Aa hn;have ak:=Aa (N.o.keep cb);have fw:=Aa (fx.o.trans cb);have ki:=Aa (kj.o.keep ah.o cb);have kr:=Aa (ks.o.keep ah.o cb);have k9:=Aa (ld.o.keep cb);have g1:=(ak.o.row 1 rfl) 0 _ rfl;clear hn cb g0;go_wp2_with fail;refine (KB.o _ ky.o ((ak.o.row 7 rfl) 0 _ rfl) ((ak.o.row 8 rfl) 0 _ rfl) (ak.o.off 7 rfl) (ak.o.off 8 rfl) iw.o 7 _).mono ?_;rintro e W8 ⟨rfl,⟨m3,hh⟩,ca⟩;have io:=Aa hh;have b0:=Aa (ak.o.keep ca);have k3:=Aa (fw.o.trans ca);have ie:=Aa (ki.o.keep ah.o ca);have kq:=Aa (kr.o.keep ah.o ca);have k8:=Aa (k9.o.keep ca);have g4:=(b0.o.row 4 rfl) 0 _ rfl;clear hh ca g1;go_wp2_with fail;refine (j7.o _ io.o ((b0.o.row 2 rfl) 1 _ rfl) ((b0.o.row 3 rfl) 1 _ rfl) ie.o).mono ?_;rintro e W9 ⟨rfl,bd⟩;have kx:=Aa (io.o.over bd);have az:=Aa (b0.o.keep (FrW.of_below (Al bj) bd));have kz:=Aa (k3.o.trans (FrW.of_below (Al bj) bd));have kh:=Aa (ie.o.over (Al bj) bd);have kp:=Aa (kq.o.over (Al bj) bd);have k7:=Aa (k8.o.keep (FrW.of_below (Al bj) bd));clear bd g4;go_wp2_with fail;refine (KB.o _ kx.o ((az.o.row 7 rfl) 0 _ rfl) ((az.o.row 8 rfl) 0 _ rfl) (az.o.off 7 rfl) (az.o.off 8 rfl) iv.o 8 _).mono ?_;rintro e nh ⟨rfl,⟨lq,dz⟩,aj⟩;have ei:=Aa dz;have Q:=Aa (az.o.keep aj);have i4:=Aa (kz.o.trans aj);have ed:=Aa (kh.o.keep ah.o aj);have eg:=Aa (kp.o.keep ah.o aj);have ja:=Aa (k7.o.keep aj);have g4:=(Q.o.row 4 rfl) 0 _ rfl;clear dz aj;go_wp2_with fail;refine (j6.o _ ei.o ((Q.o.row 2 rfl) 1 _ rfl) ((Q.o.row 6 rfl) 1 _ rfl) ((Q.o.row 4 rfl) 0 _ rfl) ed.o eg.o).mono ?_;rintro e ng ⟨rfl,M⟩;have ir:=Aa (ei.o.over M);have P:=Aa (Q.o.keep (FrW.of_below (Al bj) M));have i3:=Aa (i4.o.trans (FrW.of_below (Al bj) M));have ih:=Aa (ed.o.over (Al bj) M);have ik:=Aa (eg.o.over (Al bj) M);have i9:=Aa (ja.o.keep (FrW.of_below (Al bj) M));clear M g4;go_wp2_with fail;refine (KB.o _ ir.o ((P.o.row 7 rfl) 0 _ rfl) ((P.o.row 8 rfl) 0 _ rfl) (P.o.off 7 rfl) (P.o.off 8 rfl) iu.o 9 _).mono ?_;rintro e ia ⟨rfl,⟨d2,dy⟩,ai⟩;have eh:=Aa dy;have kg:=Aa (P.o.keep ai);have iz:=Aa (i3.o.trans ai);have lu:=Aa (ih.o.keep ah.o ai);have lx:=Aa (ik.o.keep ah.o ai);have i8:=Aa (i9.o.keep ai);clear dy ai;go_wp2_with fail;have G:=i8.o.1;have hd:AM c.cs w0 bj av (addF a 9 (addF a 8 (addF a 7 (addF a 6 (addF a 5 fl (!f5)) f6) f7) f8) f9) d2 (ia.putObj D (.deferred none)):=eh.o.grown (grownBy_putObj' _ D (.deferred none)) G rfl (k6.o);have ju:FrW (XJ bj) W (ia.putObj D (.deferred none)):=QD iz.o eh.o G rfl i7.o;refine ⟨by simp,.inl ⟨_,_,rfl,run_takeDeferred G,?_⟩⟩;exact ⟨zk #[],by simp [results,Tryz.f152,go_sem],rfl,⟨d2,hd⟩,ju⟩
 case stop=>
  rintro D c cm W _ _ h _;exact h.elim
end Go.Proofs.YtfffpjkcfnekaaaGreat.Ex
namespace Go.Proofs.YtfffpjkcfnekaaaGreat.Ex
open Go.RowKit
open Go.Value renaming slice -> O, int -> zd, bool -> zg, agg -> zh, pointer -> zi, tuple -> zk
open Go.IntKind renaming i64 -> U
open Go.Obj renaming cells -> ze
open Go.Ending renaming returned -> zj
theorem Pp (cs:List Value) (av:Value) (w:World) (hl:cs.length=10):AM cs w w.heap.size av [] (O none 0 0) (w.alloc (.cells (cs++[av,Value.slice none 0 0]:List Value).toArray 165)):=
 ⟨bA w _,Ad.new _ _ _,fun j=>by simp [go_sem],World.ownsRow_nil ..,by simp [Value.ownBlock],⟨Nat.le_refl _,by simp⟩,hl⟩
theorem Nw (c:WC) (gs) (w:World) (hg:AA w (O c.ga c.gn c.gc) gs) (hE:AR c.n gs=0) :
  Calls Tryz.prog 86 #[zh #[zd U (c.n:Int),O c.ga c.gn c.gc,O c.sa c.sn c.sc,O c.ya c.yn c.yc,O c.oa c.on c.oc,O c.va c.vn c.vc,O c.fa c.fn c.fc,O c.ba c.bn c.bc],zh #[O c.la c.ln c.lc,O c.ka c.kn c.kc]] w fun e w'=>∃ w1 ob,e=zj (zi (some ⟨w1.heap.size,0,none⟩))/\CZ w1 ob c.n (Ax gs) c.n/\Ov w w1/\w'=w1.alloc (.cells (c.cs++[Value.slice (some ⟨ob,0,none⟩) c.n c.n,Value.slice none 0 0]:List Value).toArray 165):=by
 obtain ⟨n,H,J,I,g,i,h⟩:=Dr hE;obtain rfl:c.n=n:=by omega
 have p:Ov w ((w.alloc (ze #[zd U (c.n:Int),O c.ga c.gn c.gc,O c.sa c.sn c.sc,O c.ya c.yn c.yc,O c.oa c.on c.oc,O c.va c.vn c.vc,O c.fa c.fn c.fc,O c.ba c.bn c.bc] 31)).alloc (ze #[O c.la c.ln c.lc,O c.ka c.kn c.kc] 44)):=(bA w _).alloc (by simp) _;have L:=Aa (PA c.n J I (O c.ga c.gn c.gc) (Ax gs) ((w.alloc (ze #[zd U (c.n:Int),O c.ga c.gn c.gc,O c.sa c.sn c.sc,O c.ya c.yn c.yc,O c.oa c.on c.oc,O c.va c.vn c.vc,O c.fa c.fn c.fc,O c.ba c.bn c.bc] 31)).alloc (ze #[O c.la c.ln c.lc,O c.ka c.kn c.kc] 44)) (by rw [g];exact Af hg p) i h (by rw [g];exact hE));have N:=Aa p;have k:Ad [zd U (c.n:Int),O c.ga c.gn c.gc,O c.sa c.sn c.sc,O c.ya c.yn c.yc,O c.oa c.on c.oc,O c.va c.vn c.vc,O c.fa c.fn c.fc,O c.ba c.bn c.bc] ((w.alloc (ze #[zd U (c.n:Int),O c.ga c.gn c.gc,O c.sa c.sn c.sc,O c.ya c.yn c.yc,O c.oa c.on c.oc,O c.va c.vn c.vc,O c.fa c.fn c.fc,O c.ba c.bn c.bc] 31)).alloc (ze #[O c.la c.ln c.lc,O c.ka c.kn c.kc] 44)) w.heap.size:=(Ad.new _ _ _).over (bA _ _);have l:Ad [O c.la c.ln c.lc,O c.ka c.kn c.kc] ((w.alloc (ze #[zd U (c.n:Int),O c.ga c.gn c.gc,O c.sa c.sn c.sc,O c.ya c.yn c.yc,O c.oa c.on c.oc,O c.va c.vn c.vc,O c.fa c.fn c.fc,O c.ba c.bn c.bc] 31)).alloc (ze #[O c.la c.ln c.lc,O c.ka c.kn c.kc] 44)) (w.heap.size+1):=by
  have r:=Ad.new [O c.la c.ln c.lc,O c.ka c.kn c.kc] 44 (w.alloc (ze #[zd U (c.n:Int),O c.ga c.gn c.gc,O c.sa c.sn c.sc,O c.ya c.yn c.yc,O c.oa c.on c.oc,O c.va c.vn c.vc,O c.fa c.fn c.fc,O c.ba c.bn c.bc] 31));simpa using r
 have f:=Aa k;have t:=Aa l;clear hg hE g i h p H;obtain ⟨G,F,E,C,B,A,y,u⟩:=rc8 k;obtain ⟨u0,u1⟩:=rc2 l;clear k l;go_enter Tryz.func86,Tryz.ntmps86;go_wp2_with fail;refine (L.o).mono ?_;rintro e w1 ⟨ob,rfl,s,b⟩;have q0:=Ab b _ _ (f.o 0 _ rfl);have q1:=Ab b _ _ (f.o 1 _ rfl);have Z:=Ab b _ _ (f.o 2 _ rfl);have W:=Ab b _ _ (f.o 3 _ rfl);have V:=Ab b _ _ (f.o 4 _ rfl);have T:=Ab b _ _ (f.o 5 _ rfl);have S:=Ab b _ _ (f.o 6 _ rfl);have R:=Ab b _ _ (f.o 7 _ rfl);have Q:=Ab b _ _ (t.o 0 _ rfl);have P:=Ab b _ _ (t.o 1 _ rfl);have q:=Aa (Ac N.o b);have M:=Aa s;clear b s G F E C B A y u u0 u1;go_wp2_with fail;go_ret;exact ⟨w1,ob,rfl,M.o,q.o,rfl⟩
def BH (n K kf:Nat) (gs:List (Int × Int)) (sp:List Int) (Ls Fs:List Lev) (vs:List (Bool × Lab)) (ls ms:List Lab) (fs:List FnD) (l:List D):List (Int × Int):=
 D6 n K (fun _=>Ls) (Fk n K (Ax gs) sp Ls vs ls ms fs) (fun _=>Fs) kf fs l []
def QV (K kf:Nat) (m:Int) (vn yn on:Nat) (gs:List (Int × Int)) (sp:List Int) (ls ms:List Lab) (vs:List (Bool × Lab)) (fs:List FnD) (l:List D) (P:Int->Prop) (w:World) (e:Ending) (w':World):Prop:=
 ∃ why:Int,P why/\Ov w w'/\((why≠0/\e=zj (zk #[O none 0 0,zd U why])) \/
  (why=0/\okP K kf m vn yn on gs sp ls ms vs fs l/\∃ (n:Nat) (st:ISt) (fv:Value) (B:Nat),m=n/\e=zj (zk #[fv,zd U 0])/\B2 n K kf gs vs ls fs l st/\(∀ x∈st.vs,x.len n)/\(∀ x∈st.fs,x.len n)/\st.vs.length=vn/\st.fs.length=fs.length/\w.heap.size<=B/\w'.ownsRow B 89 2 fv (BH n K kf gs sp st.vs st.fs vs ls ms fs l).length (Cc (BH n K kf gs sp st.vs st.fs vs ls ms fs l))))
theorem Mp (args:Array Value) (w:World):(callFunc 88 args).run Tryz.prog w=.ok (.enter 88 args) w:=by simp [go_sem]
theorem Qj (K kf n:Nat) (ga gn gc sa sn sc ya yn yc oa on oc va vn vc fa fn fc ba bn bc) (la ln lc ka kn kc) (gs sp ls ms vs fs l) (st:ISt) (w:World) (h:BD K kf (n:Int) ga gn gc sa sn sc ya yn yc oa on oc va vn vc fa fn fc ba bn bc gs sp ls ms vs fs l w) (hok:okP K kf (n:Int) vn yn on gs sp ls ms vs fs l) (hs:(sp.length:Int)<=n) (hlv:BW w (O la ln lc) st.vs) (hlf:BW w (O ka kn kc) st.fs) (hll:∀ x∈st.vs,x.len n) (hfl:∀ x∈st.fs,x.len n) (hvn:st.vs.length=vn) (hfn:st.fs.length=fs.length) (ob:Nat) (hR:CZ w ob n (Ax gs) n) :
  Calls Tryz.prog 87 #[zh #[zd U (n:Int),O ga gn gc,O sa sn sc,O ya yn yc,O oa on oc,O va vn vc,O fa fn fc,O ba bn bc,O la ln lc,O ka kn kc],.func (.func 88) #[zi (some ⟨w.heap.size,0,none⟩)] #[]] (w.alloc (ze #[zd U (n:Int),O ga gn gc,O sa sn sc,O ya yn yc,O oa on oc,O va vn vc,O fa fn fc,O ba bn bc,O la ln lc,O ka kn kc,O (some ⟨ob,0,none⟩) n n,O none 0 0] 165)) fun e W'=>e=zj (zk #[])/\(∃ fv,AM [zd U (n:Int),O ga gn gc,O sa sn sc,O ya yn yc,O oa on oc,O va vn vc,O fa fn fc,O ba bn bc,O la ln lc,O ka kn kc] w w.heap.size (O (some ⟨ob,0,none⟩) n n) (BH n K kf gs sp st.vs st.fs vs ls ms fs l) fv W'):=by
 obtain ⟨f,P,V,T,-⟩:=Dr hok.chk;obtain rfl:f=n:=by omega
 clear P;have N:=h.vars;obtain rfl:vn=vs.length:=by obtain ⟨-,a,c,q,-⟩:=h.vars;injection q
 obtain rfl:yn=ls.length:=by obtain ⟨-,a,c,q,-⟩:=h.ins;injection q
 obtain rfl:on=ms.length:=by obtain ⟨-,a,c,q,-⟩:=h.outs;injection q
 obtain rfl:fn=fs.length:=by obtain ⟨-,a,c,q,-⟩:=h.funcs;injection q
 obtain ⟨c,g⟩:∃ c:WC,c=⟨f,ga,gn,gc,sa,sn,sc,ya,ls.length,yc,oa,ms.length,oc,va,vs.length,vc,fa,fs.length,fc,ba,bn,bc,la,ln,lc,ka,kn,kc⟩:=⟨_,rfl⟩;have J:JSt c w gs st.vs st.fs:=by
  subst g;exact ⟨V,T,h.grants,hok.chk,hlv,hll,hlf,hfl,by have:=hok.vars;omega⟩
 have A:JAc c w (O (some ⟨ob,0,none⟩) f f) (Ax gs) sp:=by
  subst g;exact ⟨⟨ob,rfl,hR⟩,h.speak,by show sp.length<=6;omega,fun x M=>hok.speak x M⟩
 have k:Bs w (O c.va c.vn c.vc) vs:=by subst g;exact h.vars
 have F:AW w (O c.ya c.yn c.yc) ls:=by subst g;exact h.ins
 have B:AW w (O c.oa c.on c.oc) ms:=by subst g;exact h.outs
 have y:Bv w K kf (O c.fa c.fn c.fc) fs:=by subst g;exact h.funcs
 have Q:Bj w K kf (O c.ba c.bn c.bc) l:=by subst g;exact h.main
 have t:c.n=f:=by subst g;rfl
 have p:∀ v∈vs,Bb c.n gs v.2=0:=by rw [t];exact hok.labs.2.1
 have G:∀ b∈ls,Bb c.n gs b=0:=by rw [t];exact fun b H=>hok.labs.1 b (List.mem_append.2 (Or.inl H))
 have E:∀ b∈ms,Bb c.n gs b=0:=by rw [t];exact fun b H=>hok.labs.1 b (List.mem_append.2 (Or.inr H))
 have u:∀ i (h:i < fs.length),okF K st.vs.length ls.length ms.length (i:Int) fs kf fs[i]:=by rw [hvn];exact hok.body
 have C:∀ s∈l,okS K st.vs.length ls.length ms.length (fs.length:Int) fs kf s:=by rw [hvn];exact hok.main
 have L:=P7 c w w.heap.size (O (some ⟨ob,0,none⟩) f f) gs st.vs st.fs J sp A K ls.length ms.length fs vs k hvn.symm p;have I:=RL c w w.heap.size (O (some ⟨ob,0,none⟩) f f) gs st.vs st.fs J sp A K ls.length ms.length fs vs k hvn.symm p;have S:=jDo c w w.heap.size (O (some ⟨ob,0,none⟩) f f) gs st.vs st.fs J sp A K ls.length ms.length fs vs k hvn.symm p ls F G rfl hok.ins ms B E rfl hok.outs kf y hok.funcs u L I;have R:=RG (K:=K) (nv:=st.vs.length) (ni:=ls.length) (no:=ms.length) (kf:=kf) (Th (bj:=w.heap.size) (av:=O (some ⟨ob,0,none⟩) f f) J fs hfn) (Fk c.n K (Ax gs) sp st.vs vs ls ms fs) 88 [zi (some ⟨w.heap.size,0,none⟩)] [] pmJ (O9 c.n K (Ax gs) sp st.vs vs ls ms fs) Mp S l y Q u C hok.many hok.funcs [] (w.alloc (.cells (c.cs++[Value.slice (some ⟨ob,0,none⟩) f f,Value.slice none 0 0]:List Value).toArray 165)) ⟨_,Pp c.cs (O (some ⟨ob,0,none⟩) f f) w rfl⟩ (by unfold pmJ;simp);subst g;exact R.mono fun e W' h=>⟨h.1,h.2.1⟩
theorem QJ (K kf:Nat) (m:Int) (ga gn gc sa sn sc ya yn yc oa on oc va vn vc fa fn fc ba bn bc) (gs sp ls ms vs fs l) (w:World) (h:BD K kf m ga gn gc sa sn sc ya yn yc oa on oc va vn vc fa fn fc ba bn bc gs sp ls ms vs fs l w) (P:Int->Prop) (KS:∀ W,Ov w W->Calls Tryz.prog 53 #[zh #[zd U m,O ga gn gc,O sa sn sc,O ya yn yc,O oa on oc,O va vn vc,O fa fn fc,O ba bn bc]] W fun e w'=>∃ why:Int,e=zj (zd U why)/\P why/\Ov W w') (hP:P 0->okP K kf m vn yn on gs sp ls ms vs fs l) (hS:P 0->(sp.length:Int)<=m) :
  Calls Tryz.prog 35 #[zh #[zd U m,O ga gn gc,O sa sn sc,O ya yn yc,O oa on oc,O va vn vc,O fa fn fc,O ba bn bc]] w (QV K kf m vn yn on gs sp ls ms vs fs l P w):=by
 have B:Ov w (w.alloc (ze #[zd U m,O ga gn gc,O sa sn sc,O ya yn yc,O oa on oc,O va vn vc,O fa fn fc,O ba bn bc] 31)):=bA w _;have k:=Ad.new [zd U m,O ga gn gc,O sa sn sc,O ya yn yc,O oa on oc,O va vn vc,O fa fn fc,O ba bn bc] 31 w;have K1:=Aa (Pr K kf m ga gn gc sa sn sc ya yn yc oa on oc va vn vc fa fn fc ba bn bc gs sp ls ms vs fs l _ (h.over B) P (fun W hW=>KS W (Ac B hW)) hP);have Z:=Aa B;have HR:=Aa k;have HH:=Aa h;have HS:=Aa hS;obtain ⟨p0,p1,p2,p3,p4,p5,p6,p7⟩:=rc8 k;clear B k h KS hP hS;go_enter Tryz.func35,Tryz.ntmps35;go_wp2_with fail;refine (K1.o).mono ?_;rintro e M ⟨why,y,u,F⟩;have A:=Aa (Ac Z.o u);have J:=Aa u;rcases F with ⟨E,rfl⟩ | ⟨rfl,i,n,st,la,ln,lc,ka,kn,kc,rfl,rfl,H,I,q,t,p,s,g,-,-⟩
 ·have hz:¬ why=0:=E
  have S:=Aa y;have T:=Aa E;clear y u E;go_wp2_with fail;refine bodyPost_ret (v:=zk #[O none 0 0,zd U why]) (by simp [results,Tryz.results35,go_sem]) rfl ?_;exact ⟨why,S.o,Ac A.o (bA _ _),Or.inl ⟨T.o,rfl⟩⟩
 ·have f:Ov M (M.alloc (ze #[O la ln lc,O ka kn kc] 44)):=bA _ _
  have r2:=Ad.new [O la ln lc,O ka kn kc] 44 M;obtain ⟨q0,q1⟩:=rc2 r2;obtain ⟨s0,s1,s2,s3,s4,s5,s6,s7⟩:=co8 (Ac u f) p0 p1 p2 p3 p4 p5 p6 p7;have KN:=Aa (Nw ⟨n,ga,gn,gc,sa,sn,sc,ya,yn,yc,oa,on,oc,va,vn,vc,fa,fn,fc,ba,bn,bc,la,ln,lc,ka,kn,kc⟩ gs _ (Af HH.o.grants (Ac A.o f)) i.chk);have KG:=Aa (fun (C:World) (b:Ov (M.alloc (ze #[O la ln lc,O ka kn kc] 44)) C) (ob:Nat) (N:CZ C ob n (Ax gs) n)=>Qj K kf n ga gn gc sa sn sc ya yn yc oa on oc va vn vc fa fn fc ba bn bc la ln lc ka kn kc gs sp ls ms vs fs l st C (HH.o.over (Ac (Ac A.o f) b)) i (HS.o y) (CH (CH H f) b) (CH (CH I f) b) q t p s ob N);have V:=Aa (Ac A.o f);have L:=Aa (show P 0/\okP K kf (n:Int) vn yn on gs sp ls ms vs fs l/\B2 n K kf gs vs ls fs l st/\(∀ x∈st.vs,x.len n)/\(∀ x∈st.fs,x.len n)/\st.vs.length=vn/\st.fs.length=fs.length from ⟨y,i,g,q,t,p,s⟩);clear y u i H I q t p s g r2 f A J HR p0 p1 p2 p3 p4 p5 p6 p7;go_wp2_with fail;refine (KN.o).mono ?_;rintro e w4 ⟨C,ob,rfl,N,b,rfl⟩;have R:=Aa (KG.o C b ob N);have G:=Aa (Ac V.o b);have r4:=Ad.new [zd U (n:Int),O ga gn gc,O sa sn sc,O ya yn yc,O oa on oc,O va vn vc,O fa fn fc,O ba bn bc,O la ln lc,O ka kn kc,O (some ⟨ob,0,none⟩) n n,O none 0 0] 165 C;obtain ⟨t0,t1,t2,t3,t4,t5,t6,t7,t8,t9⟩:=Ch r4;simp only [List.cons_append,List.nil_append] at *;clear N b r4 KG KN s0 s1 s2 s3 s4 s5 s6 s7 q0 q1;go_wp2_with fail;refine (R.o).mono ?_;rintro e w5 ⟨rfl,fv,Q⟩;have c11:=Q.c11;have HJ:=Aa Q;clear Q t0 t1 t2 t3 t4 t5 t6 t7 t8 t9;go_wp2_with fail;obtain ⟨h0,i,g,q,t,p,s⟩:=L.o;refine bodyPost_ret (v:=zk #[fv,zd U 0]) (by simp [results,Tryz.results35,go_sem]) rfl ?_;exact ⟨0,h0,G.o.trans (HJ.o.below.mono G.o.size),Or.inr ⟨rfl,i,n,st,fv,C.heap.size,rfl,rfl,g,q,t,p,s,G.o.size,HJ.o.own⟩⟩
abbrev Ev4:=Int × Int × Int × Int
structure WSt where
 vs:List Lev
 ps:List Lev
abbrev Ob:=Nat->Int->Nat->D->WSt->Bool × WSt
structure RSt where
 ev:List Ev4
 vars:List Int
 taken:List Int
 steps:Nat
 en:Int
 sp:Int
 o:WSt
def RSt.step (st:RSt):RSt:={ st with steps:=st.steps+1 }
def RSt.out (st:RSt):RSt:={ st with en:=2 }
def RSt.setv (st:RSt) (v x:Int):RSt:={ st with vars:=st.vars.set v.toNat x }
def RSt.tell (st:RSt) (e:Ev4):RSt:={ st with ev:=st.ev++[e] }
def RSt.took (st:RSt) (c:Int):RSt:={ st with taken:=st.taken.set c.toNat (st.taken.getD c.toNat 0+1) }
def RSt.held (st:RSt) (o:WSt):RSt:={ st with o:=o }
def RSt.stop (st:RSt) (a:Int) (o:WSt):RSt:={ st with o:=o,en:=3,sp:=a }
def Dj (ins:List (List Int)) (st:RSt) (c:Int):Int:=(ins.getD c.toNat []).getD (st.taken.getD c.toNat 0).toNat 0
def BP (vs:List Int) (l:List (Int × Int)):List Int:=l.foldl (fun vs q=>vs.set q.1.toNat q.2) vs
def A0 (r:Bool × RSt) (f:RSt->Bool × RSt):Bool × RSt:=if r.1=true then f r.2 else r
def Bq (ob:Ob) (kind:Nat) (a:Int) (dp:Nat) (d:D) (st:RSt):Bool × RSt:=
 if (ob kind a dp d st.o).1=true then (true,st.held (ob kind a dp d st.o).2) else (false,st.stop a (ob kind a dp d st.o).2)
def DR (K:Nat) (ins:List (List Int)) (d:D) (a:Int) (st:RSt):RSt:=
 if Ag d=1 then st.setv (Ap d) (AC st.vars K (Am d))
 else if Ag d=3 then (st.took (Ae d)).setv (Ap d) (Dj ins st (Ae d))
 else if Ag d=4 then st.tell (1,a,Ae d,AC st.vars K (Am d))
 else if Ag d=5 then (st.setv (Ap d) (AC st.vars K (Am d))).tell (2,a,Ap d,AC st.vars K (Am d))
 else if Ag d=6 then (st.setv (Ap d) (AC st.vars K (Am d))).tell (3,a,Ap d,AC st.vars K (Am d))
 else st
def RSt.args (K:Nat) (fs:List FnD) (d:D) (st:RSt):RSt:={ st with vars:=BP st.vars ((BV fs (Ae d)).ps.zip ((Ai d).map (AC st.vars K))) }
def rn (K kf:Nat) (fs:List FnD) (F:Nat) (ins:List (List Int)) (ob:Ob):Nat->Nat->Nat->List D->Int->Nat->RSt->Bool × RSt
 | 0,_,_,_,_,_,st=>(false,st)
 | g+1,0,k,l,a,dp,st=>
  match l with
  | []=>(true,st)
  | d::r=>if st.steps=F then (false,st.out) else A0 (Bq ob 1 a dp d st.step) (fun st1=>A0 (rn K kf fs F ins ob g 1 k [d] a dp st1) (fun st'=>rn K kf fs F ins ob g 0 k r (a+CY k d) dp st'))
 | g+1,1,k,l,a,dp,st=>
  match l with
  | []=>(true,st)
  | d::_=>
   if Ag d=2 then A0 (rn K kf fs F ins ob g 0 kf (BV fs (Ae d)).body (A2 kf (fs.take (Ae d).toNat)) dp (st.args K fs d)) (fun st1=>A0 (Bq ob 3 a dp d st1) (fun st'=>(true,st'.setv (Ap d) (AC st'.vars K (BV fs (Ae d)).res))))
   else if Ag d=7 then (if AC st.vars K (Am d)=0 then rn K kf fs F ins ob g 0 (k - 1) (Ao d) (a+1+AI (k - 1) (Aj d)) (dp+1) st else rn K kf fs F ins ob g 0 (k - 1) (Aj d) (a+1) (dp+1) st)
   else if Ag d=8 then rn K kf fs F ins ob g 2 k [d] a dp st
   else (true,DR K ins d a st)
 | g+1,_+2,k,l,a,dp,st=>
  match l with
  | []=>(true,st)
  | d::_=>if AC st.vars K (Am d)=0 then (true,st) else A0 (rn K kf fs F ins ob g 0 (k - 1) (Aj d) (a+1) (dp+1) st) (fun st'=>if st'.steps=F then (false,st'.out) else A0 (Bq ob 2 a dp d st'.step) (fun st1=>rn K kf fs F ins ob g 2 k [d] a dp st1))
structure Gr (st st':RSt):Prop where
 ev:st.ev <+: st'.ev
 steps:st.steps<=st'.steps
 len:st'.taken.length=st.taken.length
 taken:∀ c,st.taken.getD c 0<=st'.taken.getD c 0
theorem Gr.refl (st:RSt):Gr st st:=⟨List.prefix_rfl,Nat.le_refl _,rfl,fun _=>Int.le_refl _⟩
theorem Gr.trans {a b c:RSt} (h:Gr a b) (k:Gr b c):Gr a c:=⟨h.ev.trans k.ev,Nat.le_trans h.steps k.steps,k.len.trans h.len,fun x=>Int.le_trans (h.taken x) (k.taken x)⟩
theorem Gr.step (st:RSt):Gr st st.step:=⟨List.prefix_rfl,Nat.le_succ _,rfl,fun _=>Int.le_refl _⟩
theorem Gr.setv (st:RSt) (v x:Int):Gr st (st.setv v x):=⟨List.prefix_rfl,Nat.le_refl _,rfl,fun _=>Int.le_refl _⟩
theorem Gr.tell (st:RSt) (e:Ev4):Gr st (st.tell e):=⟨List.prefix_append _ _,Nat.le_refl _,rfl,fun _=>Int.le_refl _⟩
theorem Gr.args (K:Nat) (fs d) (st:RSt):Gr st (st.args K fs d):=⟨List.prefix_rfl,Nat.le_refl _,rfl,fun _=>Int.le_refl _⟩
theorem KU {l:List Int} {i j:Nat} {x:Int}:(l.set i x).getD j 0=if i=j/\i < l.length then x else l.getD j 0:=by
 rw [List.getD_eq_getElem?_getD,List.getD_eq_getElem?_getD,List.getElem?_set];by_cases h:i=j
 ·subst h
  by_cases h2:i < l.length
  ·simp [h2]
  ·simp [h2]
 ·simp [h]
theorem Gr.took (st:RSt) (c:Int):Gr st (st.took c):=⟨List.prefix_rfl,Nat.le_refl _,by simp [RSt.took],fun x=>by
 simp only [RSt.took,KU];split
 ·rename_i h
  rw [<-h.1];omega
 ·exact Int.le_refl _⟩
theorem Gr.one (K:Nat) (ins d) (a:Int) (st:RSt):Gr st (DR K ins d a st):=by
 unfold DR;split
 ·exact Gr.setv _ _ _
 ·split
  ·exact (Gr.took _ _).trans (Gr.setv _ _ _)
  ·split
   ·exact Gr.tell _ _
   ·split
    ·exact (Gr.setv _ _ _).trans (Gr.tell _ _)
    ·split
     ·exact (Gr.setv _ _ _).trans (Gr.tell _ _)
     ·exact Gr.refl _
theorem Gr.out (st:RSt):Gr st st.out:=⟨List.prefix_rfl,Nat.le_refl _,rfl,fun _=>Int.le_refl _⟩
theorem Gr.pass (ob:Ob) (kind:Nat) (a:Int) (dp:Nat) (d) (st:RSt):Gr st (Bq ob kind a dp d st).2:=by
 unfold Bq;split
 ·exact ⟨List.prefix_rfl,Nat.le_refl _,rfl,fun _=>Int.le_refl _⟩
 ·exact ⟨List.prefix_rfl,Nat.le_refl _,rfl,fun _=>Int.le_refl _⟩
theorem Ha (ob:Ob) (kind:Nat) (a:Int) (dp:Nat) (d) (st:RSt):(Bq ob kind a dp d st).2.steps=st.steps:=by
 unfold Bq;split <;> rfl
theorem CR {st:RSt} {r:Bool × RSt} {f:RSt->Bool × RSt} (h:Gr st r.2) (hf:∀ st',Gr st' (f st').2):Gr st (A0 r f).2:=by
 unfold A0;split
 ·exact h.trans (hf _)
 ·exact h
theorem Gn (K kf:Nat) (fs) (F:Nat) (ins) (ob:Ob):∀ (g m k:Nat) (l:List D) (a:Int) (dp:Nat) (st:RSt),Gr st (rn K kf fs F ins ob g m k l a dp st).2:=by
 intro g
 induction g with
 | zero=>intro m k l a dp st;exact Gr.refl _
 | succ g ih=>
  intro m k l a dp st
  match m,l with
  | 0,[]=>exact Gr.refl _
  | 0,d::r=>
   simp only [rn];split
   ·exact Gr.out _
   ·exact CR ((Gr.step st).trans (Gr.pass _ _ _ _ _ _)) (fun e=>CR (ih _ _ _ _ _ _) (fun b=>ih _ _ _ _ _ _))
  | 1,[]=>exact Gr.refl _
  | 1,d::r=>
   simp only [rn];split
   ·exact CR ((Gr.args K fs d st).trans (ih _ _ _ _ _ _)) (fun e=>CR (Gr.pass _ _ _ _ _ _) (fun b=>Gr.setv _ _ _))
   ·split
    ·split
     ·exact ih _ _ _ _ _ _
     ·exact ih _ _ _ _ _ _
    ·split
     ·exact ih _ _ _ _ _ _
     ·exact Gr.one _ _ _ _ _
  | m+2,[]=>exact Gr.refl _
  | m+2,d::r=>
   simp only [rn];split
   ·exact Gr.refl _
   ·refine CR (ih _ _ _ _ _ _) (fun b=>?_)
    split
    ·exact Gr.out _
    ·exact CR ((Gr.step b).trans (Gr.pass _ _ _ _ _ _)) (fun e=>ih _ _ _ _ _ _)
abbrev Cj (l:List Int):List Value:=l.map fun x=>Value.int U x
def Bi:List Ev4->List Value
 | []=>[]
 | e::r=>zd U e.1::zd U e.2.1::zd U e.2.2.1::zd U e.2.2.2::Bi r
theorem CP:∀ (l m:List Ev4),Bi (l++m)=Bi l++Bi m
 | [],m=>rfl
 | e::r,m=>by simp [Bi,CP r m]
structure Ow where
 ev:Value
 X:Nat->Prop
def Ow.at (E:Ow) (k:Nat):Prop:=E.ev.ownBlock=some k\/E.X k
def Yb (br b1 b2:Nat) (ev:Value) (k:Nat):Prop:=k=br\/k=b1\/k=b2\/ev.ownBlock=some k
structure Ca where
 fn:FuncId
 fre:List Value
 cap:List Value
 ent:∀ (args:Array Value) (w:World),(callFunc fn args).run Tryz.prog w=.ok (.enter fn args) w
 ob:Ob
 In:(Nat->Prop)->WSt->(Nat->Prop)->World->Prop
 ok:Nat->WSt->Prop
 lt:∀ {Y s X w},In Y s X w->∀ k,X k->k < w.heap.size/\¬ Y k
 kept:∀ {Y Y' s X w w'},In Y s X w->w'.os=w.os->w'.tape=w.tape->w'.output=w.output->w.heap.size<=w'.heap.size->(∀ k,k < w.heap.size->¬ Y k->w'.heap[k]? = w.heap[k]?)->(∀ k,Y' k->Y k\/w.heap.size<=k)->(∀ k,Y' k->k < w'.heap.size)->In Y' s X w'
 less:∀ {dp s},ok (dp+1) s->ok dp s
structure RnG (I:Ca) (B:Nat) (R:List Value) (br b1 b2 b3:Nat) (fl:List Int) (dp:Nat) (st:RSt) (ev:Ow) (w:World):Prop where
 row:Ad (ev.ev::O (some ⟨b1,0,none⟩) st.vars.length st.vars.length::O (some ⟨b2,0,none⟩) st.taken.length st.taken.length::zd U (st.steps:Int)::zd U st.en::zd U st.sp::(R++[zd U (dp:Int),.func (.func I.fn) I.fre.toArray I.cap.toArray])) w br
 vars:Ad (Cj st.vars) w b1
 taken:Ad (Cj st.taken) w b2
 first:Ad (Cj fl) w b3
 own:w.ownsRow B 136 4 ev.ev st.ev.length (Bi st.ev)
 z0:∀ j,w.frozen? ⟨br,j,none⟩=false
 z1:∀ j,w.frozen? ⟨b1,j,none⟩=false
 z2:∀ j,w.frozen? ⟨b2,j,none⟩=false
 apart:br≠b1/\br≠b2/\b1≠b2/\b3≠br/\b3≠b1/\b3≠b2
 evA:¬ ev.at br/\¬ ev.at b1/\¬ ev.at b2/\¬ ev.at b3
 lo:B<=br/\B<=b1/\B<=b2
 hi:br < w.heap.size/\b1 < w.heap.size/\b2 < w.heap.size/\b3 < w.heap.size/\B<=w.heap.size
 ob:I.In (Yb br b1 b2 ev.ev) st.o ev.X w
 xlo:∀ k,ev.X k->B<=k
 okd:I.ok dp st.o
theorem RnG.ev' {I:Ca} {B:Nat} {R:List Value} {br b1 b2 b3:Nat} {fl:List Int} {dp:Nat} {st:RSt} {ev:Ow} {w:World} (h:RnG I B R br b1 b2 b3 fl dp st ev w):∀ k,ev.at k->B<=k/\k < w.heap.size:=fun k hk=>by
 rcases hk with hk | hk
 ·exact h.own.lt k hk
 ·exact ⟨h.xlo k hk,(I.lt h.ob k hk).1⟩
theorem MJ {br b1 b2:Nat} {ev:Value} {B e s n:Nat} {xs:List Value} {w:World} (h:w.ownsRow B e s ev n xs) (h0:br < w.heap.size) (h1:b1 < w.heap.size) (h2:b2 < w.heap.size):∀ k,Yb br b1 b2 ev k->k < w.heap.size:=fun k hk=>by
 rcases hk with hk | hk | hk | hk
 ·omega
 ·omega
 ·omega
 ·exact (h.lt k hk).2
theorem RnG.over {I:Ca} {B:Nat} {R:List Value} {br b1 b2 b3:Nat} {fl:List Int} {dp:Nat} {st:RSt} {ev:Ow} {w w':World} (h:RnG I B R br b1 b2 b3 fl dp st ev w) (hb:Ov w w'):RnG I B R br b1 b2 b3 fl dp st ev w':=by
 obtain ⟨g,b⟩:=An hb;have f:=hb.size;refine ⟨h.row.over hb,h.vars.over hb,h.taken.over hb,h.first.over hb,?_,fun j=>(b _ _ h.hi.1).trans (h.z0 j),fun j=>(b _ _ h.hi.2.1).trans (h.z1 j),fun j=>(b _ _ h.hi.2.2.1).trans (h.z2 j),h.apart,h.evA,h.lo,⟨by have:=h.hi;omega,by have:=h.hi;omega,by have:=h.hi;omega,by have:=h.hi;omega,by have:=h.hi;omega⟩,I.kept h.ob hb.os hb.tape hb.output hb.size (fun k hk _=>hb.block k hk) (fun k hk=>Or.inl hk) (fun k hk=>Nat.lt_of_lt_of_le (MJ h.own h.hi.1 h.hi.2.1 h.hi.2.2.1 k hk) hb.size),h.xlo,h.okd⟩;have e:w.grownBy w' none:=⟨hb.os,hb.tape,hb.output,hb.size,fun k hk _=>hb.block k hk⟩;exact h.own.kept e (by cases hv:ev.ev.ownBlock <;> simp)
structure Fr (br b1 b2:Nat) (ev ev':Ow) (w w':World):Prop where
 os:w'.os=w.os
 tape:w'.tape=w.tape
 output:w'.output=w.output
 size:w.heap.size<=w'.heap.size
 block:∀ k,k < w.heap.size->k≠br->k≠b1->k≠b2->¬ ev.at k->w'.heap[k]? = w.heap[k]?
 evB:∀ k,ev'.at k->ev.at k\/w.heap.size<=k
theorem Fr.of_below {br b1 b2:Nat} {ev:Ow} {w w':World} (h:Ov w w'):Fr br b1 b2 ev ev w w':=⟨h.os,h.tape,h.output,h.size,fun k hk _ _ _ _=>h.block k hk,fun k hk=>Or.inl hk⟩
theorem Fr.refl (br b1 b2:Nat) (ev:Ow) (w:World):Fr br b1 b2 ev ev w w:=Fr.of_below (Below.refl _ _)
theorem Fr.trans {br b1 b2:Nat} {ev ev1 ev2:Ow} {w w1 w2:World} (h:Fr br b1 b2 ev ev1 w w1) (k:Fr br b1 b2 ev1 ev2 w1 w2):Fr br b1 b2 ev ev2 w w2:=by
 refine ⟨k.os.trans h.os,k.tape.trans h.tape,k.output.trans h.output,Nat.le_trans h.size k.size,fun i hi g f e b=>?_,fun i hi=>?_⟩
 ·refine (k.block i (Nat.lt_of_lt_of_le hi h.size) g f e (fun l=>?_)).trans (h.block i hi g f e b)
  rcases h.evB i l with he | he
  ·exact b he
  ·omega
 ·rcases k.evB i hi with he | he
  ·exact h.evB i he
  ·exact Or.inr (Nat.le_trans h.size he)
theorem Fr.over {br b1 b2:Nat} {ev ev1:Ow} {w w1 w2:World} (h:Fr br b1 b2 ev ev1 w w1) (k:Ov w1 w2):Fr br b1 b2 ev ev1 w w2:=h.trans (Fr.of_below k)
theorem Fr.cell {br b1 b2:Nat} {ev ev':Ow} {w w':World} (h:Fr br b1 b2 ev ev' w w') {b j:Nat} {u:Value} (hc:w.cell? ⟨b,j,none⟩=some u) (h0:b≠br) (h1:b≠b1) (h2:b≠b2) (h3:¬ ev.at b):w'.cell? ⟨b,j,none⟩=some u:=
 (World.cell?_of_block (h.block b (bL hc) h0 h1 h2 h3)).trans hc
section
variable {I:Ca} {B:Nat} {R:List Value} {br b1 b2 b3:Nat} {fl:List Int} {dp:Nat} {st:RSt} {ev:Ow} {w:World}
theorem RnG.below {ev':Ow} {w':World} (h:RnG I B R br b1 b2 b3 fl dp st ev w) (f:Fr br b1 b2 ev ev' w w'):Below B w w':=
 ⟨f.os,f.tape,f.output,f.size,fun k hk=>f.block k (by have:=h.hi;omega) (by have:=h.lo;omega) (by have:=h.lo;omega) (by have:=h.lo;omega) (fun hx=>by have:=(h.ev' k hx).1;omega)⟩
theorem RnG.box {ev':Ow} {w1 w2:World} {b j:Nat} {u:Value} (h:RnG I B R br b1 b2 b3 fl dp st ev w) (f:Fr br b1 b2 ev ev' w1 w2) (hb:w.heap.size<=b) (hc:w1.cell? ⟨b,j,none⟩=some u):w2.cell? ⟨b,j,none⟩=some u:=by
 have:=h.hi;exact f.cell hc (by omega) (by omega) (by omega) (fun e=>by have:=(h.ev' b e).2;omega)
theorem RnG.ints (h:RnG I B R br b1 b2 b3 fl dp st ev w):AN w (O (some ⟨b1,0,none⟩) st.vars.length st.vars.length) st.vars:=by
 refine ⟨_,_,rfl,fun _=>⟨b1,0,rfl,fun i hi=>?_⟩⟩;rw [Nat.zero_add];exact h.vars i _ (by simp [hi])
theorem Bg {r j:Nat} {u:Value}:w.grownBy (w.setCell ⟨r,j,none⟩ u) (some r):=C3 (n:=0)
theorem Be {a b j k:Nat} {u:Value}:(w.setCell ⟨a,j,none⟩ u).frozen? ⟨b,k,none⟩=w.frozen? ⟨b,k,none⟩:=by simp [go_sem]
theorem RnG.obSet (h:RnG I B R br b1 b2 b3 fl dp st ev w) (r j:Nat) (u:Value) (hr:r=br\/r=b1\/r=b2):I.In (Yb br b1 b2 ev.ev) st.o ev.X (w.setCell ⟨r,j,none⟩ u):=
 have g:=Bg (w:=w) (r:=r) (j:=j) (u:=u)
 I.kept h.ob g.os g.tape g.output g.size (fun k hk hy=>g.block k hk (fun e=>hy (by
  have e:=Option.some.inj e;rcases hr with hr | hr | hr
  ·exact Or.inl (by omega)
  ·exact Or.inr (Or.inl (by omega))
  ·exact Or.inr (Or.inr (Or.inl (by omega)))))) (fun k hk=>Or.inl hk) (fun k hk=>Nat.lt_of_lt_of_le (MJ h.own h.hi.1 h.hi.2.1 h.hi.2.2.1 k hk) g.size)
theorem RnG.set0 (h:RnG I B R br b1 b2 b3 fl dp st ev w) (j:Nat) (u:Value) {dp':Nat} {st':RSt} (hv:st'.vars=st.vars) (ht:st'.taken=st.taken) (he:st'.ev=st.ev) (ho:st'.o=st.o) (hd:I.ok dp' st.o) (hj:j < 8+R.length)
  (hr:(ev.ev::O (some ⟨b1,0,none⟩) st.vars.length st.vars.length::O (some ⟨b2,0,none⟩) st.taken.length st.taken.length::zd U (st.steps:Int)::zd U st.en::zd U st.sp::(R++[zd U (dp:Int),.func (.func I.fn) I.fre.toArray I.cap.toArray])).set j u=ev.ev::O (some ⟨b1,0,none⟩) st.vars.length st.vars.length::O (some ⟨b2,0,none⟩) st.taken.length st.taken.length::zd U (st'.steps:Int)::zd U st'.en::zd U st'.sp::(R++[zd U (dp':Int),.func (.func I.fn) I.fre.toArray I.cap.toArray])) :
  RnG I B R br b1 b2 b3 fl dp' st' ev (w.setCell ⟨br,j,none⟩ u):=by
 obtain ⟨g,f,p,e,l,i⟩:=h.apart;refine ⟨?_,?_,?_,h.first.other e,?_,fun k=>Be.trans (h.z0 k),fun k=>Be.trans (h.z1 k),fun k=>Be.trans (h.z2 k),h.apart,h.evA,h.lo,by simpa [World.setCell] using h.hi,?_,h.xlo,?_⟩
 ·rw [hv,ht,<-hr]
  exact h.row.set (by simp;omega)
 ·rw [hv];exact h.vars.other (Ne.symm g)
 ·rw [ht];exact h.taken.other (Ne.symm f)
 ·rw [he];exact h.own.kept Bg (Or.inr (fun b=>h.evA.1 (Or.inl b)))
 ·rw [ho];exact h.obSet br j u (Or.inl rfl)
 ·rw [ho];exact hd
theorem RnG.setStep (h:RnG I B R br b1 b2 b3 fl dp st ev w):RnG I B R br b1 b2 b3 fl dp st.step ev (w.setCell ⟨br,3,none⟩ (zd U ((st.steps:Int)+1))):=
 h.set0 3 _ rfl rfl rfl rfl h.okd (by omega) (by simp [RSt.step])
theorem RnG.setEnd (h:RnG I B R br b1 b2 b3 fl dp st ev w) (en':Int):RnG I B R br b1 b2 b3 fl dp { st with en:=en' } ev (w.setCell ⟨br,4,none⟩ (zd U en')):=
 h.set0 4 _ rfl rfl rfl rfl h.okd (by omega) (by simp)
theorem RnG.setStop (h:RnG I B R br b1 b2 b3 fl dp st ev w) (a:Int):RnG I B R br b1 b2 b3 fl dp { st with sp:=a } ev (w.setCell ⟨br,5,none⟩ (zd U a)):=
 h.set0 5 _ rfl rfl rfl rfl h.okd (by omega) (by simp)
theorem DX (h:RnG I B R br b1 b2 b3 fl dp st ev w) (j:Nat) (u:Value):Fr br b1 b2 ev ev w (w.setCell ⟨br,j,none⟩ u):=
 have g:=Bg (w:=w) (r:=br) (j:=j) (u:=u)
 ⟨g.os,g.tape,g.output,g.size,fun k hk h0 _ _ _=>g.block k hk (by simpa using h0),fun k hk=>Or.inl hk⟩
theorem EQ (h:RnG I B R br b1 b2 b3 fl dp st ev w) (j:Nat) (u:Value):Fr br b1 b2 ev ev w (w.setCell ⟨b1,j,none⟩ u):=
 have g:=Bg (w:=w) (r:=b1) (j:=j) (u:=u)
 ⟨g.os,g.tape,g.output,g.size,fun k hk _ h0 _ _=>g.block k hk (by simpa using h0),fun k hk=>Or.inl hk⟩
theorem QE (h:RnG I B R br b1 b2 b3 fl dp st ev w) (j:Nat) (u:Value):Fr br b1 b2 ev ev w (w.setCell ⟨b2,j,none⟩ u):=
 have g:=Bg (w:=w) (r:=b2) (j:=j) (u:=u)
 ⟨g.os,g.tape,g.output,g.size,fun k hk _ _ h0 _=>g.block k hk (by simpa using h0),fun k hk=>Or.inl hk⟩
theorem RnG.setVar (h:RnG I B R br b1 b2 b3 fl dp st ev w) (v x:Int) (hv:v.toNat < st.vars.length):RnG I B R br b1 b2 b3 fl dp (st.setv v x) ev (w.setCell ⟨b1,v.toNat,none⟩ (zd U x)):=by
 obtain ⟨g,p,f,l,e,i⟩:=h.apart;refine ⟨?_,?_,h.taken.other (Ne.symm f),h.first.other e,h.own.kept Bg (Or.inr (fun b=>h.evA.2.1 (Or.inl b))),fun k=>Be.trans (h.z0 k),fun k=>Be.trans (h.z1 k),fun k=>Be.trans (h.z2 k),h.apart,h.evA,h.lo,by simpa [World.setCell] using h.hi,h.obSet b1 _ _ (Or.inr (Or.inl rfl)),h.xlo,h.okd⟩
 ·have:=h.row.other (j:=v.toNat) (v:=zd U x) g
  simpa [RSt.setv] using this
 ·have:=h.vars.set (j:=v.toNat) (v:=zd U x) (by simpa using hv)
  simpa [RSt.setv,Cj] using this
theorem RnG.setTaken (h:RnG I B R br b1 b2 b3 fl dp st ev w) (c:Nat) (x:Int) (hv:c < st.taken.length):RnG I B R br b1 b2 b3 fl dp { st with taken:=st.taken.set c x } ev (w.setCell ⟨b2,c,none⟩ (zd U x)):=by
 obtain ⟨p,g,f,l,i,e⟩:=h.apart;refine ⟨?_,h.vars.other f,?_,h.first.other e,h.own.kept Bg (Or.inr (fun b=>h.evA.2.2.1 (Or.inl b))),fun k=>Be.trans (h.z0 k),fun k=>Be.trans (h.z1 k),fun k=>Be.trans (h.z2 k),h.apart,h.evA,h.lo,by simpa [World.setCell] using h.hi,h.obSet b2 _ _ (Or.inr (Or.inr rfl)),h.xlo,h.okd⟩
 ·have:=h.row.other (j:=c) (v:=zd U x) g
  simpa using this
 ·have:=h.taken.set (j:=c) (v:=zd U x) (by simpa using hv)
  simpa [Cj] using this
theorem RnG.grown {v':Value} {w':World} (h:RnG I B R br b1 b2 b3 fl dp st ev w) (e:Ev4) (hg:w.grownBy w' ev.ev.ownBlock) (ho:w'.ownsRow B 136 4 v' (st.ev.length+1) (Bi st.ev++Bi [e])) (hat:v'.ownBlock=ev.ev.ownBlock\/v'.ownBlock=some w.heap.size) :
  RnG I B R br b1 b2 b3 fl dp (st.tell e) ⟨v',ev.X⟩ (w'.setCell ⟨br,0,none⟩ v')/\Fr br b1 b2 ev ⟨v',ev.X⟩ w (w'.setCell ⟨br,0,none⟩ v'):=by
 obtain ⟨P,O,U,N,T,S⟩:=h.apart;have A:ev.ev.ownBlock≠some br:=fun f=>h.evA.1 (Or.inl f);have E:ev.ev.ownBlock≠some b1:=fun f=>h.evA.2.1 (Or.inl f);have C:ev.ev.ownBlock≠some b2:=fun f=>h.evA.2.2.1 (Or.inl f);have M:ev.ev.ownBlock≠some b3:=fun f=>h.evA.2.2.2 (Or.inl f);have hi:=h.hi;have hk:∀ b,b < w.heap.size->ev.ev.ownBlock≠some b->w'.heap[b]? = w.heap[b]?:=fun b s l=>hg.block b s (fun f=>l f.symm);have i:∀ (cs:List Value) (b:Nat),Ad cs w b->b < w.heap.size->ev.ev.ownBlock≠some b->Ad cs w' b:=fun cs b G s l j u F=>(World.cell?_of_block (hk b s l)).trans (G j u F);have l:∀ b,b < w.heap.size->ev.ev.ownBlock≠some b->v'.ownBlock≠some b:=fun b s f=>by
  rcases hat with h1 | h1
  ·rw [h1];exact f
  ·rw [h1];intro hy;injection hy;omega
 have p:∀ b,b < w.heap.size->¬ ev.at b->¬ (Ow.mk v' ev.X).at b:=fun b s f hy=>by
  rcases hy with hy | hy
  ·exact l b s (fun q=>f (Or.inl q)) hy
  ·exact f (Or.inr hy)
 have y:∀ b k,b < w.heap.size->ev.ev.ownBlock≠some b->w'.frozen? ⟨b,k,none⟩=w.frozen? ⟨b,k,none⟩:=fun b k s f=>World.frozen?_of_block (hk b s f);have Q:=hg.size;have g:=Bg (w:=w') (r:=br) (j:=0) (u:=v');constructor
 ·refine ⟨?_,(i _ _ h.vars hi.2.1 E).other (Ne.symm P),(i _ _ h.taken hi.2.2.1 C).other (Ne.symm O),(i _ _ h.first hi.2.2.2.1 M).other N,?_,fun k=>Be.trans ((y _ _ hi.1 A).trans (h.z0 k)),fun k=>Be.trans ((y _ _ hi.2.1 E).trans (h.z1 k)),fun k=>Be.trans ((y _ _ hi.2.2.1 C).trans (h.z2 k)),h.apart,⟨p _ hi.1 h.evA.1,p _ hi.2.1 h.evA.2.1,p _ hi.2.2.1 h.evA.2.2.1,p _ hi.2.2.2.1 h.evA.2.2.2⟩,h.lo,by simp [World.setCell];omega,?_,h.xlo,h.okd⟩
  ·have:=(i _ _ h.row hi.1 A).set (j:=0) (v:=v') (by simp)
   simpa [RSt.tell] using this
  ·have hl:(st.tell e).ev.length=st.ev.length+1:=by simp [RSt.tell]
   have H:Bi (st.tell e).ev=Bi st.ev++Bi [e]:=CP _ _;rw [hl,H];exact ho.kept Bg (Or.inr (l _ hi.1 A))
  ·refine I.kept h.ob (g.os.trans hg.os) (g.tape.trans hg.tape) (g.output.trans hg.output) (Nat.le_trans hg.size g.size) (fun k t hy=>(g.block k (by omega) (fun q=>hy (Or.inl (Option.some.inj q)))).trans (hk k t (fun q=>hy (Or.inr (Or.inr (Or.inr q)))))) (fun k hy=>?_) (fun k hy=>?_)
   rotate_left
   ·exact Nat.lt_of_lt_of_le (MJ ho (Nat.lt_of_lt_of_le hi.1 hg.size) (Nat.lt_of_lt_of_le hi.2.1 hg.size) (Nat.lt_of_lt_of_le hi.2.2.1 hg.size) k hy) g.size
   rcases hy with hy | hy | hy | hy
   ·exact Or.inl (Or.inl hy)
   ·exact Or.inl (Or.inr (Or.inl hy))
   ·exact Or.inl (Or.inr (Or.inr (Or.inl hy)))
   ·rcases hat with h1 | h1
    ·rw [h1] at hy;exact Or.inl (Or.inr (Or.inr (Or.inr hy)))
    ·rw [h1] at hy;injection hy with hy;exact Or.inr (by omega)
 ·refine ⟨g.os.trans hg.os,g.tape.trans hg.tape,g.output.trans hg.output,Nat.le_trans hg.size g.size,fun k t L _ _ J=>(g.block k (by omega) (by simpa using L)).trans (hk k t (fun q=>J (Or.inl q))),fun k hy=>?_⟩
  rcases hy with hy | hy
  ·rcases hat with h1 | h1
   ·exact Or.inl (Or.inl (h1 ▸ hy))
   ·have hy:v'.ownBlock=some k:=hy
    rw [h1] at hy;injection hy with hy;exact Or.inr (by omega)
  ·exact Or.inl (Or.inr hy)
end
structure Bh (nv ni F:Nat) (st:RSt):Prop where
 vl:st.vars.length=nv
 tl:st.taken.length=ni
 i32:∀ x∈st.vars,I32 x
 tk:∀ x∈st.taken,0<=x/\x<=(st.steps:Int)
 el:st.ev.length<=st.steps
 sb:st.steps<=F
theorem Bh.step {nv ni F:Nat} {st:RSt} (h:Bh nv ni F st) (hs:st.steps < F):Bh nv ni F st.step:=
 ⟨h.vl,h.tl,h.i32,fun x hx=>⟨(h.tk x hx).1,by have:=(h.tk x hx).2;simp [RSt.step];omega⟩,Nat.le_succ_of_le h.el,hs⟩
theorem Bh.o {nv ni F:Nat} {st:RSt} (h:Bh nv ni F st):Bh nv ni F st.out:=⟨h.vl,h.tl,h.i32,h.tk,h.el,h.sb⟩
theorem Bh.pass {nv ni F:Nat} {st:RSt} (h:Bh nv ni F st) (ob:Ob) (kind:Nat) (a:Int) (dp:Nat) (d):Bh nv ni F (Bq ob kind a dp d st).2:=by
 unfold Bq;split
 ·exact ⟨h.vl,h.tl,h.i32,h.tk,h.el,h.sb⟩
 ·exact ⟨h.vl,h.tl,h.i32,h.tk,h.el,h.sb⟩
theorem Jt {l:List Int} {i:Nat} {x y:Int} (h:y∈l.set i x):y=x\/y∈l:=by
 rcases List.mem_or_eq_of_mem_set h with h | h
 ·exact Or.inr h
 ·exact Or.inl h
theorem Bh.setv {nv ni F:Nat} {st:RSt} (h:Bh nv ni F st) {v x:Int} (hx:I32 x):Bh nv ni F (st.setv v x):=
 ⟨by simp [RSt.setv,h.vl],h.tl,fun y hy=>by rcases Jt hy with rfl | hy;exact hx;exact h.i32 y hy,h.tk,h.el,h.sb⟩
theorem Bh.tell {nv ni F:Nat} {st:RSt} (h:Bh nv ni F st) (e:Ev4) (hl:st.ev.length < st.steps):Bh nv ni F (st.tell e):=
 ⟨h.vl,h.tl,h.i32,h.tk,by simp [RSt.tell];omega,h.sb⟩
structure Gl (nv ni F:Nat) (st:RSt):Prop where
 ok:Bh nv ni F st
 el:st.ev.length < st.steps
 tk:∀ x∈st.taken,x+1<=(st.steps:Int)
theorem Bh.stepS {nv ni F:Nat} {st:RSt} (h:Bh nv ni F st) (hs:st.steps < F):Gl nv ni F st.step:=
 ⟨h.step hs,Nat.lt_succ_of_le h.el,fun x hx=>by have:=(h.tk x hx).2;show x+1<=((st.steps+1:Nat):Int);omega⟩
theorem Gl.pass {nv ni F:Nat} {st:RSt} (h:Gl nv ni F st) (ob:Ob) (kind:Nat) (a:Int) (dp:Nat) (d):Gl nv ni F (Bq ob kind a dp d st).2:=by
 refine ⟨h.ok.pass ob kind a dp d,?_,?_⟩
 ·unfold Bq
  split
  ·exact h.el
  ·exact h.el
 ·unfold Bq
  split
  ·exact h.tk
  ·exact h.tk
theorem Gl.took {nv ni F:Nat} {st:RSt} (h:Gl nv ni F st) (c:Int):Bh nv ni F (st.took c):=by
 refine ⟨h.ok.vl,by simp [RSt.took,h.ok.tl],h.ok.i32,fun y hy=>?_,h.ok.el,h.ok.sb⟩;have b:(st.took c).steps=st.steps:=rfl;rw [b];rcases Jt hy with rfl | hy
 ·have:st.taken.getD c.toNat 0=0\/st.taken.getD c.toNat 0∈st.taken:=by
   rw [List.getD_eq_getElem?_getD];cases hc:st.taken[c.toNat]? with
   | none=>exact e.inl rfl
   | some x=>exact e.inr (List.mem_of_getElem? hc)
  rcases this with hz | hz
  ·have:=h.el;rw [hz];omega
  ·have:=h.ok.tk _ hz;have:=h.tk _ hz;omega
 ·exact h.ok.tk y hy
theorem Gl.tell {nv ni F:Nat} {st:RSt} (h:Gl nv ni F st) (e:Ev4):Bh nv ni F (st.tell e):=h.ok.tell e h.el
theorem Gl.setv {nv ni F:Nat} {st:RSt} (h:Gl nv ni F st) {v x:Int} (hx:I32 x):Gl nv ni F (st.setv v x):=⟨h.ok.setv hx,h.el,h.tk⟩
theorem RE {w w0 w1:World} {a0 a1:Addr} {v0 v1:Value} (h:w0.cell? a0=some v0/\w0.cell? a1=some v1/\Ov w w0) (hb:Ov w0 w1) :
  w1.cell? a0=some v0/\w1.cell? a1=some v1/\Ov w w1:=⟨Ab hb _ _ h.1,Ab hb _ _ h.2.1,Ac h.2.2 hb⟩
theorem Ng (kd va ot ek en:Int) (xa xl xc aa al ac ta tl tc ea el ec) (n1 n2:Int) (w:World) (h1:0<=n1/\n1<=100) (h2:0<=n2/\n2<=100)
  (KT:Hx (∀ W,Ov w W->Calls Tryz.prog 181 #[O ta tl tc] W fun e w'=>e=zj (zd U n1)/\Ov W w'))
  (KE:Hx (∀ W,Ov w W->Calls Tryz.prog 181 #[O ea el ec] W fun e w'=>e=zj (zd U n2)/\Ov W w')) :
  Calls Tryz.prog 185 #[zh #[zd U kd,zd U va,zd U ot,zd U ek,zd U en,O xa xl xc,O aa al ac,O ta tl tc,O ea el ec]] w fun e w'=>e=zj (zd U (1+n1+n2))/\Ov w w':=by
 have b:Ov w (w.alloc (ze #[zd U kd,zd U va,zd U ot,zd U ek,zd U en,O xa xl xc,O aa al ac,O ta tl tc,O ea el ec] 130)):=bA w _;have f:=B3 w [zd U kd,zd U va,zd U ot,zd U ek,zd U en,O xa xl xc,O aa al ac,O ta tl tc,O ea el ec] 130;have h:=f 7 _ rfl;have g:=f 8 _ rfl;clear f;obtain ⟨u,t⟩:=h1;obtain ⟨s,q⟩:=h2;go_enter Tryz.func185,Tryz.ntmps185;go_wp2_with fail;go_region_held3 (fun W=>W.cell? ⟨w.heap.size,7,none⟩=some (O ta tl tc)/\W.cell? ⟨w.heap.size,8,none⟩=some (O ea el ec)/\Ov w W) (first | assumption | exact ⟨h,g,below_drewN b 1⟩ | exact RE (by assumption) hbp | exact RE (by assumption) hbq | fail) (first | (go_at_call_of 181 (Value.slice ta tl tc);refine (KT.o _ (by assumption:_/\_/\Below _ _ _).2.2).mono ?_;rintro e p ⟨rfl,hbp⟩) | (go_at_call_of 181 (Value.slice ea el ec);refine (KE.o _ (by assumption:_/\_/\Below _ _ _).2.2).mono ?_;rintro e l ⟨rfl,hbq⟩));obtain ⟨-,-,i⟩:=(by assumption:_/\_/\Below _ _ _);have k:Hx (IntKind.i64.wrap (IntKind.i64.wrap (1+n1)+n2)=1+n1+n2):=by
  show _=_;rw [IntWalk.i64_in (1+n1) (by omega),IntWalk.i64_in _ (by omega)]
 clear h g b KT KE;go_wp2_with fail;go_ret;refine ⟨?_,i⟩;first | rfl | (rw [<-k.o];rfl)
def Mz (K k:Nat):Prop:=∀ (v:Value) (l:List D) (w:World),Bj w K k v l->AI k l<=100->Calls Tryz.prog 181 #[v] w fun e w'=>e=zj (zd U (AI k l:Nat))/\Ov w w'
def My (K k:Nat):Prop:=∀ (cs:List Value) (d:D) (w:World),RS w K k cs d->CY k d<=100->Calls Tryz.prog 185 #[.agg cs.toArray] w fun e w'=>e=zj (zd U (CY k d:Nat))/\Ov w w'
theorem IK (K k:Nat) (h:Mz K k):My K (k+1):=by
 intro cs d w p q;have b:CY (k+1) d=1+AI k (Aj d)+AI k (Ao d):=rfl;obtain ⟨u,en,g,e,f,C,B,l,i,A,y,rfl,-,-,-,-,-,s,t,-,-,-⟩:=p.form;rw [b] at q ⊢;have:=Ng (Ag d) (Ap d) (Ae d) u en g e f C (Ai d).length B l (Aj d).length i A (Ao d).length y (AI k (Aj d):Nat) (AI k (Ao d):Nat) w (by omega) (by omega)
  (Aa fun W hW=>h _ _ W (s.over hW) (by omega)) (Aa fun W hW=>h _ _ W (t.over hW) (by omega))
 push_cast
 exact this
theorem MR (K k:Nat) (h:My K k):Mz K k:=by
 intro v l w hl hc;have ad:l.length<=9223372036854775807:=hl.1;obtain ⟨ao,cap,rfl,E⟩:=hl.2;have HC:=Aa E;have HS:=Aa h;have ab:=Aa hc;clear E hl h hc;go_enter Tryz.func181,Tryz.ntmps181;go_wp2_with fail;go_loopw [3,8] (fun c i wr=>∃ j:Nat,j<=l.length/\i=zd U j/\c=zd U (AI k (l.take j):Nat)/\Ov w wr) (fun _ i _=>l.length - (intOf i).toNat)
 case atStart=>exact ⟨0,Nat.zero_le _,rfl,by simp [AI],Below.refl _ w⟩
 case round=>
  obtain ⟨j,hj,rfl,rfl,g⟩:=hrel;by_cases hjl:j < l.length
  ·obtain ⟨b,off,rfl,C⟩:=HC.o (by rintro rfl;simp at hjl)
   obtain ⟨cs,R,f,L⟩:=C j l[j] (List.getElem?_eq_getElem hjl);have q:=Gd (k:=k) hjl;have Q:AI k (l.take (j+1))<=100:=by
    have e1:AI k l=AI k (l.take (j+1))+AI k (l.drop (j+1)):=by
     unfold AI;rw [<-List.sum_append,<-List.map_append,List.take_append_drop]
    have:=ab.o;omega
   obtain ⟨J,rfl⟩:∃ J,k=J + 1:=by
    cases k with
    | zero=>exact L.elim
    | succ k=>exact ⟨k,rfl⟩
   have P:=Aa fun W (hW:Ov w W)=>HS.o cs l[j] W (RS.mono (Ab hW) _ _ _ _ (Nat.le_refl _) L) (by omega);obtain ⟨ek,en,xa,xl,xc,aa,ac,ta,tc,ea,ec,B,-,-,-,-,-,-,-,-,-,-⟩:=L.form;subst B;obtain ⟨kd,y⟩:=nm (Ag l[j]);obtain ⟨va,s⟩:=nm (Ap l[j]);obtain ⟨ot,u⟩:=nm (Ae l[j]);obtain ⟨al,H⟩:=nm ((Ai l[j]).length);obtain ⟨tl,t⟩:=nm ((Aj l[j]).length);obtain ⟨el,A⟩:=nm ((Ao l[j]).length);rw [<-y,<-s,<-u,<-H,<-t,<-A] at f P;obtain ⟨M,T⟩:∃ M:Nat,M=AI (J + 1) (l.take j):=⟨_,rfl⟩;obtain ⟨N,S⟩:∃ N:Nat,N=CY (J + 1) l[j]:=⟨_,rfl⟩;rw [<-T,<-S] at q;rw [<-S] at P;rw [<-T];have Z:=Aa q;have a2:M+N<=100:=by omega
   have q0:wr.cell? ⟨b,off+j*9,none⟩=_:=Ab g _ _ (f 0 _ rfl);have q1:=Ab g _ _ (f 1 _ rfl);have q2:=Ab g _ _ (f 2 _ rfl);have q3:=Ab g _ _ (f 3 _ rfl);have q4:=Ab g _ _ (f 4 _ rfl);have q5:=Ab g _ _ (f 5 _ rfl);have q6:=Ab g _ _ (f 6 _ rfl);have q7:=Ab g _ _ (f 7 _ rfl);have q8:=Ab g _ _ (f 8 _ rfl);have F:Ov wr (wr.alloc (ze #[zd U kd,zd U va,zd U ot,zd U ek,zd U en,O xa xl xc,O aa al ac,O ta tl tc,O ea el ec] 130)):=bA wr _;have p:=g.trans (F.mono g.size);have I:=Aa (P.o _ p);clear f C L R y s u H t A T S q Q P HS;go_wp2_with fail;refine (I.o).mono ?_;rintro e w1 ⟨rfl,G⟩;have V:=p.trans (G.mono p.size);clear I G p F q0 q1 q2 q3 q4 q5 q6 q7 q8 g;go_wp2_with fail;refine ⟨⟨j+1,by omega,by go_num,?_,V⟩,by simp [intOf];omega⟩;rw [Z.o];simp
  ·have hd:l.take j=l:=List.take_of_length_le (by omega)
   rw [hd];go_wp2_with fail;go_ret;exact ⟨rfl,g⟩
theorem FD (K:Nat):∀ k,Mz K k
 | 0=>MR K 0 (fun cs d w hr _=>hr.elim)
 | k+1=>MR K (k+1) (IK K k (FD K k))
theorem OT (K:Nat):∀ k,My K k
 | 0=>fun cs d w hr _=>hr.elim
 | k+1=>IK K k (FD K k)
end Go.Proofs.YtfffpjkcfnekaaaGreat.Ex
