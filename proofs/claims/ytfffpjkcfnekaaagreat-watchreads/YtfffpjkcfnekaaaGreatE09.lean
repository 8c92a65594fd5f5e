/- One who judges: a command that trusts. -/
import Derived.Test.YtfffpjkcfnekaaaGreatE08
import Derived.Maps.AppendAt
set_option linter.unusedVariables false
set_option maxHeartbeats 8000000
set_option maxRecDepth 100000
namespace Go.Proofs.YtfffpjkcfnekaaaGreat.Ex
open Go.RowKit
open Go.Value renaming slice -> O, int -> zd, bool -> zg, agg -> zh, pointer -> zi, tuple -> zk
open Go.IntKind renaming i64 -> U
open Go.Obj renaming cells -> ze
open Go.Ending renaming returned -> zj
theorem Cw {P:Program} {id:Nat} {ops:Array Oper} {dr:Bool} {Q:Exit->Act->World->Prop} {a:Act} {w:World} (R:Act->World->Prop) (h:(Code.region id ops dr).wp P (Ef R) a w) (hq:∀ a w,R a w->Q .normal a w):(Code.region id ops dr).wp P Q a w:=
 wp_mono h fun e a w h=>by cases e <;> first | exact hq _ _ h | exact h.elim
theorem J5 {P:Program} {id:Nat} {ops:Array Oper} {dr:Bool} {Q:Exit->Act->World->Prop} {a:Act} {w:World} (h:(Code.region id ops dr).wp P (Ef (Q .normal)) a w):(Code.region id ops dr).wp P Q a w:=
 Cw (Q .normal) h fun _ _ h=>h
theorem Ba {R:Act->World->Prop} {a:Act} {w:World} (h:R a w):Ef R .normal a w:=h
structure ZB (b:Nat) (W:World):Prop where
 c0:W.cell? ⟨b,0,none⟩=some (O none 0 0)
 c1:W.cell? ⟨b,1,none⟩=some (O none 0 0)
 z0:W.frozen? ⟨b,0,none⟩=false
 z1:W.frozen? ⟨b,1,none⟩=false
theorem ZB.lt {b:Nat} {W:World} (h:ZB b W):b < W.heap.size:=bL h.c0
theorem DJ (t:Nat) (W:World):ZB W.heap.size (W.alloc (ze #[O none 0 0,O none 0 0] t)):=⟨by simp [go_sem],by simp [go_sem],by simp [go_sem],by simp [go_sem]⟩
theorem Jc {b:Nat} {W:World} (h:ZB b W):ZB b W.drew:=⟨h.c0,h.c1,h.z0,h.z1⟩
theorem ZB.over {b:Nat} {W W':World} (h:ZB b W) (hb:Ov W W'):ZB b W':=⟨Ab hb _ _ h.c0,Ab hb _ _ h.c1,((An hb).2 _ _ h.lt).trans h.z0,((An hb).2 _ _ h.lt).trans h.z1⟩
def BC (W:World) (b:Nat) (x y:Value):World:=(W.setCell ⟨b,0,none⟩ x).setCell ⟨b,1,none⟩ y
theorem ZB.fill {b:Nat} {W:World} (h:ZB b W) (x y:Value):Ad [x,y] (BC W b x y) b:=by
 have c:Ad [O none 0 0,O none 0 0] W b:=fun j u a=>by
  match j with
  | 0=>simp at a;subst a;exact h.c0
  | 1=>simp at a;subst a;exact h.c1
  | j+2=>simp at a
 have r:=BK (j:=1) (v:=y) (BK (j:=0) (v:=x) c (by simp)) (by simp);simpa [BC] using r
theorem Ck {W:World} {b:Nat} {x y:Value} {k:Nat} (h:k≠b):(BC W b x y).heap[k]? = W.heap[k]?:=by
 unfold BC;rw [Au (Ne.symm h),Au (Ne.symm h)]
theorem H3 {W:World} {b:Nat} {x y:Value}:(BC W b x y).heap.size=W.heap.size:=by simp [BC,World.setCell]
theorem ZB.other {b b':Nat} {W:World} (h:ZB b W) (hne:b≠b') (x y:Value):ZB b (BC W b' x y):=
 ⟨(World.cell?_of_block (a:=⟨b,0,none⟩) (Ck hne)).trans h.c0,(World.cell?_of_block (a:=⟨b,1,none⟩) (Ck hne)).trans h.c1,(World.frozen?_of_block (a:=⟨b,0,none⟩) (Ck hne)).trans h.z0,(World.frozen?_of_block (a:=⟨b,1,none⟩) (Ck hne)).trans h.z1⟩
theorem J4 {cs:List Value} {b b':Nat} {W:World} (h:Ad cs W b) (hne:b≠b') (x y:Value):Ad cs (BC W b' x y) b:=fun j u hu=>(World.cell?_of_block (a:=⟨b,j,none⟩) (Ck hne)).trans (h j u hu)
theorem B7 {B:Nat} {A W:World} (h:Below B A W) {b:Nat} (hb:B<=b) (x y:Value):Below B A (BC W b x y):=(h.setCell hb _).setCell hb _
theorem EO {n bj b:Nat} {W:World} {v:Value} {l:Lev} (h:Aw n (XJ bj) W v l) (hz:ZB b W) (hne:bj≠b) (x y:Value):Aw n (XJ bj) (BC W b x y) v l:=by
 obtain ⟨u,w,g,i,hw⟩:=h.off;have f:∀ k,XJ bj (BC W b x y) k->XJ bj W k:=by
  rintro k (hk | hk | ⟨q,j,o⟩)
  ·rw [H3] at hk;exact Or.inl hk
  ·exact Or.inr (Or.inl hk)
  ·exact Or.inr (Or.inr ⟨q,(World.cell?_of_block (a:=⟨bj,11,none⟩) (Ck hne)).symm.trans j,o⟩)
 have d:(W.setCell ⟨b,0,none⟩ x).cell? ⟨b,1,none⟩=some (O none 0 0):=by rw [World.cell?_setCell_other _ _ _ _ (by simp)];exact hz.c1
 exact ⟨Cz d (Cz hz.c0 h.at_ _) _,h.len,u,w,g,fun a m c e q=>i a m c e (f _ q),fun a m c e q=>hw a m c e (f _ q)⟩
def TB (bj:Nat) (L:List (Nat × List Value)) (W:World):Prop:=∀ q∈L,Ad q.2 W q.1/\¬ XJ bj W q.1/\q.1 < W.heap.size
theorem TB.keep {bj:Nat} {L:List (Nat × List Value)} {W W':World} (h:TB bj L W) (hf:FrW (XJ bj) W W'):TB bj L W':=fun q hq=>⟨hf.row (h q hq).1 (h q hq).2.1,fun e=>(h q hq).2.1 (hf.mov _ (h q hq).2.2 e),Nat.lt_of_lt_of_le (h q hq).2.2 hf.size⟩
theorem TB.row {bj:Nat} {L:List (Nat × List Value)} {W:World} (h:TB bj L W) (i:Nat) {q:Nat × List Value} (hi:L[i]? = some q):Ad q.2 W q.1:=(h q (List.mem_of_getElem? hi)).1
theorem TB.off {bj:Nat} {L:List (Nat × List Value)} {W:World} (h:TB bj L W) (i:Nat) {q:Nat × List Value} (hi:L[i]? = some q):¬ XJ bj W q.1:=(h q (List.mem_of_getElem? hi)).2.1
theorem TB.add {bj:Nat} {L:List (Nat × List Value)} {W:World} (h:TB bj L W) {b:Nat} {cs:List Value} (hr:Ad cs W b) (hx:¬ XJ bj W b) (hl:b < W.heap.size):TB bj ((b,cs)::L) W:=fun q hq=>by
 rcases List.mem_cons.1 hq with rfl | hq
 ·exact ⟨hr,hx,hl⟩
 ·exact h q hq
theorem TB.nil {bj:Nat} {W:World}:TB bj [] W:=fun q hq=>by cases hq
theorem EU (n:Nat):(A7 n).len n:=by simp [A7,Lev.len]
theorem Kr {n:Nat} {gs:List (Int × Int)} {b:Lab} (h:Bb n gs b=0):(b.r.length<=4/\∀ q∈b.r,E5 n q)/\(b.w.length<=4/\∀ q∈b.w,E5 n q):=by
 unfold Bb at h;split at h
 ·exact IV h
 ·rename_i a;exact absurd h a
abbrev Rf (bj:Nat) (c:WC) (bv ov bl ol:Nat) (W:World) (jv:Nat) (ek en:Int) (xa:Option Addr) (xl xc:Nat) (a1:Option Addr) (a2 a3:Nat) (a4:Option Addr) (a5 a6:Nat) (Wz:World):Prop:=Wz.cell? ⟨bj,0,none⟩=some (zd U (c.n:Int))/\Wz.cell? ⟨bj,1,none⟩=some (O c.ga c.gn c.gc)/\Wz.cell? ⟨bj,2,none⟩=some (O c.sa c.sn c.sc)/\Wz.cell? ⟨bj,3,none⟩=some (O c.ya c.yn c.yc)/\Wz.cell? ⟨bj,4,none⟩=some (O c.oa c.on c.oc)/\Wz.cell? ⟨bj,5,none⟩=some (O (some ⟨bv,ov,none⟩) c.vn c.vc)/\Wz.cell? ⟨bj,6,none⟩=some (O c.fa c.fn c.fc)/\Wz.cell? ⟨bj,7,none⟩=some (O c.ba c.bn c.bc)/\Wz.cell? ⟨bj,8,none⟩=some (O (some ⟨bl,ol,none⟩) c.ln c.lc)/\Wz.cell? ⟨bj,9,none⟩=some (O c.ka c.kn c.kc)/\Wz.cell? ⟨W.heap.size,1,none⟩=some (zd U (jv:Int))/\Wz.cell? ⟨W.heap.size,3,none⟩=some (zd U ek)/\Wz.cell? ⟨W.heap.size,4,none⟩=some (zd U en)/\Wz.cell? ⟨W.heap.size,5,none⟩=some (O xa xl xc)/\Wz.cell? ⟨bl,ol+jv*2,none⟩=some (O a1 a2 a3)/\Wz.cell? ⟨bl,ol+jv*2+1,none⟩=some (O a4 a5 a6)
abbrev Re (bj:Nat) (c:WC) (bv ov bl ol:Nat) (W:World) (p1:Option Addr) (q1 r1:Nat) (p2:Option Addr) (q2 r2 bo:Nat) (a1:Option Addr) (a2 a3:Nat) (a4:Option Addr) (a5 a6:Nat) (Wz:World):Prop:=Wz.cell? ⟨bj,0,none⟩=some (zd U (c.n:Int))/\Wz.cell? ⟨bj,1,none⟩=some (O c.ga c.gn c.gc)/\Wz.cell? ⟨bj,2,none⟩=some (O c.sa c.sn c.sc)/\Wz.cell? ⟨bj,3,none⟩=some (O c.ya c.yn c.yc)/\Wz.cell? ⟨bj,4,none⟩=some (O c.oa c.on c.oc)/\Wz.cell? ⟨bj,5,none⟩=some (O (some ⟨bv,ov,none⟩) c.vn c.vc)/\Wz.cell? ⟨bj,6,none⟩=some (O c.fa c.fn c.fc)/\Wz.cell? ⟨bj,7,none⟩=some (O c.ba c.bn c.bc)/\Wz.cell? ⟨bj,8,none⟩=some (O (some ⟨bl,ol,none⟩) c.ln c.lc)/\Wz.cell? ⟨bj,9,none⟩=some (O c.ka c.kn c.kc)/\Wz.cell? ⟨W.heap.size+1,0,none⟩=some (O p1 q1 r1)/\Wz.cell? ⟨W.heap.size+1,1,none⟩=some (O p2 q2 r2)/\Wz.cell? ⟨bo,0,none⟩=some (O a1 a2 a3)/\Wz.cell? ⟨bo,1,none⟩=some (O a4 a5 a6)
abbrev Ou (bj bv ov:Nat) (c:WC) (W:World) (jv:Nat) (kn:Bool) (pa1:Option Addr) (pn1 pc1:Nat) (pa2:Option Addr) (pn2 pc2:Nat) (Wz:World):Prop:=Wz.cell? ⟨bj,5,none⟩=some (O (some ⟨bv,ov,none⟩) c.vn c.vc)/\Wz.cell? ⟨W.heap.size,1,none⟩=some (zd U (jv:Int))/\Wz.cell? ⟨bv,ov+jv*3,none⟩=some (zg kn)/\Wz.cell? ⟨bv,ov+jv*3+1,none⟩=some (O pa1 pn1 pc1)/\Wz.cell? ⟨bv,ov+jv*3+2,none⟩=some (O pa2 pn2 pc2)
theorem RL (c) (w0:World) (bj:Nat) (av:Value) (gs Ls Fs) (J:JSt c w0 gs Ls Fs) (sp) (A:JAc c w0 av (Ax gs) sp) (K ni no:Nat) (fs vs) (hvs:Bs w0 (O c.va c.vn c.vc) vs) (hvn:vs.length=Ls.length) (hvc:∀ v∈vs,Bb c.n gs v.2=0) :
  Gi c w0 bj av K Ls.length ni no fs 6 (GZ c.n K (Ax gs) sp Ls vs) 153:=by
 intro fl fv s a k cs lv d p gt W gq h m hl ef dg hk;obtain ⟨p1,q1,r1,p2,q2,C,eq⟩:=hl.form;have ep:lv=[O p1 q1 r1,O p2 q2 C]:=by simpa using eq
 subst ep;clear eq;obtain ⟨ek,en,xa,Y,Z,aa,ac,ta,tc,ea,ec,rfl,i0,i1,i2,hX,hA,hT,hE,-,-,-⟩:=ef.form;have gm:=dg.2.1 (by omega);obtain ⟨z,cm⟩:∃ j:Nat,Ap d=(j:Int):=⟨(Ap d).toNat,by omega⟩;have cn:z < Ls.length:=by omega
 have br:z < vs.length:=by omega
 obtain ⟨bl,ol,a1,a2,a3,a4,a5,a6,bq,es,k0,k1,bm⟩:=Fh J.levs cn;have e3:=hvs;obtain ⟨gk,ib,ia,gl,ak⟩:=hvs;injection gl with v1 v2 v3;obtain ⟨bv,ov,d9,ak⟩:=ak (by rintro rfl;simp at br);have ax:c.va=some ⟨bv,ov,none⟩:=v1.trans d9;have eb:c.vn=vs.length:=v2;have eu:sC (Ag d) (Ap d) (Ae d) ek en xa Y Z aa (Ai d).length ac ta (Aj d).length tc ea (Ao d).length ec=sC 6 (z:Int) (Ae d) ek en xa Y Z aa (Ai d).length ac ta (Aj d).length tc ea (Ao d).length ec:=by rw [hk,cm]
 rw [eu];clear eu;obtain ⟨ot,ej⟩:=nm (Ae d);obtain ⟨al,ez⟩:=nm ((Ai d).length);obtain ⟨tn,ed⟩:=nm ((Aj d).length);obtain ⟨el,ew⟩:=nm ((Ao d).length);rw [<-ej,<-ez,<-ed,<-ew];have dl:Ls.getD (Ap d).toNat Ah=Ls[z]:=by rw [cm];simp [List.getD_eq_getElem?_getD,cn]
 obtain ⟨lz,dh⟩:=nm (Ls[z]);have c6:lz.len c.n:=by rw [dh];exact J.lens _ (List.getElem_mem cn)
 rw [<-dh] at bm dl;have ev:vs.getD (Ap d).toNat (false,⟨[],[]⟩)=vs[z]:=by rw [cm];simp [List.getD_eq_getElem?_getD,br]
 have dq:c.v=(zh #[zd U (c.n:Int),O c.ga c.gn c.gc,O c.sa c.sn c.sc,O c.ya c.yn c.yc,O c.oa c.on c.oc,O (some ⟨bv,ov,none⟩) c.vn c.vc,O c.fa c.fn c.fc,O c.ba c.bn c.bc,O (some ⟨bl,ol,none⟩) c.ln c.lc,O c.ka c.kn c.kc]):=by show Value.agg #[zd U (c.n:Int),O c.ga c.gn c.gc,O c.sa c.sn c.sc,O c.ya c.yn c.yc,O c.oa c.on c.oc,O c.va c.vn c.vc,O c.fa c.fn c.fc,O c.ba c.bn c.bc,O c.la c.ln c.lc,O c.ka c.kn c.kc]=_;rw [ax,bq]
 obtain ⟨pr,pw,g0,g1,g2,ei,df⟩:=ak z br;obtain ⟨L,H,I,rfl⟩:=Az ei;obtain ⟨F,D,E,rfl⟩:=Az df;obtain ⟨V1,a8⟩:=nm (((W.alloc (ze #[zd U 6,zd U (z:Int),zd U ot,zd U ek,zd U en,O xa Y Z,O aa al ac,O ta tn tc,O ea el ec] 130)).alloc (ze #[O p1 q1 r1,O p2 q2 C] 50)));have a7:Ov W V1:=by rw [a8];exact (bA W _).alloc (by simp) _
 obtain ⟨tl,de⟩:=nm ((A6 c.n Ls (A7 c.n) (AG K (Am d))));have aj:=Aa (h.over a7);have cz:=Aa J.n1;have fm:=Aa (fun (f:World) {fl2:List (Int × Int)} {fv2:Value} (l:AM c.cs w0 bj av fl2 fv2 f)=>Hk J.n1 l bm c6);have da:Hx (∀ (f:World),Calls Tryz.prog 104 #[(zh #[zd U (c.n:Int),O c.ga c.gn c.gc,O c.sa c.sn c.sc,O c.ya c.yn c.yc,O c.oa c.on c.oc,O (some ⟨bv,ov,none⟩) c.vn c.vc,O c.fa c.fn c.fc,O c.ba c.bn c.bc,O (some ⟨bl,ol,none⟩) c.ln c.lc,O c.ka c.kn c.kc])] f fun e w'=>∃ vj,e=zj vj/\A1 f w' vj (A7 c.n)/\Ov f w'):=fun f=>by
  have:=ET c.n J.n1 J.n6 c.ga c.gn c.gc c.sa c.sn c.sc c.ya c.yn c.yc c.oa c.on c.oc c.va c.vn c.vc c.fa c.fn c.fc c.ba c.bn c.bc c.la c.ln c.lc c.ka c.kn c.kc f;rw [ax,bq] at this;exact this
 have KW:Hx (∀ (f:World) {x:Value},AM c.cs w0 bj av fl fv f->Aw c.n (XJ bj) f x (A7 c.n)->Calls Tryz.prog 103 #[(zh #[zd U (c.n:Int),O c.ga c.gn c.gc,O c.sa c.sn c.sc,O c.ya c.yn c.yc,O c.oa c.on c.oc,O (some ⟨bv,ov,none⟩) c.vn c.vc,O c.fa c.fn c.fc,O c.ba c.bn c.bc,O (some ⟨bl,ol,none⟩) c.ln c.lc,O c.ka c.kn c.kc]),x,zh #[zd U ek,zd U en,O xa Y Z]] f fun e w'=>(∃ p1 q1 r1 p2 q2 C,e=zj (zh #[O p1 q1 r1,O p2 q2 C])/\Aw c.n (XJ bj) w' (zh #[O p1 q1 r1,O p2 q2 C]) tl)/\Ov f w'):=fun f x l hx=>by
  have:=JT J l x (A7 c.n) K [zd U ek,zd U en,O xa Y Z] (Am d) hx hX (Bd dg);rw [dq,<-de] at this;exact this
 obtain ⟨f5,dp⟩:=nm (Av p lz c.n);have KF:Hx (∀ (f:World) {fl2:List (Int × Int)} {fv2 x y:Value},AM c.cs w0 bj av fl2 fv2 f->Aw c.n (XJ bj) f x p->Aw c.n (XJ bj) f y lz->Calls Tryz.prog 57 #[(zh #[zd U (c.n:Int),O c.ga c.gn c.gc,O c.sa c.sn c.sc,O c.ya c.yn c.yc,O c.oa c.on c.oc,O (some ⟨bv,ov,none⟩) c.vn c.vc,O c.fa c.fn c.fc,O c.ba c.bn c.bc,O (some ⟨bl,ol,none⟩) c.ln c.lc,O c.ka c.kn c.kc]),x,y] f fun e W'=>e=zj (zg f5)/\Ov f W'):=fun f fl2 fv2 x y l hx hy=>by
  have:=DY c gs x y _ _ f (Af J.gr l.below) J.chk hx.at_ hx.len hy.at_ hy.len;rw [dq,<-dp] at this;exact this
 have KB:=Aa (fun (f:World) {fl2:List (Int × Int)} {fv2:Value} (l:AM c.cs w0 bj av fl2 fv2 f) (hj:f.cell? ⟨s,0,none⟩=some (zi (some ⟨bj,0,none⟩))) (ha:f.cell? ⟨s+1,0,none⟩=some (zd U a)) (nj:¬ XJ bj f s) (na:¬ XJ bj f (s+1)) (go:fl2.length<=1000) (k:Int) (is:Bool)=>Ge c.cs w0 bj av fl2 fv2 a k is s (s+1) f l hj ha nj na go);have et:=hvc vs[z] (List.getElem_mem br);have bp:=Kr et;unfold GZ toL JV Eb;rw [dl,ev,<-dp,<-de];obtain ⟨f6,dn⟩:=nm ((vs[z].2.w.any fun q=>FB (Ax gs) c.n sp q.owner.toNat));obtain ⟨kn,di⟩:=nm (vs[z].1);obtain ⟨f8,dm⟩:=nm (((List.range c.n).any fun i=>lz.r[i]?.getD false && !(tl.r[i]?.getD false)));rw [<-dn,<-di,<-dm];rw [<-di] at g0;have KM:Hx (∀ (f:World) {fl2:List (Int × Int)} {fv2:Value},AM c.cs w0 bj av fl2 fv2 f->Calls Tryz.prog 202 #[zi (some ⟨bj,0,none⟩),O F D E] f fun e W'=>e=zj (zg f6)/\Ov f W'):=fun f fl2 fv2 l=>by
  rw [dn];exact Rv c w0 bj av fl2 fv2 (Ax gs) sp A _ _ f l J.n6 (Ak df l.below) (by have:=bp.2.1;omega) (fun q hq=>(bp.2.2 q hq).1)
 have KS:Hx (∀ (f:World) {fl2:List (Int × Int)} {fv2:Value} {bt bo:Nat} {u1 u2:Value},AM c.cs w0 bj av fl2 fv2 f->f.cell? ⟨bo,0,none⟩=some (O a1 a2 a3)->f.cell? ⟨bt,0,none⟩=some u1->Aw c.n (XJ bj) f (zh #[u1,u2]) tl->Calls Tryz.prog 203 #[zi (some ⟨bj,0,none⟩),.func (.func 207) #[] #[zi (some ⟨bo,0,none⟩),zi (some ⟨bt,0,none⟩)]] f fun e W'=>e=zj (zg f8)/\Ov f W'):=fun f fl2 fv2 bt bo u1 u2 l ho ht bk=>by
  rw [dm];have er:=fm.o f l;obtain ⟨x,y,e1,b1,-⟩:=id er.at_;obtain ⟨x',y',e2,b2,-⟩:=id bk.at_;simp at e1 e2;obtain ⟨rfl,rfl⟩:=e1;obtain ⟨rfl,rfl⟩:=e2;refine FU c w0 bj av fl2 fv2 207 [zi (some ⟨bo,0,none⟩),zi (some ⟨bt,0,none⟩)] _ f l J.n6 (fun i hi w1 t=>?_) JH;exact PW c.n i bo bt _ _ _ _ w1 J.n6 hi (Ab t _ _ ho) (Ab t _ _ ht) (AF b1 t) er.len.1 (AF b2 t) bk.len.1
 have cb:Hx (TB bj [(W.heap.size,[zd U 6,zd U (z:Int),zd U ot,zd U ek,zd U en,O xa Y Z,O aa al ac,O ta tn tc,O ea el ec]),(W.heap.size+1,[O p1 q1 r1,O p2 q2 C]),(s,[zi (some ⟨bj,0,none⟩)]),(s+1,[zd U a])] V1):=by
  have hF:=FrW.of_below (Al bj) a7;have e3:V1.heap.size=W.heap.size+1+1:=by rw [a8];simp
  have ay:∀ q,W.heap.size<=q->¬ XJ bj V1 q:=fun q hq e=>by have:=(h.xlt q ((Al bj).below _ _ a7 q e)).2;omega
  refine TB.add (TB.add (TB.add (TB.add TB.nil ?_ ?_ ?_) ?_ ?_ ?_) ?_ (ay _ (by omega)) (by omega)) ?_ (ay _ (Nat.le_refl _)) (by omega)
  ·exact hF.row (fun j u hu=>by match j with | 0=>simp at hu;subst hu;exact m.a | j+1=>simp at hu) (m.x _ (by omega) (by omega))
  ·exact fun e=>m.x _ (by omega) (by omega) (hF.mov _ (by have:=m.lt;omega) e)
  ·have:=m.lt;have:=hF.size;omega
  ·exact hF.row (fun j u hu=>by match j with | 0=>simp at hu;subst hu;exact m.j | j+1=>simp at hu) (m.x _ (by omega) (by omega))
  ·exact fun e=>m.x _ (by omega) (by omega) (hF.mov _ (by have:=m.lt;omega) e)
  ·have:=m.lt;have:=hF.size;omega
  ·rw [a8]
   have r:=Ad.new [O p1 q1 r1,O p2 q2 C] 50 (W.alloc (ze #[zd U 6,zd U (z:Int),zd U ot,zd U ek,zd U en,O xa Y Z,O aa al ac,O ta tn tc,O ea el ec] 130));simpa using r
  ·rw [a8]
   exact (Ad.new [zd U 6,zd U (z:Int),zd U ot,zd U ek,zd U en,O xa Y Z,O aa al ac,O ta tn tc,O ea el ec] 130 W).over (bA _ _)
 have HS:Hx (∀ (f:World),Ov V1 f->Rf bj c bv ov bl ol W z ek en xa Y Z a1 a2 a3 a4 a5 a6 f):=fun f ey=>by
  have l:=aj.o.over ey;have C:Ad [zd U 6,zd U (z:Int),zd U ot,zd U ek,zd U en,O xa Y Z,O aa al ac,O ta tn tc,O ea el ec] f W.heap.size:=(cb.o.row 0 rfl).over ey;exact ⟨l.cw 0 _ rfl,l.cw 1 _ rfl,l.cw 2 _ rfl,l.cw 3 _ rfl,l.cw 4 _ rfl,by rw [<-ax];exact l.cw 5 _ rfl,l.cw 6 _ rfl,l.cw 7 _ rfl,by rw [<-bq];exact l.cw 8 _ rfl,l.cw 9 _ rfl,C 1 _ rfl,C 3 _ rfl,C 4 _ rfl,C 5 _ rfl,Ab l.below _ _ k0,Ab l.below _ _ k1⟩
 have cx:Hx (∀ (f:World) {fl2:List (Int × Int)} {fv2:Value} {bt bo bw:Nat} {t1:Option Addr} {t2 t3:Nat} {t4:Option Addr} {t5 t6:Nat},AM c.cs w0 bj av fl2 fv2 f->TB bj ((bw,[zg kn,O L H I,O F D E])::[(bt,[O t1 t2 t3,O t4 t5 t6]),(bo,[O a1 a2 a3,O a4 a5 a6]),(W.heap.size,[zd U 6,zd U (z:Int),zd U ot,zd U ek,zd U en,O xa Y Z,O aa al ac,O ta tn tc,O ea el ec]),(W.heap.size+1,[O p1 q1 r1,O p2 q2 C]),(s,[zi (some ⟨bj,0,none⟩)]),(s+1,[zd U a])]) f->Re bj c bv ov bl ol W p1 q1 r1 p2 q2 C bo a1 a2 a3 a4 a5 a6 f):=fun f fl2 fv2 bt bo bw t1 t2 t3 t4 t5 t6 l C=>⟨l.cw 0 _ rfl,l.cw 1 _ rfl,l.cw 2 _ rfl,l.cw 3 _ rfl,l.cw 4 _ rfl,by rw [<-ax];exact l.cw 5 _ rfl,l.cw 6 _ rfl,l.cw 7 _ rfl,by rw [<-bq];exact l.cw 8 _ rfl,l.cw 9 _ rfl,(C.row 4 rfl) 0 _ rfl,(C.row 4 rfl) 1 _ rfl,(C.row 2 rfl) 0 _ rfl,(C.row 2 rfl) 1 _ rfl⟩;have dc:Hx (∀ (f:World),AM c.cs w0 bj av fl fv f->f.cell? ⟨W.heap.size,1,none⟩=some (zd U (z:Int))->Ou bj bv ov c W z kn L H I F D E f):=fun f l C=>⟨by rw [<-ax];exact l.cw 5 _ rfl,C,Ab l.below _ _ g0,Ab l.below _ _ g1,Ab l.below _ _ g2⟩;have c4:Hx (Ov V1 V1.drew):=(bD _);have fk:=Aa (hl.over (Al bj) a7);have f1:=Aa (FrW.of_below (Al bj) a7);have fx:Hx (fl.length<=1000):=by unfold Hx;omega
 have fw:Hx ((addF a 5 fl (!f5)).length<=1000):=Nat.le_trans (AV _ _ _ _) (by omega);have fu:Hx ((addF a 6 (addF a 5 fl (!f5)) f6).length<=1000):=Nat.le_trans (AV _ _ _ _) (by have:=AV a 5 fl (!f5);omega);have ft:Hx ((addF a 7 (addF a 6 (addF a 5 fl (!f5)) f6) (!kn)).length<=1000):=Nat.le_trans (AV _ _ _ _) (by have:=AV a 5 fl (!f5);have:=AV a 6 (addF a 5 fl (!f5)) f6;omega);have iy:(z:Int) < (c.ln:Int):=by omega
 have ix:c.ln<=16:=by rw [es];exact J.l16
 have iw:(z:Int) < (c.vn:Int):=by omega
 have iv:c.vn<=16:=by have:=J.l16;omega
 obtain ⟨u0,u1,u2,u3,u4,u5,u6,u7,u8,u9,u10,u11,u12,u13,u14,u15⟩:=HS.o _ (Below.refl _ _);clear dh c6 de dp dn di dm g0 g1 g2 ei df et bp dl ev dq d9 ax eb ak v1 v2 v3 gk bq es k0 k1 bm cm gm ej ez ed ew hl ef hX hA hT hE dg J A e3 hvc gq hk i0 i1 i2 cn br a7 m h;go_enter Tryz.func153,Tryz.ntmps153;go_wp2_with fail;rw [<-a8];clear a8;refine Cw (fun c9 f=>∃ (bt bo:Nat) (x11 x12 x13 x14 x15 x16 x17 x18 x19 x20 x21 x22 x23 x24 x25 x26 x27 x28 x29 x30 x31 x32:Value) (t1:Option Addr) (t2 t3:Nat) (t4:Option Addr) (t5 t6:Nat),c9={ tmps:=#[zi (some ⟨bj,0,none⟩),zh #[zd U 6,zd U (z:Int),zd U ot,zd U ek,zd U en,O xa Y Z,O aa al ac,O ta tn tc,O ea el ec],zh #[O p1 q1 r1,O p2 q2 C],.func (.func 149) #[] #[zi (some ⟨s,0,none⟩),zi (some ⟨s+1,0,none⟩)],undef,zi (some ⟨W.heap.size,0,none⟩),zi (some ⟨W.heap.size+1,0,none⟩),undef,zi (some ⟨bt,0,none⟩),zi (some ⟨bo,0,none⟩),undef,x11,x12,x13,x14,x15,x16,x17,x18,x19,x20,x21,x22,x23,x24,x25,x26,x27,x28,x29,x30,x31,x32,undef,undef,undef,undef,undef,undef,undef,undef,undef,undef,undef,undef,undef,undef,undef,undef,undef,undef,undef,undef,undef,undef,undef,undef,undef,undef,undef,undef,undef,undef,undef,undef,undef,undef,undef,undef,undef],defers:=[] }/\Ov V1 f/\Ad [O t1 t2 t3,O t4 t5 t6] f bt/\Ad [O a1 a2 a3,O a4 a5 a6] f bo/\Aw c.n (XJ bj) f (zh #[O t1 t2 t3,O t4 t5 t6]) tl/\(V1.heap.size<=bt/\bt < f.heap.size)/\(V1.heap.size<=bo/\bo < f.heap.size)/\bt≠bo) ?_ ?_
 ·refine gS (Rf bj c bv ov bl ol W z ek en xa Y Z a1 a2 a3 a4 a5 a6) (HS.o _ c4.o) fun g=>?_
  refine kT 0 ?_;refine kT 1 ?_;refine kT 2 ?_;refine kT 3 ?_;refine kT 4 ?_;refine kT 5 ?_;refine kT 6 ?_;refine kT 7 ?_;refine kT 9 ?_;refine kT 10 ?_;refine kT 12 ?_;refine kT 13 ?_;refine kT 14 ?_;refine kT 15 ?_;refine kT 16 ?_;refine kT 17 ?_;refine kT 18 ?_;refine kT 19 ?_;refine kT 20 ?_;refine kT 21 ?_;have G:=c4;generalize V1.drew=Wc at G g ⊢;clear c4;refine rdC 8 22 23 rfl (fun K h8=>?_) rfl (fun K P=>?_) rfl (fun K N=>?_) (by decide +kernel);all_goals repeat' first
   | (
    have hi:=h8;clear hi;go_simp;refine (da.o _).mono ?_;rintro e Wc ⟨vj,rfl,hL,t⟩;have hN:=Bm hL;have hA:=Aq hL;obtain ⟨v1,v2,rfl,eo,em,-⟩:=hL;obtain ⟨y1,y2,y3,rfl⟩:=AE eo;obtain ⟨y4,y5,y6,rfl⟩:=AE em;have hN:=EL hN G.o.size;replace G:=Aa (Ac G.o t);have bd:=Aa (⟨hA,EU _,B8 (Al bj) G.o (fun k hk=>(aj.o.xlt k hk).2) hN⟩:Aw c.n (XJ bj) Wc _ (A7 c.n));(try replace HT:=Aa (HT.o.over t))
    (try replace HO:=Aa (HO.o.over t))
    clear hN hA eo em t;go_simp;refine xK h8 (HS.o _ G.o) fun g=>?_;clear h8 K;first | (refine rdC 11 22 23 rfl (fun K Q=>?_) rfl (fun K P=>?_) rfl (fun K N=>?_) (by decide +kernel)) | (refine rdA 11 rfl (fun K Q=>?_) (by decide +kernel)) | (refine rdB 11 22 rfl (fun K Q=>?_) rfl (fun K P=>?_) (by decide +kernel)) | (refine rdB 11 23 rfl (fun K Q=>?_) rfl (fun K N=>?_) (by decide +kernel)))
   | (
    have hi:=Q;clear hi;go_simp;refine (KW.o _ (aj.o.over G.o) bd.o).mono ?_;rintro e Wc ⟨⟨o1,o2,o3,o4,o5,o6,rfl,hL⟩,t⟩;replace G:=Aa (Ac G.o t);(try replace HT:=Aa (HT.o.over t))
    (try replace HO:=Aa (HO.o.over t))
    have bb:=Aa hL;clear bd hL t;go_simp;refine xK Q (HS.o _ G.o) fun g=>?_;clear Q K;first | (refine rdB 22 23 rfl (fun K P=>?_) rfl (fun K N=>?_) (by decide +kernel)) | (refine rdA 24 rfl (fun K bz=>?_) (by decide +kernel)) | (refine rdA 22 rfl (fun K P=>?_) (by decide +kernel)) | (refine rdA 23 rfl (fun K N=>?_) (by decide +kernel)))
   | (
    have hi:=P;clear hi;have t:=bA Wc (ze #[O none 0 0,O none 0 0] 50);have hz:=DJ 50 Wc;have dj:=G.o.size;obtain ⟨bt,hq⟩:∃ b:Nat,b=Wc.heap.size:=⟨_,rfl⟩;rw [<-hq] at hz dj;(try have a0:bt≠bo:=by have:=HO.o.lt;omega)
    go_simp;rw [<-hq];obtain ⟨Wc,B⟩:=nm (Wc.alloc (ze #[O none 0 0,O none 0 0] 50));rw [<-B] at t hz ⊢;replace G:=Aa (Ac G.o t);(try replace HO:=Aa (HO.o.over t))
    (try replace bd:=Aa (bd.o.over (Al bj) t))
    (try replace bb:=Aa (bb.o.over (Al bj) t))
    have HT:=Aa hz;clear t hz B hq;refine xK P (HS.o _ G.o) fun g=>?_;clear P K;first | (refine rdA 24 rfl (fun K bz=>?_) (by decide +kernel)) | (refine rdB 8 23 rfl (fun K h8=>?_) rfl (fun K N=>?_) (by decide +kernel)) | (refine rdB 11 23 rfl (fun K Q=>?_) rfl (fun K N=>?_) (by decide +kernel)) | (refine rdA 23 rfl (fun K N=>?_) (by decide +kernel)) | (refine rdA 8 rfl (fun K h8=>?_) (by decide +kernel)) | (refine rdA 11 rfl (fun K Q=>?_) (by decide +kernel)))
   | (
    have hi:=N;clear hi;have t:=bA Wc (ze #[O none 0 0,O none 0 0] 50);have hz:=DJ 50 Wc;have dk:=G.o.size;obtain ⟨bo,hq⟩:∃ b:Nat,b=Wc.heap.size:=⟨_,rfl⟩;rw [<-hq] at hz dk;(try have a0:bt≠bo:=by have:=HT.o.lt;omega)
    go_simp;rw [<-hq];obtain ⟨Wc,B⟩:=nm (Wc.alloc (ze #[O none 0 0,O none 0 0] 50));rw [<-B] at t hz ⊢;replace G:=Aa (Ac G.o t);(try replace HT:=Aa (HT.o.over t))
    (try replace bd:=Aa (bd.o.over (Al bj) t))
    (try replace bb:=Aa (bb.o.over (Al bj) t))
    have HO:=Aa hz;clear t hz B hq;refine xK N (HS.o _ G.o) fun g=>?_;clear N K;first | (refine rdA 24 rfl (fun K bz=>?_) (by decide +kernel)) | (refine rdB 8 22 rfl (fun K h8=>?_) rfl (fun K P=>?_) (by decide +kernel)) | (refine rdB 11 22 rfl (fun K Q=>?_) rfl (fun K P=>?_) (by decide +kernel)) | (refine rdA 22 rfl (fun K P=>?_) (by decide +kernel)) | (refine rdA 8 rfl (fun K h8=>?_) (by decide +kernel)) | (refine rdA 11 rfl (fun K Q=>?_) (by decide +kernel)))
   | (
    have hi:=bz;clear hi;have d0:=HT.o.c0;have d1:=HT.o.c1;have z0:=HT.o.z0;have z1:=HT.o.z1;have ip:bj < V1.heap.size:=aj.o.lo.2;obtain ⟨Wn,B⟩:=nm (BC Wc bt (O o1 o2 o3) (O o4 o5 o6));replace G:Hx (Ov V1 Wn):=by rw [B];exact B7 G.o dj _ _
    replace HO:Hx (ZB bo Wn):=by rw [B];exact HO.o.other (Ne.symm a0) _ _
    have HR:Hx (Ad [O o1 o2 o3,O o4 o5 o6] Wn bt):=by rw [B];exact HT.o.fill _ _
    have HL:Hx (Aw c.n (XJ bj) Wn (zh #[O o1 o2 o3,O o4 o5 o6]) tl):=by rw [B];exact EO bb.o HT.o (by omega) _ _
    unfold BC at B;go_simp;rw [<-B];clear B d0 d1 z0 z1 bb HT;refine xK bz (HS.o _ G.o) fun g=>?_;clear bz K;refine rdA 25 rfl (fun K dt=>?_) (by decide +kernel))
   | (
    have hi:=dt;clear hi;have e0:=HO.o.c0;have e1:=HO.o.c1;have y0:=HO.o.z0;have y1:=HO.o.z1;obtain ⟨Wm,ae⟩:=nm (BC Wn bo (O a1 a2 a3) (O a4 a5 a6));replace G:Hx (Ov V1 Wm):=by rw [ae];exact B7 G.o dk _ _
    replace HR:Hx (Ad [O o1 o2 o3,O o4 o5 o6] Wm bt):=by rw [ae];exact J4 HR.o a0 _ _
    have HQ:Hx (Ad [O a1 a2 a3,O a4 a5 a6] Wm bo):=by rw [ae];exact HO.o.fill _ _
    replace HL:Hx (Aw c.n (XJ bj) Wm (zh #[O o1 o2 o3,O o4 o5 o6]) tl):=by rw [ae];exact EO HL.o HO.o (by omega) _ _
    unfold BC at ae;go_simp;rw [<-ae];clear ae;refine xK dt (HS.o _ G.o) fun g=>?_;clear dt K;refine gE ?_;exact Ba ⟨bt,bo,_,_,_,_,_,_,_,_,_,_,_,_,_,_,_,_,_,_,_,_,_,_,o1,o2,o3,o4,o5,o6,rfl,G.o,HR.o,HQ.o,HL.o,⟨dj,bL (HR.o 0 _ rfl)⟩,⟨dk,bL (HQ.o 0 _ rfl)⟩,a0⟩)
 rintro c9 f ⟨bt,bo,x11,x12,x13,x14,x15,x16,x17,x18,x19,x20,x21,x22,x23,x24,x25,x26,x27,x28,x29,x30,x31,x32,t1,t2,t3,t4,t5,t6,rfl,a9,ee,eg,bk,⟨e8,e7⟩,⟨fb,e9⟩,a0⟩;clear u0 u1 u2 u3 u4 u5 u6 u7 u8 u9 u10 u11 u12 u13 u14 u15 HS c4;have ay:∀ q,V1.heap.size<=q->¬ XJ bj f q:=fun q hq e=>by have:=(aj.o.xlt q ((Al bj).below _ _ a9 q e)).2;omega
 have c3:=Aa (aj.o.over a9);have fy:=Aa (f1.o.trans (FrW.of_below (Al bj) a9));have ca:Hx (TB bj [(bt,[O t1 t2 t3,O t4 t5 t6]),(bo,[O a1 a2 a3,O a4 a5 a6]),(W.heap.size,[zd U 6,zd U (z:Int),zd U ot,zd U ek,zd U en,O xa Y Z,O aa al ac,O ta tn tc,O ea el ec]),(W.heap.size+1,[O p1 q1 r1,O p2 q2 C]),(s,[zi (some ⟨bj,0,none⟩)]),(s+1,[zd U a])] f):=((cb.o.keep (FrW.of_below (Al bj) a9)).add eg (ay _ fb) e9).add ee (ay _ e8) e7;have fj:=Aa (fk.o.over (Al bj) a9);have fh:=Aa bk;have cd:Hx (∀ (W3:World),Ov f W3->Ou bj bv ov c W z kn L H I F D E W3):=fun W3 ex=>dc.o W3 (c3.o.over ex) (Ab ex _ _ ((ca.o.row 2 rfl) 1 _ rfl));obtain ⟨u0,u1,u2,u3,u4⟩:=cd.o _ (Below.refl _ _);clear ay a9 ee eg bk e8 e7 fb e9 a0 fk cb f1 aj da KW dc;go_wp2_with fail;refine gS (Ou bj bv ov c W z kn L H I F D E) (cd.o _ (bD _)) fun g=>?_;refine kT 0 ?_;refine kT 1 ?_;refine kT 2 ?_;refine kT 3 ?_;refine kT 4 ?_;refine kT 5 ?_;refine kT 6 ?_;refine kT 7 ?_;refine kT 8 ?_;refine kT 9 ?_;refine rdA 10 rfl fun K hK=>?_;go_simp;refine xK hK (cd.o _ ((bA _ _).drew)) fun g=>?_;clear hK K;refine rdA 11 rfl fun K hK=>?_;go_simp;refine xK hK (cd.o _ ((bA _ _).drew)) fun g=>?_;clear hK K;refine gE ?_;have ad:Ov f ((f.alloc (ze #[zg kn,O L H I,O F D E] 41)).drew):=(bA _ _).drew;have eh:Ad [zg kn,O L H I,O F D E] ((f.alloc (ze #[zg kn,O L H I,O F D E] 41)).drew) f.heap.size:=(Ad.new [zg kn,O L H I,O F D E] 41 f).over (bD _);have ap:=Aa (c3.o.over ad);have cf:=Aa (fy.o.trans (FrW.of_below (Al bj) ad));have T:Hx (TB bj ((f.heap.size,[zg kn,O L H I,O F D E])::[(bt,[O t1 t2 t3,O t4 t5 t6]),(bo,[O a1 a2 a3,O a4 a5 a6]),(W.heap.size,[zd U 6,zd U (z:Int),zd U ot,zd U ek,zd U en,O xa Y Z,O aa al ac,O ta tn tc,O ea el ec]),(W.heap.size+1,[O p1 q1 r1,O p2 q2 C]),(s,[zi (some ⟨bj,0,none⟩)]),(s+1,[zd U a])]) ((f.alloc (ze #[zg kn,O L H I,O F D E] 41)).drew)):=(ca.o.keep (FrW.of_below (Al bj) ad)).add eh (fun e=>by have:=(c3.o.xlt _ ((Al bj).below _ _ ad _ e)).2;omega) (by simp);have ce:=Aa (fj.o.over (Al bj) ad);have cc:=Aa (fh.o.over (Al bj) ad);obtain ⟨bw,dr⟩:=nm f.heap.size;obtain ⟨W4,co⟩:=nm ((f.alloc (ze #[zg kn,O L H I,O F D E] 41)).drew);rw [<-dr,<-co] at T;rw [<-co] at ap cf ce cc;rw [<-dr,<-co];clear ad eh u0 u1 u2 u3 u4 cd fj fh ca fy c3 dr co;have c2:=Aa (ap.o.over (bD _));have hn:=Aa (cf.o.trans (FrW.of_below (Al bj) (bD _)));have db:=Aa (T.o.keep (FrW.of_below (Al bj) (bD _)));have g7:=Aa (ce.o.over (Al bj) (bD _));have g3:=Aa (cc.o.over (Al bj) (bD _));have g8:=Aa (fm.o _ c2.o);have g6:=Aa (cx.o _ c2.o db.o);obtain ⟨u0,u1,u2,u3,u4,u5,u6,u7,u8,u9,u10,u11,u12,u13⟩:=cx.o _ ap.o T.o;clear ap cf T ce cc;go_wp2_with fail;refine gS (Re bj c bv ov bl ol W p1 q1 r1 p2 q2 C bo a1 a2 a3 a4 a5 a6) (g6.o) fun g=>?_;refine kT 0 ?_;refine kT 1 ?_;refine kT 2 ?_;refine kT 3 ?_;refine kT 4 ?_;refine kT 5 ?_;refine kT 6 ?_;refine rdA 7 rfl fun K hK=>?_;go_simp;refine (KF.o _ c2.o g7.o g8.o).mono ?_;rintro e W5 ⟨rfl,bu⟩;have fp:=Aa (c2.o.over bu);have S:=Aa (db.o.keep (FrW.of_below (Al bj) bu));have g5:=Aa (cx.o W5 fp.o S.o);have hm:=Aa (hn.o.trans (FrW.of_below (Al bj) bu));have gz:=Aa (g3.o.over (Al bj) bu);clear bu;go_simp;refine xK hK (g5.o) fun g=>?_;clear hK K;refine kT 8 ?_;refine rdA 9 rfl fun K hK=>?_;go_simp;refine (KB.o _ fp.o ((S.o.row 5 rfl) 0 _ rfl) ((S.o.row 6 rfl) 0 _ rfl) (S.o.off 5 rfl) (S.o.off 6 rfl) fx.o 5 _).mono ?_;rintro e W6 ⟨rfl,⟨i4,e6⟩,cr⟩;have dw:=Aa e6;have an:=Aa (S.o.keep cr);have hh:=Aa (hm.o.trans cr);have gy:=Aa (gz.o.keep cz.o cr);have g4:=Aa (cx.o W6 dw.o an.o);clear e6 cr;go_simp;refine xK hK (g4.o) fun g=>?_;clear hK K;refine gE ?_;have g2:=(an.o.row 0 rfl) 2 _ rfl;have g0:=(an.o.row 0 rfl) 0 _ rfl;go_wp2_with fail;refine (KM.o _ dw.o).mono ?_;rintro e W7 ⟨rfl,bs⟩;have hd:=Aa (dw.o.over bs);have X:=Aa (an.o.keep (FrW.of_below (Al bj) bs));have hg:=Aa (hh.o.trans (FrW.of_below (Al bj) bs));have gx:=Aa (gy.o.over (Al bj) bs);clear bs g0 g2;go_wp2_with fail;refine (KB.o _ hd.o ((X.o.row 5 rfl) 0 _ rfl) ((X.o.row 6 rfl) 0 _ rfl) (X.o.off 5 rfl) (X.o.off 6 rfl) fw.o 6 _).mono ?_;rintro e W8 ⟨rfl,⟨i3,e5⟩,cq⟩;have hc:=Aa e5;have R:=Aa (X.o.keep cq);have hf:=Aa (hg.o.trans cq);have gw:=Aa (gx.o.keep cz.o cq);have g0:=(R.o.row 0 rfl) 0 _ rfl;clear e5 cq;go_wp2_with fail;refine (KB.o _ hc.o ((R.o.row 5 rfl) 0 _ rfl) ((R.o.row 6 rfl) 0 _ rfl) (R.o.off 5 rfl) (R.o.off 6 rfl) fu.o 7 _).mono ?_;rintro e W9 ⟨rfl,⟨iz,e4⟩,cp⟩;have fo:=Aa e4;have b9:=Aa (R.o.keep cp);have he:=Aa (hf.o.trans cp);have fg:=Aa (gw.o.keep cz.o cp);clear e4 cp g0;go_wp2_with fail;refine (KS.o _ fo.o ((b9.o.row 2 rfl) 0 _ rfl) ((b9.o.row 1 rfl) 0 _ rfl) fg.o).mono ?_;rintro e jd ⟨rfl,V⟩;have fr:=Aa (fo.o.over V);have M:=Aa (b9.o.keep (FrW.of_below (Al bj) V));have f0:=Aa (he.o.trans (FrW.of_below (Al bj) V));have fi:=Aa (fg.o.over (Al bj) V);clear V;go_wp2_with fail;refine (KB.o _ fr.o ((M.o.row 5 rfl) 0 _ rfl) ((M.o.row 6 rfl) 0 _ rfl) (M.o.off 5 rfl) (M.o.off 6 rfl) ft.o 8 _).mono ?_;rintro e jc ⟨rfl,⟨fd,c7⟩,am⟩;have fq:=Aa c7;have gv:=Aa (M.o.keep am);have fz:=Aa (f0.o.trans am);have h5:=Aa (fi.o.keep cz.o am);clear c7 am;go_wp2_with fail;go_end0;exact ⟨rfl,⟨fd,fq.o⟩,fz.o⟩
end Go.Proofs.YtfffpjkcfnekaaaGreat.Ex
namespace Go.Proofs.YtfffpjkcfnekaaaGreat.Ex
open Go.RowKit Go.Shelf
open Go.Value renaming slice -> O, int -> zd, bool -> zg, agg -> zh, pointer -> zi, tuple -> zk
open Go.IntKind renaming i64 -> U
open Go.Obj renaming cells -> ze
open Go.Ending renaming returned -> zj
attribute [local go_sem] Oper.semAt_some
theorem JG {W:World} {b j:Nat} {v:Value} {o:Obj} (hc:W.cell? ⟨b,j,none⟩=some v) (ho:W.heap[b]? = some o):o.isCells=true:=by
 cases o <;> simp_all [World.cell?,Obj.isCells]
def RvI (s:Nat) (fm fh:Int->Bool) (nv:Nat) (pre:List (EW nv)) (W:World):Prop:=
 W.cell? ⟨s,0,none⟩=some (zg ((pre.map Subtype.val).any fm))/\W.frozen? ⟨s,0,none⟩=false/\W.cell? ⟨s+1,0,none⟩=some (zg ((pre.map Subtype.val).any fh))/\W.frozen? ⟨s+1,0,none⟩=false
theorem PZ (s:Nat) (fm fh:Int->Bool) (nv:Nat):Own (RvI s fm fh nv):=by
 rintro f A B e ⟨d,h,c,g⟩ b a;exact ⟨cell_kept d b a,(frozen_kept d b a).trans h,cell_kept c b a,(frozen_kept c b a).trans g⟩
theorem PY {fm fh:Int->Bool} {nv:Nat} {pre:List (EW nv)} {x:EW nv} {w W W2:World} {m0 h0 m1 h1:Bool} (c0:W.cell? ⟨w.heap.size,0,none⟩=some (zg m0)) (f0:W.frozen? ⟨w.heap.size,0,none⟩=false) (c1:W.cell? ⟨w.heap.size+1,0,none⟩=some (zg h0)) (f1:W.frozen? ⟨w.heap.size+1,0,none⟩=false) (hm:(pre.map Subtype.val).any fm=m0) (hh:(pre.map Subtype.val).any fh=h0) (hB:Ov w W) (hb2:Ov W W2) (hm1:m1=(m0 || fm x.1)) (hh1:h1=(h0 || fh x.1)) :
  KeepsOthers W ((W2.setCell ⟨w.heap.size,0,none⟩ (zg m1)).setCell ⟨w.heap.size+1,0,none⟩ (zg h1))/\Below w.heap.size W ((W2.setCell ⟨w.heap.size,0,none⟩ (zg m1)).setCell ⟨w.heap.size+1,0,none⟩ (zg h1))/\RvI w.heap.size fm fh nv (pre++[x]) ((W2.setCell ⟨w.heap.size,0,none⟩ (zg m1)).setCell ⟨w.heap.size+1,0,none⟩ (zg h1))/\Ov w ((W2.setCell ⟨w.heap.size,0,none⟩ (zg m1)).setCell ⟨w.heap.size+1,0,none⟩ (zg h1)):=by
 have c:=bL c1;have b:=bL c0;have a:Below w.heap.size W ((W2.setCell ⟨w.heap.size,0,none⟩ (zg m1)).setCell ⟨w.heap.size+1,0,none⟩ (zg h1)):=((hb2.mono hB.size).setCell (Nat.le_refl _) _).setCell (by simp) _;refine ⟨(GB hb2).trans ((KeepsOthers.setCell _ _ _).trans (KeepsOthers.setCell _ _ _)),a,?_,hB.trans a⟩;refine ⟨?_,?_,?_,?_⟩
 ·have e:=Ab hb2 _ _ c0
  rw [List.map_append,List.any_append,hm];simp [go_sem,e,hm1]
 ·simp [go_sem,((An hb2).2 _ _ b).trans f0]
 ·have e:=Ab hb2 _ _ c1
  rw [List.map_append,List.any_append,hh];simp [go_sem,e,hh1]
 ·simp [go_sem,((An hb2).2 _ _ c).trans f1]
theorem AM.grown {cs:List Value} {w0:World} {bj:Nat} {av:Value} {fl:List (Int × Int)} {fv:Value} {A B:World} {r:Nat} {o:Obj} (h:AM cs w0 bj av fl fv A) (hg:A.grownBy B (some r)) (hr:A.heap[r]? = some o) (ho:o.isCells=false) (hlo:w0.heap.size<=r):AM cs w0 bj av fl fv B:=by
 have n:∀ q,(some r:Option Nat)=some q->∃ o:Obj,A.heap[q]? = some o/\o.isCells=false:=fun q e=>by injection e with e;subst e;exact ⟨o,hr,ho⟩
 have d:fv.ownBlock≠some r:=fun e=>by
  rcases h.own.2 with ⟨m,-⟩ | ⟨g,v,t,m,x,b,-⟩
  ·rw [m] at e;simp [Value.ownBlock] at e
  ·rw [m] at e
   simp [Value.ownBlock] at e;subst e;rw [hr] at b;injection b with b;subst b;simp [Obj.isCells] at ho
 refine ⟨h.below.trans ⟨hg.os,hg.tape,hg.output,hg.size,fun k s=>hg.block k (Nat.lt_of_lt_of_le s h.below.size) (fun e=>by injection e with e;omega)⟩,fun j u p=>cell_kept (h.row j u p) hg n,fun j=>?_,h.own.kept hg (Or.inr d),h.ap,⟨h.lo.1,Nat.lt_of_lt_of_le h.lo.2 hg.size⟩,h.len⟩;have i:bj≠r:=fun e=>by
  have l:=h.c11;obtain ⟨w,c,f⟩:=n r rfl;subst e;exact absurd (JG l c) (by rw [f];simp)
 exact (World.frozen?_of_block (a:=⟨bj,j,none⟩) (hg.block bj h.lo.2 (fun e=>by injection e with e;exact i e))).trans (h.fz j)
def DK (bj D:Nat) (W:World):Prop:=W.heap[D]? = some (.deferred (some []))/\¬ XJ bj W D
theorem DK.keep {bj D:Nat} {W W':World} (h:DK bj D W) (hf:FrW (XJ bj) W W'):DK bj D W':=
 have hlt:D < W.heap.size:=(Array.getElem?_eq_some_iff.1 h.1).1
 ⟨(hf.block D hlt h.2).trans h.1,fun e=>h.2 (hf.mov D hlt e)⟩
theorem TB.one {bj b:Nat} {v:Value} {L:List (Nat × List Value)} {W:World} (h:TB bj L W) (hc:W.cell? ⟨b,0,none⟩=some v) (hx:¬ XJ bj W b):TB bj ((b,[v])::L) W:=
 h.add (fun j u hu=>by match j with | 0=>simp at hu;subst hu;exact hc | j+1=>simp at hu) hx (bL hc)
theorem QD {cs:List Value} {w0:World} {bj:Nat} {av:Value} {fl:List (Int × Int)} {fv:Value} {W A:World} {D:Nat} {o o':Obj} (hf:FrW (XJ bj) W A) (h:AM cs w0 bj av fl fv A) (hr:A.heap[D]? = some o) (ho:o.isCells=false) (hlo:W.heap.size<=D):FrW (XJ bj) W (A.putObj D o'):=by
 have a:=grownBy_putObj' A D o';refine ⟨a.os.trans hf.os,a.tape.trans hf.tape,a.output.trans hf.output,Nat.le_trans hf.size a.size,fun k c hx=>(a.block k (Nat.lt_of_lt_of_le c hf.size) (fun e=>by injection e with e;omega)).trans (hf.block k c hx),fun k c hx=>hf.mov k c ?_⟩;rcases hx with hx | hx | ⟨v,b,hw⟩
 ·exact Or.inl (Nat.le_trans a.size hx)
 ·exact Or.inr (Or.inl hx)
 ·refine Or.inr (Or.inr ⟨v,?_,hw⟩)
  have:=cell_kept h.c11 a (fun q e=>by injection e with e;subst e;exact ⟨o,hr,ho⟩);rw [this] at b;injection b with b;rw [<-b];exact h.c11
abbrev Rd (W:World) (bj:Nat) (c:WC) (bv ov bl ol jv:Nat) (ek en:Int) (xa:Option Addr) (xl xc:Nat) (a1:Option Addr) (a2 a3:Nat) (a4:Option Addr) (a5 a6:Nat) (Wz:World):Prop:=Wz.cell? ⟨W.heap.size,0,none⟩=some (zi (some ⟨bj,0,none⟩))/\Wz.cell? ⟨bj,0,none⟩=some (zd U (c.n:Int))/\Wz.cell? ⟨bj,1,none⟩=some (O c.ga c.gn c.gc)/\Wz.cell? ⟨bj,2,none⟩=some (O c.sa c.sn c.sc)/\Wz.cell? ⟨bj,3,none⟩=some (O c.ya c.yn c.yc)/\Wz.cell? ⟨bj,4,none⟩=some (O c.oa c.on c.oc)/\Wz.cell? ⟨bj,5,none⟩=some (O (some ⟨bv,ov,none⟩) c.vn c.vc)/\Wz.cell? ⟨bj,6,none⟩=some (O c.fa c.fn c.fc)/\Wz.cell? ⟨bj,7,none⟩=some (O c.ba c.bn c.bc)/\Wz.cell? ⟨bj,8,none⟩=some (O (some ⟨bl,ol,none⟩) c.ln c.lc)/\Wz.cell? ⟨bj,9,none⟩=some (O c.ka c.kn c.kc)/\Wz.cell? ⟨W.heap.size+1,1,none⟩=some (zd U (jv:Int))/\Wz.cell? ⟨W.heap.size+1,3,none⟩=some (zd U ek)/\Wz.cell? ⟨W.heap.size+1,4,none⟩=some (zd U en)/\Wz.cell? ⟨W.heap.size+1,5,none⟩=some (O xa xl xc)/\Wz.cell? ⟨bl,ol+jv*2,none⟩=some (O a1 a2 a3)/\Wz.cell? ⟨bl,ol+jv*2+1,none⟩=some (O a4 a5 a6)
abbrev Rc (W:World) (bj:Nat) (c:WC) (bv ov bl ol:Nat) (p1:Option Addr) (q1 r1:Nat) (p2:Option Addr) (q2 r2 bo:Nat) (a1:Option Addr) (a2 a3:Nat) (a4:Option Addr) (a5 a6:Nat) (Wz:World):Prop:=Wz.cell? ⟨W.heap.size,0,none⟩=some (zi (some ⟨bj,0,none⟩))/\Wz.cell? ⟨bj,0,none⟩=some (zd U (c.n:Int))/\Wz.cell? ⟨bj,1,none⟩=some (O c.ga c.gn c.gc)/\Wz.cell? ⟨bj,2,none⟩=some (O c.sa c.sn c.sc)/\Wz.cell? ⟨bj,3,none⟩=some (O c.ya c.yn c.yc)/\Wz.cell? ⟨bj,4,none⟩=some (O c.oa c.on c.oc)/\Wz.cell? ⟨bj,5,none⟩=some (O (some ⟨bv,ov,none⟩) c.vn c.vc)/\Wz.cell? ⟨bj,6,none⟩=some (O c.fa c.fn c.fc)/\Wz.cell? ⟨bj,7,none⟩=some (O c.ba c.bn c.bc)/\Wz.cell? ⟨bj,8,none⟩=some (O (some ⟨bl,ol,none⟩) c.ln c.lc)/\Wz.cell? ⟨bj,9,none⟩=some (O c.ka c.kn c.kc)/\Wz.cell? ⟨W.heap.size+1+1,0,none⟩=some (O p1 q1 r1)/\Wz.cell? ⟨W.heap.size+1+1,1,none⟩=some (O p2 q2 r2)/\Wz.cell? ⟨bo,0,none⟩=some (O a1 a2 a3)/\Wz.cell? ⟨bo,1,none⟩=some (O a4 a5 a6)
abbrev Ot (W:World) (bj bv ov:Nat) (c:WC) (j:Nat) (kn:Bool) (pa1:Option Addr) (pn1 pc1:Nat) (Wz:World):Prop:=Wz.cell? ⟨W.heap.size,0,none⟩=some (zi (some ⟨bj,0,none⟩))/\Wz.cell? ⟨bj,5,none⟩=some (O (some ⟨bv,ov,none⟩) c.vn c.vc)/\Wz.cell? ⟨bv,ov+j*3,none⟩=some (zg kn)/\Wz.cell? ⟨bv,ov+j*3+1,none⟩=some (O pa1 pn1 pc1)
theorem P7 (c) (w0:World) (bj:Nat) (av:Value) (gs Ls Fs) (J:JSt c w0 gs Ls Fs) (sp) (A:JAc c w0 av (Ax gs) sp) (K ni no:Nat) (fs vs) (hvs:Bs w0 (O c.va c.vn c.vc) vs) (hvn:vs.length=Ls.length) (hvc:∀ v∈vs,Bb c.n gs v.2=0) :
  Gi c w0 bj av K Ls.length ni no fs 5 (Fz c.n K (Ax gs) sp Ls vs) 152:=by
 intro fl fv s a k cs lv d p j5 W jy h z hl gl db hk;obtain ⟨p1,q1,r1,p2,q2,V,gv⟩:=hl.form;have gu:lv=[O p1 q1 r1,O p2 q2 V]:=by simpa using gv
 subst gu;clear gv;obtain ⟨ek,en,T,Q,R,aa,ac,ta,tc,ea,ec,rfl,i0,i1,i2,hX,hA,hT,hE,-,-,-⟩:=gl.form;have jp:=db.2.1 (by omega);obtain ⟨jv,dd⟩:∃ j:Nat,Ap d=(j:Int):=⟨(Ap d).toNat,by omega⟩;have de:jv < Ls.length:=by omega
 have eu:jv < vs.length:=by omega
 obtain ⟨bl,ol,a1,a2,a3,a4,a5,a6,cl,g2,k0,k1,ck⟩:=Fh J.levs de;have j2:=hvs;obtain ⟨jn,l4,l3,jo,br⟩:=hvs;injection jo with v1 v2 v3;obtain ⟨bv,ov,gi,br⟩:=br (by rintro rfl;simp at eu);have bw:c.va=some ⟨bv,ov,none⟩:=v1.trans gi;have dt:c.vn=vs.length:=v2;have g3:sC (Ag d) (Ap d) (Ae d) ek en T Q R aa (Ai d).length ac ta (Aj d).length tc ea (Ao d).length ec=sC 5 (jv:Int) (Ae d) ek en T Q R aa (Ai d).length ac ta (Aj d).length tc ea (Ao d).length ec:=by rw [hk,dd]
 rw [g3];clear g3;obtain ⟨ot,go⟩:=nm (Ae d);obtain ⟨al,g7⟩:=nm ((Ai d).length);obtain ⟨tn,gj⟩:=nm ((Aj d).length);obtain ⟨el,g6⟩:=nm ((Ao d).length);rw [<-go,<-g7,<-gj,<-g6];have ey:Ls.getD (Ap d).toNat Ah=Ls[jv]:=by rw [dd];simp [List.getD_eq_getElem?_getD,de]
 obtain ⟨lz,es⟩:=nm (Ls[jv]);have du:lz.len c.n:=by rw [es];exact J.lens _ (List.getElem_mem de)
 rw [<-es] at ck ey;have jw:vs.getD (Ap d).toNat (false,⟨[],[]⟩)=vs[jv]:=by rw [dd];simp [List.getD_eq_getElem?_getD,eu]
 have e9:c.v=(zh #[zd U (c.n:Int),O c.ga c.gn c.gc,O c.sa c.sn c.sc,O c.ya c.yn c.yc,O c.oa c.on c.oc,O (some ⟨bv,ov,none⟩) c.vn c.vc,O c.fa c.fn c.fc,O c.ba c.bn c.bc,O (some ⟨bl,ol,none⟩) c.ln c.lc,O c.ka c.kn c.kc]):=by show Value.agg #[zd U (c.n:Int),O c.ga c.gn c.gc,O c.sa c.sn c.sc,O c.ya c.yn c.yc,O c.oa c.on c.oc,O c.va c.vn c.vc,O c.fa c.fn c.fc,O c.ba c.bn c.bc,O c.la c.ln c.lc,O c.ka c.kn c.kc]=_;rw [bw,cl]
 obtain ⟨V1,bd⟩:=nm ((((W.alloc (ze #[zi (some ⟨bj,0,none⟩)] 161)).alloc (ze #[zd U 5,zd U (jv:Int),zd U ot,zd U ek,zd U en,O T Q R,O aa al ac,O ta tn tc,O ea el ec] 130)).alloc (ze #[O p1 q1 r1,O p2 q2 V] 50)));have b5:Ov W V1:=by rw [bd];exact ((bA W _).alloc (by simp) _).alloc (by simp <;> omega) _
 obtain ⟨tl,eo⟩:=nm ((A6 c.n Ls (A7 c.n) (AG K (Am d))));have bi:=Aa (h.over b5);have ae:=Aa J.n1;have ih:=Aa (fun (f:World) {fl2:List (Int × Int)} {fv2:Value} (t:AM c.cs w0 bj av fl2 fv2 f)=>Hk J.n1 t ck du);have d6:Hx (∀ (f:World),Calls Tryz.prog 104 #[(zh #[zd U (c.n:Int),O c.ga c.gn c.gc,O c.sa c.sn c.sc,O c.ya c.yn c.yc,O c.oa c.on c.oc,O (some ⟨bv,ov,none⟩) c.vn c.vc,O c.fa c.fn c.fc,O c.ba c.bn c.bc,O (some ⟨bl,ol,none⟩) c.ln c.lc,O c.ka c.kn c.kc])] f fun e w'=>∃ vj,e=zj vj/\A1 f w' vj (A7 c.n)/\Ov f w'):=fun f=>by
  have:=ET c.n J.n1 J.n6 c.ga c.gn c.gc c.sa c.sn c.sc c.ya c.yn c.yc c.oa c.on c.oc c.va c.vn c.vc c.fa c.fn c.fc c.ba c.bn c.bc c.la c.ln c.lc c.ka c.kn c.kc f;rw [bw,cl] at this;exact this
 have KW:Hx (∀ (f:World) {x:Value},AM c.cs w0 bj av fl fv f->Aw c.n (XJ bj) f x (A7 c.n)->Calls Tryz.prog 103 #[(zh #[zd U (c.n:Int),O c.ga c.gn c.gc,O c.sa c.sn c.sc,O c.ya c.yn c.yc,O c.oa c.on c.oc,O (some ⟨bv,ov,none⟩) c.vn c.vc,O c.fa c.fn c.fc,O c.ba c.bn c.bc,O (some ⟨bl,ol,none⟩) c.ln c.lc,O c.ka c.kn c.kc]),x,zh #[zd U ek,zd U en,O T Q R]] f fun e w'=>(∃ p1 q1 r1 p2 q2 V,e=zj (zh #[O p1 q1 r1,O p2 q2 V])/\Aw c.n (XJ bj) w' (zh #[O p1 q1 r1,O p2 q2 V]) tl)/\Ov f w'):=fun f x t hx=>by
  have:=JT J t x (A7 c.n) K [zd U ek,zd U en,O T Q R] (Am d) hx hX (Bd db);rw [e9,<-eo] at this;exact this
 obtain ⟨f5,e8⟩:=nm (Av p lz c.n);have KF:Hx (∀ (f:World) {fl2:List (Int × Int)} {fv2 x y:Value},AM c.cs w0 bj av fl2 fv2 f->Aw c.n (XJ bj) f x p->Aw c.n (XJ bj) f y lz->Calls Tryz.prog 57 #[(zh #[zd U (c.n:Int),O c.ga c.gn c.gc,O c.sa c.sn c.sc,O c.ya c.yn c.yc,O c.oa c.on c.oc,O (some ⟨bv,ov,none⟩) c.vn c.vc,O c.fa c.fn c.fc,O c.ba c.bn c.bc,O (some ⟨bl,ol,none⟩) c.ln c.lc,O c.ka c.kn c.kc]),x,y] f fun e W'=>e=zj (zg f5)/\Ov f W'):=fun f fl2 fv2 x y t hx hy=>by
  have:=DY c gs x y _ _ f (Af J.gr t.below) J.chk hx.at_ hx.len hy.at_ hy.len;rw [e9,<-e8] at this;exact this
 have KB:=Aa (fun (f:World) {fl2:List (Int × Int)} {fv2:Value} (t:AM c.cs w0 bj av fl2 fv2 f) (hj:f.cell? ⟨s,0,none⟩=some (zi (some ⟨bj,0,none⟩))) (ha:f.cell? ⟨s+1,0,none⟩=some (zd U a)) (nj:¬ XJ bj f s) (na:¬ XJ bj f (s+1)) (jt:fl2.length<=1000) (k:Int) (is:Bool)=>Ge c.cs w0 bj av fl2 fv2 a k is s (s+1) f t hj ha nj na jt);obtain ⟨fm,ez⟩:∃ g:Int->Bool,g=fun v=>(Eb vs v).2.r.any fun q=>FB (Ax gs) c.n sp q.owner.toNat:=⟨_,rfl⟩;obtain ⟨fh,e3⟩:∃ g:Int->Bool,g=fun v=>!(Eb vs v).1:=⟨_,rfl⟩;have fo:Hx (∀ (j:Nat) (hj:j < vs.length) (f:World),AM c.cs w0 bj av fl fv f->∀ x,AL f x vs[j].2.r->Calls Tryz.prog 202 #[zi (some ⟨bj,0,none⟩),x] f fun e W'=>e=zj (zg (fm (j:Int)))/\Ov f W'):=fun j hj f t x hx=>by
  have dv:=Kr (hvc vs[j] (List.getElem_mem hj));have:=Rv c w0 bj av fl fv (Ax gs) sp A _ _ f t J.n6 hx (by have:=dv.1.1;omega) (fun q hq=>(dv.1.2 q hq).1);have e:Eb vs (j:Int)=vs[j]:=by unfold Eb;simp [List.getD_eq_getElem?_getD,hj]
  rw [ez];dsimp only;rw [e];exact this
 have kz:Hx (∀ (j:Nat) (hj:j < vs.length),fh (j:Int)=!vs[j].1):=fun j hj=>by
  have e:Eb vs (j:Int)=vs[j]:=by unfold Eb;simp [List.getD_eq_getElem?_getD,hj]
  rw [e3];dsimp only;rw [e]
 unfold Fz toL JV;rw [ey,<-e8,<-eo,<-ez,<-e3];obtain ⟨f6,e7⟩:=nm ((AG K (Am d)).any fm);obtain ⟨f7,e6⟩:=nm ((AG K (Am d)).any fh);obtain ⟨f8,e5⟩:=nm (((List.range c.n).any fun i=>tl.w[i]?.getD false && !(lz.w[i]?.getD false)));obtain ⟨f9,e4⟩:=nm (((List.range c.n).any fun i=>(tl.w[i]?.getD false || p.w[i]?.getD false) && !K7 (Ax gs) c.n sp i));rw [<-e7,<-e6,<-e5,<-e4];have kb:Hx (∀ (f:World) {fl2:List (Int × Int)} {fv2:Value} {bt bo:Nat} {u1 u2:Value},AM c.cs w0 bj av fl2 fv2 f->f.cell? ⟨bt,1,none⟩=some u2->f.cell? ⟨bo,1,none⟩=some (O a4 a5 a6)->Aw c.n (XJ bj) f (zh #[u1,u2]) tl->Calls Tryz.prog 203 #[zi (some ⟨bj,0,none⟩),.func (.func 204) #[] #[zi (some ⟨bt,0,none⟩),zi (some ⟨bo,0,none⟩)]] f fun e W'=>e=zj (zg f8)/\Ov f W'):=fun f fl2 fv2 bt bo u1 u2 t ht ho aq=>by
  rw [e5];have gz:=ih.o f t;obtain ⟨x,y,e1,-,b1⟩:=id gz.at_;obtain ⟨x',y',e2,-,b2⟩:=id aq.at_;simp at e1 e2;obtain ⟨rfl,rfl⟩:=e1;obtain ⟨rfl,rfl⟩:=e2;refine FU c w0 bj av fl2 fv2 204 [zi (some ⟨bt,0,none⟩),zi (some ⟨bo,0,none⟩)] _ f t J.n6 (fun i hi w1 B=>?_) Iz;exact O7 c.n i bt bo _ _ _ _ w1 J.n6 hi (Ab B _ _ ht) (Ab B _ _ ho) (AF b2 B) aq.len.2 (AF b1 B) gz.len.2
 have j9:Hx (∀ (f:World) {fl2:List (Int × Int)} {fv2:Value} {bt bp b3:Nat} {u1 u2 u3 u4:Value},AM c.cs w0 bj av fl2 fv2 f->f.cell? ⟨bt,1,none⟩=some u2->f.cell? ⟨bp,1,none⟩=some u4->f.cell? ⟨b3,0,none⟩=some (zi (some ⟨bj,0,none⟩))->Aw c.n (XJ bj) f (zh #[u1,u2]) tl->Aw c.n (XJ bj) f (zh #[u3,u4]) p->Calls Tryz.prog 203 #[zi (some ⟨bj,0,none⟩),.func (.func 205) #[] #[zi (some ⟨bt,0,none⟩),zi (some ⟨bp,0,none⟩),zi (some ⟨b3,0,none⟩)]] f fun e W'=>e=zj (zg f9)/\Ov f W'):=fun f fl2 fv2 bt bp b3 u1 u2 u3 u4 t ht hp h3 aq gy=>by
  rw [e4];obtain ⟨x,y,e1,-,b1⟩:=id gy.at_;obtain ⟨x',y',e2,-,b2⟩:=id aq.at_;simp at e1 e2;obtain ⟨rfl,rfl⟩:=e1;obtain ⟨rfl,rfl⟩:=e2;refine FU c w0 bj av fl2 fv2 205 [zi (some ⟨bt,0,none⟩),zi (some ⟨bp,0,none⟩),zi (some ⟨b3,0,none⟩)] _ f t J.n6 (fun i hi w1 B=>?_) Iy;exact O6 c.n i bt bp b3 bj _ _ _ _ (K7 (Ax gs) c.n sp i) w1 J.n6 hi (Ab B _ _ ht) (Ab B _ _ hp) (Ab B _ _ h3) (AF b2 B) aq.len.2 (AF b1 B) gy.len.2 (fun W3 fe=>SB c w0 bj av fl2 fv2 (Ax gs) sp A i W3 ((t.over B).over fe) J.n6 hi)
 have g8:V1.heap.size=W.heap.size+1+1+1:=by rw [bd];simp
 have P:Hx (TB bj [(W.heap.size,[zi (some ⟨bj,0,none⟩)]),(W.heap.size+1,[zd U 5,zd U (jv:Int),zd U ot,zd U ek,zd U en,O T Q R,O aa al ac,O ta tn tc,O ea el ec]),(W.heap.size+1+1,[O p1 q1 r1,O p2 q2 V]),(s,[zi (some ⟨bj,0,none⟩)]),(s+1,[zd U a])] V1):=by
  have hF:=FrW.of_below (Al bj) b5;have G:∀ q,W.heap.size<=q->¬ XJ bj V1 q:=fun q hq e=>by have:=(h.xlt q ((Al bj).below _ _ b5 q e)).2;omega
  refine TB.add (TB.add (TB.add (TB.add (TB.add TB.nil ?_ ?_ ?_) ?_ ?_ ?_) ?_ (G _ (by omega)) (by omega)) ?_ (G _ (by omega)) (by omega)) ?_ (G _ (Nat.le_refl _)) (by omega)
  ·exact hF.row (fun j u hu=>by match j with | 0=>simp at hu;subst hu;exact z.a | j+1=>simp at hu) (z.x _ (by omega) (by omega))
  ·exact fun e=>z.x _ (by omega) (by omega) (hF.mov _ (by have:=z.lt;omega) e)
  ·have:=z.lt;have:=hF.size;omega
  ·exact hF.row (fun j u hu=>by match j with | 0=>simp at hu;subst hu;exact z.j | j+1=>simp at hu) (z.x _ (by omega) (by omega))
  ·exact fun e=>z.x _ (by omega) (by omega) (hF.mov _ (by have:=z.lt;omega) e)
  ·have:=z.lt;have:=hF.size;omega
  ·rw [bd]
   have r:=Ad.new [O p1 q1 r1,O p2 q2 V] 50 ((W.alloc (ze #[zi (some ⟨bj,0,none⟩)] 161)).alloc (ze #[zd U 5,zd U (jv:Int),zd U ot,zd U ek,zd U en,O T Q R,O aa al ac,O ta tn tc,O ea el ec] 130));simpa using r
  ·rw [bd]
   have r:=(Ad.new [zd U 5,zd U (jv:Int),zd U ot,zd U ek,zd U en,O T Q R,O aa al ac,O ta tn tc,O ea el ec] 130 (W.alloc (ze #[zi (some ⟨bj,0,none⟩)] 161))).over (bA _ (ze #[O p1 q1 r1,O p2 q2 V] 50));simpa using r
  ·rw [bd]
   exact (Ad.new [zi (some ⟨bj,0,none⟩)] 161 W).over ((bA _ _).alloc (by simp) _)
 have HS:Hx (∀ (f:World),Ov V1 f->Rd W bj c bv ov bl ol jv ek en T Q R a1 a2 a3 a4 a5 a6 f):=fun f b4=>by
  have t:=bi.o.over b4;exact ⟨((P.o.row 0 rfl).over b4) 0 _ rfl,t.cw 0 _ rfl,t.cw 1 _ rfl,t.cw 2 _ rfl,t.cw 3 _ rfl,t.cw 4 _ rfl,by rw [<-bw];exact t.cw 5 _ rfl,t.cw 6 _ rfl,t.cw 7 _ rfl,by rw [<-cl];exact t.cw 8 _ rfl,t.cw 9 _ rfl,((P.o.row 1 rfl).over b4) 1 _ rfl,((P.o.row 1 rfl).over b4) 3 _ rfl,((P.o.row 1 rfl).over b4) 4 _ rfl,((P.o.row 1 rfl).over b4) 5 _ rfl,Ab t.below _ _ k0,Ab t.below _ _ k1⟩
 have dl:Hx (∀ (f:World) {fl2:List (Int × Int)} {fv2:Value} {bm bh bt bo:Nat} {t1:Option Addr} {t2 t3:Nat} {t4:Option Addr} {t5 t6:Nat},AM c.cs w0 bj av fl2 fv2 f->TB bj ([(bm,[zg f6]),(bh,[zg f7]),(bt,[O t1 t2 t3,O t4 t5 t6]),(bo,[O a1 a2 a3,O a4 a5 a6]),(W.heap.size,[zi (some ⟨bj,0,none⟩)]),(W.heap.size+1,[zd U 5,zd U (jv:Int),zd U ot,zd U ek,zd U en,O T Q R,O aa al ac,O ta tn tc,O ea el ec]),(W.heap.size+1+1,[O p1 q1 r1,O p2 q2 V]),(s,[zi (some ⟨bj,0,none⟩)]),(s+1,[zd U a])]) f->Rc W bj c bv ov bl ol p1 q1 r1 p2 q2 V bo a1 a2 a3 a4 a5 a6 f):=fun f fl2 fv2 bm bh bt bo t1 t2 t3 t4 t5 t6 t V=>⟨(V.row 4 rfl) 0 _ rfl,t.cw 0 _ rfl,t.cw 1 _ rfl,t.cw 2 _ rfl,t.cw 3 _ rfl,t.cw 4 _ rfl,by rw [<-bw];exact t.cw 5 _ rfl,t.cw 6 _ rfl,t.cw 7 _ rfl,by rw [<-cl];exact t.cw 8 _ rfl,t.cw 9 _ rfl,(V.row 6 rfl) 0 _ rfl,(V.row 6 rfl) 1 _ rfl,(V.row 3 rfl) 0 _ rfl,(V.row 3 rfl) 1 _ rfl⟩;have dq:Hx (Ov V1 V1.drew):=(bD _);have ig:=Aa (hl.over (Al bj) b5);have ix:=Aa (FrW.of_below (Al bj) b5);have it:Hx (fl.length<=1000):=by unfold Hx;omega
 have ir:Hx ((addF a 5 fl (!f5)).length<=1000):=Nat.le_trans (AV _ _ _ _) (by omega);have iq:Hx ((addF a 6 (addF a 5 fl (!f5)) f6).length<=1000):=Nat.le_trans (AV _ _ _ _) (by have:=AV a 5 fl (!f5);omega);have ip:Hx ((addF a 7 (addF a 6 (addF a 5 fl (!f5)) f6) f7).length<=1000):=Nat.le_trans (AV _ _ _ _) (by have:=AV a 5 fl (!f5);have:=AV a 6 (addF a 5 fl (!f5)) f6;omega);have io:Hx ((addF a 8 (addF a 7 (addF a 6 (addF a 5 fl (!f5)) f6) f7) f8).length<=1000):=Nat.le_trans (AV _ _ _ _) (by have:=AV a 5 fl (!f5);have:=AV a 6 (addF a 5 fl (!f5)) f6;have:=AV a 7 (addF a 6 (addF a 5 fl (!f5)) f6) f7;omega);have mx:(jv:Int) < (c.ln:Int):=by omega
 have mw:c.ln<=16:=by rw [g2];exact J.l16
 have mv:c.vn<=16:=by have:=J.l16;omega
 obtain ⟨ys,ej⟩:∃ ys:List (EW Ls.length),ys.map ar.val=AG K (Am d):=OJ Ls.length _ (Bd db);have fj:=Aa ej;have fr:=Aa e7;have fq:=Aa e6;have eb:=Aa (fun (f:World) (t:AM c.cs w0 bj av fl fv f) (W3:World) (fe:Ov f W3) (bx:Nat) (j0:bx < W3.heap.size) (k0:W3.cell? ⟨bx,0,none⟩=some (zd U ek)) (k1:W3.cell? ⟨bx,1,none⟩=some (zd U en)) (k2:W3.cell? ⟨bx,2,none⟩=some (O T Q R))=>GX Fence.wide rfl 2 trivial trivial rfl Ls.length bx K f ek en T Q R (Am d) ys W3 j0 fe k0 k1 k2 (hX.over t.below) ej);have kh:=Aa br;have ki:=Aa bw;have kg:Hx (vs.length=Ls.length):=hvn;have kf:=Aa dt;have ke:Hx (w0.heap.size<=W.heap.size):=h.below.size;obtain ⟨u0,u1,u2,u3,u4,u5,u6,u7,u8,u9,u10,u11,u12,u13,u14,u15,u16⟩:=HS.o _ (Below.refl _ _);clear ej es du eo ez e3 e8 e7 e6 e5 e4 g8 hvn ey jw e9 gi bw dt br v1 v2 v3 jn cl g2 k0 k1 ck dd jp go g7 gj g6 hl gl hX hA hT hE db J A j2 hvc jy hk i0 i1 i2 de eu b5 z h;refine (callsIn_wide (n:=3)).1 ?_;refine callsIn_of_wp_marks Tryz.func152 rfl trivial ?_ rfl;simp only [Tryz.ntmps152,List.size_toArray,List.length_cons,List.length_nil,Nat.reduceAdd,Nat.reduceSub,Array.replicate_succ,Array.replicate_zero,List.push_toArray,List.append_toArray,List.nil_append,List.cons_append];refine wpIn_wide.2 ?_;go_wp2_with fail;rw [<-bd];clear bd;refine Cw (fun d3 f=>∃ (bt bo:Nat) (x13 x14 x15 x16 x17 x18 x19 x20 x21 x22 x23 x24 x25 x26 x27 x28 x29 x30 x31 x32 x33 x34:Value) (t1:Option Addr) (t2 t3:Nat) (t4:Option Addr) (t5 t6:Nat),d3={ tmps:=#[zi (some ⟨bj,0,none⟩),zh #[zd U 5,zd U (jv:Int),zd U ot,zd U ek,zd U en,O T Q R,O aa al ac,O ta tn tc,O ea el ec],zh #[O p1 q1 r1,O p2 q2 V],.func (.func 149) #[] #[zi (some ⟨s,0,none⟩),zi (some ⟨s+1,0,none⟩)],zi (some ⟨W.heap.size,0,none⟩),zi (some ⟨W.heap.size+1,0,none⟩),zi (some ⟨W.heap.size+1+1,0,none⟩),undef,zi (some ⟨bt,0,none⟩),zi (some ⟨bo,0,none⟩),undef,undef,undef,x13,x14,x15,x16,x17,x18,x19,x20,x21,x22,x23,x24,x25,x26,x27,x28,x29,x30,x31,x32,x33,x34,undef,undef,undef,undef,undef,undef,undef,undef,undef,undef,undef,undef,undef,undef,undef,undef,undef,undef,undef,undef,undef,undef,undef,undef,undef,undef,undef,undef,undef,undef,undef,undef,undef,undef,undef,undef,undef,undef,undef,undef,undef,undef,undef,undef,undef,undef,undef,undef,undef,undef,undef,undef,undef,undef,undef,undef,undef,undef,undef,undef],defers:=[] }/\Ov V1 f/\Ad [O t1 t2 t3,O t4 t5 t6] f bt/\Ad [O a1 a2 a3,O a4 a5 a6] f bo/\Aw c.n (XJ bj) f (zh #[O t1 t2 t3,O t4 t5 t6]) tl/\(V1.heap.size<=bt/\bt < f.heap.size)/\(V1.heap.size<=bo/\bo < f.heap.size)/\bt≠bo) ?_ ?_
 ·refine gS (Rd W bj c bv ov bl ol jv ek en T Q R a1 a2 a3 a4 a5 a6) (HS.o _ dq.o) fun m=>?_
  refine kT 0 ?_;refine kT 1 ?_;refine kT 2 ?_;refine kT 3 ?_;refine kT 4 ?_;refine kT 5 ?_;refine kT 6 ?_;refine kT 7 ?_;refine kT 9 ?_;refine kT 10 ?_;refine kT 12 ?_;refine kT 13 ?_;refine kT 14 ?_;refine kT 15 ?_;refine kT 16 ?_;refine kT 17 ?_;refine kT 18 ?_;refine kT 19 ?_;refine kT 20 ?_;refine kT 21 ?_;have H:=dq;generalize V1.drew=Wc at H m ⊢;clear dq;refine rdC 8 22 23 rfl (fun K h8=>?_) rfl (fun K Y=>?_) rfl (fun K X=>?_) (by decide +kernel);all_goals repeat' first
   | (
    have hi:=h8;clear hi;go_simp;refine (d6.o _).mono ?_;rintro e Wc ⟨vj,rfl,hL,B⟩;have hN:=Bm hL;have hA:=Aq hL;obtain ⟨v1,v2,rfl,gq,gp,-⟩:=hL;obtain ⟨y1,y2,y3,rfl⟩:=AE gq;obtain ⟨y4,y5,y6,rfl⟩:=AE gp;have hN:=EL hN H.o.size;replace H:=Aa (Ac H.o B);have cb:=Aa (⟨hA,EU _,B8 (Al bj) H.o (fun k hk=>(bi.o.xlt k hk).2) hN⟩:Aw c.n (XJ bj) Wc _ (A7 c.n));(try replace HT:=Aa (HT.o.over B))
    (try replace HO:=Aa (HO.o.over B))
    clear hN hA gq gp B;go_simp;refine xK h8 (HS.o _ H.o) fun m=>?_;clear h8 K;first | (refine rdC 11 22 23 rfl (fun K Z=>?_) rfl (fun K Y=>?_) rfl (fun K X=>?_) (by decide +kernel)) | (refine rdA 11 rfl (fun K Z=>?_) (by decide +kernel)) | (refine rdB 11 22 rfl (fun K Z=>?_) rfl (fun K Y=>?_) (by decide +kernel)) | (refine rdB 11 23 rfl (fun K Z=>?_) rfl (fun K X=>?_) (by decide +kernel)))
   | (
    have hi:=Z;clear hi;go_simp;refine (KW.o _ (bi.o.over H.o) cb.o).mono ?_;rintro e Wc ⟨⟨o1,o2,o3,o4,o5,o6,rfl,hL⟩,B⟩;replace H:=Aa (Ac H.o B);(try replace HT:=Aa (HT.o.over B))
    (try replace HO:=Aa (HO.o.over B))
    have ca:=Aa hL;clear cb hL B;go_simp;refine xK Z (HS.o _ H.o) fun m=>?_;clear Z K;first | (refine rdB 22 23 rfl (fun K Y=>?_) rfl (fun K X=>?_) (by decide +kernel)) | (refine rdA 24 rfl (fun K cn=>?_) (by decide +kernel)) | (refine rdA 22 rfl (fun K Y=>?_) (by decide +kernel)) | (refine rdA 23 rfl (fun K X=>?_) (by decide +kernel)))
   | (
    have hi:=Y;clear hi;have B:=bA Wc (ze #[O none 0 0,O none 0 0] 50);have hz:=DJ 50 Wc;have ew:=H.o.size;obtain ⟨bt,hq⟩:∃ b:Nat,b=Wc.heap.size:=⟨_,rfl⟩;rw [<-hq] at hz ew;(try have b0:bt≠bo:=by have:=HO.o.lt;omega)
    go_simp;rw [<-hq];obtain ⟨Wc,E⟩:=nm (Wc.alloc (ze #[O none 0 0,O none 0 0] 50));rw [<-E] at B hz ⊢;replace H:=Aa (Ac H.o B);(try replace HO:=Aa (HO.o.over B))
    (try replace cb:=Aa (cb.o.over (Al bj) B))
    (try replace ca:=Aa (ca.o.over (Al bj) B))
    have HT:=Aa hz;clear B hz E hq;refine xK Y (HS.o _ H.o) fun m=>?_;clear Y K;first | (refine rdA 24 rfl (fun K cn=>?_) (by decide +kernel)) | (refine rdB 8 23 rfl (fun K h8=>?_) rfl (fun K X=>?_) (by decide +kernel)) | (refine rdB 11 23 rfl (fun K Z=>?_) rfl (fun K X=>?_) (by decide +kernel)) | (refine rdA 23 rfl (fun K X=>?_) (by decide +kernel)) | (refine rdA 8 rfl (fun K h8=>?_) (by decide +kernel)) | (refine rdA 11 rfl (fun K Z=>?_) (by decide +kernel)))
   | (
    have hi:=X;clear hi;have B:=bA Wc (ze #[O none 0 0,O none 0 0] 50);have hz:=DJ 50 Wc;have ex:=H.o.size;obtain ⟨bo,hq⟩:∃ b:Nat,b=Wc.heap.size:=⟨_,rfl⟩;rw [<-hq] at hz ex;(try have b0:bt≠bo:=by have:=HT.o.lt;omega)
    go_simp;rw [<-hq];obtain ⟨Wc,E⟩:=nm (Wc.alloc (ze #[O none 0 0,O none 0 0] 50));rw [<-E] at B hz ⊢;replace H:=Aa (Ac H.o B);(try replace HT:=Aa (HT.o.over B))
    (try replace cb:=Aa (cb.o.over (Al bj) B))
    (try replace ca:=Aa (ca.o.over (Al bj) B))
    have HO:=Aa hz;clear B hz E hq;refine xK X (HS.o _ H.o) fun m=>?_;clear X K;first | (refine rdA 24 rfl (fun K cn=>?_) (by decide +kernel)) | (refine rdB 8 22 rfl (fun K h8=>?_) rfl (fun K Y=>?_) (by decide +kernel)) | (refine rdB 11 22 rfl (fun K Z=>?_) rfl (fun K Y=>?_) (by decide +kernel)) | (refine rdA 22 rfl (fun K Y=>?_) (by decide +kernel)) | (refine rdA 8 rfl (fun K h8=>?_) (by decide +kernel)) | (refine rdA 11 rfl (fun K Z=>?_) (by decide +kernel)))
   | (
    have hi:=cn;clear hi;have d0:=HT.o.c0;have d1:=HT.o.c1;have z0:=HT.o.z0;have z1:=HT.o.z1;have mm:bj < V1.heap.size:=bi.o.lo.2;obtain ⟨Wn,E⟩:=nm (BC Wc bt (O o1 o2 o3) (O o4 o5 o6));replace H:Hx (Ov V1 Wn):=by rw [E];exact B7 H.o ew _ _
    replace HO:Hx (ZB bo Wn):=by rw [E];exact HO.o.other (Ne.symm b0) _ _
    have HR:Hx (Ad [O o1 o2 o3,O o4 o5 o6] Wn bt):=by rw [E];exact HT.o.fill _ _
    have HL:Hx (Aw c.n (XJ bj) Wn (zh #[O o1 o2 o3,O o4 o5 o6]) tl):=by rw [E];exact EO ca.o HT.o (by omega) _ _
    unfold BC at E;go_simp;rw [<-E];clear E d0 d1 z0 z1 ca HT;refine xK cn (HS.o _ H.o) fun m=>?_;clear cn K;refine rdA 25 rfl (fun K fg=>?_) (by decide +kernel))
   | (
    have hi:=fg;clear hi;have e0:=HO.o.c0;have e1:=HO.o.c1;have y0:=HO.o.z0;have y1:=HO.o.z1;obtain ⟨Wm,bb⟩:=nm (BC Wn bo (O a1 a2 a3) (O a4 a5 a6));replace H:Hx (Ov V1 Wm):=by rw [bb];exact B7 H.o ex _ _
    replace HR:Hx (Ad [O o1 o2 o3,O o4 o5 o6] Wm bt):=by rw [bb];exact J4 HR.o b0 _ _
    have HQ:Hx (Ad [O a1 a2 a3,O a4 a5 a6] Wm bo):=by rw [bb];exact HO.o.fill _ _
    replace HL:Hx (Aw c.n (XJ bj) Wm (zh #[O o1 o2 o3,O o4 o5 o6]) tl):=by rw [bb];exact EO HL.o HO.o (by omega) _ _
    unfold BC at bb;go_simp;rw [<-bb];clear bb;refine xK fg (HS.o _ H.o) fun m=>?_;clear fg K;refine gE ?_;exact Ba ⟨bt,bo,_,_,_,_,_,_,_,_,_,_,_,_,_,_,_,_,_,_,_,_,_,_,o1,o2,o3,o4,o5,o6,rfl,H.o,HR.o,HQ.o,HL.o,⟨ew,bL (HR.o 0 _ rfl)⟩,⟨ex,bL (HQ.o 0 _ rfl)⟩,b0⟩)
 rintro d3 f ⟨bt,bo,x13,x14,x15,x16,x17,x18,x19,x20,x21,x22,x23,x24,x25,x26,x27,x28,x29,x30,x31,x32,x33,x34,t1,t2,t3,t4,t5,t6,rfl,b9,gk,gm,aq,⟨hg,hf⟩,⟨hn,hh⟩,b0⟩;clear u0 u1 u2 u3 u4 u5 u6 u7 u8 u9 u10 u11 u12 u13 u14 u15 u16 HS dq;have G:∀ q,V1.heap.size<=q->¬ XJ bj f q:=fun q hq e=>by have:=(bi.o.xlt q ((Al bj).below _ _ b9 q e)).2;omega
 have cc:=Aa (bi.o.over b9);have ft:=Aa (ix.o.trans (FrW.of_below (Al bj) b9));have aj:Hx (TB bj [(bt,[O t1 t2 t3,O t4 t5 t6]),(bo,[O a1 a2 a3,O a4 a5 a6]),(W.heap.size,[zi (some ⟨bj,0,none⟩)]),(W.heap.size+1,[zd U 5,zd U (jv:Int),zd U ot,zd U ek,zd U en,O T Q R,O aa al ac,O ta tn tc,O ea el ec]),(W.heap.size+1+1,[O p1 q1 r1,O p2 q2 V]),(s,[zi (some ⟨bj,0,none⟩)]),(s+1,[zd U a])] f):=((P.o.keep (FrW.of_below (Al bj) b9)).add gm (G _ hn) hh).add gk (G _ hg) hf;have ic:=Aa (ig.o.over (Al bj) b9);have h9:=Aa aq;have h6:Hx (W.heap.size<=f.heap.size):=ft.o.size;have y3:((f.alloc (ze #[zg false] 4)).alloc (ze #[zg false] 4)).cell? ⟨W.heap.size+1,3,none⟩=_:=Ab ((bA f _).alloc (by simp) _) _ _ ((aj.o.row 3 rfl) 3 _ rfl);have y4:((f.alloc (ze #[zg false] 4)).alloc (ze #[zg false] 4)).cell? ⟨W.heap.size+1,4,none⟩=_:=Ab ((bA f _).alloc (by simp) _) _ _ ((aj.o.row 3 rfl) 4 _ rfl);have y5:((f.alloc (ze #[zg false] 4)).alloc (ze #[zg false] 4)).cell? ⟨W.heap.size+1,5,none⟩=_:=Ab ((bA f _).alloc (by simp) _) _ _ ((aj.o.row 3 rfl) 5 _ rfl);clear G b9 gk gm aq hg hf hn hh b0 ig P ix bi d6 KW;have cm:Ov f (((f.alloc (ze #[zg false] 4)).alloc (ze #[zg false] 4)).alloc (ze #[zd U ek,zd U en,O T Q R] 94)):=((bA f _).alloc (by simp) _).alloc (by simp <;> omega) _
 have c2:=Aa cm;have fp:Hx (RvI f.heap.size fm fh Ls.length [] (((f.alloc (ze #[zg false] 4)).alloc (ze #[zg false] 4)).alloc (ze #[zd U ek,zd U en,O T Q R] 94))):=⟨by simp [go_sem],by simp [go_sem],by simp [go_sem],by simp [go_sem]⟩;have fk:=Aa (eb.o f cc.o _ cm (f.heap.size+1+1) (by simp) (by simp [go_sem]) (by simp [go_sem]) (by simp [go_sem]));clear cm eb;have KV:=Aa fun (w:World)=>(callsIn_wide (n:=3)).1 (MM Fence.wide 3 trivial rfl ek en T Q R w);go_wp2_with fail;refine (KV.o _).mono ?_;rintro e w' ⟨rfl,rfl⟩;go_wp2_with fail;refine (wpIn_wide (n:=3)).1 ?_;refine wpIn_rangeFunc_ownF (F:=Fence.wide) rfl (by omega) (gf:=210) (lb:=#[zi (some ⟨f.heap.size+1+1,0,none⟩)]) rfl trivial (enters_of Tryz.func210 (by kernel_rfl) rfl)
  fk.o belowK_t (belowK_b (by simp <;> omega)) (Below.refl _ _) (fun _=>rfl)
  (fun cj W=>RvI f.heap.size fm fh Ls.length cj W/\Ov f W)
  (fun _ _ _=>False)
  (OwnFrom.and (Own.from (PZ f.heap.size fm fh Ls.length) _) (ownFrom_below (Nat.le_refl _) (by simp <;> omega)))
  (fun _ _ _ _ _ hs _ _=>hs)
  ⟨fp.o,c2.o⟩
  (fun x=>{ tmps:=#[zi (some ⟨bj,0,none⟩),zh #[zd U 5,zd U (jv:Int),zd U ot,zd U ek,zd U en,O T Q R,O aa al ac,O ta tn tc,O ea el ec],zh #[O p1 q1 r1,O p2 q2 V],.func (.func 149) #[] #[zi (some ⟨s,0,none⟩),zi (some ⟨s+1,0,none⟩)],zi (some ⟨W.heap.size,0,none⟩),zi (some ⟨W.heap.size+1,0,none⟩),zi (some ⟨W.heap.size+1+1,0,none⟩),undef,zi (some ⟨bt,0,none⟩),zi (some ⟨bo,0,none⟩),zi (some ⟨f.heap.size,0,none⟩),zi (some ⟨f.heap.size+1,0,none⟩),zd U x.1,x13,x14,x15,x16,x17,x18,x19,x20,x21,x22,x23,x24,x25,x26,x27,x28,x29,x30,x31,x32,x33,x34,zi (some ⟨W.heap.size+1,3,none⟩),zh #[zd U ek,zd U en,O T Q R],.func (.func 210) #[] #[zi (some ⟨f.heap.size+1+1,0,none⟩)],zd U x.1,undef,undef,undef,undef,undef,undef,undef,undef,undef,undef,undef,undef,undef,undef,undef,undef,undef,undef,undef,undef,undef,undef,undef,undef,undef,undef,undef,undef,undef,undef,undef,undef,undef,undef,undef,undef,undef,undef,undef,undef,undef,undef,undef,undef,undef,undef,undef,undef,undef,undef,undef,undef,undef,undef,undef,undef],defers:=[] }) ?assign ?body ?done ?stop
 case assign=>
  intro l x W K C
  gi_wp2
  exact C
 case body=>
  clear fk fp c2 fj;rintro lo cj x Wr ⟨⟨c0,f0,c1,f1⟩,hB⟩ _;obtain ⟨m0,er⟩:=nm ((cj.map ar.val).any fm);obtain ⟨h0,ev⟩:=nm ((cj.map ar.val).any fh);rw [<-er] at c0;rw [<-ev] at c1;have ak:=Aa fun (Wj:World) (m1 h1:Bool) (df:Ov Wr Wj) (e1:m1=(m0 || fm x.1)) (e2:h1=(h0 || fh x.1))=>PY (x:=x) c0 f0 c1 f1 er.symm ev.symm hB df e1 e2;clear er ev;obtain ⟨x,mj,mi⟩:=x;obtain ⟨j,rfl⟩:∃ j:Nat,x=(j:Int):=⟨x.toNat,by omega⟩;have hj:j < vs.length:=by rw [kg.o];omega
  obtain ⟨pr,pw,q0,q1,q2,ep,jr⟩:=kh.o j hj;obtain ⟨c9,c7,c8,rfl⟩:=Az ep;obtain ⟨kn,et⟩:=nm (vs[j].1);rw [<-et] at q0;have im:Hx (fh (j:Int)=!kn):=by rw [et];exact kz.o j hj
  have am:Hx (∀ Wz:World,Ov f Wz->Ot W bj bv ov c j kn c9 c7 c8 Wz):=fun Wz hz=>by
   have t:=cc.o.over hz;exact ⟨Ab hz _ _ ((aj.o.row 2 rfl) 0 _ rfl),by rw [<-ki.o];exact t.cw 5 _ rfl,Ab t.below _ _ q0,Ab t.below _ _ q1⟩
  obtain ⟨mr,eq⟩:=nm (fm (j:Int));have kd:Hx (∀ Wz:World,Ov f Wz->Calls Tryz.prog 202 #[zi (some ⟨bj,0,none⟩),O c9 c7 c8] Wz fun e W'=>e=zj (zg mr)/\Ov Wz W'):=fun Wz hz=>by
   have t:=cc.o.over hz;rw [eq];exact fo.o j hj Wz t _ (Ak ep t.below)
  have dn:Hx (fm (j:Int)=mr):=eq.symm;have mn:(j:Int) < (c.vn:Int):=by have:=kf.o;omega
  have gx:=bL c0;have gw:=bL c1;clear eq et q0 q1 q2 ep jr hj;have gt:Tryz.prog.follows .mixedOrders=true:=by kernel_rfl
  have mo:1<=3 - 1 - 1:=by omega
  cases m0 with
  | true=>
   gi_wp2
   refine DN (S:=fun Wz=>Ot W bj bv ov c j kn c9 c7 c8 Wz) gt ?_ ?_
   ·intro i o ho c hc
    match i with
    | 0 | 1 | 2 | 3 | 4 | 5 | 6 | 7 | 8 | 9 | 10 | 11 | 12 | 13 | 14 | 15 | 16=>simp at ho;subst ho;cases hc
    | i+17=>simp at ho
   refine rdA 0 rfl fun K C=>?_;go_simp;refine xK C (am.o _ (hB.drew)) fun m=>?_;clear C K;refine kT 1 ?_;refine kU 2 ?_;refine kU 3 ?_;refine kU 4 ?_;refine kU 5 ?_;refine kU 6 ?_;refine kU 7 ?_;refine kU 8 ?_;refine kU 9 ?_;refine kU 10 ?_;refine kU 11 ?_;refine kU 12 ?_;refine kU 13 ?_;refine kU 14 ?_;refine kT 15 ?_;refine rdA 16 rfl fun K C=>?_;go_simp;refine xK C (by exact am.o _ ((hB.drew).setCell (Nat.le_refl _) _)) fun m=>?_;clear C K;refine gE ?_;refine Ba ?_;have hm:=am.o (Wr.drew.setCell ⟨f.heap.size,0,none⟩ (zg true)) ((hB.drew).setCell (Nat.le_refl _) _);obtain ⟨n0,n1,n2,n3⟩:=hm;cases h0 with
   | true=>
    gi_wp2
    exact ak.o Wr.drew true true (bD Wr) (by simp [dn.o]) (by simp)
   | false=>
    gi_wp2
    exact ak.o Wr.drew true (!kn) (bD Wr) (by simp [dn.o]) (by simp [im.o])
  | false=>
   gi_wp2
   refine DN (S:=fun Wz=>Ot W bj bv ov c j kn c9 c7 c8 Wz) gt ?_ ?_
   ·intro i o ho c hc
    match i with
    | 0 | 1 | 2 | 3 | 4 | 5 | 6 | 7 | 8 | 9 | 10 | 11 | 12 | 13 | 14 | 15 | 16=>simp at ho;subst ho;cases hc
    | i+17=>simp at ho
   refine rdA 0 rfl fun K C=>?_;go_simp;refine xK C (am.o _ (hB.drew)) fun m=>?_;clear C K;refine kT 1 ?_;refine kT 2 ?_;refine kT 3 ?_;refine kT 4 ?_;refine kT 5 ?_;refine kT 6 ?_;refine kT 7 ?_;refine kT 8 ?_;refine kT 9 ?_;refine kT 10 ?_;refine kT 11 ?_;refine kT 12 ?_;refine kT 13 ?_;refine rdA 14 rfl fun K C=>?_;go_simp;refine (kd.o _ (hB.drew)).mono ?_;rintro e wj ⟨rfl,df⟩;have bk:Hx (Ov Wr wj):=(bD Wr).trans (df.mono (Nat.le_refl _));have nb:=Ab bk.o _ _ c0;have m6:wj.frozen? ⟨f.heap.size,0,none⟩=false:=((An bk.o).2 _ _ gx).trans f0;have m9:=Ab bk.o _ _ c1;have m5:wj.frozen? ⟨f.heap.size+1,0,none⟩=false:=((An bk.o).2 _ _ gw).trans f1;have cz:=Aa (hB.trans (bk.o.mono hB.size));clear df;go_simp;refine xK C (am.o _ cz.o) fun m=>?_;clear C K;refine kT 15 ?_;refine rdA 16 rfl fun K C=>?_;go_simp;refine xK C (by exact am.o _ ((cz.o).setCell (Nat.le_refl _) _)) fun m=>?_;clear C K;refine gE ?_;refine Ba ?_;have hm:=am.o (wj.setCell ⟨f.heap.size,0,none⟩ (zg mr)) ((cz.o).setCell (Nat.le_refl _) _);obtain ⟨n0,n1,n2,n3⟩:=hm;cases h0 with
   | true=>
    gi_wp2
    exact ak.o wj mr true bk.o (by simp [dn.o]) (by simp)
   | false=>
    gi_wp2
    exact ak.o wj mr (!kn) bk.o (by simp [dn.o]) (by simp [im.o])
 case done=>
  rintro D zs cx hD rfl ⟨⟨c0,f0,c1,f1⟩,hB⟩ C;rw [fj.o,<-fr.o] at c0;rw [fj.o,<-fq.o] at c1;obtain ⟨bm,fb⟩:=nm f.heap.size;obtain ⟨bh,fd⟩:=nm (f.heap.size+1);have G:∀ q,f.heap.size<=q->¬ XJ bj cx q:=fun q hq e=>by have:=(cc.o.xlt q ((Al bj).below _ _ hB q e)).2;omega
  rw [<-fb] at c0;rw [<-fd] at c1;have dg:f.heap.size<=D:=by simp at hD;omega
  have k9:Hx (w0.heap.size<=D):=Nat.le_trans (Nat.le_trans ke.o h6.o) dg;have iy:Hx (W.heap.size<=D):=Nat.le_trans h6.o dg;have cy:=Aa (cc.o.over hB);have eh:=Aa (ft.o.trans (FrW.of_below (Al bj) hB));have bf:Hx (TB bj ([(bm,[zg f6]),(bh,[zg f7]),(bt,[O t1 t2 t3,O t4 t5 t6]),(bo,[O a1 a2 a3,O a4 a5 a6]),(W.heap.size,[zi (some ⟨bj,0,none⟩)]),(W.heap.size+1,[zd U 5,zd U (jv:Int),zd U ot,zd U ek,zd U en,O T Q R,O aa al ac,O ta tn tc,O ea el ec]),(W.heap.size+1+1,[O p1 q1 r1,O p2 q2 V]),(s,[zi (some ⟨bj,0,none⟩)]),(s+1,[zd U a])]) cx):=((aj.o.keep (FrW.of_below (Al bj) hB)).one c1 (G _ (by omega))).one c0 (G _ (by omega));have ed:=Aa (ic.o.over (Al bj) hB);have d8:=Aa (h9.o.over (Al bj) hB);have ei:Hx (DK bj D cx):=⟨C,G _ dg⟩;have a7:Ov cx cx.drew:=(bD _);have dp:=Aa (cy.o.over a7);have k8:=Aa (eh.o.trans (FrW.of_below (Al bj) a7));have d7:=Aa (bf.o.keep (FrW.of_below (Al bj) a7));have ib:=Aa (ed.o.over (Al bj) a7);have kp:=Aa (d8.o.over (Al bj) a7);have li:=Aa (ei.o.keep (FrW.of_below (Al bj) a7));have kx:=Aa (ih.o _ dp.o);have kr:=Aa (dl.o _ dp.o d7.o);obtain ⟨u0,u1,u2,u3,u4,u5,u6,u7,u8,u9,u10,u11,u12,u13,u14⟩:=dl.o _ cy.o bf.o;clear cy eh bf ed d8 ei a7 C c0 f0 c1 f1 hB G hD dg fk fp c2 cc ft aj ic h9 y3 y4 y5;rw [<-fd,<-fb];clear fb fd;go_wp2_with fail;refine J5 ?_;refine gS (Rc W bj c bv ov bl ol p1 q1 r1 p2 q2 V bo a1 a2 a3 a4 a5 a6) (kr.o) fun m=>?_;refine kT 0 ?_;refine kT 1 ?_;refine kT 2 ?_;refine kT 3 ?_;refine kT 4 ?_;refine kT 5 ?_;refine kT 6 ?_;refine rdA 7 rfl fun K C=>?_;go_simp;refine (KF.o _ dp.o ib.o kx.o).mono ?_;rintro e W5 ⟨rfl,a9⟩;have ik:=Aa (dp.o.over a9);have ai:=Aa (d7.o.keep (FrW.of_below (Al bj) a9));have k7:=Aa (k8.o.trans (FrW.of_below (Al bj) a9));have ko:=Aa (kp.o.over (Al bj) a9);have kw:=Aa (ib.o.over (Al bj) a9);have lh:=Aa (li.o.keep (FrW.of_below (Al bj) a9));have am:=Aa (dl.o W5 ik.o ai.o);clear a9;go_simp;refine xK C (am.o) fun m=>?_;clear C K;refine kT 8 ?_;refine rdA 9 rfl fun K C=>?_;go_simp;refine (KB.o _ ik.o ((ai.o.row 7 rfl) 0 _ rfl) ((ai.o.row 8 rfl) 0 _ rfl) (ai.o.off 7 rfl) (ai.o.off 8 rfl) it.o 5 _).mono ?_;rintro e W6 ⟨rfl,⟨m4,he⟩,b8⟩;have ij:=Aa he;have L:=Aa (ai.o.keep b8);have fr:=Aa (k7.o.trans b8);have km:=Aa (ko.o.keep ae.o b8);have kv:=Aa (kw.o.keep ae.o b8);have lg:=Aa (lh.o.keep b8);have kq:=Aa (dl.o W6 ij.o L.o);clear he b8;go_simp;refine xK C (kq.o) fun m=>?_;clear C K;refine gE ?_;refine Ba ?_;have g0:=(L.o.row 0 rfl) 0 _ rfl;go_wp2_with fail;refine (KB.o _ ij.o ((L.o.row 7 rfl) 0 _ rfl) ((L.o.row 8 rfl) 0 _ rfl) (L.o.off 7 rfl) (L.o.off 8 rfl) ir.o 6 _).mono ?_;rintro e W7 ⟨rfl,⟨m3,hd⟩,b7⟩;have k4:=Aa hd;have ah:=Aa (L.o.keep b7);have fq:=Aa (fr.o.trans b7);have kl:=Aa (km.o.keep ae.o b7);have ku:=Aa (kv.o.keep ae.o b7);have lf:=Aa (lg.o.keep b7);have g1:=(ah.o.row 1 rfl) 0 _ rfl;clear hd b7 g0;go_wp2_with fail;refine (KB.o _ k4.o ((ah.o.row 7 rfl) 0 _ rfl) ((ah.o.row 8 rfl) 0 _ rfl) (ah.o.off 7 rfl) (ah.o.off 8 rfl) iq.o 7 _).mono ?_;rintro e W8 ⟨rfl,⟨m2,g9⟩,b6⟩;have ii:=Aa g9;have bs:=Aa (ah.o.keep b6);have k6:=Aa (fq.o.trans b6);have h7:=Aa (kl.o.keep ae.o b6);have kt:=Aa (ku.o.keep ae.o b6);have le:=Aa (lf.o.keep b6);have g4:=(bs.o.row 4 rfl) 0 _ rfl;clear g9 b6 g1;go_wp2_with fail;refine (kb.o _ ii.o ((bs.o.row 2 rfl) 1 _ rfl) ((bs.o.row 3 rfl) 1 _ rfl) h7.o).mono ?_;rintro e W9 ⟨rfl,a8⟩;have k3:=Aa (ii.o.over a8);have as:=Aa (bs.o.keep (FrW.of_below (Al bj) a8));have k5:=Aa (k6.o.trans (FrW.of_below (Al bj) a8));have kk:=Aa (h7.o.over (Al bj) a8);have ks:=Aa (kt.o.over (Al bj) a8);have ld:=Aa (le.o.keep (FrW.of_below (Al bj) a8));clear a8 g4;go_wp2_with fail;refine (KB.o _ k3.o ((as.o.row 7 rfl) 0 _ rfl) ((as.o.row 8 rfl) 0 _ rfl) (as.o.off 7 rfl) (as.o.off 8 rfl) ip.o 8 _).mono ?_;rintro e ng ⟨rfl,⟨lr,dx⟩,ag⟩;have eg:=Aa dx;have N:=Aa (as.o.keep ag);have iw:=Aa (k5.o.trans ag);have d9:=Aa (kk.o.keep ae.o ag);have ee:=Aa (ks.o.keep ae.o ag);have i4:=Aa (ld.o.keep ag);have g4:=(N.o.row 4 rfl) 0 _ rfl;clear dx ag;go_wp2_with fail;refine (j9.o _ eg.o ((N.o.row 2 rfl) 1 _ rfl) ((N.o.row 6 rfl) 1 _ rfl) ((N.o.row 4 rfl) 0 _ rfl) d9.o ee.o).mono ?_;rintro e nf ⟨rfl,I⟩;have il:=Aa (eg.o.over I);have M:=Aa (N.o.keep (FrW.of_below (Al bj) I));have iv:=Aa (iw.o.trans (FrW.of_below (Al bj) I));have ia:=Aa (d9.o.over (Al bj) I);have ie:=Aa (ee.o.over (Al bj) I);have i3:=Aa (i4.o.keep (FrW.of_below (Al bj) I));clear I g4;go_wp2_with fail;refine (KB.o _ il.o ((M.o.row 7 rfl) 0 _ rfl) ((M.o.row 8 rfl) 0 _ rfl) (M.o.off 7 rfl) (M.o.off 8 rfl) io.o 9 _).mono ?_;rintro e h4 ⟨rfl,⟨dy,dw⟩,af⟩;have ef:=Aa dw;have kj:=Aa (M.o.keep af);have iu:=Aa (iv.o.trans af);have lw:=Aa (ia.o.keep ae.o af);have ly:=Aa (ie.o.keep ae.o af);have iz:=Aa (i3.o.keep af);clear dw af;go_wp2_with fail;have C:=iz.o.1;have g5:AM c.cs w0 bj av (addF a 9 (addF a 8 (addF a 7 (addF a 6 (addF a 5 fl (!f5)) f6) f7) f8) f9) dy (h4.putObj D (.deferred none)):=ef.o.grown (grownBy_putObj' _ D (.deferred none)) C rfl (k9.o);have jx:FrW (XJ bj) W (h4.putObj D (.deferred none)):=QD iu.o ef.o C rfl iy.o;refine ⟨by simp,.inl ⟨_,_,rfl,run_takeDeferred C,?_⟩⟩;exact ⟨zk #[],by simp [results,Tryz.f152,go_sem],rfl,⟨dy,g5⟩,jx⟩
 case stop=>
  rintro D c cj W _ _ h _;exact h.elim
end Go.Proofs.YtfffpjkcfnekaaaGreat.Ex
namespace Go.Proofs.YtfffpjkcfnekaaaGreat.Ex
open Go.RowKit
open Go.Value renaming slice -> O, int -> zd, bool -> zg, agg -> zh, pointer -> zi, tuple -> zk
open Go.IntKind renaming i64 -> U
open Go.Obj renaming cells -> ze
open Go.Ending renaming returned -> zj
theorem Pp (cs:List Value) (av:Value) (w:World) (hl:cs.length=10):AM cs w w.heap.size av [] (O none 0 0) (w.alloc (.cells (cs++[av,Value.slice none 0 0]:List Value).toArray 165)):=
 ⟨bA w _,Ad.new _ _ _,fun j=>by simp [go_sem],World.ownsRow_nil ..,by simp [Value.ownBlock],⟨Nat.le_refl _,by simp⟩,hl⟩
theorem Nw (c:WC) (gs) (w:World) (hg:AA w (O c.ga c.gn c.gc) gs) (hE:AR c.n gs=0) :
  Calls Tryz.prog 86 #[zh #[zd U (c.n:Int),O c.ga c.gn c.gc,O c.sa c.sn c.sc,O c.ya c.yn c.yc,O c.oa c.on c.oc,O c.va c.vn c.vc,O c.fa c.fn c.fc,O c.ba c.bn c.bc],zh #[O c.la c.ln c.lc,O c.ka c.kn c.kc]] w fun e w'=>∃ w1 ob,e=zj (zi (some ⟨w1.heap.size,0,none⟩))/\CZ w1 ob c.n (Ax gs) c.n/\Ov w w1/\w'=w1.alloc (.cells (c.cs++[Value.slice (some ⟨ob,0,none⟩) c.n c.n,Value.slice none 0 0]:List Value).toArray 165):=by
 obtain ⟨n,z,B,A,d,g,f⟩:=Dr hE;obtain rfl:c.n=n:=by omega
 have j:Ov w ((w.alloc (ze #[zd U (c.n:Int),O c.ga c.gn c.gc,O c.sa c.sn c.sc,O c.ya c.yn c.yc,O c.oa c.on c.oc,O c.va c.vn c.vc,O c.fa c.fn c.fc,O c.ba c.bn c.bc] 31)).alloc (ze #[O c.la c.ln c.lc,O c.ka c.kn c.kc] 44)):=(bA w _).alloc (by simp) _;have C:=Aa (PA c.n B A (O c.ga c.gn c.gc) (Ax gs) ((w.alloc (ze #[zd U (c.n:Int),O c.ga c.gn c.gc,O c.sa c.sn c.sc,O c.ya c.yn c.yc,O c.oa c.on c.oc,O c.va c.vn c.vc,O c.fa c.fn c.fc,O c.ba c.bn c.bc] 31)).alloc (ze #[O c.la c.ln c.lc,O c.ka c.kn c.kc] 44)) (by rw [d];exact Af hg j) g f (by rw [d];exact hE));have E:=Aa j;have h:Ad [zd U (c.n:Int),O c.ga c.gn c.gc,O c.sa c.sn c.sc,O c.ya c.yn c.yc,O c.oa c.on c.oc,O c.va c.vn c.vc,O c.fa c.fn c.fc,O c.ba c.bn c.bc] ((w.alloc (ze #[zd U (c.n:Int),O c.ga c.gn c.gc,O c.sa c.sn c.sc,O c.ya c.yn c.yc,O c.oa c.on c.oc,O c.va c.vn c.vc,O c.fa c.fn c.fc,O c.ba c.bn c.bc] 31)).alloc (ze #[O c.la c.ln c.lc,O c.ka c.kn c.kc] 44)) w.heap.size:=(Ad.new _ _ _).over (bA _ _);have i:Ad [O c.la c.ln c.lc,O c.ka c.kn c.kc] ((w.alloc (ze #[zd U (c.n:Int),O c.ga c.gn c.gc,O c.sa c.sn c.sc,O c.ya c.yn c.yc,O c.oa c.on c.oc,O c.va c.vn c.vc,O c.fa c.fn c.fc,O c.ba c.bn c.bc] 31)).alloc (ze #[O c.la c.ln c.lc,O c.ka c.kn c.kc] 44)) (w.heap.size+1):=by
  have r:=Ad.new [O c.la c.ln c.lc,O c.ka c.kn c.kc] 44 (w.alloc (ze #[zd U (c.n:Int),O c.ga c.gn c.gc,O c.sa c.sn c.sc,O c.ya c.yn c.yc,O c.oa c.on c.oc,O c.va c.vn c.vc,O c.fa c.fn c.fc,O c.ba c.bn c.bc] 31));simpa using r
 have b:=Aa h;have m:=Aa i;clear hg hE d g f j z;obtain ⟨y,x,v,u,t,s,q,p⟩:=rc8 h;obtain ⟨u0,u1⟩:=rc2 i;clear h i;go_enter Tryz.func86,Tryz.ntmps86;go_wp2_with fail;refine (C.o).mono ?_;rintro e w1 ⟨ob,rfl,l,a⟩;have P:=Ab a _ _ (b.o 0 _ rfl);have N:=Ab a _ _ (b.o 1 _ rfl);have M:=Ab a _ _ (b.o 2 _ rfl);have L:=Ab a _ _ (b.o 3 _ rfl);have K:=Ab a _ _ (b.o 4 _ rfl);have J:=Ab a _ _ (b.o 5 _ rfl);have I:=Ab a _ _ (b.o 6 _ rfl);have H:=Ab a _ _ (b.o 7 _ rfl);have G:=Ab a _ _ (m.o 0 _ rfl);have F:=Ab a _ _ (m.o 1 _ rfl);have k:=Aa (Ac E.o a);have D:=Aa l;clear a l y x v u t s q p u0 u1;go_wp2_with fail;go_ret;exact ⟨w1,ob,rfl,D.o,k.o,rfl⟩
def BH (n K kf:Nat) (gs:List (Int × Int)) (sp:List Int) (Ls Fs:List Lev) (vs:List (Bool × Lab)) (ls ms:List Lab) (fs:List FnD) (l:List D):List (Int × Int):=
 D6 n K (fun _=>Ls) (Fk n K (Ax gs) sp Ls vs ls ms fs) (fun _=>Fs) kf fs l []
def QV (K kf:Nat) (m:Int) (vn yn on:Nat) (gs:List (Int × Int)) (sp:List Int) (ls ms:List Lab) (vs:List (Bool × Lab)) (fs:List FnD) (l:List D) (P:Int->Prop) (w:World) (e:Ending) (w':World):Prop:=
 ∃ why:Int,P why/\Ov w w'/\((why≠0/\e=zj (zk #[O none 0 0,zd U why])) \/
  (why=0/\okP K kf m vn yn on gs sp ls ms vs fs l/\∃ (n:Nat) (st:ISt) (fv:Value) (B:Nat),m=n/\e=zj (zk #[fv,zd U 0])/\B2 n K kf gs vs ls fs l st/\(∀ x∈st.vs,x.len n)/\(∀ x∈st.fs,x.len n)/\st.vs.length=vn/\st.fs.length=fs.length/\w.heap.size<=B/\w'.ownsRow B 89 2 fv (BH n K kf gs sp st.vs st.fs vs ls ms fs l).length (Cc (BH n K kf gs sp st.vs st.fs vs ls ms fs l))))
theorem Mp (args:Array Value) (w:World):(callFunc 88 args).run Tryz.prog w=.ok (.enter 88 args) w:=by simp [go_sem]
theorem Qj (K kf n:Nat) (ga gn gc sa sn sc ya yn yc oa on oc va vn vc fa fn fc ba bn bc) (la ln lc ka kn kc) (gs sp ls ms vs fs l) (st:ISt) (w:World) (h:BD K kf (n:Int) ga gn gc sa sn sc ya yn yc oa on oc va vn vc fa fn fc ba bn bc gs sp ls ms vs fs l w) (hok:okP K kf (n:Int) vn yn on gs sp ls ms vs fs l) (hs:(sp.length:Int)<=n) (hlv:BW w (O la ln lc) st.vs) (hlf:BW w (O ka kn kc) st.fs) (hll:∀ x∈st.vs,x.len n) (hfl:∀ x∈st.fs,x.len n) (hvn:st.vs.length=vn) (hfn:st.fs.length=fs.length) (ob:Nat) (hR:CZ w ob n (Ax gs) n) :
  Calls Tryz.prog 87 #[zh #[zd U (n:Int),O ga gn gc,O sa sn sc,O ya yn yc,O oa on oc,O va vn vc,O fa fn fc,O ba bn bc,O la ln lc,O ka kn kc],.func (.func 88) #[zi (some ⟨w.heap.size,0,none⟩)] #[]] (w.alloc (ze #[zd U (n:Int),O ga gn gc,O sa sn sc,O ya yn yc,O oa on oc,O va vn vc,O fa fn fc,O ba bn bc,O la ln lc,O ka kn kc,O (some ⟨ob,0,none⟩) n n,O none 0 0] 165)) fun e W'=>e=zj (zk #[])/\(∃ fv,AM [zd U (n:Int),O ga gn gc,O sa sn sc,O ya yn yc,O oa on oc,O va vn vc,O fa fn fc,O ba bn bc,O la ln lc,O ka kn kc] w w.heap.size (O (some ⟨ob,0,none⟩) n n) (BH n K kf gs sp st.vs st.fs vs ls ms fs l) fv W'):=by
 obtain ⟨d,F,M,L,-⟩:=Dr hok.chk;obtain rfl:d=n:=by omega
 clear F;have E:=h.vars;obtain rfl:vn=vs.length:=by obtain ⟨-,a,c,k,-⟩:=h.vars;injection k
 obtain rfl:yn=ls.length:=by obtain ⟨-,a,c,k,-⟩:=h.ins;injection k
 obtain rfl:on=ms.length:=by obtain ⟨-,a,c,k,-⟩:=h.outs;injection k
 obtain rfl:fn=fs.length:=by obtain ⟨-,a,c,k,-⟩:=h.funcs;injection k
 obtain ⟨c,f⟩:∃ c:N,c=⟨d,ga,gn,gc,sa,sn,sc,ya,ls.length,yc,oa,ms.length,oc,va,vs.length,vc,fa,fs.length,fc,ba,bn,bc,la,ln,lc,ka,kn,kc⟩:=⟨_,rfl⟩;have J:JSt c w gs st.vs st.fs:=by
  subst f;exact ⟨M,L,h.grants,hok.chk,hlv,hll,hlf,hfl,by have:=hok.vars;omega⟩
 have A:JAc c w (O (some ⟨ob,0,none⟩) d d) (Ax gs) sp:=by
  subst f;exact ⟨⟨ob,rfl,hR⟩,h.speak,by show sp.length<=6;omega,fun x D=>hok.speak x D⟩
 have g:Bs w (O c.va c.vn c.vc) vs:=by subst f;exact h.vars
 have u:AW w (O c.ya c.yn c.yc) ls:=by subst f;exact h.ins
 have q:AW w (O c.oa c.on c.oc) ms:=by subst f;exact h.outs
 have p:Bv w K kf (O c.fa c.fn c.fc) fs:=by subst f;exact h.funcs
 have G:Bj w K kf (O c.ba c.bn c.bc) l:=by subst f;exact h.main
 have m:c.n=d:=by subst f;rfl
 have j:∀ v∈vs,Bb c.n gs v.2=0:=by rw [m];exact hok.labs.2.1
 have y:∀ b∈ls,Bb c.n gs b=0:=by rw [m];exact fun b z=>hok.labs.1 b (List.mem_append.2 (Or.inl z))
 have t:∀ b∈ms,Bb c.n gs b=0:=by rw [m];exact fun b z=>hok.labs.1 b (List.mem_append.2 (Or.inr z))
 have o:∀ i (h:i < fs.length),okF K st.vs.length ls.length ms.length (i:Int) fs kf fs[i]:=by rw [hvn];exact hok.body
 have r:∀ s∈l,okS K st.vs.length ls.length ms.length (fs.length:Int) fs kf s:=by rw [hvn];exact hok.main
 have C:=P7 c w w.heap.size (O (some ⟨ob,0,none⟩) d d) gs st.vs st.fs J sp A K ls.length ms.length fs vs g hvn.symm j;have B:=RL c w w.heap.size (O (some ⟨ob,0,none⟩) d d) gs st.vs st.fs J sp A K ls.length ms.length fs vs g hvn.symm j;have I:=jDo c w w.heap.size (O (some ⟨ob,0,none⟩) d d) gs st.vs st.fs J sp A K ls.length ms.length fs vs g hvn.symm j ls u y rfl hok.ins ms q t rfl hok.outs kf p hok.funcs o C B;have H:=RG (K:=K) (nv:=st.vs.length) (ni:=ls.length) (no:=ms.length) (kf:=kf) (Th (bj:=w.heap.size) (av:=O (some ⟨ob,0,none⟩) d d) J fs hfn) (Fk c.n K (Ax gs) sp st.vs vs ls ms fs) 88 [zi (some ⟨w.heap.size,0,none⟩)] [] pmJ (O9 c.n K (Ax gs) sp st.vs vs ls ms fs) Mp I l p G o r hok.many hok.funcs [] (w.alloc (.cells (c.cs++[Value.slice (some ⟨ob,0,none⟩) d d,Value.slice none 0 0]:List Value).toArray 165)) ⟨_,Pp c.cs (O (some ⟨ob,0,none⟩) d d) w rfl⟩ (by unfold pmJ;simp);subst f;exact H.mono fun e W' h=>⟨h.1,h.2.1⟩
theorem QJ (K kf:Nat) (m:Int) (ga gn gc sa sn sc ya yn yc oa on oc va vn vc fa fn fc ba bn bc) (gs sp ls ms vs fs l) (w:World) (h:BD K kf m ga gn gc sa sn sc ya yn yc oa on oc va vn vc fa fn fc ba bn bc gs sp ls ms vs fs l w) (P:Int->Prop) (KS:∀ W,Ov w W->Calls Tryz.prog 53 #[zh #[zd U m,O ga gn gc,O sa sn sc,O ya yn yc,O oa on oc,O va vn vc,O fa fn fc,O ba bn bc]] W fun e w'=>∃ why:Int,e=zj (zd U why)/\P why/\Ov W w') (hP:P 0->okP K kf m vn yn on gs sp ls ms vs fs l) (hS:P 0->(sp.length:Int)<=m) :
  Calls Tryz.prog 35 #[zh #[zd U m,O ga gn gc,O sa sn sc,O ya yn yc,O oa on oc,O va vn vc,O fa fn fc,O ba bn bc]] w (QV K kf m vn yn on gs sp ls ms vs fs l P w):=by
 have s:Ov w (w.alloc (ze #[zd U m,O ga gn gc,O sa sn sc,O ya yn yc,O oa on oc,O va vn vc,O fa fn fc,O ba bn bc] 31)):=bA w _;have f:=Ad.new [zd U m,O ga gn gc,O sa sn sc,O ya yn yc,O oa on oc,O va vn vc,O fa fn fc,O ba bn bc] 31 w;have K1:=Aa (Pr K kf m ga gn gc sa sn sc ya yn yc oa on oc va vn vc fa fn fc ba bn bc gs sp ls ms vs fs l _ (h.over s) P (fun W hW=>KS W (Ac s hW)) hP);have Y:=Aa s;have HR:=Aa f;have HH:=Aa h;have HS:=Aa hS;obtain ⟨p0,p1,p2,p3,p4,p5,p6,p7⟩:=rc8 f;clear s f h KS hP hS;go_enter Tryz.func35,Tryz.ntmps35;go_wp2_with fail;refine (K1.o).mono ?_;rintro e N ⟨why,q,p,z⟩;have r:=Aa (Ac Y.o p);have L:=Aa p;rcases z with ⟨y,rfl⟩ | ⟨rfl,d,n,u,D,B,C,G,E,F,rfl,rfl,I,J,i,k,g,j,c,-,-⟩
 ·have hz:¬ why=0:=y
  have T:=Aa q;have V:=Aa y;clear q p y;go_wp2_with fail;refine bodyPost_ret (v:=zk #[O none 0 0,zd U why]) (by simp [results,Tryz.results35,go_sem]) rfl ?_;exact ⟨why,T.o,Ac r.o (bA _ _),Or.inl ⟨V.o,rfl⟩⟩
 ·have b:Ov N (N.alloc (ze #[O D B C,O G E F] 44)):=bA _ _
  have r2:=Ad.new [O D B C,O G E F] 44 N;obtain ⟨q0,q1⟩:=rc2 r2;obtain ⟨s0,s1,s2,s3,s4,s5,s6,s7⟩:=co8 (Ac p b) p0 p1 p2 p3 p4 p5 p6 p7;have KN:=Aa (Nw ⟨n,ga,gn,gc,sa,sn,sc,ya,yn,yc,oa,on,oc,va,vn,vc,fa,fn,fc,ba,bn,bc,D,B,C,G,E,F⟩ gs _ (Af HH.o.grants (Ac r.o b)) d.chk);have KG:=Aa (fun (t:World) (a:Ov (N.alloc (ze #[O D B C,O G E F] 44)) t) (H:Nat) (Q:CZ t H n (Ax gs) n)=>Qj K kf n ga gn gc sa sn sc ya yn yc oa on oc va vn vc fa fn fc ba bn bc D B C G E F gs sp ls ms vs fs l u t (HH.o.over (Ac (Ac r.o b) a)) d (HS.o q) (CH (CH I b) a) (CH (CH J b) a) i k g j H Q);have X:=Aa (Ac r.o b);have M:=Aa (show P 0/\okP K kf (n:Int) vn yn on gs sp ls ms vs fs l/\B2 n K kf gs vs ls fs l u/\(∀ x∈u.vs,x.len n)/\(∀ x∈u.fs,x.len n)/\u.vs.length=vn/\u.fs.length=fs.length from ⟨q,d,c,i,k,g,j⟩);clear q p d I J i k g j c r2 b r L HR p0 p1 p2 p3 p4 p5 p6 p7;go_wp2_with fail;refine (KN.o).mono ?_;rintro e w4 ⟨t,H,rfl,Q,a,rfl⟩;have S:=Aa (KG.o t a H Q);have A:=Aa (Ac X.o a);have Z:=Ad.new [zd U (n:Int),O ga gn gc,O sa sn sc,O ya yn yc,O oa on oc,O va vn vc,O fa fn fc,O ba bn bc,O D B C,O G E F,O (some ⟨H,0,none⟩) n n,O none 0 0] 165 t;obtain ⟨t0,t1,t2,t3,t4,t5,t6,t7,t8,t9⟩:=Ch Z;simp only [List.cons_append,List.nil_append] at *;clear Q a Z KG KN s0 s1 s2 s3 s4 s5 s6 s7 q0 q1;go_wp2_with fail;refine (S.o).mono ?_;rintro e w5 ⟨rfl,fv,R⟩;have c11:=R.c11;have HJ:=Aa R;clear R t0 t1 t2 t3 t4 t5 t6 t7 t8 t9;go_wp2_with fail;obtain ⟨h0,d,c,i,k,g,j⟩:=M.o;refine bodyPost_ret (v:=zk #[fv,zd U 0]) (by simp [results,Tryz.results35,go_sem]) rfl ?_;exact ⟨0,h0,A.o.trans (HJ.o.below.mono A.o.size),Or.inr ⟨rfl,d,n,u,fv,t.heap.size,rfl,rfl,c,i,k,g,j,A.o.size,HJ.o.own⟩⟩
abbrev Ev4:=Int × Int × Int × Int
structure WSt where
 vs:List Lev
 ps:List Lev
abbrev Ob:=Nat->Int->Nat->D->WSt->Bool × WSt
structure RSt where
 ev:List Ev4
 vars:List Int
 taken:List Int
 steps:Nat
 en:Int
 sp:Int
 o:WSt
def RSt.step (st:RSt):RSt:={ st with steps:=st.steps+1 }
def RSt.out (st:RSt):RSt:={ st with en:=2 }
def RSt.setv (st:RSt) (v x:Int):RSt:={ st with vars:=st.vars.set v.toNat x }
def RSt.tell (st:RSt) (e:Ev4):RSt:={ st with ev:=st.ev++[e] }
def RSt.took (st:RSt) (c:Int):RSt:={ st with taken:=st.taken.set c.toNat (st.taken.getD c.toNat 0+1) }
def RSt.held (st:RSt) (o:WSt):RSt:={ st with o:=o }
def RSt.stop (st:RSt) (a:Int) (o:WSt):RSt:={ st with o:=o,en:=3,sp:=a }
def Dj (ins:List (List Int)) (st:RSt) (c:Int):Int:=(ins.getD c.toNat []).getD (st.taken.getD c.toNat 0).toNat 0
def BP (vs:List Int) (l:List (Int × Int)):List Int:=l.foldl (fun vs q=>vs.set q.1.toNat q.2) vs
def A0 (r:Bool × RSt) (f:RSt->Bool × RSt):Bool × RSt:=if r.1=true then f r.2 else r
def Bq (ob:Ob) (kind:Nat) (a:Int) (dp:Nat) (d:D) (st:RSt):Bool × RSt:=
 if (ob kind a dp d st.o).1=true then (true,st.held (ob kind a dp d st.o).2) else (false,st.stop a (ob kind a dp d st.o).2)
def DR (K:Nat) (ins:List (List Int)) (d:D) (a:Int) (st:RSt):RSt:=
 if Ag d=1 then st.setv (Ap d) (AC st.vars K (Am d))
 else if Ag d=3 then (st.took (Ae d)).setv (Ap d) (Dj ins st (Ae d))
 else if Ag d=4 then st.tell (1,a,Ae d,AC st.vars K (Am d))
 else if Ag d=5 then (st.setv (Ap d) (AC st.vars K (Am d))).tell (2,a,Ap d,AC st.vars K (Am d))
 else if Ag d=6 then (st.setv (Ap d) (AC st.vars K (Am d))).tell (3,a,Ap d,AC st.vars K (Am d))
 else st
def RSt.args (K:Nat) (fs:List FnD) (d:D) (st:RSt):RSt:={ st with vars:=BP st.vars ((BV fs (Ae d)).ps.zip ((Ai d).map (AC st.vars K))) }
def rn (K kf:Nat) (fs:List FnD) (F:Nat) (ins:List (List Int)) (ob:Ob):Nat->Nat->Nat->List D->Int->Nat->RSt->Bool × RSt
 | 0,_,_,_,_,_,st=>(false,st)
 | g+1,0,k,l,a,dp,st=>
  match l with
  | []=>(true,st)
  | d::r=>if st.steps=F then (false,st.out) else A0 (Bq ob 1 a dp d st.step) (fun st1=>A0 (rn K kf fs F ins ob g 1 k [d] a dp st1) (fun st'=>rn K kf fs F ins ob g 0 k r (a+CY k d) dp st'))
 | g+1,1,k,l,a,dp,st=>
  match l with
  | []=>(true,st)
  | d::_=>
   if Ag d=2 then A0 (rn K kf fs F ins ob g 0 kf (BV fs (Ae d)).body (A2 kf (fs.take (Ae d).toNat)) dp (st.args K fs d)) (fun st1=>A0 (Bq ob 3 a dp d st1) (fun st'=>(true,st'.setv (Ap d) (AC st'.vars K (BV fs (Ae d)).res))))
   else if Ag d=7 then (if AC st.vars K (Am d)=0 then rn K kf fs F ins ob g 0 (k - 1) (Ao d) (a+1+AI (k - 1) (Aj d)) (dp+1) st else rn K kf fs F ins ob g 0 (k - 1) (Aj d) (a+1) (dp+1) st)
   else if Ag d=8 then rn K kf fs F ins ob g 2 k [d] a dp st
   else (true,DR K ins d a st)
 | g+1,_+2,k,l,a,dp,st=>
  match l with
  | []=>(true,st)
  | d::_=>if AC st.vars K (Am d)=0 then (true,st) else A0 (rn K kf fs F ins ob g 0 (k - 1) (Aj d) (a+1) (dp+1) st) (fun st'=>if st'.steps=F then (false,st'.out) else A0 (Bq ob 2 a dp d st'.step) (fun st1=>rn K kf fs F ins ob g 2 k [d] a dp st1))
structure Gr (st st':RSt):Prop where
 ev:st.ev <+: st'.ev
 steps:st.steps<=st'.steps
 len:st'.taken.length=st.taken.length
 taken:∀ c,st.taken.getD c 0<=st'.taken.getD c 0
theorem Gr.refl (st:RSt):Gr st st:=⟨List.prefix_rfl,Nat.le_refl _,rfl,fun _=>Int.le_refl _⟩
theorem Gr.trans {a b c:RSt} (h:Gr a b) (k:Gr b c):Gr a c:=⟨h.ev.trans k.ev,Nat.le_trans h.steps k.steps,k.len.trans h.len,fun x=>Int.le_trans (h.taken x) (k.taken x)⟩
theorem Gr.step (st:RSt):Gr st st.step:=⟨List.prefix_rfl,Nat.le_succ _,rfl,fun _=>Int.le_refl _⟩
theorem Gr.setv (st:RSt) (v x:Int):Gr st (st.setv v x):=⟨List.prefix_rfl,Nat.le_refl _,rfl,fun _=>Int.le_refl _⟩
theorem Gr.tell (st:RSt) (e:Ev4):Gr st (st.tell e):=⟨List.prefix_append _ _,Nat.le_refl _,rfl,fun _=>Int.le_refl _⟩
theorem Gr.args (K:Nat) (fs d) (st:RSt):Gr st (st.args K fs d):=⟨List.prefix_rfl,Nat.le_refl _,rfl,fun _=>Int.le_refl _⟩
theorem KU {l:List Int} {i j:Nat} {x:Int}:(l.set i x).getD j 0=if i=j/\i < l.length then x else l.getD j 0:=by
 rw [List.getD_eq_getElem?_getD,List.getD_eq_getElem?_getD,List.getElem?_set];by_cases h:i=j
 ·subst h
  by_cases h2:i < l.length
  ·simp [h2]
  ·simp [h2]
 ·simp [h]
theorem Gr.took (st:RSt) (c:Int):Gr st (st.took c):=⟨List.prefix_rfl,Nat.le_refl _,by simp [RSt.took],fun x=>by
 simp only [RSt.took,KU];split
 ·rename_i h
  rw [<-h.1];omega
 ·exact Int.le_refl _⟩
theorem Gr.one (K:Nat) (ins d) (a:Int) (st:RSt):Gr st (DR K ins d a st):=by
 unfold DR;split
 ·exact Gr.setv _ _ _
 ·split
  ·exact (Gr.took _ _).trans (Gr.setv _ _ _)
  ·split
   ·exact Gr.tell _ _
   ·split
    ·exact (Gr.setv _ _ _).trans (Gr.tell _ _)
    ·split
     ·exact (Gr.setv _ _ _).trans (Gr.tell _ _)
     ·exact Gr.refl _
theorem Gr.out (st:RSt):Gr st st.out:=⟨List.prefix_rfl,Nat.le_refl _,rfl,fun _=>Int.le_refl _⟩
theorem Gr.pass (ob:Ob) (kind:Nat) (a:Int) (dp:Nat) (d) (st:RSt):Gr st (Bq ob kind a dp d st).2:=by
 unfold Bq;split
 ·exact ⟨List.prefix_rfl,Nat.le_refl _,rfl,fun _=>Int.le_refl _⟩
 ·exact ⟨List.prefix_rfl,Nat.le_refl _,rfl,fun _=>Int.le_refl _⟩
theorem Ha (ob:Ob) (kind:Nat) (a:Int) (dp:Nat) (d) (st:RSt):(Bq ob kind a dp d st).2.steps=st.steps:=by
 unfold Bq;split <;> rfl
theorem CR {st:RSt} {r:Bool × RSt} {f:RSt->Bool × RSt} (h:Gr st r.2) (hf:∀ st',Gr st' (f st').2):Gr st (A0 r f).2:=by
 unfold A0;split
 ·exact h.trans (hf _)
 ·exact h
theorem Gn (K kf:Nat) (fs) (F:Nat) (ins) (ob:Ob):∀ (g m k:Nat) (l:List D) (a:Int) (dp:Nat) (st:RSt),Gr st (rn K kf fs F ins ob g m k l a dp st).2:=by
 intro g
 induction g with
 | zero=>intro m k l a dp st;exact Gr.refl _
 | succ g ih=>
  intro m k l a dp st
  match m,l with
  | 0,[]=>exact Gr.refl _
  | 0,d::r=>
   simp only [rn];split
   ·exact Gr.out _
   ·exact CR ((Gr.step st).trans (Gr.pass _ _ _ _ _ _)) (fun c=>CR (ih _ _ _ _ _ _) (fun b=>ih _ _ _ _ _ _))
  | 1,[]=>exact Gr.refl _
  | 1,d::r=>
   simp only [rn];split
   ·exact CR ((Gr.args K fs d st).trans (ih _ _ _ _ _ _)) (fun c=>CR (Gr.pass _ _ _ _ _ _) (fun b=>Gr.setv _ _ _))
   ·split
    ·split
     ·exact ih _ _ _ _ _ _
     ·exact ih _ _ _ _ _ _
    ·split
     ·exact ih _ _ _ _ _ _
     ·exact Gr.one _ _ _ _ _
  | m+2,[]=>exact Gr.refl _
  | m+2,d::r=>
   simp only [rn];split
   ·exact Gr.refl _
   ·refine CR (ih _ _ _ _ _ _) (fun b=>?_)
    split
    ·exact Gr.out _
    ·exact CR ((Gr.step b).trans (Gr.pass _ _ _ _ _ _)) (fun c=>ih _ _ _ _ _ _)
abbrev Cj (l:List Int):List Value:=l.map fun x=>Value.int U x
def Bi:List Ev4->List Value
 | []=>[]
 | e::r=>zd U e.1::zd U e.2.1::zd U e.2.2.1::zd U e.2.2.2::Bi r
theorem CP:∀ (l m:List Ev4),Bi (l++m)=Bi l++Bi m
 | [],m=>rfl
 | e::r,m=>by simp [Bi,CP r m]
structure Ow where
 ev:Value
 X:Nat->Prop
def Ow.at (E:Ow) (k:Nat):Prop:=E.ev.ownBlock=some k\/E.X k
def Yb (br b1 b2:Nat) (ev:Value) (k:Nat):Prop:=k=br\/k=b1\/k=b2\/ev.ownBlock=some k
structure Ca where
 fn:FuncId
 fre:List Value
 cap:List Value
 ent:∀ (args:Array Value) (w:World),(callFunc fn args).run Tryz.prog w=.ok (.enter fn args) w
 ob:Ob
 In:(Nat->Prop)->WSt->(Nat->Prop)->World->Prop
 ok:Nat->WSt->Prop
 lt:∀ {Y s X w},In Y s X w->∀ k,X k->k < w.heap.size/\¬ Y k
 kept:∀ {Y Y' s X w w'},In Y s X w->w'.os=w.os->w'.tape=w.tape->w'.output=w.output->w.heap.size<=w'.heap.size->(∀ k,k < w.heap.size->¬ Y k->w'.heap[k]? = w.heap[k]?)->(∀ k,Y' k->Y k\/w.heap.size<=k)->(∀ k,Y' k->k < w'.heap.size)->In Y' s X w'
 less:∀ {dp s},ok (dp+1) s->ok dp s
structure RnG (I:Ca) (B:Nat) (R:List Value) (br b1 b2 b3:Nat) (fl:List Int) (dp:Nat) (st:RSt) (ev:Ow) (w:World):Prop where
 row:Ad (ev.ev::O (some ⟨b1,0,none⟩) st.vars.length st.vars.length::O (some ⟨b2,0,none⟩) st.taken.length st.taken.length::zd U (st.steps:Int)::zd U st.en::zd U st.sp::(R++[zd U (dp:Int),.func (.func I.fn) I.fre.toArray I.cap.toArray])) w br
 vars:Ad (Cj st.vars) w b1
 taken:Ad (Cj st.taken) w b2
 first:Ad (Cj fl) w b3
 own:w.ownsRow B 136 4 ev.ev st.ev.length (Bi st.ev)
 z0:∀ j,w.frozen? ⟨br,j,none⟩=false
 z1:∀ j,w.frozen? ⟨b1,j,none⟩=false
 z2:∀ j,w.frozen? ⟨b2,j,none⟩=false
 apart:br≠b1/\br≠b2/\b1≠b2/\b3≠br/\b3≠b1/\b3≠b2
 evA:¬ ev.at br/\¬ ev.at b1/\¬ ev.at b2/\¬ ev.at b3
 lo:B<=br/\B<=b1/\B<=b2
 hi:br < w.heap.size/\b1 < w.heap.size/\b2 < w.heap.size/\b3 < w.heap.size/\B<=w.heap.size
 ob:I.In (Yb br b1 b2 ev.ev) st.o ev.X w
 xlo:∀ k,ev.X k->B<=k
 okd:I.ok dp st.o
theorem RnG.ev' {I:Ca} {B:Nat} {R:List Value} {br b1 b2 b3:Nat} {fl:List Int} {dp:Nat} {st:RSt} {ev:Ow} {w:World} (h:RnG I B R br b1 b2 b3 fl dp st ev w):∀ k,ev.at k->B<=k/\k < w.heap.size:=fun k hk=>by
 rcases hk with hk | hk
 ·exact h.own.lt k hk
 ·exact ⟨h.xlo k hk,(I.lt h.ob k hk).1⟩
theorem MJ {br b1 b2:Nat} {ev:Value} {B e s n:Nat} {xs:List Value} {w:World} (h:w.ownsRow B e s ev n xs) (h0:br < w.heap.size) (h1:b1 < w.heap.size) (h2:b2 < w.heap.size):∀ k,Yb br b1 b2 ev k->k < w.heap.size:=fun k hk=>by
 rcases hk with hk | hk | hk | hk
 ·omega
 ·omega
 ·omega
 ·exact (h.lt k hk).2
theorem RnG.over {I:Ca} {B:Nat} {R:List Value} {br b1 b2 b3:Nat} {fl:List Int} {dp:Nat} {st:RSt} {ev:Ow} {w w':World} (h:RnG I B R br b1 b2 b3 fl dp st ev w) (hb:Ov w w'):RnG I B R br b1 b2 b3 fl dp st ev w':=by
 obtain ⟨e,b⟩:=An hb;have d:=hb.size;refine ⟨h.row.over hb,h.vars.over hb,h.taken.over hb,h.first.over hb,?_,fun j=>(b _ _ h.hi.1).trans (h.z0 j),fun j=>(b _ _ h.hi.2.1).trans (h.z1 j),fun j=>(b _ _ h.hi.2.2.1).trans (h.z2 j),h.apart,h.evA,h.lo,⟨by have:=h.hi;omega,by have:=h.hi;omega,by have:=h.hi;omega,by have:=h.hi;omega,by have:=h.hi;omega⟩,I.kept h.ob hb.os hb.tape hb.output hb.size (fun k a _=>hb.block k a) (fun k a=>Or.inl a) (fun k a=>Nat.lt_of_lt_of_le (MJ h.own h.hi.1 h.hi.2.1 h.hi.2.2.1 k a) hb.size),h.xlo,h.okd⟩;have c:w.grownBy w' none:=⟨hb.os,hb.tape,hb.output,hb.size,fun k a _=>hb.block k a⟩;exact h.own.kept c (by cases hv:ev.ev.ownBlock <;> simp)
structure Fr (br b1 b2:Nat) (ev ev':Ow) (w w':World):Prop where
 os:w'.os=w.os
 tape:w'.tape=w.tape
 output:w'.output=w.output
 size:w.heap.size<=w'.heap.size
 block:∀ k,k < w.heap.size->k≠br->k≠b1->k≠b2->¬ ev.at k->w'.heap[k]? = w.heap[k]?
 evB:∀ k,ev'.at k->ev.at k\/w.heap.size<=k
theorem Fr.of_below {br b1 b2:Nat} {ev:Ow} {w w':World} (h:Ov w w'):Fr br b1 b2 ev ev w w':=⟨h.os,h.tape,h.output,h.size,fun k hk _ _ _ _=>h.block k hk,fun k hk=>Or.inl hk⟩
theorem Fr.refl (br b1 b2:Nat) (ev:Ow) (w:World):Fr br b1 b2 ev ev w w:=Fr.of_below (Below.refl _ _)
theorem Fr.trans {br b1 b2:Nat} {ev ev1 ev2:Ow} {w w1 w2:World} (h:Fr br b1 b2 ev ev1 w w1) (k:Fr br b1 b2 ev1 ev2 w1 w2):Fr br b1 b2 ev ev2 w w2:=by
 refine ⟨k.os.trans h.os,k.tape.trans h.tape,k.output.trans h.output,Nat.le_trans h.size k.size,fun i a e d c b=>?_,fun i a=>?_⟩
 ·refine (k.block i (Nat.lt_of_lt_of_le a h.size) e d c (fun f=>?_)).trans (h.block i a e d c b)
  rcases h.evB i f with he | he
  ·exact b he
  ·omega
 ·rcases k.evB i a with he | he
  ·exact h.evB i he
  ·exact Or.inr (Nat.le_trans h.size he)
theorem Fr.over {br b1 b2:Nat} {ev ev1:Ow} {w w1 w2:World} (h:Fr br b1 b2 ev ev1 w w1) (k:Ov w1 w2):Fr br b1 b2 ev ev1 w w2:=h.trans (Fr.of_below k)
theorem Fr.cell {br b1 b2:Nat} {ev ev':Ow} {w w':World} (h:Fr br b1 b2 ev ev' w w') {b j:Nat} {u:Value} (hc:w.cell? ⟨b,j,none⟩=some u) (h0:b≠br) (h1:b≠b1) (h2:b≠b2) (h3:¬ ev.at b):w'.cell? ⟨b,j,none⟩=some u:=
 (World.cell?_of_block (h.block b (bL hc) h0 h1 h2 h3)).trans hc
section
variable {I:Ca} {B:Nat} {R:List Value} {br b1 b2 b3:Nat} {fl:List Int} {dp:Nat} {st:RSt} {ev:Ow} {w:World}
theorem RnG.below {ev':Ow} {w':World} (h:RnG I B R br b1 b2 b3 fl dp st ev w) (f:Fr br b1 b2 ev ev' w w'):Below B w w':=
 ⟨f.os,f.tape,f.output,f.size,fun k hk=>f.block k (by have:=h.hi;omega) (by have:=h.lo;omega) (by have:=h.lo;omega) (by have:=h.lo;omega) (fun hx=>by have:=(h.ev' k hx).1;omega)⟩
theorem RnG.box {ev':Ow} {w1 w2:World} {b j:Nat} {u:Value} (h:RnG I B R br b1 b2 b3 fl dp st ev w) (f:Fr br b1 b2 ev ev' w1 w2) (hb:w.heap.size<=b) (hc:w1.cell? ⟨b,j,none⟩=some u):w2.cell? ⟨b,j,none⟩=some u:=by
 have:=h.hi;exact f.cell hc (by omega) (by omega) (by omega) (fun a=>by have:=(h.ev' b a).2;omega)
theorem RnG.ints (h:RnG I B R br b1 b2 b3 fl dp st ev w):AN w (O (some ⟨b1,0,none⟩) st.vars.length st.vars.length) st.vars:=by
 refine ⟨_,_,rfl,fun _=>⟨b1,0,rfl,fun i a=>?_⟩⟩;rw [Nat.zero_add];exact h.vars i _ (by simp [a])
theorem Bg {r j:Nat} {u:Value}:w.grownBy (w.setCell ⟨r,j,none⟩ u) (some r):=C3 (n:=0)
theorem Be {a b j k:Nat} {u:Value}:(w.setCell ⟨a,j,none⟩ u).frozen? ⟨b,k,none⟩=w.frozen? ⟨b,k,none⟩:=by simp [go_sem]
theorem RnG.obSet (h:RnG I B R br b1 b2 b3 fl dp st ev w) (r j:Nat) (u:Value) (hr:r=br\/r=b1\/r=b2):I.In (Yb br b1 b2 ev.ev) st.o ev.X (w.setCell ⟨r,j,none⟩ u):=
 have g:=Bg (w:=w) (r:=r) (j:=j) (u:=u)
 I.kept h.ob g.os g.tape g.output g.size (fun k hk hy=>g.block k hk (fun e=>hy (by
  have e:=Option.some.inj e;rcases hr with hr | hr | hr
  ·exact Or.inl (by omega)
  ·exact Or.inr (Or.inl (by omega))
  ·exact Or.inr (Or.inr (Or.inl (by omega)))))) (fun k hk=>Or.inl hk) (fun k hk=>Nat.lt_of_lt_of_le (MJ h.own h.hi.1 h.hi.2.1 h.hi.2.2.1 k hk) g.size)
theorem RnG.set0 (h:RnG I B R br b1 b2 b3 fl dp st ev w) (j:Nat) (u:Value) {dp':Nat} {st':RSt} (hv:st'.vars=st.vars) (ht:st'.taken=st.taken) (he:st'.ev=st.ev) (ho:st'.o=st.o) (hd:I.ok dp' st.o) (hj:j < 8+R.length)
  (hr:(ev.ev::O (some ⟨b1,0,none⟩) st.vars.length st.vars.length::O (some ⟨b2,0,none⟩) st.taken.length st.taken.length::zd U (st.steps:Int)::zd U st.en::zd U st.sp::(R++[zd U (dp:Int),.func (.func I.fn) I.fre.toArray I.cap.toArray])).set j u=ev.ev::O (some ⟨b1,0,none⟩) st.vars.length st.vars.length::O (some ⟨b2,0,none⟩) st.taken.length st.taken.length::zd U (st'.steps:Int)::zd U st'.en::zd U st'.sp::(R++[zd U (dp':Int),.func (.func I.fn) I.fre.toArray I.cap.toArray])) :
  RnG I B R br b1 b2 b3 fl dp' st' ev (w.setCell ⟨br,j,none⟩ u):=by
 obtain ⟨d,c,g,b,f,e⟩:=h.apart;refine ⟨?_,?_,?_,h.first.other b,?_,fun k=>Be.trans (h.z0 k),fun k=>Be.trans (h.z1 k),fun k=>Be.trans (h.z2 k),h.apart,h.evA,h.lo,by simpa [World.setCell] using h.hi,?_,h.xlo,?_⟩
 ·rw [hv,ht,<-hr]
  exact h.row.set (by simp;omega)
 ·rw [hv];exact h.vars.other (Ne.symm d)
 ·rw [ht];exact h.taken.other (Ne.symm c)
 ·rw [he];exact h.own.kept Bg (Or.inr (fun a=>h.evA.1 (Or.inl a)))
 ·rw [ho];exact h.obSet br j u (Or.inl rfl)
 ·rw [ho];exact hd
theorem RnG.setStep (h:RnG I B R br b1 b2 b3 fl dp st ev w):RnG I B R br b1 b2 b3 fl dp st.step ev (w.setCell ⟨br,3,none⟩ (zd U ((st.steps:Int)+1))):=
 h.set0 3 _ rfl rfl rfl rfl h.okd (by omega) (by simp [RSt.step])
theorem RnG.setEnd (h:RnG I B R br b1 b2 b3 fl dp st ev w) (en':Int):RnG I B R br b1 b2 b3 fl dp { st with en:=en' } ev (w.setCell ⟨br,4,none⟩ (zd U en')):=
 h.set0 4 _ rfl rfl rfl rfl h.okd (by omega) (by simp)
theorem RnG.setStop (h:RnG I B R br b1 b2 b3 fl dp st ev w) (a:Int):RnG I B R br b1 b2 b3 fl dp { st with sp:=a } ev (w.setCell ⟨br,5,none⟩ (zd U a)):=
 h.set0 5 _ rfl rfl rfl rfl h.okd (by omega) (by simp)
theorem DX (h:RnG I B R br b1 b2 b3 fl dp st ev w) (j:Nat) (u:Value):Fr br b1 b2 ev ev w (w.setCell ⟨br,j,none⟩ u):=
 have g:=Bg (w:=w) (r:=br) (j:=j) (u:=u)
 ⟨g.os,g.tape,g.output,g.size,fun k hk h0 _ _ _=>g.block k hk (by simpa using h0),fun k hk=>Or.inl hk⟩
theorem EQ (h:RnG I B R br b1 b2 b3 fl dp st ev w) (j:Nat) (u:Value):Fr br b1 b2 ev ev w (w.setCell ⟨b1,j,none⟩ u):=
 have g:=Bg (w:=w) (r:=b1) (j:=j) (u:=u)
 ⟨g.os,g.tape,g.output,g.size,fun k hk _ h0 _ _=>g.block k hk (by simpa using h0),fun k hk=>Or.inl hk⟩
theorem QE (h:RnG I B R br b1 b2 b3 fl dp st ev w) (j:Nat) (u:Value):Fr br b1 b2 ev ev w (w.setCell ⟨b2,j,none⟩ u):=
 have g:=Bg (w:=w) (r:=b2) (j:=j) (u:=u)
 ⟨g.os,g.tape,g.output,g.size,fun k hk _ _ h0 _=>g.block k hk (by simpa using h0),fun k hk=>Or.inl hk⟩
theorem RnG.setVar (h:RnG I B R br b1 b2 b3 fl dp st ev w) (v x:Int) (hv:v.toNat < st.vars.length):RnG I B R br b1 b2 b3 fl dp (st.setv v x) ev (w.setCell ⟨b1,v.toNat,none⟩ (zd U x)):=by
 obtain ⟨d,g,c,f,b,e⟩:=h.apart;refine ⟨?_,?_,h.taken.other (Ne.symm c),h.first.other b,h.own.kept Bg (Or.inr (fun a=>h.evA.2.1 (Or.inl a))),fun k=>Be.trans (h.z0 k),fun k=>Be.trans (h.z1 k),fun k=>Be.trans (h.z2 k),h.apart,h.evA,h.lo,by simpa [World.setCell] using h.hi,h.obSet b1 _ _ (Or.inr (Or.inl rfl)),h.xlo,h.okd⟩
 ·have:=h.row.other (j:=v.toNat) (v:=zd U x) d
  simpa [RSt.setv] using this
 ·have:=h.vars.set (j:=v.toNat) (v:=zd U x) (by simpa using hv)
  simpa [RSt.setv,Cj] using this
theorem RnG.setTaken (h:RnG I B R br b1 b2 b3 fl dp st ev w) (c:Nat) (x:Int) (hv:c < st.taken.length):RnG I B R br b1 b2 b3 fl dp { st with taken:=st.taken.set c x } ev (w.setCell ⟨b2,c,none⟩ (zd U x)):=by
 obtain ⟨i,e,d,g,f,b⟩:=h.apart;refine ⟨?_,h.vars.other d,?_,h.first.other b,h.own.kept Bg (Or.inr (fun a=>h.evA.2.2.1 (Or.inl a))),fun k=>Be.trans (h.z0 k),fun k=>Be.trans (h.z1 k),fun k=>Be.trans (h.z2 k),h.apart,h.evA,h.lo,by simpa [World.setCell] using h.hi,h.obSet b2 _ _ (Or.inr (Or.inr rfl)),h.xlo,h.okd⟩
 ·have:=h.row.other (j:=c) (v:=zd U x) e
  simpa using this
 ·have:=h.taken.set (j:=c) (v:=zd U x) (by simpa using hv)
  simpa [Cj] using this
theorem RnG.grown {v':Value} {w':World} (h:RnG I B R br b1 b2 b3 fl dp st ev w) (e:Ev4) (hg:w.grownBy w' ev.ev.ownBlock) (ho:w'.ownsRow B 136 4 v' (st.ev.length+1) (Bi st.ev++Bi [e])) (hat:v'.ownBlock=ev.ev.ownBlock\/v'.ownBlock=some w.heap.size) :
  RnG I B R br b1 b2 b3 fl dp (st.tell e) ⟨v',ev.X⟩ (w'.setCell ⟨br,0,none⟩ v')/\Fr br b1 b2 ev ⟨v',ev.X⟩ w (w'.setCell ⟨br,0,none⟩ v'):=by
 obtain ⟨G,F,L,E,K,J⟩:=h.apart;have o:ev.ev.ownBlock≠some br:=fun a=>h.evA.1 (Or.inl a);have s:ev.ev.ownBlock≠some b1:=fun a=>h.evA.2.1 (Or.inl a);have p:ev.ev.ownBlock≠some b2:=fun a=>h.evA.2.2.1 (Or.inl a);have D:ev.ev.ownBlock≠some b3:=fun a=>h.evA.2.2.2 (Or.inl a);have hi:=h.hi;have m:∀ b,b < w.heap.size->ev.ev.ownBlock≠some b->w'.heap[b]? = w.heap[b]?:=fun b i d=>hg.block b i (fun a=>d a.symm);have c:∀ (cs:List Value) (b:Nat),Ad cs w b->b < w.heap.size->ev.ev.ownBlock≠some b->Ad cs w' b:=fun cs b x i d j u t=>(World.cell?_of_block (m b i d)).trans (x j u t);have d:∀ b,b < w.heap.size->ev.ev.ownBlock≠some b->v'.ownBlock≠some b:=fun b i a=>by
  rcases hat with h1 | h1
  ·rw [h1];exact a
  ·rw [h1];intro hy;injection hy;omega
 have f:∀ b,b < w.heap.size->¬ ev.at b->¬ (Ow.mk v' ev.X).at b:=fun b i a hy=>by
  rcases hy with hy | hy
  ·exact d b i (fun q=>a (Or.inl q)) hy
  ·exact a (Or.inr hy)
 have n:∀ b k,b < w.heap.size->ev.ev.ownBlock≠some b->w'.frozen? ⟨b,k,none⟩=w.frozen? ⟨b,k,none⟩:=fun b k i a=>World.frozen?_of_block (m b i a);have H:=hg.size;have g:=Bg (w:=w') (r:=br) (j:=0) (u:=v');constructor
 ·refine ⟨?_,(c _ _ h.vars hi.2.1 s).other (Ne.symm G),(c _ _ h.taken hi.2.2.1 p).other (Ne.symm F),(c _ _ h.first hi.2.2.2.1 D).other E,?_,fun k=>Be.trans ((n _ _ hi.1 o).trans (h.z0 k)),fun k=>Be.trans ((n _ _ hi.2.1 s).trans (h.z1 k)),fun k=>Be.trans ((n _ _ hi.2.2.1 p).trans (h.z2 k)),h.apart,⟨f _ hi.1 h.evA.1,f _ hi.2.1 h.evA.2.1,f _ hi.2.2.1 h.evA.2.2.1,f _ hi.2.2.2.1 h.evA.2.2.2⟩,h.lo,by simp [World.setCell];omega,?_,h.xlo,h.okd⟩
  ·have:=(c _ _ h.row hi.1 o).set (j:=0) (v:=v') (by simp)
   simpa [RSt.tell] using this
  ·have y:(st.tell e).ev.length=st.ev.length+1:=by simp [RSt.tell]
   have z:Bi (st.tell e).ev=Bi st.ev++Bi [e]:=CP _ _;rw [y,z];exact ho.kept Bg (Or.inr (d _ hi.1 o))
  ·refine I.kept h.ob (g.os.trans hg.os) (g.tape.trans hg.tape) (g.output.trans hg.output) (Nat.le_trans hg.size g.size) (fun k l hy=>(g.block k (by omega) (fun q=>hy (Or.inl (Option.some.inj q)))).trans (m k l (fun q=>hy (Or.inr (Or.inr (Or.inr q)))))) (fun k hy=>?_) (fun k hy=>?_)
   rotate_left
   ·exact Nat.lt_of_lt_of_le (MJ ho (Nat.lt_of_lt_of_le hi.1 hg.size) (Nat.lt_of_lt_of_le hi.2.1 hg.size) (Nat.lt_of_lt_of_le hi.2.2.1 hg.size) k hy) g.size
   rcases hy with hy | hy | hy | hy
   ·exact Or.inl (Or.inl hy)
   ·exact Or.inl (Or.inr (Or.inl hy))
   ·exact Or.inl (Or.inr (Or.inr (Or.inl hy)))
   ·rcases hat with h1 | h1
    ·rw [h1] at hy;exact Or.inl (Or.inr (Or.inr (Or.inr hy)))
    ·rw [h1] at hy;injection hy with hy;exact Or.inr (by omega)
 ·refine ⟨g.os.trans hg.os,g.tape.trans hg.tape,g.output.trans hg.output,Nat.le_trans hg.size g.size,fun k l C _ _ A=>(g.block k (by omega) (by simpa using C)).trans (m k l (fun q=>A (Or.inl q))),fun k hy=>?_⟩
  rcases hy with hy | hy
  ·rcases hat with h1 | h1
   ·exact Or.inl (Or.inl (h1 ▸ hy))
   ·have hy:v'.ownBlock=some k:=hy
    rw [h1] at hy;injection hy with hy;exact Or.inr (by omega)
  ·exact Or.inl (Or.inr hy)
end
structure Bh (nv ni F:Nat) (st:RSt):Prop where
 vl:st.vars.length=nv
 tl:st.taken.length=ni
 i32:∀ x∈st.vars,I32 x
 tk:∀ x∈st.taken,0<=x/\x<=(st.steps:Int)
 el:st.ev.length<=st.steps
 sb:st.steps<=F
theorem Bh.step {nv ni F:Nat} {st:RSt} (h:Bh nv ni F st) (hs:st.steps < F):Bh nv ni F st.step:=
 ⟨h.vl,h.tl,h.i32,fun x hx=>⟨(h.tk x hx).1,by have:=(h.tk x hx).2;simp [RSt.step];omega⟩,Nat.le_succ_of_le h.el,hs⟩
theorem Bh.o {nv ni F:Nat} {st:RSt} (h:Bh nv ni F st):Bh nv ni F st.out:=⟨h.vl,h.tl,h.i32,h.tk,h.el,h.sb⟩
theorem Bh.pass {nv ni F:Nat} {st:RSt} (h:Bh nv ni F st) (ob:Ob) (kind:Nat) (a:Int) (dp:Nat) (d):Bh nv ni F (Bq ob kind a dp d st).2:=by
 unfold Bq;split
 ·exact ⟨h.vl,h.tl,h.i32,h.tk,h.el,h.sb⟩
 ·exact ⟨h.vl,h.tl,h.i32,h.tk,h.el,h.sb⟩
theorem Jt {l:List Int} {i:Nat} {x y:Int} (h:y∈l.set i x):y=x\/y∈l:=by
 rcases List.mem_or_eq_of_mem_set h with h | h
 ·exact Or.inr h
 ·exact Or.inl h
theorem Bh.setv {nv ni F:Nat} {st:RSt} (h:Bh nv ni F st) {v x:Int} (hx:I32 x):Bh nv ni F (st.setv v x):=
 ⟨by simp [RSt.setv,h.vl],h.tl,fun y hy=>by rcases Jt hy with rfl | hy;exact hx;exact h.i32 y hy,h.tk,h.el,h.sb⟩
theorem Bh.tell {nv ni F:Nat} {st:RSt} (h:Bh nv ni F st) (e:Ev4) (hl:st.ev.length < st.steps):Bh nv ni F (st.tell e):=
 ⟨h.vl,h.tl,h.i32,h.tk,by simp [RSt.tell];omega,h.sb⟩
structure Gl (nv ni F:Nat) (st:RSt):Prop where
 ok:Bh nv ni F st
 el:st.ev.length < st.steps
 tk:∀ x∈st.taken,x+1<=(st.steps:Int)
theorem Bh.stepS {nv ni F:Nat} {st:RSt} (h:Bh nv ni F st) (hs:st.steps < F):Gl nv ni F st.step:=
 ⟨h.step hs,Nat.lt_succ_of_le h.el,fun x hx=>by have:=(h.tk x hx).2;show x+1<=((st.steps+1:Nat):Int);omega⟩
theorem Gl.pass {nv ni F:Nat} {st:RSt} (h:Gl nv ni F st) (ob:Ob) (kind:Nat) (a:Int) (dp:Nat) (d):Gl nv ni F (Bq ob kind a dp d st).2:=by
 refine ⟨h.ok.pass ob kind a dp d,?_,?_⟩
 ·unfold Bq
  split
  ·exact h.el
  ·exact h.el
 ·unfold Bq
  split
  ·exact h.tk
  ·exact h.tk
theorem Gl.took {nv ni F:Nat} {st:RSt} (h:Gl nv ni F st) (c:Int):Bh nv ni F (st.took c):=by
 refine ⟨h.ok.vl,by simp [RSt.took,h.ok.tl],h.ok.i32,fun y hy=>?_,h.ok.el,h.ok.sb⟩;have a:(st.took c).steps=st.steps:=rfl;rw [a];rcases Jt hy with rfl | hy
 ·have:st.taken.getD c.toNat 0=0\/st.taken.getD c.toNat 0∈st.taken:=by
   rw [List.getD_eq_getElem?_getD];cases hc:st.taken[c.toNat]? with
   | none=>exact b.inl rfl
   | some x=>exact b.inr (List.mem_of_getElem? hc)
  rcases this with hz | hz
  ·have:=h.el;rw [hz];omega
  ·have:=h.ok.tk _ hz;have:=h.tk _ hz;omega
 ·exact h.ok.tk y hy
theorem Gl.tell {nv ni F:Nat} {st:RSt} (h:Gl nv ni F st) (e:Ev4):Bh nv ni F (st.tell e):=h.ok.tell e h.el
theorem Gl.setv {nv ni F:Nat} {st:RSt} (h:Gl nv ni F st) {v x:Int} (hx:I32 x):Gl nv ni F (st.setv v x):=⟨h.ok.setv hx,h.el,h.tk⟩
theorem RE {w w0 w1:World} {a0 a1:Addr} {v0 v1:Value} (h:w0.cell? a0=some v0/\w0.cell? a1=some v1/\Ov w w0) (hb:Ov w0 w1) :
  w1.cell? a0=some v0/\w1.cell? a1=some v1/\Ov w w1:=⟨Ab hb _ _ h.1,Ab hb _ _ h.2.1,Ac h.2.2 hb⟩
theorem Ng (kd va ot ek en:Int) (xa xl xc aa al ac ta tl tc ea el ec) (n1 n2:Int) (w:World) (h1:0<=n1/\n1<=100) (h2:0<=n2/\n2<=100)
  (KT:Hx (∀ W,Ov w W->Calls Tryz.prog 181 #[O ta tl tc] W fun e w'=>e=zj (zd U n1)/\Ov W w'))
  (KE:Hx (∀ W,Ov w W->Calls Tryz.prog 181 #[O ea el ec] W fun e w'=>e=zj (zd U n2)/\Ov W w')) :
  Calls Tryz.prog 185 #[zh #[zd U kd,zd U va,zd U ot,zd U ek,zd U en,O xa xl xc,O aa al ac,O ta tl tc,O ea el ec]] w fun e w'=>e=zj (zd U (1+n1+n2))/\Ov w w':=by
 have a:Ov w (w.alloc (ze #[zd U kd,zd U va,zd U ot,zd U ek,zd U en,O xa xl xc,O aa al ac,O ta tl tc,O ea el ec] 130)):=bA w _;have b:=B3 w [zd U kd,zd U va,zd U ot,zd U ek,zd U en,O xa xl xc,O aa al ac,O ta tl tc,O ea el ec] 130;have d:=b 7 _ rfl;have c:=b 8 _ rfl;clear b;obtain ⟨m,l⟩:=h1;obtain ⟨k,j⟩:=h2;go_enter Tryz.func185,Tryz.ntmps185;go_wp2_with fail;go_region_held3 (fun W=>W.cell? ⟨w.heap.size,7,none⟩=some (O ta tl tc)/\W.cell? ⟨w.heap.size,8,none⟩=some (O ea el ec)/\Ov w W) (first | assumption | exact ⟨d,c,below_drewN a 1⟩ | exact RE (by assumption) hbp | exact RE (by assumption) hbq | fail) (first | (go_at_call_of 181 (Value.slice ta tl tc);refine (KT.o _ (by assumption:_/\_/\Below _ _ _).2.2).mono ?_;rintro e i ⟨rfl,hbp⟩) | (go_at_call_of 181 (Value.slice ea el ec);refine (KE.o _ (by assumption:_/\_/\Below _ _ _).2.2).mono ?_;rintro e h ⟨rfl,hbq⟩));obtain ⟨-,-,f⟩:=(by assumption:_/\_/\Below _ _ _);have g:Hx (IntKind.i64.wrap (IntKind.i64.wrap (1+n1)+n2)=1+n1+n2):=by
  show _=_;rw [IntWalk.i64_in (1+n1) (by omega),IntWalk.i64_in _ (by omega)]
 clear d c a KT KE;go_wp2_with fail;go_ret;refine ⟨?_,f⟩;first | rfl | (rw [<-g.o];rfl)
def Mz (K k:Nat):Prop:=∀ (v:Value) (l:List D) (w:World),Bj w K k v l->AI k l<=100->Calls Tryz.prog 181 #[v] w fun e w'=>e=zj (zd U (AI k l:Nat))/\Ov w w'
def My (K k:Nat):Prop:=∀ (cs:List Value) (d:D) (w:World),RS w K k cs d->CY k d<=100->Calls Tryz.prog 185 #[.agg cs.toArray] w fun e w'=>e=zj (zd U (CY k d:Nat))/\Ov w w'
theorem IK (K k:Nat) (h:Mz K k):My K (k+1):=by
 intro t d w i j;have a:CY (k+1) d=1+AI k (Aj d)+AI k (Ao d):=rfl;obtain ⟨o,n,e,b,c,s,r,g,f,q,p,rfl,-,-,-,-,-,l,m,-,-,-⟩:=i.form;rw [a] at j ⊢;have:=Ng (Ag d) (Ap d) (Ae d) o n e b c s (Ai d).length r g (Aj d).length f q (Ao d).length p (AI k (Aj d):Nat) (AI k (Ao d):Nat) w (by omega) (by omega)
  (Aa fun W hW=>h _ _ W (l.over hW) (by omega)) (Aa fun W hW=>h _ _ W (m.over hW) (by omega))
 push_cast
 exact this
theorem MR (K k:Nat) (h:My K k):Mz K k:=by
 intro v l w H S;have R:l.length<=9223372036854775807:=H.1;obtain ⟨ao,a1,rfl,u⟩:=H.2;have HC:=Aa u;have T:=Aa h;have Q:=Aa S;clear u H h S;go_enter Tryz.func181,Tryz.ntmps181;go_wp2_with fail;go_loopw [3,8] (fun c i wr=>∃ j:Nat,j<=l.length/\i=zd U j/\c=zd U (AI k (l.take j):Nat)/\Ov w wr) (fun _ i _=>l.length - (intOf i).toNat)
 case atStart=>exact ⟨0,Nat.zero_le _,rfl,by simp [AI],Below.refl _ w⟩
 case round=>
  obtain ⟨j,hj,rfl,rfl,d⟩:=hrel;by_cases hjl:j < l.length
  ·obtain ⟨b,E,rfl,t⟩:=HC.o (by rintro rfl;simp at hjl)
   obtain ⟨cs,G,a,C⟩:=t j l[j] (List.getElem?_eq_getElem hjl);have g:=Gd (k:=k) hjl;have F:AI k (l.take (j+1))<=100:=by
    have e1:AI k l=AI k (l.take (j+1))+AI k (l.drop (j+1)):=by
     unfold AI;rw [<-List.sum_append,<-List.map_append,List.take_append_drop]
    have:=Q.o;omega
   obtain ⟨B,rfl⟩:∃ B,k=B + 1:=by
    cases k with
    | zero=>exact C.elim
    | succ k=>exact ⟨k,rfl⟩
   have D:=Aa fun W (hW:Ov w W)=>T.o cs l[j] W (RS.mono (Ab hW) _ _ _ _ (Nat.le_refl _) C) (by omega);obtain ⟨ek,en,Y,V,X,aa,ac,ta,tc,ea,ec,s,-,-,-,-,-,-,-,-,-,-⟩:=C.form;subst s;obtain ⟨kd,q⟩:=nm (Ag l[j]);obtain ⟨Z,m⟩:=nm (Ap l[j]);obtain ⟨ot,p⟩:=nm (Ae l[j]);obtain ⟨al,z⟩:=nm ((Ai l[j]).length);obtain ⟨tl,n⟩:=nm ((Aj l[j]).length);obtain ⟨el,r⟩:=nm ((Ao l[j]).length);rw [<-q,<-m,<-p,<-z,<-n,<-r] at a D;obtain ⟨M,J⟩:∃ M:Nat,M=AI (B + 1) (l.take j):=⟨_,rfl⟩;obtain ⟨N,I⟩:∃ N:Nat,N=CY (B + 1) l[j]:=⟨_,rfl⟩;rw [<-J,<-I] at g;rw [<-I] at D;rw [<-J];have P:=Aa g;have au:M+N<=100:=by omega
   have q0:wr.cell? ⟨b,E+j*9,none⟩=_:=Ab d _ _ (a 0 _ rfl);have q1:=Ab d _ _ (a 1 _ rfl);have q2:=Ab d _ _ (a 2 _ rfl);have q3:=Ab d _ _ (a 3 _ rfl);have q4:=Ab d _ _ (a 4 _ rfl);have q5:=Ab d _ _ (a 5 _ rfl);have q6:=Ab d _ _ (a 6 _ rfl);have q7:=Ab d _ _ (a 7 _ rfl);have q8:=Ab d _ _ (a 8 _ rfl);have x:Ov wr (wr.alloc (ze #[zd U kd,zd U Z,zd U ot,zd U ek,zd U en,O Y V X,O aa al ac,O ta tl tc,O ea el ec] 130)):=bA wr _;have f:=d.trans (x.mono d.size);have A:=Aa (D.o _ f);clear a t C G q m p z n r J I g F D T;go_wp2_with fail;refine (A.o).mono ?_;rintro e w1 ⟨rfl,y⟩;have L:=f.trans (y.mono f.size);clear A y f x q0 q1 q2 q3 q4 q5 q6 q7 q8 d;go_wp2_with fail;refine ⟨⟨j+1,by omega,by go_num,?_,L⟩,by simp [intOf];omega⟩;rw [P.o];simp
  ·have hd:l.take j=l:=List.take_of_length_le (by omega)
   rw [hd];go_wp2_with fail;go_ret;exact ⟨rfl,d⟩
theorem FD (K:Nat):∀ k,Mz K k
 | 0=>MR K 0 (fun cs d w hr _=>hr.elim)
 | k+1=>MR K (k+1) (IK K k (FD K k))
theorem OT (K:Nat):∀ k,My K k
 | 0=>fun cs d w hr _=>hr.elim
 | k+1=>IK K k (FD K k)
end Go.Proofs.YtfffpjkcfnekaaaGreat.Ex
