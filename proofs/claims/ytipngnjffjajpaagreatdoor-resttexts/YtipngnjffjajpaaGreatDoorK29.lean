/- What may be written into what came: ints and strings alone, in blocks of one's own. -/
import Derived.Test.YtipngnjffjajpaaGreatDoorK07
import Derived.Deep.Draws
import Derived.LaidEql
import Derived.MapFrom
set_option linter.unusedVariables false
set_option maxHeartbeats 8000000
set_option maxRecDepth 100000
namespace Go.Proofs.YtipngnjffjajpaaGreatDoor.Tx
open Go.RowKit
open Go.Value renaming int -> O, slice -> zd, bool -> ze, agg -> zf, pointer -> zh, tuple -> zj
open Go.IntKind renaming i64 -> zc
open Go.Obj renaming cells -> zg
open Go.Ending renaming returned -> zi
def SmK (u v:Value):Prop:=v=u\/(∃ a b,u=O zc a/\v=O zc b)\/(∃ x y,u=.string x/\v=.string y)
theorem SmK.trans {u v x:Value} (h:SmK u v) (k:SmK v x):SmK u x:=by
 rcases h with rfl | ⟨a,b,rfl,rfl⟩ | ⟨a,b,rfl,rfl⟩
 ·exact k
 ·rcases k with rfl | ⟨c,d,h,rfl⟩ | ⟨c,d,h,rfl⟩
  ·exact Or.inr (Or.inl ⟨a,b,rfl,rfl⟩)
  ·exact Or.inr (Or.inl ⟨a,d,rfl,rfl⟩)
  ·cases h
 ·rcases k with rfl | ⟨c,d,h,rfl⟩ | ⟨c,d,h,rfl⟩
  ·exact Or.inr (Or.inr ⟨a,b,rfl,rfl⟩)
  ·cases h
  ·exact Or.inr (Or.inr ⟨a,d,rfl,rfl⟩)
theorem SmK.slice {ao:Option Addr} {n c:Nat} {v:Value} (h:SmK (zd ao n c) v):v=zd ao n c:=by
 rcases h with h | ⟨a,b,h,-⟩ | ⟨a,b,h,-⟩
 ·exact h
 ·cases h
 ·cases h
theorem SmK.int {a:Int} {v:Value} (h:SmK (O zc a) v):∃ b,v=O zc b:=by
 rcases h with h | ⟨a,b,h,c⟩ | ⟨a,b,h,-⟩
 ·exact ⟨_,h⟩
 ·exact ⟨_,c⟩
 ·cases h
theorem SmK.str {a:ByteArray} {v:Value} (h:SmK (.string a) v):∃ b,v=.string b:=by
 rcases h with h | ⟨a,b,h,-⟩ | ⟨a,b,h,c⟩
 ·exact ⟨_,h⟩
 ·cases h
 ·exact ⟨_,c⟩
structure Wr (B:Nat) (w w':World):Prop where
 bel:Below B w w'
 cel:∀ a u,w.cell? a=some u->∃ v,w'.cell? a=some v/\SmK u v
 frz:∀ a,a.block < w.heap.size->w.frozen? a=false->w'.frozen? a=false
section
variable {B:Nat} {w w1 w2:World}
theorem Wr.refl (B:Nat) (w:World):Wr B w w:=⟨Below.refl _ _,fun a u h=>⟨u,h,Or.inl rfl⟩,fun _ _ h=>h⟩
theorem Wr.trans (h:Wr B w w1) (k:Wr B w1 w2):Wr B w w2:=⟨h.bel.trans k.bel,fun a u hu=>by
 obtain ⟨v,h1,h2⟩:=h.cel a u hu;obtain ⟨x,h3,h4⟩:=k.cel a v h1;exact ⟨x,h3,h2.trans h4⟩,fun a hb hz=>k.frz a (Nat.lt_of_lt_of_le hb h.bel.size) (h.frz a hb hz)⟩
theorem Wr.over (h:Ov w w1) (hB:B<=w.heap.size):Wr B w w1:=⟨h.mono hB,fun a u hu=>⟨u,ce1 h hu,Or.inl rfl⟩,fun a hb hz=>by
 rw [World.frozen?_of_block (a:=a) (h.block _ hb)];exact hz⟩
theorem Wr.set {b o:Nat} {u v:Value} (hc:w.cell? ⟨b,o,none⟩=some u) (hk:SmK u v) (hB:B<=b):Wr B w (w.setCell ⟨b,o,none⟩ v):=by
 refine ⟨(Below.refl _ _).setCell (p:=⟨b,o,none⟩) hB _,fun a x c=>?_,fun a g f=>by simp [go_sem,f]⟩;by_cases h:a=⟨b,o,none⟩
 ·subst h
  rw [hc] at c;injection c with c;subst c;have g:=World.block_lt_of_cell? w _ hc;exact ⟨v,by simp [World.cell?_setCell_same _ _ _ hc],hk⟩
 ·exact ⟨x,(World.cell?_setCell_other _ _ _ _ (Ne.symm h)).trans c,Or.inl rfl⟩
end
def InW (B:Nat) (w:World) (b o:Nat):Prop:=B<=b/\(∃ n,w.cell? ⟨b,o,none⟩=some (O zc n))/\w.frozen? ⟨b,o,none⟩=false
def StW (B:Nat) (w:World) (b o:Nat):Prop:=B<=b/\(∃ n,w.cell? ⟨b,o,none⟩=some (.string n))/\w.frozen? ⟨b,o,none⟩=false
section
variable {B b o:Nat} {w w1:World}
theorem InW.wr (h:InW B w b o) (k:Wr B w w1):InW B w1 b o:=by
 obtain ⟨i,⟨n,a⟩,g⟩:=h;obtain ⟨v,f,c⟩:=k.cel _ _ a;obtain ⟨m,rfl⟩:=c.int;exact ⟨i,⟨m,f⟩,k.frz _ (World.block_lt_of_cell? w _ a) g⟩
theorem StW.wr (h:StW B w b o) (k:Wr B w w1):StW B w1 b o:=by
 obtain ⟨i,⟨n,a⟩,g⟩:=h;obtain ⟨v,f,c⟩:=k.cel _ _ a;obtain ⟨m,rfl⟩:=c.str;exact ⟨i,⟨m,f⟩,k.frz _ (World.block_lt_of_cell? w _ a) g⟩
theorem Wr.slc (k:Wr B w w1) {a:Addr} {ao:Option Addr} {n c:Nat} (h:w.cell? a=some (zd ao n c)):w1.cell? a=some (zd ao n c):=by
 obtain ⟨v,f,b⟩:=k.cel _ _ h;rw [f,b.slice]
end
def LiW (B:Nat) (w:World) (s p:Nat) (ao:Option Addr) (n:Nat):Prop:=∀ j,j < n->∃ b off,ao=some ⟨b,off,none⟩/\StW B w b (off+j*s+p)
theorem LiW.wr {B s p n:Nat} {w w1:World} {ao:Option Addr} (h:LiW B w s p ao n) (k:Wr B w w1):LiW B w1 s p ao n:=fun j hj=>by
 obtain ⟨b,off,h1,h2⟩:=h j hj;exact ⟨b,off,h1,h2.wr k⟩
def DeW (B:Nat) (w:World) (ao:Option Addr) (n:Nat):Prop:=∀ j,j < n->∃ b off aL nL cL aP nP cP,ao=some ⟨b,off,none⟩/\InW B w b (off+j*13)/\w.cell? ⟨b,off+j*13+5,none⟩=some (zd aL nL cL)/\w.cell? ⟨b,off+j*13+6,none⟩=some (zd aP nP cP)/\LiW B w 4 1 aL nL/\LiW B w 1 0 aP nP/\nL<=maxLen/\nP<=maxLen
def MaW (B:Nat) (w:World) (ao:Option Addr) (n:Nat):Prop:=∀ j,j < n->∃ b off,ao=some ⟨b,off,none⟩/\InW B w b (off+j*12)
theorem DeW.wr {B n:Nat} {w w1:World} {ao:Option Addr} (h:DeW B w ao n) (k:Wr B w w1):DeW B w1 ao n:=fun j hj=>by
 obtain ⟨b,off,aL,nL,cL,aP,nP,cP,h1,h2,h3,h4,h5,h6,h7,h8⟩:=h j hj;exact ⟨b,off,aL,nL,cL,aP,nP,cP,h1,h2.wr k,k.slc h3,k.slc h4,h5.wr k,h6.wr k,h7,h8⟩
theorem MaW.wr {B n:Nat} {w w1:World} {ao:Option Addr} (h:MaW B w ao n) (k:Wr B w w1):MaW B w1 ao n:=fun j hj=>by
 obtain ⟨b,off,h1,h2⟩:=h j hj;exact ⟨b,off,h1,h2.wr k⟩
def LJ (B:Nat) (w:World):World:={ w with heap:=w.heap.mapIdx fun k o=>if k < B then .map #[] 0 else o }
theorem Jq {B k:Nat} {w:World} (h:B<=k):(LJ B w).heap[k]? = w.heap[k]?:=by
 simp only [LJ,Array.getElem?_mapIdx]
 cases w.heap[k]? with
 | none=>rfl
 | some o=>simp [Nat.not_lt.2 h]
theorem Ni {B b o:Nat} {w:World} {u:Value} (h:(LJ B w).cell? ⟨b,o,none⟩=some u):B<=b/\w.cell? ⟨b,o,none⟩=some u:=by
 by_cases hb:B<=b
 ·refine ⟨hb,?_⟩
  unfold World.cell? at h ⊢;rw [Jq hb] at h;exact h
 ·exfalso
  unfold World.cell? at h;simp only [LJ,Array.getElem?_mapIdx] at h
  cases e:w.heap[b]? with
  | none=>rw [e] at h;cases h
  | some x=>rw [e] at h;simp [Nat.lt_of_not_le hb] at h
theorem OY {B b o:Nat} {w:World} (hb:B<=b):(LJ B w).frozen? ⟨b,o,none⟩=w.frozen? ⟨b,o,none⟩:=World.frozen?_of_block (a:=⟨b,o,none⟩) (Jq hb)
theorem Off.emp {B:Nat} {w:World} {P:World->Prop} (h:Off B none w P):P (LJ B w):=h _ fun k hk _ _=>Jq hk
theorem QK {B ke kc:Nat} {w:World} {a a2:Option Addr} {n c n2 c2:Nat} {ds l:List D} (h:Off B none w (fun W=>ZT W ke kc (zf #[zd a n c,zd a2 n2 c2]) ds l)):DeW B w a n/\MaW B w a2 n2:=by
 obtain ⟨a',c',ah,ad,e,Y,X⟩:=h.emp;simp only [Value.agg.injEq,Array.mk.injEq,List.cons.injEq,Value.slice.injEq,and_true] at e;obtain ⟨⟨rfl,rfl,rfl⟩,rfl,rfl,rfl⟩:=e;have fr:∀ {α:Type} {s:Nat} {R:List Value->α->Prop} {ao:Option Addr} {m c:Nat} {xs:List α},LS s R (LJ B w) (zd ao m c) xs->∀ j (hj:j < xs.length),∃ b off cs,ao=some ⟨b,off,none⟩/\cs.length=s/\R cs xs[j]/\∀ i u,cs[i]? = some u->B<=b/\w.cell? ⟨b,off+j*s+i,none⟩=some u/\w.frozen? ⟨b,off+j*s+i,none⟩=false:=by
  intro α s R ao m c xs K j hj;obtain ⟨b,off,rfl,V⟩:=K.fz (by rintro rfl;simp at hj);obtain ⟨b',J,e,cs,C,f,A⟩:=K.at hj;simp only [Option.some.injEq,Addr.mk.injEq,and_true] at e;obtain ⟨rfl,rfl⟩:=e;refine ⟨b,off,cs,rfl,C,A,fun i u L=>?_⟩;obtain ⟨P,Z⟩:=Ni (f i u L);have hi:i < s:=by rw [<-C];exact (List.getElem?_eq_some_iff.1 L).1
  have G:j*s+i < xs.length*s:=by
   have:(j+1)*s<=xs.length*s:=Nat.mul_le_mul_right _ hj;rw [Nat.succ_mul] at this;omega
  have M:=V.2 _ G;rw [OY P,<-Nat.add_assoc] at M;exact ⟨P,Z,M⟩
 refine ⟨fun j hj=>?_,fun j hj=>?_⟩
 ·obtain ⟨b,off,cs,rfl,C,hr,f⟩:=fr Y j hj
  obtain ⟨kd,ae,x,y,gv,aL,cL,U,aP,cP,T,aB,cB,Q,e0,e1,e2,e3,q,q1,S,r,rfl,-,-,-,O,N,-⟩:=hr;have v:=f 0 _ rfl;refine ⟨b,off,aL,U.length,cL,aP,T.length,cP,rfl,⟨v.1,⟨_,v.2.1⟩,v.2.2⟩,(f 5 _ rfl).2.1,(f 6 _ rfl).2.1,fun k H=>?_,fun k H=>?_,O.1,N.1⟩
  ·obtain ⟨I,E,cl,rfl,-,F,A⟩:=fr O k H
   obtain ⟨pa,po,pw,an,cn,ns,rfl,-⟩:=F;have g:=A 1 _ rfl;exact ⟨I,E,rfl,g.1,⟨_,g.2.1⟩,g.2.2⟩
  ·obtain ⟨I,E,cl,rfl,-,F,A⟩:=fr N k H
   rw [F.1] at A;have g:=A 0 _ rfl;exact ⟨I,E,rfl,g.1,⟨_,g.2.1⟩,g.2.2⟩
 ·obtain ⟨b,off,cs,rfl,C,hr,f⟩:=fr X j hj
  obtain ⟨k0,k1,k2,k3,k4,k5,k6,k7,q,q1,S,r,r1,r2,s,s1,s2,t,t1,t2,rfl⟩:=hr.cells;have v:=f 0 _ rfl;exact ⟨b,off,rfl,v.1,⟨_,v.2.1⟩,v.2.2⟩
def Cbl (W:World) (b:Nat):Prop:=∃ c T f,W.heap[b]? = some (.cells c T f)
theorem Cbl.of_cell {W:World} {b off:Nat} {u:Value} (h:W.cell? ⟨b,off,none⟩=some u):Cbl W b:=by
 unfold World.cell? at h;split at h
 ·rename_i c T f e
  exact ⟨c,T,f,e⟩
 ·cases h
theorem Cbl.of_heap {W W':World} {b:Nat} (h:Cbl W b) (e:W'.heap[b]? = W.heap[b]?):Cbl W' b:=by
 obtain ⟨c,T,f,a⟩:=h;exact ⟨c,T,f,e.trans a⟩
theorem Ku (W:World):W.drewN 0=W:=rfl
theorem JV {W:World} {a b:Addr} (hf:W.frozen? a=false) (ha:Cbl W a.block) (hb:Cbl W b.block):∃ r n,(sameAddr a b).run Tryz.prog W=.ok r (W.drewN n):=by
 obtain ⟨g,j,y,ha⟩:=ha;obtain ⟨f,i,x,hb⟩:=hb;have l:W.drewN 1=W.drew:=rfl;by_cases hbl:a.block=b.block
 ·exact ⟨a == b,0,by simp [sameAddr,hbl,Ku]⟩
 ·obtain ⟨m,c⟩:∃ m,(mayBeOne a b).run Tryz.prog W=.ok m W:=by
   have v:W.shape? a.block=some (j,g.size):=by simp [World.shape?,ha]
   have u:W.shape? b.block=some (i,f.size):=by simp [World.shape?,hb]
   cases x1:W.frozen? b <;> cases x2:W.frozen? { block:=a.block,off:=g.size } <;> cases x3:W.frozen? { block:=b.block,off:=f.size } <;>
    exact ⟨_,by simp [mayBeOne,stringish,v,u,hf,x1,x2,x3];rfl⟩
  cases m with
  | true=>
   refine ⟨(Question.extern "sameAddr.stringBytes" 2).cut (W.tape W.drawn (Question.extern "sameAddr.stringBytes" 2)) == 1,1,?_⟩;simp [sameAddr,hbl,hf,ha,hb,noView,viewAt,World.shape?,c,l,Question.forced]
  | false=>
   refine ⟨false,0,?_⟩;simp [sameAddr,hbl,hf,ha,hb,noView,viewAt,World.shape?,c,Ku]
def kS (a b:Addr) (n:Int):Value:=zf #[zh (some a),zh (some b),O zc n]
def Fr0 (W:World) (a:Addr):Prop:=W.frozen? a=false/\Cbl W a.block
def EnO (W:World) (es:List MapEntry):Prop:=∀ e∈es,∃ a b n,e.key=kS a b n/\e.val=zf #[]/\Cbl W a.block/\Cbl W b.block
structure Il (tM tK tP:TypeId):Prop where
 m:Tryz.prog.underlying tM=some (.map tK 167)
 k:Tryz.prog.underlying tK=some (.struct #[{ name:= "first",type:=tP,offset:=0,embedded:=false,tag:= "",pkgPath:= "veilwork/show",byteOffset:=0 },{ name:= "second",type:=tP,offset:=1,embedded:=false,tag:= "",pkgPath:= "veilwork/show",byteOffset:=8 },{ name:= "many",type:=3,offset:=2,embedded:=false,tag:= "",pkgPath:= "veilwork/show",byteOffset:=16 }])
 p:∃ e,Tryz.prog.underlying tP=some (TypeDesc.pointer e)/\∃ s,s≠0/\∀ W:World,(sizeOf e).run Tryz.prog W=.ok s W
 s:Tryz.prog.stoodInHeld tK=false
theorem OH:Il 86 166 164:=⟨Tryz.underlying86,Tryz.underlying166,⟨_,Tryz.underlying164,12,by decide,fun W=>by simp [sizeOf,go_sem];kernel_rfl⟩,by kernel_rfl⟩
theorem OG:Il 87 178 176:=⟨Tryz.underlying87,Tryz.underlying178,⟨_,Tryz.underlying176,5,by decide,fun W=>by simp [sizeOf,go_sem];kernel_rfl⟩,by kernel_rfl⟩
section
variable {tM tK tP:TypeId}
theorem I1 (K:Il tM tK tP) {xs:Array Value} {off:Nat} {v:Value} (hx:xs[off]? = some v) (W:World):(part tP xs off).run Tryz.prog W=.ok v W:=by
 obtain ⟨e,a,-⟩:=K.p;simp [part,isAgg,run_underlying a,hx]
theorem Oa {xs:Array Value} {off:Nat} {v:Value} (hx:xs[off]? = some v) (W:World):(part 3 xs off).run Tryz.prog W=.ok v W:=by
 simp [part,isAgg,run_underlying Tryz.underlying3,hx]
theorem QC (K:Il tM tK tP) (em:Bool) (d:Nat) (a b:Addr) (n:Int) (W:World):(Instr.checkKey em (d+2) tK (kS a b n)).run Tryz.prog W=.ok () W:=by
 obtain ⟨e,f,-⟩:=K.p;have u:=run_underlying (P:=Tryz.prog) (w:=W) K.k;have up:=run_underlying (P:=Tryz.prog) (w:=W) f;have p0:=I1 K (xs:=#[zh (some a),zh (some b),O zc n]) (off:=0) rfl W;have p1:=I1 K (xs:=#[zh (some a),zh (some b),O zc n]) (off:=1) rfl W;have c:=Oa (xs:=#[zh (some a),zh (some b),O zc n]) (off:=2) rfl W;rw [show d+2=(d+1)+1 from rfl,Instr.checkKey];simp [u,up,kS,Instr.checkKey,p0,p1,c,run_underlying Tryz.underlying3]
theorem Ss (K:Il tM tK tP) (d:Nat) {a b:Addr} (W:World):(Op.equalIn (d+1) tP (zh (some a)) (zh (some b))).run Tryz.prog W=(sameAddr a b).run Tryz.prog W:=by
 obtain ⟨e,f,s,c,g⟩:=K.p;rw [Op.equalIn];simp [run_underlying f,g,c]
theorem Su (d:Nat) {m n:Int} (W:World):(Op.equalIn (d+1) 3 (O zc m) (O zc n)).run Tryz.prog W=.ok (m == n) W:=by
 rw [Op.equalIn];simp [run_underlying Tryz.underlying3]
theorem R3 (K:Il tM tK tP) (d:Nat) {a b a2 b2:Addr} {n n2:Int} {W:World} (ha:Fr0 W a) (hb:Fr0 W b) (ha2:Cbl W a2.block) (hb2:Cbl W b2.block):∃ r m,(Op.equalIn (d+2) tK (kS a b n) (kS a2 b2 n2)).run Tryz.prog W=.ok r (W.drewN m):=by
 obtain ⟨r1,c,i⟩:=JV ha.1 ha.2 ha2;obtain ⟨r2,j,l⟩:=JV (W:=W.drewN c) hb.1 hb.2 hb2;rw [show d+2=(d+1)+1 from rfl,Op.equalIn];have u:=fun w=>run_underlying (P:=Tryz.prog) (w:=w) K.k;have p0:=fun x y z W=>I1 K (xs:=#[x,y,z]) (off:=0) rfl W;have p1:=fun x y z W=>I1 K (xs:=#[x,y,z]) (off:=1) rfl W;have g:=fun x y z W=>Oa (xs:=#[x,y,z]) (off:=2) rfl W;have q:=fun (a b:Addr) W=>Ss K d (a:=a) (b:=b) W;have f:=fun (m n:Int) W=>Su d (m:=m) (n:=n) W
 cases r1 with
 | false=>
  refine ⟨false,c,?_⟩;simp [u,kS,p0,p1,g,q,f,i,K.s]
 | true=>
  cases r2 with
  | false=>
   refine ⟨false,c+j,?_⟩;simp [u,kS,p0,p1,g,q,f,i,l,K.s]
  | true=>
   refine ⟨n == n2,c+j,?_⟩;by_cases hn:n=n2 <;> simp [u,kS,p0,p1,g,q,f,i,l,K.s,hn]
theorem OV (K:Il tM tK tP) {a b:Addr} {n:Int}:∀ (es:List MapEntry) (i:Nat) (W:World),Fr0 W a->Fr0 W b->EnO W es->∃ r m,(Instr.findAsking tK (kS a b n) es i).run Tryz.prog W=.ok r (W.drewN m)/\∀ j v,r=some (j,v)->v=zf #[]
 | [],i,W,_,_,_=>⟨none,0,by simp [Instr.findAsking,Ku],by simp⟩
 | e::es,i,W,ha,hb,h=>by
  obtain ⟨a2,b2,n2,hk,hv,ca,cb⟩:=h e (by simp);obtain ⟨r,m,hq⟩:=R3 K 9998 (n:=n) (n2:=n2) ha hb ca cb;replace hq:(Op.equal tK (kS a b n) e.key).run Tryz.prog W=.ok r (W.drewN m):=by rw [hk];exact hq
  cases r with
  | true=>exact ⟨some (i,zf #[]),m,by simp [Instr.findAsking,hq,hv],by rintro j v ⟨⟩;rfl⟩
  | false=>
   obtain ⟨r2,c,l,g⟩:=OV K (n:=n) es (i+1) (W.drewN m) ha hb fun x f=>h x (List.mem_cons_of_mem _ f);exact ⟨r2,m+c,by simp [Instr.findAsking,hq,l],g⟩
theorem IL (K:Il tM tK tP) {a b:Addr} {n:Int} {es:List MapEntry} {W:World} (ha:Fr0 W a) (hb:Fr0 W b) (h:EnO W es):∃ r m,(Instr.findKey tK (kS a b n) es).run Tryz.prog W=.ok r (W.drewN m)/\∀ j v,r=some (j,v)->v=zf #[]:=by
 have u:=run_underlying (P:=Tryz.prog) (w:=W) K.k
 cases es with
 | nil=>exact ⟨none,0,by simp [Instr.findKey,u,Instr.findNow,Ku],by simp⟩
 | cons e es=>
  obtain ⟨r,m,hr,f⟩:=OV K (n:=n) (e::es) 0 W ha hb h;have c:∀ d,Instr.findNow (.struct d) (kS a b n) (e::es) 0=none:=fun d=>by simp [Instr.findNow,Instr.sameNow]
  exact ⟨r,m,by simp [Instr.findKey,u,c,hr],f⟩
def EW (W:World) (m:Nat):Prop:=∃ es cl,W.heap[m]? = some (.map es cl)/\EnO W es.toList
theorem OB (K:Il tM tK tP) {m:Nat} {a b:Addr} {n:Int} {W:World} (hm:EW W m) (ha:Fr0 W a) (hb:Fr0 W b):∃ ok k,(Instr.lookup tM (.map (some m)) (kS a b n) true).run Tryz.prog W=.ok (zj #[zf #[],ze ok]) (W.drewN k):=by
 obtain ⟨g,y,h,x⟩:=hm;obtain ⟨r,k,hr,l⟩:=IL K (n:=n) ha hb x;have u:=run_underlying (P:=Tryz.prog) (w:=W) K.m;have c:(Instr.checkKey g.isEmpty 10000 tK (kS a b n)).run Tryz.prog W=.ok () W:=QC K g.isEmpty 9998 a b n W;have f:Tryz.t167.zero=some (zf #[]):=by kernel_rfl
 have i:∀ W:World,(zeroValue 167).run Tryz.prog W=.ok (zf #[]) W:=fun W=>by
  simp [zeroValue,f]
 cases r with
 | none=>
  refine ⟨false,k,?_⟩;simp only [Instr.lookup,Sem.run_bind,u,Result.andThen,MapKept.run_getObj_map h,c,hr,i,Sem.run_pure];rfl
 | some p=>
  obtain ⟨j,v⟩:=p;obtain rfl:=l j v rfl;refine ⟨true,k,?_⟩;simp only [Instr.lookup,Sem.run_bind,u,Result.andThen,MapKept.run_getObj_map h,c,hr,Sem.run_pure];rfl
def Ev (W:World) (m:Nat) (o:Obj) (k:Nat):World:={ W with heap:=W.heap.setIfInBounds m o,drawn:=W.drawn+k }
theorem Dx {W:World} {m k:Nat} {o:Obj} (i:Nat) (hi:i≠m):(Ev W m o k).heap[i]? = W.heap[i]?:=by
 simp [Ev,Ne.symm hi]
theorem Mg {W:World} {m k:Nat} {o o2:Obj} (h:W.heap[m]? = some o2):(Ev W m o k).heap[m]? = some o:=by
 have:=(Array.getElem?_eq_some_iff.1 h).1;simp [Ev,this]
theorem B7 {W:World} {m k:Nat} {es:Array MapEntry} {cl:Nat} {o:Obj} {b:Nat} (h:W.heap[m]? = some (.map es cl)) (hb:Cbl W b):Cbl (Ev W m o k) b:=hb.of_heap (Dx b (by
 rintro rfl;obtain ⟨c,T,f,e⟩:=hb;rw [h] at e;cases e))
theorem PF (x y:Value) (W:World):∃ z k,(Instr.keyThatStays x y).run Tryz.prog W=.ok z (W.drewN k)/\(z=x\/z=y):=by
 unfold Instr.keyThatStays;by_cases h:Instr.sameBits 10000 x y=true
 ·exact ⟨y,0,by simp [h,Ku],Or.inr rfl⟩
 ·have a:W.drewN 1=W.drew:=rfl
  refine ⟨if (Question.extern "map.whichKeyStays" 2).cut (W.tape W.drawn (Question.extern "map.whichKeyStays" 2))=0 then y else x,1,by simp [h,a,Question.forced],?_⟩;split
  ·exact Or.inr rfl
  ·exact Or.inl rfl
theorem Qx (K:Il tM tK tP) {m:Nat} {a b:Addr} {n:Int} {W:World} (hm:EW W m) (ha:Fr0 W a) (hb:Fr0 W b):∃ es cl k,(Instr.mapUpdate tM (.map (some m)) (kS a b n) (zf #[])).run Tryz.prog W=.ok () (Ev W m (.map es cl) k)/\EW (Ev W m (.map es cl) k) m:=by
 obtain ⟨es,cl,h,E⟩:=hm;obtain ⟨r,k,hr,J⟩:=IL K (n:=n) ha hb E;have u:=run_underlying (P:=Tryz.prog) (w:=W) K.m;have l:(Instr.checkKey false 10000 tK (kS a b n)).run Tryz.prog W=.ok () W:=QC K false 9998 a b n W
 cases r with
 | none=>
  have H:(W.drewN k).heap[m]? = some (.map es cl):=h;have f:=MapKept.run_setObj_map (P:=Tryz.prog) (.map (es.push ⟨kS a b n,zf #[],cl⟩) (cl+1)) H;refine ⟨es.push ⟨kS a b n,zf #[],cl⟩,cl+1,k,?_,_,_,Mg h,fun e c=>?_⟩
  ·simp only [Instr.mapUpdate,Sem.run_bind,u,Result.andThen,MapKept.run_getObj_map h,l,hr,f]
   rfl
  ·rw [Array.toList_push,List.mem_append,List.mem_singleton] at c
   rcases c with c | rfl
   ·obtain ⟨C,B,n2,A,F,y,x⟩:=E e c
    exact ⟨C,B,n2,A,F,B7 h y,B7 h x⟩
   ·exact ⟨a,b,n,rfl,rfl,B7 h ha.2,B7 h hb.2⟩
 | some p=>
  obtain ⟨j,v⟩:=p;obtain ⟨z,k2,I,g⟩:=PF (((es[j]?).map (·.key)).getD (kS a b n)) (kS a b n) (W.drewN k);have H:((W.drewN k).drewN k2).heap[m]? = some (.map es cl):=h;have f:=MapKept.run_setObj_map (P:=Tryz.prog) (.map (es.modify j fun e=>{ e with key:=z,val:=zf #[] }) cl) H;refine ⟨es.modify j fun e=>{ e with key:=z,val:=zf #[] },cl,k+k2,?_,_,_,Mg h,fun e c=>?_⟩
  ·simp only [Instr.mapUpdate,Sem.run_bind,u,Result.andThen,MapKept.run_getObj_map h,l,hr,I,f]
   simp [Ev,World.drewN,Nat.add_assoc]
  ·obtain ⟨i,c⟩:=Array.mem_iff_getElem?.1 (Array.mem_toList_iff.1 c)
   rw [Array.getElem?_modify] at c;split at c
   ·rename_i G
    subst G
    cases hes:es[j]? with
    | none=>rw [hes] at c;cases c
    | some e0=>
     rw [hes] at c;simp only [Option.map_some,Option.some.injEq] at c;subst c;obtain ⟨C,B,n2,A,F,y,x⟩:=E e0 (by simpa using Array.mem_of_getElem? hes);rw [hes] at g;simp only [Option.map_some,Option.getD_some] at g;rcases g with rfl | rfl
     ·exact ⟨C,B,n2,A,rfl,B7 h y,B7 h x⟩
     ·exact ⟨a,b,n,rfl,rfl,B7 h ha.2,B7 h hb.2⟩
   ·obtain ⟨C,B,n2,A,F,y,x⟩:=E e (by simpa using Array.mem_of_getElem? c)
    exact ⟨C,B,n2,A,F,B7 h y,B7 h x⟩
end
theorem Cbl.over {W W':World} {b:Nat} (h:Cbl W b) (hb:Ov W W'):Cbl W' b:=h.of_heap (hb.block b (by
 obtain ⟨c,T,f,e⟩:=h;exact (Array.getElem?_eq_some_iff.1 e).1))
theorem Fr0.over {W W':World} {a:Addr} (h:Fr0 W a) (hb:Ov W W'):Fr0 W' a:=by
 refine ⟨?_,h.2.over hb⟩;rw [World.frozen?_of_block (hb.block _ (by obtain ⟨-,c,T,f,e⟩:=h;exact (Array.getElem?_eq_some_iff.1 e).1))];exact h.1
theorem EW.lt {W:World} {m:Nat} (h:EW W m):m < W.heap.size:=by
 obtain ⟨a,b,e,-⟩:=h;exact (Array.getElem?_eq_some_iff.1 e).1
theorem EW.of_heap {W W':World} {m:Nat} (h:EW W m) (hm:W'.heap[m]? = W.heap[m]?) (hc:∀ b,Cbl W b->Cbl W' b):EW W' m:=by
 obtain ⟨r,u,e,f⟩:=h;refine ⟨r,u,hm.trans e,fun x c=>?_⟩;obtain ⟨a,b,n,l,j,i,g⟩:=f x c;exact ⟨a,b,n,l,j,hc _ i,hc _ g⟩
theorem EW.over {W W':World} {m:Nat} (h:EW W m) (hb:Ov W W'):EW W' m:=h.of_heap (hb.block m h.lt) fun b hc=>hc.over hb
theorem EW.cell {W:World} {m:Nat} (h:EW W m) {a:Addr} {u:Value} (hc:W.cell? a=some u):a.block≠m:=by
 rintro rfl;obtain ⟨b,c,e,-⟩:=h;unfold World.cell? at hc;rw [e] at hc;cases hc
def SW (w0:World) (m1 m2:Nat) (w:World):Prop:=Ov w0 w/\m1≠m2/\w0.heap.size<=m1/\w0.heap.size<=m2/\EW w m1/\EW w m2
def KpM (m1 m2:Nat) (w w':World):Prop:=w'.os=w.os/\w'.tape=w.tape/\w'.output=w.output/\w.heap.size<=w'.heap.size/\∀ k,k < w.heap.size->k≠m1->k≠m2->w'.heap[k]? = w.heap[k]?
theorem KpM.over {m1 m2:Nat} {w w':World} (h:Ov w w'):KpM m1 m2 w w':=⟨h.os,h.tape,h.output,h.size,fun k hk _ _=>h.block k hk⟩
theorem KpM.refl (m1 m2:Nat) (w:World):KpM m1 m2 w w:=KpM.over (Below.refl _ _)
theorem KpM.trans {m1 m2:Nat} {w w1 w2:World} (h:KpM m1 m2 w w1) (k:KpM m1 m2 w1 w2):KpM m1 m2 w w2:=
 ⟨k.1.trans h.1,k.2.1.trans h.2.1,k.2.2.1.trans h.2.2.1,Nat.le_trans h.2.2.2.1 k.2.2.2.1,fun i hi h1 h2=>(k.2.2.2.2 i (Nat.lt_of_lt_of_le hi h.2.2.2.1) h1 h2).trans (h.2.2.2.2 i hi h1 h2)⟩
theorem SW.over {w0 w w':World} {m1 m2:Nat} (h:SW w0 m1 m2 w) (hb:Ov w w'):SW w0 m1 m2 w':=
 ⟨h.1.trans (hb.mono h.1.size),h.2.1,h.2.2.1,h.2.2.2.1,h.2.2.2.2.1.over hb,h.2.2.2.2.2.over hb⟩
theorem ovD (w:World) (n:Nat):Ov w (w.drewN n):=⟨rfl,rfl,rfl,Nat.le_refl _,fun _ _=>rfl⟩
theorem SW.keep {w0 w w':World} {m1 m2:Nat} (h:SW w0 m1 m2 w) (k:KpM m1 m2 w w') {a:Addr} {u:Value} (hc:w.cell? a=some u):w'.cell? a=some u:=by
 have:=k.2.2.2.2 a.block (World.block_lt_of_cell? w _ hc) (h.2.2.2.2.1.cell hc) (h.2.2.2.2.2.cell hc);unfold World.cell? at hc ⊢;rw [this];exact hc
theorem Mf {w:World} {m m1 m2 k:Nat} {o:Obj} (hm:m=m1\/m=m2):KpM m1 m2 w (Ev w m o k):=by
 refine ⟨rfl,rfl,rfl,by simp [Ev],fun i _ b a=>Dx i ?_⟩;rcases hm with rfl | rfl
 ·exact b
 ·exact a
theorem SW.set1 {w0 w:World} {m1 m2 k:Nat} {o:Obj} (h:SW w0 m1 m2 w) (hm:EW (Ev w m1 o k) m1):SW w0 m1 m2 (Ev w m1 o k):=by
 obtain ⟨n,a,l,j,⟨u,v,g,-⟩,f⟩:=h;exact ⟨n.trans ⟨rfl,rfl,rfl,by simp [Ev],fun i r=>Dx i (by omega)⟩,a,l,j,hm,f.of_heap (Dx _ (Ne.symm a)) fun b c=>B7 g c⟩
theorem SW.set2 {w0 w:World} {m1 m2 k:Nat} {o:Obj} (h:SW w0 m1 m2 w) (hm:EW (Ev w m2 o k) m2):SW w0 m1 m2 (Ev w m2 o k):=by
 obtain ⟨n,a,l,j,f,⟨u,v,g,-⟩⟩:=h;exact ⟨n.trans ⟨rfl,rfl,rfl,by simp [Ev],fun i r=>Dx i (by omega)⟩,a,l,j,f.of_heap (Dx _ a) fun b c=>B7 g c,hm⟩
def PT (w0:World) (m1 m2:Nat) (w:World) (e:Ending) (w':World):Prop:=e=zi (ze true)/\SW w0 m1 m2 w'/\KpM m1 m2 w w'
theorem PT.trans {w0 w w1 w2:World} {m1 m2:Nat} {e:Ending} (k:KpM m1 m2 w w1) (h:PT w0 m1 m2 w1 e w2):PT w0 m1 m2 w e w2:=⟨h.1,h.2.1,k.trans h.2.2⟩
abbrev TC (w0:World) (m1 m2:Nat) (F:FuncId) (args:Array Value) (w:World):Prop:=Calls Tryz.prog F args w (PT w0 m1 m2 w)
theorem SW.ov {w0 w:World} {m1 m2:Nat} (h:SW w0 m1 m2 w):Ov w0 w:=h.1
theorem RP {w0 w:World} {m1 m2:Nat} {F:FuncId} {args:Array Value} (hs:SW w0 m1 m2 w) (h:Calls Tryz.prog F args w fun e w'=>e=zi (ze true)/\Ov w w'):TC w0 m1 m2 F args w:=h.mono fun _ _ ⟨h1,h2⟩=>⟨h1,hs.over h2,KpM.over h2⟩
theorem PG (w0:World) (m1 m2:Nat) (fv:Value) (ao bo:Option Addr) (c d:Nat) (w:World) (hs:SW w0 m1 m2 w):TC w0 m1 m2 129 #[.map (some m1),zd ao 0 c,zd bo 0 d,fv] w:=by
 have a:=Aa hs;clear hs;go_enter Tryz.func129,Tryz.ntmps129;go_wp2_with fail;go_ret;exact ⟨rfl,a.o,KpM.refl _ _ _⟩
theorem RL (w0:World) (m1 m2:Nat) (fv:Value) (n b off c b2 off2 d:Nat) (w:World) (hs:SW w0 m1 m2 w) (h1:Fr0 w ⟨b,off,none⟩) (h2:Fr0 w ⟨b2,off2,none⟩) (hn:0 < n) (hn2:n<=maxLen)
  (hE:∀ X,SW w0 m1 m2 X->TC w0 m1 m2 153 #[zd (some ⟨b,off,none⟩) n c,zd (some ⟨b2,off2,none⟩) n d,fv] X) :
  TC w0 m1 m2 129 #[.map (some m1),zd (some ⟨b,off,none⟩) n c,zd (some ⟨b2,off2,none⟩) n d,fv] w:=by
 obtain ⟨V,v⟩:=nm ((w.alloc (zg #[zh (some ⟨b,off,none⟩),zh (some ⟨b2,off2,none⟩),O zc n] 166)).drew);have f:Ov w V:=by rw [v];exact Ab (bA _ _) (bD _)
 have r:=hs.over f;have E:V.cell? ⟨w.heap.size,0,none⟩=some (zh (some ⟨b,off,none⟩)):=by rw [v];exact A5 w [zh (some ⟨b,off,none⟩),zh (some ⟨b2,off2,none⟩),O zc n] 166 0 _ rfl
 have C:V.cell? ⟨w.heap.size,1,none⟩=some (zh (some ⟨b2,off2,none⟩)):=by rw [v];exact A5 w [zh (some ⟨b,off,none⟩),zh (some ⟨b2,off2,none⟩),O zc n] 166 1 _ rfl
 have B:V.cell? ⟨w.heap.size,2,none⟩=some (O zc n):=by rw [v];exact A5 w [zh (some ⟨b,off,none⟩),zh (some ⟨b2,off2,none⟩),O zc n] 166 2 _ rfl
 obtain ⟨J,k,y⟩:=OB OH (n:=(n:Int)) r.2.2.2.2.1 (h1.over f) (h2.over f);have a:Ov V ((V.drewN k).alloc (zg #[] 167)):=Ab (ovD V k) (bA _ _);have j:=r.over a;obtain ⟨N,P,k2,i,l⟩:=Qx OH (n:=(n:Int)) j.2.2.2.2.1 ((h1.over f).over a) ((h2.over f).over a);obtain ⟨X,F⟩:=nm (Ev ((V.drewN k).alloc (zg #[] 167)) m1 (.map N P) k2);rw [<-F] at i l;have x:SW w0 m1 m2 X:=by rw [F];rw [F] at l;exact j.set1 l
 have A:KpM m1 m2 w X:=by rw [F];exact ((KpM.over f).trans (KpM.over a)).trans (Mf (by simp))
 have H:=Aa (hE X x);have R:=Aa (And.intro j ((KpM.over (m1:=m1) (m2:=m2) f).trans (KpM.over a)));have I:=Aa A;have u0:=ce1 a E;have u1:=ce1 a C;have u2:=ce1 a B;have M:n<=9223372036854775807:=hn2;have L:¬ n=0:=by omega
 unfold kS at y i;clear hE hs h1 h2 f r a j l x A hn2;go_enter Tryz.func129,Tryz.ntmps129;go_wp2_with fail;refine Go.Proofs.YtipngnjffjajpaaGreatDoor.gS (fun _=>True) trivial fun g=>?_;refine kT 0 ?_;refine kT 1 ?_;refine kT 2 ?_;refine kT 3 ?_;refine kT 4 ?_;refine kT 5 ?_;refine kT 6 ?_;refine rdA 7 rfl fun K G=>?_;go_simp;refine xK G trivial fun g=>?_;clear G K;refine rdA 8 rfl fun K G=>?_;go_simp;refine xK G trivial fun g=>?_;clear G K;refine gE ?_;rw [<-v];clear v g;have u:=Aa (And.intro R.o I.o);clear F I
 cases J with
 | true=>
  clear i u0 u1 u2 H;go_wp2_with fail;go_ret;exact ⟨rfl,u.o.1.1,u.o.1.2⟩
 | false=>
  go_wp2_with fail;clear y i E C B u0 u1 u2;refine H.o.mono ?_;rintro e S h1;have Q:=Aa (h1.trans u.o.2);obtain rfl:=h1.1;clear h1 H;go_wp2_with fail;go_ret;exact Q.o
theorem PI (w0:World) (m1 m2:Nat) (fv:Value) (ao bo:Option Addr) (c d:Nat) (w:World) (hs:SW w0 m1 m2 w):TC w0 m1 m2 166 #[.map (some m2),zd ao 0 c,zd bo 0 d,fv] w:=by
 have a:=Aa hs;clear hs;go_enter Tryz.func166,Tryz.ntmps166;go_wp2_with fail;go_ret;exact ⟨rfl,a.o,KpM.refl _ _ _⟩
theorem RM (w0:World) (m1 m2:Nat) (fv:Value) (n b off c b2 off2 d:Nat) (w:World) (hs:SW w0 m1 m2 w) (h1:Fr0 w ⟨b,off,none⟩) (h2:Fr0 w ⟨b2,off2,none⟩) (hn:0 < n) (hn2:n<=maxLen)
  (hE:∀ X,SW w0 m1 m2 X->TC w0 m1 m2 174 #[zd (some ⟨b,off,none⟩) n c,zd (some ⟨b2,off2,none⟩) n d,fv] X) :
  TC w0 m1 m2 166 #[.map (some m2),zd (some ⟨b,off,none⟩) n c,zd (some ⟨b2,off2,none⟩) n d,fv] w:=by
 obtain ⟨V,v⟩:=nm ((w.alloc (zg #[zh (some ⟨b,off,none⟩),zh (some ⟨b2,off2,none⟩),O zc n] 178)).drew);have f:Ov w V:=by rw [v];exact Ab (bA _ _) (bD _)
 have r:=hs.over f;have E:V.cell? ⟨w.heap.size,0,none⟩=some (zh (some ⟨b,off,none⟩)):=by rw [v];exact A5 w [zh (some ⟨b,off,none⟩),zh (some ⟨b2,off2,none⟩),O zc n] 178 0 _ rfl
 have C:V.cell? ⟨w.heap.size,1,none⟩=some (zh (some ⟨b2,off2,none⟩)):=by rw [v];exact A5 w [zh (some ⟨b,off,none⟩),zh (some ⟨b2,off2,none⟩),O zc n] 178 1 _ rfl
 have B:V.cell? ⟨w.heap.size,2,none⟩=some (O zc n):=by rw [v];exact A5 w [zh (some ⟨b,off,none⟩),zh (some ⟨b2,off2,none⟩),O zc n] 178 2 _ rfl
 obtain ⟨J,k,y⟩:=OB OG (n:=(n:Int)) r.2.2.2.2.2 (h1.over f) (h2.over f);have a:Ov V ((V.drewN k).alloc (zg #[] 167)):=Ab (ovD V k) (bA _ _);have j:=r.over a;obtain ⟨N,P,k2,i,l⟩:=Qx OG (n:=(n:Int)) j.2.2.2.2.2 ((h1.over f).over a) ((h2.over f).over a);obtain ⟨X,F⟩:=nm (Ev ((V.drewN k).alloc (zg #[] 167)) m2 (.map N P) k2);rw [<-F] at i l;have x:SW w0 m1 m2 X:=by rw [F];rw [F] at l;exact j.set2 l
 have A:KpM m1 m2 w X:=by rw [F];exact ((KpM.over f).trans (KpM.over a)).trans (Mf (by simp))
 have H:=Aa (hE X x);have R:=Aa (And.intro j ((KpM.over (m1:=m1) (m2:=m2) f).trans (KpM.over a)));have I:=Aa A;have u0:=ce1 a E;have u1:=ce1 a C;have u2:=ce1 a B;have M:n<=9223372036854775807:=hn2;have L:¬ n=0:=by omega
 unfold kS at y i;clear hE hs h1 h2 f r a j l x A hn2;go_enter Tryz.func166,Tryz.ntmps166;go_wp2_with fail;refine Go.Proofs.YtipngnjffjajpaaGreatDoor.gS (fun _=>True) trivial fun g=>?_;refine kT 0 ?_;refine kT 1 ?_;refine kT 2 ?_;refine kT 3 ?_;refine kT 4 ?_;refine kT 5 ?_;refine kT 6 ?_;refine rdA 7 rfl fun K G=>?_;go_simp;refine xK G trivial fun g=>?_;clear G K;refine rdA 8 rfl fun K G=>?_;go_simp;refine xK G trivial fun g=>?_;clear G K;refine gE ?_;rw [<-v];clear v g;have u:=Aa (And.intro R.o I.o);clear F I
 cases J with
 | true=>
  clear i u0 u1 u2 H;go_wp2_with fail;go_ret;exact ⟨rfl,u.o.1.1,u.o.1.2⟩
 | false=>
  go_wp2_with fail;clear y i E C B u0 u1 u2;refine H.o.mono ?_;rintro e S h1;have Q:=Aa (h1.trans u.o.2);obtain rfl:=h1.1;clear h1 H;go_wp2_with fail;go_ret;exact Q.o
theorem Sw (w0:World) (m1 m2:Nat) (k:Nat) (l l2:List D) (hll:l2.length=l.length) (ao bo:Option Addr) (c d:Nat) (hA:LS 5 (ZE w0 k) w0 (zd ao l.length c) l) (hB:LS 5 (ZE w0 k) w0 (zd bo l.length d) l2)
  (hE:∀ (j:Nat) (h:j < l.length) (h2:j < l2.length) (cs ct:List Value) (X:World),SW w0 m1 m2 X->ZE w0 k cs l[j]->ZE w0 k ct l2[j]->TC w0 m1 m2 128 #[zf #[.map (some m1),.map (some m2)],.agg cs.toArray,.agg ct.toArray] X) (w:World) (hs:SW w0 m1 m2 w) :
  TC w0 m1 m2 174 #[zd ao l.length c,zd bo l.length d,.func (.func 128) #[zf #[.map (some m1),.map (some m2)]] #[]] w:=by
 have HA:=Aa hA;have HC:=Aa hB;have HE:=Aa hE;have HL:=hA.max;have HS:=Aa hs;obtain ⟨I,n⟩:=nm l.length;rw [<-n] at HL ⊢;have HN:=Aa n;have HM:=Aa (n.trans hll.symm);clear hA hB hE hs n hll;go_enter Tryz.func174,Tryz.ntmps174;go_wp2_with fail;go_loopw [17] (fun i wr=>∃ (j:Nat),j<=I/\i=O zc j/\SW w0 m1 m2 wr/\KpM m1 m2 w wr) (fun i _=>I - (intOf i).toNat)
 case atStart=>exact ⟨0,Nat.zero_le _,rfl,HS.o,KpM.refl _ _ _⟩
 case round=>
  obtain ⟨j,hj,rfl,N,R⟩:=hrel;by_cases hjl:j < I
  ·have f:j < l.length:=by have:=HN.o;omega
   have a:j < l2.length:=by have:=HM.o;omega
   have V:(j:Int) < (I:Int):=by omega
   obtain ⟨b,af,rfl,cs,-,C,hr⟩:=HA.o.at f;obtain ⟨b2,aa,rfl,ct,-,B,g⟩:=HC.o.at a;have S:=HE.o j f a cs ct;generalize l[j]=dj at hr S;generalize l2[j]=dm at g S;have P:=N.ov;have KF:Hx (∀ X,SW w0 m1 m2 X->TC w0 m1 m2 128 #[zf #[.map (some m1),.map (some m2)],.agg cs.toArray,.agg ct.toArray] X):=fun X hX=>S X hX hr g;clear S;obtain ⟨A,y,x,v,T,u,r,rfl⟩:=hr.cells;obtain ⟨M,L,K,J,Z,H,G,rfl⟩:=g.cells;have d0:=CK P C rfl;have dA:=CJ P C;have E:=Ab P (bA wr (zg #[O zc A,O zc y,O zc x,.string v,zd T u r] 49));have g0:=CK E B rfl;have gA:=CJ E B;have eA:=Ad.all (Gy wr [O zc A,O zc y,O zc x,.string v,zd T u r] 49 (zg #[O zc M,O zc L,O zc K,.string J,zd Z H G] 49));have Q:=Aa N;have HK:=Aa R;have ag:w0.heap.size<=wr.heap.size:=P.size;clear C B hr g P N R f a;obtain ⟨U,W⟩:=nm ((wr.alloc (zg #[O zc A,O zc y,O zc x,.string v,zd T u r] 49)).alloc (zg #[O zc M,O zc L,O zc K,.string J,zd Z H G] 49));have F:Hx (Ov wr U):=by show Ov _ _;rw [W];exact Ab (bA _ _) (bA _ _)
   go_wp2_with fail;rw [<-W];clear W d0 g0 dA gA eA E;refine (KF.o U (Q.o.over F.o)).mono ?_;rintro e w1 Y;have HP:=Aa (Y.trans (HK.o.trans (KpM.over F.o)));obtain rfl:=Y.1;clear Y KF Q HK F;go_wp2_with fail;exact ⟨⟨j+1,by omega,by go_num,HP.o.2.1,HP.o.2.2⟩,by simp [intOf];omega⟩
  ·have V:¬ (j:Int) < (I:Int):=by omega
   have HB:=Aa (And.intro N R);clear N R;go_wp2_with fail;go_ret;exact ⟨rfl,HB.o.1,HB.o.2⟩
theorem Sy (w0:World) (m1 m2:Nat) (ke k:Nat) (l l2:List D) (hll:l2.length=l.length) (ao bo:Option Addr) (c d:Nat) (hA:LS 12 (ZC w0 ke k) w0 (zd ao l.length c) l) (hB:LS 12 (ZC w0 ke k) w0 (zd bo l.length d) l2)
  (hE:∀ (j:Nat) (h:j < l.length) (h2:j < l2.length) (cs ct:List Value) (X:World),SW w0 m1 m2 X->ZC w0 ke k cs l[j]->ZC w0 ke k ct l2[j]->TC w0 m1 m2 130 #[zf #[.map (some m1),.map (some m2)],.agg cs.toArray,.agg ct.toArray] X) (w:World) (hs:SW w0 m1 m2 w) :
  TC w0 m1 m2 153 #[zd ao l.length c,zd bo l.length d,.func (.func 130) #[zf #[.map (some m1),.map (some m2)]] #[]] w:=by
 have HA:=Aa hA;have HC:=Aa hB;have HE:=Aa hE;have HL:=hA.max;have HS:=Aa hs;obtain ⟨nn,n⟩:=nm l.length;rw [<-n] at HL ⊢;have HN:=Aa n;have HM:=Aa (n.trans hll.symm);clear hA hB hE hs n hll;go_enter Tryz.func153,Tryz.ntmps153;go_wp2_with fail;go_loopw [17] (fun i wr=>∃ (j:Nat),j<=nn/\i=O zc j/\SW w0 m1 m2 wr/\KpM m1 m2 w wr) (fun i _=>nn - (intOf i).toNat)
 case atStart=>exact ⟨0,Nat.zero_le _,rfl,HS.o,KpM.refl _ _ _⟩
 case round=>
  obtain ⟨j,hj,rfl,hS,hK⟩:=hrel;by_cases hjl:j < nn
  ·have f:j < l.length:=by have:=HN.o;omega
   have a:j < l2.length:=by have:=HM.o;omega
   have aw:(j:Int) < (nn:Int):=by omega
   obtain ⟨b,a8,rfl,cs,-,N,hr⟩:=HA.o.at f;obtain ⟨b2,a3,rfl,ct,-,M,g⟩:=HC.o.at a;have KE:=HE.o j f a cs ct;generalize l[j]=dj at hr KE;generalize l2[j]=dm at g KE;have hO:=hS.ov;have KF:Hx (∀ X,SW w0 m1 m2 X->TC w0 m1 m2 130 #[zf #[.map (some m1),.map (some m2)],.agg cs.toArray,.agg ct.toArray] X):=fun X hX=>KE X hX hr g;clear KE;obtain ⟨L,K,J,I,H,G,F,E,qa,C,B,ra,A,y,sa,x,v,ta,u,r,rfl⟩:=hr.cells;obtain ⟨aj,ai,ah,ag,af,ae,ad,ac,qb,aa,Z,rb,Y,W,sb,V,T,tb,S,R,rfl⟩:=g.cells;have d0:=CK hO N rfl;have dA:=CJ hO N;have P:=Ab hO (bA wr (zg #[O zc L,O zc K,.string J,.string I,O zc H,O zc G,O zc F,.string E,zd qa C B,zd ra A y,zd sa x v,zd ta u r] 55));have g0:=CK P M rfl;have gA:=CJ P M;have eA:=Ad.all (Gy wr [O zc L,O zc K,.string J,.string I,O zc H,O zc G,O zc F,.string E,zd qa C B,zd ra A y,zd sa x v,zd ta u r] 55 (zg #[O zc aj,O zc ai,.string ah,.string ag,O zc af,O zc ae,O zc ad,.string ac,zd qb aa Z,zd rb Y W,zd sb V T,zd tb S R] 55));have am:=Aa hS;have HK:=Aa hK;have a9:w0.heap.size<=wr.heap.size:=hO.size;clear N M hr g hO hS hK f a;obtain ⟨U,hU⟩:=nm ((wr.alloc (zg #[O zc L,O zc K,.string J,.string I,O zc H,O zc G,O zc F,.string E,zd qa C B,zd ra A y,zd sa x v,zd ta u r] 55)).alloc (zg #[O zc aj,O zc ai,.string ah,.string ag,O zc af,O zc ae,O zc ad,.string ac,zd qb aa Z,zd rb Y W,zd sb V T,zd tb S R] 55));have Q:Hx (Ov wr U):=by show Ov _ _;rw [hU];exact Ab (bA _ _) (bA _ _)
   go_wp2_with fail;rw [<-hU];clear hU d0 g0 dA gA eA P;refine (KF.o U (am.o.over Q.o)).mono ?_;rintro e w1 h1;have HP:=Aa (h1.trans (HK.o.trans (KpM.over Q.o)));obtain rfl:=h1.1;clear h1 KF am HK Q;go_wp2_with fail;exact ⟨⟨j+1,by omega,by go_num,HP.o.2.1,HP.o.2.2⟩,by simp [intOf];omega⟩
  ·have aw:¬ (j:Int) < (nn:Int):=by omega
   have HB:=Aa (And.intro hS hK);clear hS hK;go_wp2_with fail;go_ret;exact ⟨rfl,HB.o.1,HB.o.2⟩
theorem Sx (w0:World) (m1 m2:Nat) (ke k:Nat) (l l2:List D) (hll:l2.length=l.length) (ao bo:Option Addr) (c d:Nat) (hA:LS 13 (ZD w0 ke k) w0 (zd ao l.length c) l) (hB:LS 13 (ZD w0 ke k) w0 (zd bo l.length d) l2)
  (hE:∀ (j:Nat) (h:j < l.length) (h2:j < l2.length) (cs ct:List Value) (X:World),SW w0 m1 m2 X->ZD w0 ke k cs l[j]->ZD w0 ke k ct l2[j]->TC w0 m1 m2 90 #[zf #[.map (some m1),.map (some m2)],.agg cs.toArray,.agg ct.toArray] X) (w:World) (hs:SW w0 m1 m2 w) :
  TC w0 m1 m2 89 #[zd ao l.length c,zd bo l.length d,.func (.func 90) #[zf #[.map (some m1),.map (some m2)]] #[]] w:=by
 have HA:=Aa hA;have HC:=Aa hB;have HE:=Aa hE;have HL:=hA.max;have HS:=Aa hs;obtain ⟨nn,n⟩:=nm l.length;rw [<-n] at HL ⊢;have HN:=Aa n;have HM:=Aa (n.trans hll.symm);clear hA hB hE hs n hll;go_enter Tryz.func89,Tryz.ntmps89;go_wp2_with fail;go_loopw [17] (fun i wr=>∃ (j:Nat),j<=nn/\i=O zc j/\SW w0 m1 m2 wr/\KpM m1 m2 w wr) (fun i _=>nn - (intOf i).toNat)
 case atStart=>exact ⟨0,Nat.zero_le _,rfl,HS.o,KpM.refl _ _ _⟩
 case round=>
  obtain ⟨j,hj,rfl,hS,hK⟩:=hrel;by_cases hjl:j < nn
  ·have f:j < l.length:=by have:=HN.o;omega
   have a:j < l2.length:=by have:=HM.o;omega
   have ay:(j:Int) < (nn:Int):=by omega
   obtain ⟨b,ba,rfl,cs,-,P,hr⟩:=HA.o.at f;obtain ⟨b2,a5,rfl,ct,-,N,g⟩:=HC.o.at a;have KE:=HE.o j f a cs ct;generalize l[j]=dj at hr KE;generalize l2[j]=dm at g KE;have hO:=hS.ov;have KF:Hx (∀ X,SW w0 m1 m2 X->TC w0 m1 m2 90 #[zf #[.map (some m1),.map (some m2)],.agg cs.toArray,.agg ct.toArray] X):=fun X hX=>KE X hX hr g;clear KE;obtain ⟨M,L,K,J,I,qa,C,B,ra,A,y,sa,x,v,H,G,F,E,ta,u,r,rfl⟩:=hr.cells;obtain ⟨al,ak,aj,ai,ah,qb,ab,aa,rb,Z,Y,sb,W,V,ag,af,ae,ad,tb,T,S,rfl⟩:=g.cells;have d0:=CK hO P rfl;have dA:=CJ hO P;have Q:=Ab hO (bA wr (zg #[O zc M,O zc L,.string K,.string J,ze I,zd qa C B,zd ra A y,zd sa x v,O zc H,O zc G,O zc F,.string E,zd ta u r] 51));have g0:=CK Q N rfl;have gA:=CJ Q N;have eA:=Ad.all (Gy wr [O zc M,O zc L,.string K,.string J,ze I,zd qa C B,zd ra A y,zd sa x v,O zc H,O zc G,O zc F,.string E,zd ta u r] 51 (zg #[O zc al,O zc ak,.string aj,.string ai,ze ah,zd qb ab aa,zd rb Z Y,zd sb W V,O zc ag,O zc af,O zc ae,.string ad,zd tb T S] 51));have ap:=Aa hS;have HK:=Aa hK;have bb:w0.heap.size<=wr.heap.size:=hO.size;clear P N hr g hO hS hK f a;obtain ⟨U,hU⟩:=nm ((wr.alloc (zg #[O zc M,O zc L,.string K,.string J,ze I,zd qa C B,zd ra A y,zd sa x v,O zc H,O zc G,O zc F,.string E,zd ta u r] 51)).alloc (zg #[O zc al,O zc ak,.string aj,.string ai,ze ah,zd qb ab aa,zd rb Z Y,zd sb W V,O zc ag,O zc af,O zc ae,.string ad,zd tb T S] 51));have R:Hx (Ov wr U):=by show Ov _ _;rw [hU];exact Ab (bA _ _) (bA _ _)
   go_wp2_with fail;rw [<-hU];clear hU d0 g0 dA gA eA Q;refine (KF.o U (ap.o.over R.o)).mono ?_;rintro e w1 h1;have HP:=Aa (h1.trans (HK.o.trans (KpM.over R.o)));obtain rfl:=h1.1;clear h1 KF ap HK R;go_wp2_with fail;exact ⟨⟨j+1,by omega,by go_num,HP.o.2.1,HP.o.2.2⟩,by simp [intOf];omega⟩
  ·have ay:¬ (j:Int) < (nn:Int):=by omega
   have HB:=Aa (And.intro hS hK);clear hS hK;go_wp2_with fail;go_ret;exact ⟨rfl,HB.o.1,HB.o.2⟩
theorem Sv (w0:World) (m1 m2:Nat)  (l l2:List D) (hll:l2.length=l.length) (ao bo:Option Addr) (c d:Nat) (hA:LS 4 (ZP w0) w0 (zd ao l.length c) l) (hB:LS 4 (ZP w0) w0 (zd bo l.length d) l2)
  (hE:∀ (j:Nat) (h:j < l.length) (h2:j < l2.length) (cs ct:List Value) (X:World),SW w0 m1 m2 X->ZP w0 cs l[j]->ZP w0 ct l2[j]->TC w0 m1 m2 126 #[.agg cs.toArray,.agg ct.toArray] X) (w:World) (hs:SW w0 m1 m2 w) :
  TC w0 m1 m2 125 #[zd ao l.length c,zd bo l.length d,.func (.func 126) #[] #[]] w:=by
 have HA:=Aa hA;have HC:=Aa hB;have HE:=Aa hE;have HL:=hA.max;have HS:=Aa hs;obtain ⟨H,n⟩:=nm l.length;rw [<-n] at HL ⊢;have HN:=Aa n;have HM:=Aa (n.trans hll.symm);clear hA hB hE hs n hll;go_enter Tryz.func125,Tryz.ntmps125;go_wp2_with fail;go_loopw [17] (fun i wr=>∃ (j:Nat),j<=H/\i=O zc j/\SW w0 m1 m2 wr/\KpM m1 m2 w wr) (fun i _=>H - (intOf i).toNat)
 case atStart=>exact ⟨0,Nat.zero_le _,rfl,HS.o,KpM.refl _ _ _⟩
 case round=>
  obtain ⟨j,hj,rfl,L,P⟩:=hrel;by_cases hjl:j < H
  ·have f:j < l.length:=by have:=HN.o;omega
   have a:j < l2.length:=by have:=HM.o;omega
   have S:(j:Int) < (H:Int):=by omega
   obtain ⟨b,ad,rfl,cs,-,B,hr⟩:=HA.o.at f;obtain ⟨b2,Y,rfl,ct,-,A,g⟩:=HC.o.at a;have Q:=HE.o j f a cs ct;generalize l[j]=dj at hr Q;generalize l2[j]=dm at g Q;have M:=L.ov;have Z:Hx (∀ X,SW w0 m1 m2 X->TC w0 m1 m2 126 #[.agg cs.toArray,.agg ct.toArray] X):=fun X hX=>Q X hX hr g;clear Q;obtain ⟨y,x,v,R,u,r,rfl⟩:=hr.cells;obtain ⟨K,J,I,W,G,F,rfl⟩:=g.cells;have d0:=CK M B rfl;have dA:=CJ M B;have C:=Ab M (bA wr (zg #[O zc y,.string x,ze v,zd R u r] 53));have g0:=CK C A rfl;have gA:=CJ C A;have eA:=Ad.all (Gy wr [O zc y,.string x,ze v,zd R u r] 53 (zg #[O zc K,.string J,ze I,zd W G F] 53));have N:=Aa L;have HK:=Aa P;have ae:w0.heap.size<=wr.heap.size:=M.size;clear B A hr g M L P f a;obtain ⟨U,T⟩:=nm ((wr.alloc (zg #[O zc y,.string x,ze v,zd R u r] 53)).alloc (zg #[O zc K,.string J,ze I,zd W G F] 53));have E:Hx (Ov wr U):=by show Ov _ _;rw [T];exact Ab (bA _ _) (bA _ _)
   go_wp2_with fail;rw [<-T];clear T d0 g0 dA gA eA C;refine (Z.o U (N.o.over E.o)).mono ?_;rintro e w1 V;have HP:=Aa (V.trans (HK.o.trans (KpM.over E.o)));obtain rfl:=V.1;clear V Z N HK E;go_wp2_with fail;exact ⟨⟨j+1,by omega,by go_num,HP.o.2.1,HP.o.2.2⟩,by simp [intOf];omega⟩
  ·have S:¬ (j:Int) < (H:Int):=by omega
   have HB:=Aa (And.intro L P);clear L P;go_wp2_with fail;go_ret;exact ⟨rfl,HB.o.1,HB.o.2⟩
theorem R6 (ns:List ByteArray) (ao bo:Option Addr) (c d:Nat) (w:World) (ha:LS 1 ZN w (zd ao ns.length c) ns) (hb:LS 1 ZN w (zd bo ns.length d) ns):Ro 127 #[zd ao ns.length c,zd bo ns.length d] w (ze true):=by
 have N:=Aa ha;have M:=Aa hb;have L:=ha.max;obtain ⟨y,n⟩:=nm ns.length;rw [<-n] at L ⊢;have K:=Aa n;clear ha hb n;go_enter Tryz.func127,Tryz.ntmps127;go_wp2_with fail;go_loopw [13] (fun i wr=>∃ (j:Nat),j<=y/\i=O zc j/\Ov w wr) (fun i _=>y - (intOf i).toNat)
 case atStart=>exact ⟨0,Nat.zero_le _,rfl,Below.refl _ _⟩
 case round=>
  obtain ⟨j,P,rfl,u⟩:=hrel;by_cases hjl:j < y
  ·have f:j < ns.length:=by have:=K.o;omega
   have B:(j:Int) < (y:Int):=by omega
   obtain ⟨b,A,rfl,Q,-,r,hr⟩:=N.o.at f;obtain ⟨I,v,rfl,H,-,g,l⟩:=M.o.at f;generalize ns[j]=x at hr l;rw [hr.1] at r;rw [l.1] at g;have G:wr.cell? ⟨b,A+j,none⟩=some (.string x):=ce1 u (by have:=r 0 _ rfl;simpa using this);have F:wr.cell? ⟨I,v + j,none⟩=some (.string x):=ce1 u (by have:=g 0 _ rfl;simpa using this);have E:=Aa u;clear r g hr l f u;go_wp2_with fail;refine Go.Proofs.YtipngnjffjajpaaGreatDoor.gS (fun J=>Below wr.heap.size wr J) (Below.refl _ _).drew fun a=>?_;generalize wr.drew=W at a ⊢;refine kO 0 ?_;refine kO 1 ?_;refine kO 2 ?_;refine kO 3 ?_;refine kO 4 ?_;refine kO 5 ?_;refine kO 6 ?_;refine kO 7 ?_;refine kO 8 ?_;refine gE ?_;have C:=Aa (Ab E.o a);clear a G F;go_wp2_with fail;exact ⟨⟨j+1,by omega,by go_num,C.o⟩,by simp [intOf];omega⟩
  ·have B:¬ (j:Int) < (y:Int):=by omega
   have E:=Aa u;clear u;go_wp2_with fail;go_ret;exact ⟨rfl,E.o⟩
section
variable {w V:World} {l0 l1 l2:List Value} {T0 T1 T2:Nat}
theorem r2z (e:V=(w.alloc (.cells l0.toArray T0)).alloc (.cells l1.toArray T1)):Hx (Ov w V)/\Hx (Ad l0 V w.heap.size)/\Hx (Ad l1 V (w.heap.size+1)):=by
 subst e;exact ⟨Ab (bA _ _) (bA _ _),Gy w l0 T0 _,Ky w _ l1 T1⟩
theorem r3z (e:V=((w.alloc (.cells l0.toArray T0)).alloc (.cells l1.toArray T1)).alloc (.cells l2.toArray T2)):Hx (Ov w V)/\Hx (Ad l0 V w.heap.size)/\Hx (Ad l1 V (w.heap.size+1))/\Hx (Ad l2 V (w.heap.size+2)):=by
 subst e;exact ⟨Ab (Ab (bA _ _) (bA _ _)) (bA _ _),SE w l0 T0 _ _,SC w _ l1 T1 _,SB w _ _ l2 T2⟩
theorem zkr {w0 W:World} {m1 m2 b:Nat} {cs:List Value} (s:Hx (SW w0 m1 m2 V)) (h:KpM m1 m2 V W) (r:Hx (Ad cs V b)):Hx (Ad cs W b):=fun j u hu=>s.o.keep h (r.o j u hu)
end
theorem sEs (w0:World) (m1 m2:Nat) (s1 s2:Value) (w:World) (hs:SW w0 m1 m2 w) (hL:∀ X,SW w0 m1 m2 X->TC w0 m1 m2 166 #[.map (some m2),s1,s2,.func (.func 128) #[zf #[.map (some m1),.map (some m2)]] #[]] X):TC w0 m1 m2 152 #[zf #[.map (some m1),.map (some m2)],s1,s2] w:=by
 have g:=Aa hL;have f:=Aa hs;have i:=Ad.all (A5 w [.map (some m1),.map (some m2)] 89);obtain ⟨V,b⟩:=nm (w.alloc (zg #[.map (some m1),.map (some m2)] 89));have a:=aov b;clear hL hs;go_enter Tryz.func152,Tryz.ntmps152;go_wp2_with fail;rw [<-b];clear b i;refine (g.o V (f.o.over a.o)).mono ?_;rintro e l c;have j:=Aa (c.trans (KpM.over a.o));obtain rfl:=c.1;clear c g f a;go_wp2_with fail;go_ret;exact j.o
theorem sCs (w0:World) (m1 m2:Nat) (s1 s2:Value) (w:World) (hs:SW w0 m1 m2 w) (hL:∀ X,SW w0 m1 m2 X->TC w0 m1 m2 129 #[.map (some m1),s1,s2,.func (.func 130) #[zf #[.map (some m1),.map (some m2)]] #[]] X):TC w0 m1 m2 91 #[zf #[.map (some m1),.map (some m2)],s1,s2] w:=by
 have g:=Aa hL;have f:=Aa hs;have i:=Ad.all (A5 w [.map (some m1),.map (some m2)] 89);obtain ⟨V,b⟩:=nm (w.alloc (zg #[.map (some m1),.map (some m2)] 89));have a:=aov b;clear hL hs;go_enter Tryz.func91,Tryz.ntmps91;go_wp2_with fail;rw [<-b];clear b i;refine (g.o V (f.o.over a.o)).mono ?_;rintro e l c;have j:=Aa (c.trans (KpM.over a.o));obtain rfl:=c.1;clear c g f a;go_wp2_with fail;go_ret;exact j.o
theorem sE (w0:World) (m1 m2:Nat) (k a b n:Int) (x:ByteArray) (q:Option Addr) (q1 q2:Nat) (r:Option Addr) (r1 r2:Nat) (w:World) (hs:SW w0 m1 m2 w) (h0:∀ X,SW w0 m1 m2 X->TC w0 m1 m2 152 #[zf #[.map (some m1),.map (some m2)],zd q q1 q2,zd r r1 r2] X):TC w0 m1 m2 128 #[zf #[.map (some m1),.map (some m2)],zf #[O zc k,O zc a,O zc n,.string x,zd q q1 q2],zf #[O zc k,O zc b,O zc n,.string x,zd r r1 r2]] w:=by
 have B:=Aa h0;obtain ⟨V,u⟩:=nm (((w.alloc (zg #[.map (some m1),.map (some m2)] 89)).alloc (zg #[O zc k,O zc a,O zc n,.string x,zd q q1 q2] 49)).alloc (zg #[O zc k,O zc b,O zc n,.string x,zd r r1 r2] 49));obtain ⟨i,F,E,C⟩:=r3z u;have j:=Aa (hs.over i.o);have l:=Aa (KpM.over (m1:=m1) (m2:=m2) i.o);have g:=Ad.all F.o;have f:=Ad.all E.o;have c:=Ad.all C.o;rw [u] at g f c;clear hs h0 i;go_enter Tryz.func128,Tryz.ntmps128;go_wp2_with fail;rw [<-u];clear u g f c;refine (B.o V j.o).mono ?_;rintro e G v;have y:=Aa v.2.1;have A:=Aa (l.o.trans v.2.2);obtain rfl:=v.1;clear v B j l;go_wp2_with fail;go_ret;exact ⟨rfl,y.o,A.o⟩
theorem sC (w0:World) (m1 m2:Nat) (k a b:Int) (x y:ByteArray) (e0 e1 e2:Int) (e3:ByteArray) (q:Option Addr) (q1 q2:Nat) (aA:Option Addr) (nA cA:Nat) (aT:Option Addr) (nT cT:Nat) (aE:Option Addr) (nE cE:Nat) (f0 f1 f2:Int) (f3:ByteArray) (r:Option Addr) (r1 r2:Nat) (bA:Option Addr) (nB cB:Nat) (bT:Option Addr) (nU cU:Nat) (bE:Option Addr) (nF cF:Nat) (w:World) (hs:SW w0 m1 m2 w) (h0:∀ X,SW w0 m1 m2 X->TC w0 m1 m2 128 #[zf #[.map (some m1),.map (some m2)],zf #[O zc e0,O zc e1,O zc e2,.string e3,zd q q1 q2],zf #[O zc f0,O zc f1,O zc f2,.string f3,zd r r1 r2]] X) (h1:∀ X,SW w0 m1 m2 X->TC w0 m1 m2 152 #[zf #[.map (some m1),.map (some m2)],zd aA nA cA,zd bA nB cB] X) (h2:∀ X,SW w0 m1 m2 X->TC w0 m1 m2 91 #[zf #[.map (some m1),.map (some m2)],zd aT nT cT,zd bT nU cU] X) (h3:∀ X,SW w0 m1 m2 X->TC w0 m1 m2 91 #[zf #[.map (some m1),.map (some m2)],zd aE nE cE,zd bE nF cF] X):TC w0 m1 m2 130 #[zf #[.map (some m1),.map (some m2)],zf #[O zc k,O zc a,.string x,.string y,O zc e0,O zc e1,O zc e2,.string e3,zd q q1 q2,zd aA nA cA,zd aT nT cT,zd aE nE cE],zf #[O zc k,O zc b,.string x,.string y,O zc f0,O zc f1,O zc f2,.string f3,zd r r1 r2,zd bA nB cB,zd bT nU cU,zd bE nF cF]] w:=by
 have N:=Aa h0;have M:=Aa h1;have L:=Aa h2;have K:=Aa h3;obtain ⟨V,H⟩:=nm (((w.alloc (zg #[.map (some m1),.map (some m2)] 89)).alloc (zg #[O zc k,O zc a,.string x,.string y,O zc e0,O zc e1,O zc e2,.string e3,zd q q1 q2,zd aA nA cA,zd aT nT cT,zd aE nE cE] 55)).alloc (zg #[O zc k,O zc b,.string x,.string y,O zc f0,O zc f1,O zc f2,.string f3,zd r r1 r2,zd bA nB cB,zd bT nU cU,zd bE nF cF] 55));obtain ⟨A,v,u,n⟩:=r3z H;have i:=Aa (hs.over A.o);have C:=Aa (KpM.over (m1:=m1) (m2:=m2) A.o);have g:=Ad.all v.o;have f:=Ad.all u.o;have c:=Ad.all n.o;rw [H] at g f c;clear hs h0 h1 h2 h3 A;go_enter Tryz.func130,Tryz.ntmps130;go_wp2_with fail;rw [<-H];clear H g f c;refine (N.o V i.o).mono ?_;rintro e R h1;have l:=Aa h1.2.1;have G:=Aa (C.o.trans h1.2.2);have v:=zkr i h1.2.2 v;have u:=zkr i h1.2.2 u;have n:=zkr i h1.2.2 n;have g:=Ad.all (v.o);have f:=Ad.all (u.o);have c:=Ad.all (n.o);obtain rfl:=h1.1;clear h1 N i C;go_wp2_with fail;clear g f c;refine (M.o R l.o).mono ?_;rintro e Q h1;have j:=Aa h1.2.1;have F:=Aa (G.o.trans h1.2.2);have v:=zkr l h1.2.2 v;have u:=zkr l h1.2.2 u;have n:=zkr l h1.2.2 n;have g:=Ad.all (v.o);have f:=Ad.all (u.o);have c:=Ad.all (n.o);obtain rfl:=h1.1;clear h1 M l G;go_wp2_with fail;clear g f c;refine (L.o Q j.o).mono ?_;rintro e P h1;have B:=Aa h1.2.1;have E:=Aa (F.o.trans h1.2.2);have v:=zkr j h1.2.2 v;have u:=zkr j h1.2.2 u;have n:=zkr j h1.2.2 n;have g:=Ad.all (v.o);have f:=Ad.all (u.o);have c:=Ad.all (n.o);obtain rfl:=h1.1;clear h1 L j F;go_wp2_with fail;clear g f c;refine (K.o P B.o).mono ?_;rintro e S h1;have I:=Aa h1.2.1;have J:=Aa (E.o.trans h1.2.2);obtain rfl:=h1.1;clear h1 K B E;go_wp2_with fail;go_ret;exact ⟨rfl,I.o,J.o⟩
theorem sP (w0:World) (m1 m2:Nat) (a b:Int) (x:ByteArray) (g:Bool) (q:Option Addr) (q1 q2:Nat) (r:Option Addr) (r1 r2:Nat) (w:World) (hs:SW w0 m1 m2 w) (h0:∀ X,SW w0 m1 m2 X->TC w0 m1 m2 127 #[zd q q1 q2,zd r r1 r2] X):TC w0 m1 m2 126 #[zf #[O zc a,.string x,ze g,zd q q1 q2],zf #[O zc b,.string x,ze g,zd r r1 r2]] w:=by
 have A:=Aa h0;obtain ⟨V,n⟩:=nm ((w.alloc (zg #[O zc a,.string x,ze g,zd q q1 q2] 53)).alloc (zg #[O zc b,.string x,ze g,zd r r1 r2] 53));obtain ⟨i,C,B⟩:=r2z n;have j:=Aa (hs.over i.o);have l:=Aa (KpM.over (m1:=m1) (m2:=m2) i.o);have f:=Ad.all C.o;have c:=Ad.all B.o;rw [n] at f c;clear hs h0 i;go_enter Tryz.func126,Tryz.ntmps126;go_wp2_with fail;rw [<-n];clear n f c;refine (A.o V j.o).mono ?_;rintro e E u;have v:=Aa u.2.1;have y:=Aa (l.o.trans u.2.2);obtain rfl:=u.1;clear u A j l;go_wp2_with fail;go_ret;exact ⟨rfl,v.o,y.o⟩
theorem sD (w0:World) (m1 m2:Nat) (k a b:Int) (x y:ByteArray) (g:Bool) (aL:Option Addr) (nL cL:Nat) (aP:Option Addr) (nP cP:Nat) (aB:Option Addr) (nB cB:Nat) (e0 e1 e2:Int) (e3:ByteArray) (q:Option Addr) (q1 q2:Nat) (bL:Option Addr) (nM cM:Nat) (bP:Option Addr) (nQ cQ:Nat) (bB:Option Addr) (nC cC:Nat) (f0 f1 f2:Int) (f3:ByteArray) (r:Option Addr) (r1 r2:Nat) (w:World) (hs:SW w0 m1 m2 w) (h0:∀ X,SW w0 m1 m2 X->TC w0 m1 m2 125 #[zd aL nL cL,zd bL nM cM,.func (.func 126) #[] #[]] X) (h1:∀ X,SW w0 m1 m2 X->TC w0 m1 m2 127 #[zd aP nP cP,zd bP nQ cQ] X) (h2:∀ X,SW w0 m1 m2 X->TC w0 m1 m2 91 #[zf #[.map (some m1),.map (some m2)],zd aB nB cB,zd bB nC cC] X) (h3:∀ X,SW w0 m1 m2 X->TC w0 m1 m2 128 #[zf #[.map (some m1),.map (some m2)],zf #[O zc e0,O zc e1,O zc e2,.string e3,zd q q1 q2],zf #[O zc f0,O zc f1,O zc f2,.string f3,zd r r1 r2]] X):TC w0 m1 m2 90 #[zf #[.map (some m1),.map (some m2)],zf #[O zc k,O zc a,.string x,.string y,ze g,zd aL nL cL,zd aP nP cP,zd aB nB cB,O zc e0,O zc e1,O zc e2,.string e3,zd q q1 q2],zf #[O zc k,O zc b,.string x,.string y,ze g,zd bL nM cM,zd bP nQ cQ,zd bB nC cC,O zc f0,O zc f1,O zc f2,.string f3,zd r r1 r2]] w:=by
 have P:=Aa h0;have N:=Aa h1;have M:=Aa h2;have L:=Aa h3;obtain ⟨V,I⟩:=nm (((w.alloc (zg #[.map (some m1),.map (some m2)] 89)).alloc (zg #[O zc k,O zc a,.string x,.string y,ze g,zd aL nL cL,zd aP nP cP,zd aB nB cB,O zc e0,O zc e1,O zc e2,.string e3,zd q q1 q2] 51)).alloc (zg #[O zc k,O zc b,.string x,.string y,ze g,zd bL nM cM,zd bP nQ cQ,zd bB nC cC,O zc f0,O zc f1,O zc f2,.string f3,zd r r1 r2] 51));obtain ⟨B,A,v,u⟩:=r3z I;have j:=Aa (hs.over B.o);have E:=Aa (KpM.over (m1:=m1) (m2:=m2) B.o);have i:=Ad.all A.o;have f:=Ad.all v.o;have c:=Ad.all u.o;rw [I] at i f c;clear hs h0 h1 h2 h3 B;go_enter Tryz.func90,Tryz.ntmps90;go_wp2_with fail;rw [<-I];clear I i f c;refine (P.o V j.o).mono ?_;rintro e S h1;have n:=Aa h1.2.1;have H:=Aa (E.o.trans h1.2.2);have A:=zkr j h1.2.2 A;have v:=zkr j h1.2.2 v;have u:=zkr j h1.2.2 u;have i:=Ad.all (A.o);have f:=Ad.all (v.o);have c:=Ad.all (u.o);obtain rfl:=h1.1;clear h1 P j E;go_wp2_with fail;clear i f c;refine (N.o S n.o).mono ?_;rintro e R h1;have l:=Aa h1.2.1;have G:=Aa (H.o.trans h1.2.2);have A:=zkr n h1.2.2 A;have v:=zkr n h1.2.2 v;have u:=zkr n h1.2.2 u;have i:=Ad.all (A.o);have f:=Ad.all (v.o);have c:=Ad.all (u.o);obtain rfl:=h1.1;clear h1 N n H;go_wp2_with fail;clear i f c;refine (M.o R l.o).mono ?_;rintro e Q h1;have C:=Aa h1.2.1;have F:=Aa (G.o.trans h1.2.2);have A:=zkr l h1.2.2 A;have v:=zkr l h1.2.2 v;have u:=zkr l h1.2.2 u;have i:=Ad.all (A.o);have f:=Ad.all (v.o);have c:=Ad.all (u.o);obtain rfl:=h1.1;clear h1 M l G;go_wp2_with fail;clear i f c;refine (L.o Q C.o).mono ?_;rintro e T h1;have J:=Aa h1.2.1;have K:=Aa (F.o.trans h1.2.2);obtain rfl:=h1.1;clear h1 L C F;go_wp2_with fail;go_ret;exact ⟨rfl,J.o,K.o⟩
theorem sT (w0:World) (m1 m2:Nat) (a:Option Addr) (n c:Nat) (a2:Option Addr) (n2 c2:Nat) (b:Option Addr) (m d:Nat) (b2:Option Addr) (m3 d2:Nat) (w:World) (hs:SW w0 m1 m2 w) (h0:∀ X,SW w0 m1 m2 X->TC w0 m1 m2 89 #[zd a n c,zd b m d,.func (.func 90) #[zf #[.map (some m1),.map (some m2)]] #[]] X) (h1:∀ X,SW w0 m1 m2 X->TC w0 m1 m2 91 #[zf #[.map (some m1),.map (some m2)],zd a2 n2 c2,zd b2 m3 d2] X):TC w0 m1 m2 49 #[zf #[.map (some m1),.map (some m2)],zf #[zd a n c,zd a2 n2 c2],zf #[zd b m d,zd b2 m3 d2]] w:=by
 have G:=Aa h0;have F:=Aa h1;obtain ⟨V,x⟩:=nm (((w.alloc (zg #[.map (some m1),.map (some m2)] 89)).alloc (zg #[zd a n c,zd a2 n2 c2] 25)).alloc (zg #[zd b m d,zd b2 m3 d2] 25));obtain ⟨l,B,A,y⟩:=r3z x;have j:=Aa (hs.over l.o);have u:=Aa (KpM.over (m1:=m1) (m2:=m2) l.o);have i:=Ad.all B.o;have g:=Ad.all A.o;have f:=Ad.all y.o;rw [x] at i g f;clear hs h0 h1 l;go_enter Tryz.func49,Tryz.ntmps49;go_wp2_with fail;rw [<-x];clear x i g f;refine (G.o V j.o).mono ?_;rintro e H h1;have r:=Aa h1.2.1;have v:=Aa (u.o.trans h1.2.2);have B:=zkr j h1.2.2 B;have A:=zkr j h1.2.2 A;have y:=zkr j h1.2.2 y;have i:=Ad.all (B.o);have g:=Ad.all (A.o);have f:=Ad.all (y.o);obtain rfl:=h1.1;clear h1 G j u;go_wp2_with fail;clear i g f;refine (F.o H r.o).mono ?_;rintro e I h1;have C:=Aa h1.2.1;have E:=Aa (v.o.trans h1.2.2);obtain rfl:=h1.1;clear h1 F r v;go_wp2_with fail;go_ret;exact ⟨rfl,C.o,E.o⟩
end Go.Proofs.YtipngnjffjajpaaGreatDoor.Tx
