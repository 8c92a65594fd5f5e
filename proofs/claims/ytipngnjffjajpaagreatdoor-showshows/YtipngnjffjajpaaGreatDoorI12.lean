/- Package show's maps, keyed by two pointers and a number: whatever blocks are marked, a look-up finds something or not, and an entry can be put in. -/
import Derived.Test.YtipngnjffjajpaaGreatDoorI05
import Derived.Deep.Draws
import Derived.LaidEql
import Derived.MapFrom
set_option linter.unusedVariables false
set_option maxHeartbeats 8000000
set_option maxRecDepth 100000
namespace Go.Proofs.YtipngnjffjajpaaGreatDoor.Tx
open Go.RowKit
open Go.Value renaming int -> A, slice -> O, bool -> zc, agg -> ze, pointer -> zf, tuple -> zh
open Go.IntKind renaming i64 -> J
open Go.Obj renaming cells -> zd
open Go.Ending renaming returned -> zg
def Cbl (W:World) (b:Nat):Prop:=∃ c T f,W.heap[b]? = some (.cells c T f)
theorem Cbl.of_cell {W:World} {b off:Nat} {u:Value} (h:W.cell? ⟨b,off,none⟩=some u):Cbl W b:=by
 unfold World.cell? at h;split at h
 ·rename_i c T f e
  exact ⟨c,T,f,e⟩
 ·cases h
theorem Cbl.of_heap {W W':World} {b:Nat} (h:Cbl W b) (e:W'.heap[b]? = W.heap[b]?):Cbl W' b:=by
 obtain ⟨c,T,f,a⟩:=h;exact ⟨c,T,f,e.trans a⟩
theorem IP (W:World):W.drewN 0=W:=rfl
theorem Ij {W:World} {a b:Addr} (hf:W.frozen? a=false) (ha:Cbl W a.block) (hb:Cbl W b.block):∃ r n,(sameAddr a b).run Tryz.prog W=.ok r (W.drewN n):=by
 obtain ⟨g,j,v,ha⟩:=ha;obtain ⟨f,i,u,hb⟩:=hb;have l:W.drewN 1=W.drew:=rfl;by_cases hbl:a.block=b.block
 ·exact ⟨a == b,0,by simp [sameAddr,hbl,IP]⟩
 ·obtain ⟨m,c⟩:∃ m,(mayBeOne a b).run Tryz.prog W=.ok m W:=by
   have t:W.shape? a.block=some (j,g.size):=by simp [World.shape?,ha]
   have q:W.shape? b.block=some (i,f.size):=by simp [World.shape?,hb]
   cases x1:W.frozen? b <;> cases x2:W.frozen? { block:=a.block,off:=g.size } <;> cases x3:W.frozen? { block:=b.block,off:=f.size } <;>
    exact ⟨_,by simp [mayBeOne,stringish,t,q,hf,x1,x2,x3];rfl⟩
  cases m with
  | true=>
   refine ⟨(Question.extern "sameAddr.stringBytes" 2).cut (W.tape W.drawn (Question.extern "sameAddr.stringBytes" 2)) == 1,1,?_⟩;simp [sameAddr,hbl,hf,ha,hb,noView,viewAt,World.shape?,c,l,Question.forced]
  | false=>
   refine ⟨false,0,?_⟩;simp [sameAddr,hbl,hf,ha,hb,noView,viewAt,World.shape?,c,IP]
def kS (a b:Addr) (n:Int):Value:=ze #[zf (some a),zf (some b),A J n]
def Fr0 (W:World) (a:Addr):Prop:=W.frozen? a=false/\Cbl W a.block
def EnO (W:World) (es:List MapEntry):Prop:=∀ e∈es,∃ a b n,e.key=kS a b n/\e.val=ze #[]/\Cbl W a.block/\Cbl W b.block
structure OS (tM tK tP:TypeId):Prop where
 m:Tryz.prog.underlying tM=some (.map tK 167)
 k:Tryz.prog.underlying tK=some (.struct #[{ name:= "first",type:=tP,offset:=0,embedded:=false,tag:= "",pkgPath:= "veilwork/show",byteOffset:=0 },{ name:= "second",type:=tP,offset:=1,embedded:=false,tag:= "",pkgPath:= "veilwork/show",byteOffset:=8 },{ name:= "many",type:=3,offset:=2,embedded:=false,tag:= "",pkgPath:= "veilwork/show",byteOffset:=16 }])
 p:∃ e,Tryz.prog.underlying tP=some (.pointer e)/\∃ s,s≠0/\∀ W:World,(sizeOf e).run Tryz.prog W=.ok s W
 s:Tryz.prog.stoodInHeld tK=false
theorem Mv:OS 86 166 164:=⟨Tryz.underlying86,Tryz.underlying166,⟨_,Tryz.underlying164,12,by decide,fun W=>by simp [sizeOf,go_sem];kernel_rfl⟩,by kernel_rfl⟩
theorem Mu:OS 87 178 176:=⟨Tryz.underlying87,Tryz.underlying178,⟨_,Tryz.underlying176,5,by decide,fun W=>by simp [sizeOf,go_sem];kernel_rfl⟩,by kernel_rfl⟩
section
variable {tM tK tP:TypeId}
theorem GX (K:OS tM tK tP) {xs:Array Value} {off:Nat} {v:Value} (hx:xs[off]? = some v) (W:World):(part tP xs off).run Tryz.prog W=.ok v W:=by
 obtain ⟨e,a,-⟩:=K.p;simp [part,isAgg,run_underlying a,hx]
theorem L5 {xs:Array Value} {off:Nat} {v:Value} (hx:xs[off]? = some v) (W:World):(part 3 xs off).run Tryz.prog W=.ok v W:=by
 simp [part,isAgg,run_underlying Tryz.underlying3,hx]
theorem N9 (K:OS tM tK tP) (em:Bool) (d:Nat) (a b:Addr) (n:Int) (W:World):(Instr.checkKey em (d+2) tK (kS a b n)).run Tryz.prog W=.ok () W:=by
 obtain ⟨e,i,-⟩:=K.p;have u:=run_underlying (P:=Tryz.prog) (w:=W) K.k;have up:=run_underlying (P:=Tryz.prog) (w:=W) i;have g:=GX K (xs:=#[zf (some a),zf (some b),A J n]) (off:=0) rfl W;have f:=GX K (xs:=#[zf (some a),zf (some b),A J n]) (off:=1) rfl W;have c:=L5 (xs:=#[zf (some a),zf (some b),A J n]) (off:=2) rfl W;rw [show d+2=(d+1)+1 from rfl,Instr.checkKey];simp [u,up,kS,Instr.checkKey,g,f,c,run_underlying Tryz.underlying3]
theorem Pr (K:OS tM tK tP) (d:Nat) {a b:Addr} (W:World):(Op.equalIn (d+1) tP (zf (some a)) (zf (some b))).run Tryz.prog W=(sameAddr a b).run Tryz.prog W:=by
 obtain ⟨e,f,s,c,g⟩:=K.p;rw [Op.equalIn];simp [run_underlying f,g,c]
theorem Ps (d:Nat) {m n:Int} (W:World):(Op.equalIn (d+1) 3 (A J m) (A J n)).run Tryz.prog W=.ok (m == n) W:=by
 rw [Op.equalIn];simp [run_underlying Tryz.underlying3]
theorem O6 (K:OS tM tK tP) (d:Nat) {a b a2 b2:Addr} {n n2:Int} {W:World} (ha:Fr0 W a) (hb:Fr0 W b) (ha2:Cbl W a2.block) (hb2:Cbl W b2.block):∃ r m,(Op.equalIn (d+2) tK (kS a b n) (kS a2 b2 n2)).run Tryz.prog W=.ok r (W.drewN m):=by
 obtain ⟨B,c,l⟩:=Ij ha.1 ha.2 ha2;obtain ⟨A,t,v⟩:=Ij (W:=W.drewN c) hb.1 hb.2 hb2;rw [show d+2=(d+1)+1 from rfl,Op.equalIn];have u:=fun w=>run_underlying (P:=Tryz.prog) (w:=w) K.k;have j:=fun x y z W=>GX K (xs:=#[x,y,z]) (off:=0) rfl W;have i:=fun x y z W=>GX K (xs:=#[x,y,z]) (off:=1) rfl W;have g:=fun x y z W=>L5 (xs:=#[x,y,z]) (off:=2) rfl W;have q:=fun (a b:Addr) W=>Pr K d (a:=a) (b:=b) W;have f:=fun (m n:Int) W=>Ps d (m:=m) (n:=n) W
 cases B with
 | false=>
  refine ⟨false,c,?_⟩;simp [u,kS,j,i,g,q,f,l,K.s]
 | true=>
  cases A with
  | false=>
   refine ⟨false,c+t,?_⟩;simp [u,kS,j,i,g,q,f,l,v,K.s]
  | true=>
   refine ⟨n == n2,c+t,?_⟩;by_cases hn:n=n2 <;> simp [u,kS,j,i,g,q,f,l,v,K.s,hn]
theorem MC (K:OS tM tK tP) {a b:Addr} {n:Int}:∀ (es:List MapEntry) (i:Nat) (W:World),Fr0 W a->Fr0 W b->EnO W es->∃ r m,(Instr.findAsking tK (kS a b n) es i).run Tryz.prog W=.ok r (W.drewN m)/\∀ j v,r=some (j,v)->v=ze #[]
 | [],i,W,_,_,_=>⟨none,0,by simp [Instr.findAsking,IP],by simp⟩
 | e::es,i,W,ha,hb,h=>by
  obtain ⟨a2,b2,n2,hk,hv,ca,cb⟩:=h e (by simp);obtain ⟨r,m,hq⟩:=O6 K 9998 (n:=n) (n2:=n2) ha hb ca cb;replace hq:(Op.equal tK (kS a b n) e.key).run Tryz.prog W=.ok r (W.drewN m):=by rw [hk];exact hq
  cases r with
  | true=>exact ⟨some (i,ze #[]),m,by simp [Instr.findAsking,hq,hv],by rintro j v ⟨⟩;rfl⟩
  | false=>
   obtain ⟨c,f,q,l⟩:=MC K (n:=n) es (i+1) (W.drewN m) ha hb fun x g=>h x (List.mem_cons_of_mem _ g);exact ⟨c,m+f,by simp [Instr.findAsking,hq,q],l⟩
theorem GJ (K:OS tM tK tP) {a b:Addr} {n:Int} {es:List MapEntry} {W:World} (ha:Fr0 W a) (hb:Fr0 W b) (h:EnO W es):∃ r m,(Instr.findKey tK (kS a b n) es).run Tryz.prog W=.ok r (W.drewN m)/\∀ j v,r=some (j,v)->v=ze #[]:=by
 have u:=run_underlying (P:=Tryz.prog) (w:=W) K.k
 cases es with
 | nil=>exact ⟨none,0,by simp [Instr.findKey,u,Instr.findNow,IP],by simp⟩
 | cons e es=>
  obtain ⟨r,m,hr,f⟩:=MC K (n:=n) (e::es) 0 W ha hb h;have c:∀ d,Instr.findNow (.struct d) (kS a b n) (e::es) 0=none:=fun d=>by simp [Instr.findNow,Instr.sameNow]
  exact ⟨r,m,by simp [Instr.findKey,u,c,hr],f⟩
def DT (W:World) (m:Nat):Prop:=∃ es cl,W.heap[m]? = some (.map es cl)/\EnO W es.toList
theorem Mr (K:OS tM tK tP) {m:Nat} {a b:Addr} {n:Int} {W:World} (hm:DT W m) (ha:Fr0 W a) (hb:Fr0 W b):∃ ok k,(Instr.lookup tM (.map (some m)) (kS a b n) true).run Tryz.prog W=.ok (zh #[ze #[],zc ok]) (W.drewN k):=by
 obtain ⟨g,t,h,q⟩:=hm;obtain ⟨r,k,hr,l⟩:=GJ K (n:=n) ha hb q;have u:=run_underlying (P:=Tryz.prog) (w:=W) K.m;have c:(Instr.checkKey g.isEmpty 10000 tK (kS a b n)).run Tryz.prog W=.ok () W:=N9 K g.isEmpty 9998 a b n W;have f:Tryz.t167.zero=some (ze #[]):=by kernel_rfl
 have i:∀ W:World,(zeroValue 167).run Tryz.prog W=.ok (ze #[]) W:=fun W=>by
  simp [zeroValue,f]
 cases r with
 | none=>
  refine ⟨false,k,?_⟩;simp only [Instr.lookup,Sem.run_bind,u,Result.andThen,MapKept.run_getObj_map h,c,hr,i,Sem.run_pure];rfl
 | some p=>
  obtain ⟨j,v⟩:=p;obtain rfl:=l j v rfl;refine ⟨true,k,?_⟩;simp only [Instr.lookup,Sem.run_bind,u,Result.andThen,MapKept.run_getObj_map h,c,hr,Sem.run_pure];rfl
def Dz (W:World) (m:Nat) (o:Obj) (k:Nat):World:={ W with heap:=W.heap.setIfInBounds m o,drawn:=W.drawn+k }
theorem CR {W:World} {m k:Nat} {o:Obj} (i:Nat) (hi:i≠m):(Dz W m o k).heap[i]? = W.heap[i]?:=by
 simp [Dz,Ne.symm hi]
theorem JI {W:World} {m k:Nat} {o o2:Obj} (h:W.heap[m]? = some o2):(Dz W m o k).heap[m]? = some o:=by
 have:=(Array.getElem?_eq_some_iff.1 h).1;simp [Dz,this]
theorem BJ {W:World} {m k:Nat} {es:Array MapEntry} {cl:Nat} {o:Obj} {b:Nat} (h:W.heap[m]? = some (.map es cl)) (hb:Cbl W b):Cbl (Dz W m o k) b:=hb.of_heap (CR b (by
 rintro rfl;obtain ⟨c,T,f,e⟩:=hb;rw [h] at e;cases e))
theorem Ng (x y:Value) (W:World):∃ z k,(Instr.keyThatStays x y).run Tryz.prog W=.ok z (W.drewN k)/\(z=x\/z=y):=by
 unfold Instr.keyThatStays;by_cases h:Instr.sameBits 10000 x y=true
 ·exact ⟨y,0,by simp [h,IP],Or.inr rfl⟩
 ·have a:W.drewN 1=W.drew:=rfl
  refine ⟨if (Question.extern "map.whichKeyStays" 2).cut (W.tape W.drawn (Question.extern "map.whichKeyStays" 2))=0 then y else x,1,by simp [h,a,Question.forced],?_⟩;split
  ·exact Or.inr rfl
  ·exact Or.inl rfl
theorem N2 (K:OS tM tK tP) {m:Nat} {a b:Addr} {n:Int} {W:World} (hm:DT W m) (ha:Fr0 W a) (hb:Fr0 W b):∃ es cl k,(Instr.mapUpdate tM (.map (some m)) (kS a b n) (ze #[])).run Tryz.prog W=.ok () (Dz W m (.map es cl) k)/\DT (Dz W m (.map es cl) k) m:=by
 obtain ⟨es,cl,h,C⟩:=hm;obtain ⟨r,k,hr,I⟩:=GJ K (n:=n) ha hb C;have u:=run_underlying (P:=Tryz.prog) (w:=W) K.m;have q:(Instr.checkKey false 10000 tK (kS a b n)).run Tryz.prog W=.ok () W:=N9 K false 9998 a b n W
 cases r with
 | none=>
  have G:(W.drewN k).heap[m]? = some (.map es cl):=h;have f:=MapKept.run_setObj_map (P:=Tryz.prog) (.map (es.push ⟨kS a b n,ze #[],cl⟩) (cl+1)) G;refine ⟨es.push ⟨kS a b n,ze #[],cl⟩,cl+1,k,?_,_,_,JI h,fun e c=>?_⟩
  ·simp only [Instr.mapUpdate,Sem.run_bind,u,Result.andThen,MapKept.run_getObj_map h,q,hr,f]
   rfl
  ·rw [Array.toList_push,List.mem_append,List.mem_singleton] at c
   rcases c with c | rfl
   ·obtain ⟨B,A,l,y,E,x,t⟩:=C e c
    exact ⟨B,A,l,y,E,BJ h x,BJ h t⟩
   ·exact ⟨a,b,n,rfl,rfl,BJ h ha.2,BJ h hb.2⟩
 | some p=>
  obtain ⟨j,v⟩:=p;obtain ⟨z,k2,H,g⟩:=Ng (((es[j]?).map (·.key)).getD (kS a b n)) (kS a b n) (W.drewN k);have G:((W.drewN k).drewN k2).heap[m]? = some (.map es cl):=h;have f:=MapKept.run_setObj_map (P:=Tryz.prog) (.map (es.modify j fun e=>{ e with key:=z,val:=ze #[] }) cl) G;refine ⟨es.modify j fun e=>{ e with key:=z,val:=ze #[] },cl,k+k2,?_,_,_,JI h,fun e c=>?_⟩
  ·simp only [Instr.mapUpdate,Sem.run_bind,u,Result.andThen,MapKept.run_getObj_map h,q,hr,H,f]
   simp [Dz,World.drewN,Nat.add_assoc]
  ·obtain ⟨i,c⟩:=Array.mem_iff_getElem?.1 (Array.mem_toList_iff.1 c)
   rw [Array.getElem?_modify] at c;split at c
   ·rename_i F
    subst F
    cases hes:es[j]? with
    | none=>rw [hes] at c;cases c
    | some e0=>
     rw [hes] at c;simp only [Option.map_some,Option.some.injEq] at c;subst c;obtain ⟨B,A,l,y,E,x,t⟩:=C e0 (by simpa using Array.mem_of_getElem? hes);rw [hes] at g;simp only [Option.map_some,Option.getD_some] at g;rcases g with rfl | rfl
     ·exact ⟨B,A,l,y,rfl,BJ h x,BJ h t⟩
     ·exact ⟨a,b,n,rfl,rfl,BJ h ha.2,BJ h hb.2⟩
   ·obtain ⟨B,A,l,y,E,x,t⟩:=C e (by simpa using Array.mem_of_getElem? c)
    exact ⟨B,A,l,y,E,BJ h x,BJ h t⟩
end
theorem Cbl.over {W W':World} {b:Nat} (h:Cbl W b) (hb:Ov W W'):Cbl W' b:=h.of_heap (hb.block b (by
 obtain ⟨c,T,f,e⟩:=h;exact (Array.getElem?_eq_some_iff.1 e).1))
theorem Fr0.over {W W':World} {a:Addr} (h:Fr0 W a) (hb:Ov W W'):Fr0 W' a:=by
 refine ⟨?_,h.2.over hb⟩;rw [World.frozen?_of_block (hb.block _ (by obtain ⟨-,c,T,f,e⟩:=h;exact (Array.getElem?_eq_some_iff.1 e).1))];exact h.1
theorem DT.lt {W:World} {m:Nat} (h:DT W m):m < W.heap.size:=by
 obtain ⟨a,b,e,-⟩:=h;exact (Array.getElem?_eq_some_iff.1 e).1
theorem DT.of_heap {W W':World} {m:Nat} (h:DT W m) (hm:W'.heap[m]? = W.heap[m]?) (hc:∀ b,Cbl W b->Cbl W' b):DT W' m:=by
 obtain ⟨q,r,e,f⟩:=h;refine ⟨q,r,hm.trans e,fun x c=>?_⟩;obtain ⟨a,b,n,l,j,i,g⟩:=f x c;exact ⟨a,b,n,l,j,hc _ i,hc _ g⟩
theorem DT.over {W W':World} {m:Nat} (h:DT W m) (hb:Ov W W'):DT W' m:=h.of_heap (hb.block m h.lt) fun b hc=>hc.over hb
theorem DT.cell {W:World} {m:Nat} (h:DT W m) {a:Addr} {u:Value} (hc:W.cell? a=some u):a.block≠m:=by
 rintro rfl;obtain ⟨b,c,e,-⟩:=h;unfold World.cell? at hc;rw [e] at hc;cases hc
def SW (w0:World) (m1 m2:Nat) (w:World):Prop:=Ov w0 w/\m1≠m2/\w0.heap.size<=m1/\w0.heap.size<=m2/\DT w m1/\DT w m2
def KpM (m1 m2:Nat) (w w':World):Prop:=w'.os=w.os/\w'.tape=w.tape/\w'.output=w.output/\w.heap.size<=w'.heap.size/\∀ k,k < w.heap.size->k≠m1->k≠m2->w'.heap[k]? = w.heap[k]?
theorem KpM.over {m1 m2:Nat} {w w':World} (h:Ov w w'):KpM m1 m2 w w':=⟨h.os,h.tape,h.output,h.size,fun k hk _ _=>h.block k hk⟩
theorem KpM.refl (m1 m2:Nat) (w:World):KpM m1 m2 w w:=KpM.over (Below.refl _ _)
theorem KpM.trans {m1 m2:Nat} {w w1 w2:World} (h:KpM m1 m2 w w1) (k:KpM m1 m2 w1 w2):KpM m1 m2 w w2:=
 ⟨k.1.trans h.1,k.2.1.trans h.2.1,k.2.2.1.trans h.2.2.1,Nat.le_trans h.2.2.2.1 k.2.2.2.1,fun i hi h1 h2=>(k.2.2.2.2 i (Nat.lt_of_lt_of_le hi h.2.2.2.1) h1 h2).trans (h.2.2.2.2 i hi h1 h2)⟩
theorem SW.over {w0 w w':World} {m1 m2:Nat} (h:SW w0 m1 m2 w) (hb:Ov w w'):SW w0 m1 m2 w':=
 ⟨h.1.trans (hb.mono h.1.size),h.2.1,h.2.2.1,h.2.2.2.1,h.2.2.2.2.1.over hb,h.2.2.2.2.2.over hb⟩
theorem ovD (w:World) (n:Nat):Ov w (w.drewN n):=⟨rfl,rfl,rfl,Nat.le_refl _,fun _ _=>rfl⟩
theorem SW.keep {w0 w w':World} {m1 m2:Nat} (h:SW w0 m1 m2 w) (k:KpM m1 m2 w w') {a:Addr} {u:Value} (hc:w.cell? a=some u):w'.cell? a=some u:=by
 have:=k.2.2.2.2 a.block (World.block_lt_of_cell? w _ hc) (h.2.2.2.2.1.cell hc) (h.2.2.2.2.2.cell hc);unfold World.cell? at hc ⊢;rw [this];exact hc
theorem JH {w:World} {m m1 m2 k:Nat} {o:Obj} (hm:m=m1\/m=m2):KpM m1 m2 w (Dz w m o k):=by
 refine ⟨rfl,rfl,rfl,by simp [Dz],fun i _ b a=>CR i ?_⟩;rcases hm with rfl | rfl
 ·exact b
 ·exact a
theorem SW.set1 {w0 w:World} {m1 m2 k:Nat} {o:Obj} (h:SW w0 m1 m2 w) (hm:DT (Dz w m1 o k) m1):SW w0 m1 m2 (Dz w m1 o k):=by
 obtain ⟨n,a,l,j,⟨r,t,g,-⟩,f⟩:=h;exact ⟨n.trans ⟨rfl,rfl,rfl,by simp [Dz],fun i q=>CR i (by omega)⟩,a,l,j,hm,f.of_heap (CR _ (Ne.symm a)) fun b c=>BJ g c⟩
theorem SW.set2 {w0 w:World} {m1 m2 k:Nat} {o:Obj} (h:SW w0 m1 m2 w) (hm:DT (Dz w m2 o k) m2):SW w0 m1 m2 (Dz w m2 o k):=by
 obtain ⟨n,a,l,j,f,⟨r,t,g,-⟩⟩:=h;exact ⟨n.trans ⟨rfl,rfl,rfl,by simp [Dz],fun i q=>CR i (by omega)⟩,a,l,j,f.of_heap (CR _ a) fun b c=>BJ g c,hm⟩
def PT (w0:World) (m1 m2:Nat) (w:World) (e:Ending) (w':World):Prop:=e=zg (zc true)/\SW w0 m1 m2 w'/\KpM m1 m2 w w'
theorem PT.trans {w0 w w1 w2:World} {m1 m2:Nat} {e:Ending} (k:KpM m1 m2 w w1) (h:PT w0 m1 m2 w1 e w2):PT w0 m1 m2 w e w2:=⟨h.1,h.2.1,k.trans h.2.2⟩
abbrev TC (w0:World) (m1 m2:Nat) (F:FuncId) (args:Array Value) (w:World):Prop:=Calls Tryz.prog F args w (PT w0 m1 m2 w)
theorem SW.ov {w0 w:World} {m1 m2:Nat} (h:SW w0 m1 m2 w):Ov w0 w:=h.1
theorem O0 {w0 w:World} {m1 m2:Nat} {F:FuncId} {args:Array Value} (hs:SW w0 m1 m2 w) (h:Calls Tryz.prog F args w fun e w'=>e=zg (zc true)/\Ov w w'):TC w0 m1 m2 F args w:=h.mono fun _ _ ⟨h1,h2⟩=>⟨h1,hs.over h2,KpM.over h2⟩
theorem Nh (w0:World) (m1 m2:Nat) (fv:Value) (ao bo:Option Addr) (c d:Nat) (w:World) (hs:SW w0 m1 m2 w):TC w0 m1 m2 129 #[.map (some m1),O ao 0 c,O bo 0 d,fv] w:=by
 have a:=Aa hs;clear hs;go_enter Tryz.func129,Tryz.ntmps129;go_wp2_with fail;go_ret;exact ⟨rfl,a.o,KpM.refl _ _ _⟩
theorem OX (w0:World) (m1 m2:Nat) (fv:Value) (n b off c b2 off2 d:Nat) (w:World) (hs:SW w0 m1 m2 w) (h1:Fr0 w ⟨b,off,none⟩) (h2:Fr0 w ⟨b2,off2,none⟩) (hn:0 < n) (hn2:n<=maxLen)
  (hE:∀ X,SW w0 m1 m2 X->TC w0 m1 m2 153 #[O (some ⟨b,off,none⟩) n c,O (some ⟨b2,off2,none⟩) n d,fv] X) :
  TC w0 m1 m2 129 #[.map (some m1),O (some ⟨b,off,none⟩) n c,O (some ⟨b2,off2,none⟩) n d,fv] w:=by
 obtain ⟨V,t⟩:=nm ((w.alloc (zd #[zf (some ⟨b,off,none⟩),zf (some ⟨b2,off2,none⟩),A J n] 166)).drew);have f:Ov w V:=by rw [t];exact Ab (bA _ _) (bD _)
 have q:=hs.over f;have C:V.cell? ⟨w.heap.size,0,none⟩=some (zf (some ⟨b,off,none⟩)):=by rw [t];exact Ai w [zf (some ⟨b,off,none⟩),zf (some ⟨b2,off2,none⟩),A J n] 166 0 _ rfl
 have B:V.cell? ⟨w.heap.size,1,none⟩=some (zf (some ⟨b2,off2,none⟩)):=by rw [t];exact Ai w [zf (some ⟨b,off,none⟩),zf (some ⟨b2,off2,none⟩),A J n] 166 1 _ rfl
 have y:V.cell? ⟨w.heap.size,2,none⟩=some (A J n):=by rw [t];exact Ai w [zf (some ⟨b,off,none⟩),zf (some ⟨b2,off2,none⟩),A J n] 166 2 _ rfl
 obtain ⟨I,k,v⟩:=Mr Mv (n:=(n:Int)) q.2.2.2.2.1 (h1.over f) (h2.over f);have a:Ov V ((V.drewN k).alloc (zd #[] 167)):=Ab (ovD V k) (bA _ _);have j:=q.over a;obtain ⟨N,P,k2,i,l⟩:=N2 Mv (n:=(n:Int)) j.2.2.2.2.1 ((h1.over f).over a) ((h2.over f).over a);obtain ⟨X,E⟩:=nm (Dz ((V.drewN k).alloc (zd #[] 167)) m1 (.map N P) k2);rw [<-E] at i l;have u:SW w0 m1 m2 X:=by rw [E];rw [E] at l;exact j.set1 l
 have x:KpM m1 m2 w X:=by rw [E];exact ((KpM.over f).trans (KpM.over a)).trans (JH (by simp))
 have G:=Aa (hE X u);have R:=Aa (And.intro j ((KpM.over (m1:=m1) (m2:=m2) f).trans (KpM.over a)));have H:=Aa x;have u0:=ce1 a C;have u1:=ce1 a B;have u2:=ce1 a y;have M:n<=9223372036854775807:=hn2;have L:¬ n=0:=by omega
 unfold kS at v i;clear hE hs h1 h2 f q a j l u x hn2;go_enter Tryz.func129,Tryz.ntmps129;go_wp2_with fail;refine Go.Proofs.YtipngnjffjajpaaGreatDoor.gS (fun _=>True) trivial fun g=>?_;refine kT 0 ?_;refine kT 1 ?_;refine kT 2 ?_;refine kT 3 ?_;refine kT 4 ?_;refine kT 5 ?_;refine kT 6 ?_;refine rdA 7 rfl fun K F=>?_;go_simp;refine xK F trivial fun g=>?_;clear F K;refine rdA 8 rfl fun K F=>?_;go_simp;refine xK F trivial fun g=>?_;clear F K;refine gE ?_;rw [<-t];clear t g;have r:=Aa (And.intro R.o H.o);clear E H
 cases I with
 | true=>
  clear i u0 u1 u2 G;go_wp2_with fail;go_ret;exact ⟨rfl,r.o.1.1,r.o.1.2⟩
 | false=>
  go_wp2_with fail;clear v i C B y u0 u1 u2;refine G.o.mono ?_;rintro e S h1;have Q:=Aa (h1.trans r.o.2);obtain rfl:=h1.1;clear h1 G;go_wp2_with fail;go_ret;exact Q.o
theorem Nj (w0:World) (m1 m2:Nat) (fv:Value) (ao bo:Option Addr) (c d:Nat) (w:World) (hs:SW w0 m1 m2 w):TC w0 m1 m2 166 #[.map (some m2),O ao 0 c,O bo 0 d,fv] w:=by
 have a:=Aa hs;clear hs;go_enter Tryz.func166,Tryz.ntmps166;go_wp2_with fail;go_ret;exact ⟨rfl,a.o,KpM.refl _ _ _⟩
theorem OY (w0:World) (m1 m2:Nat) (fv:Value) (n b off c b2 off2 d:Nat) (w:World) (hs:SW w0 m1 m2 w) (h1:Fr0 w ⟨b,off,none⟩) (h2:Fr0 w ⟨b2,off2,none⟩) (hn:0 < n) (hn2:n<=maxLen)
  (hE:∀ X,SW w0 m1 m2 X->TC w0 m1 m2 174 #[O (some ⟨b,off,none⟩) n c,O (some ⟨b2,off2,none⟩) n d,fv] X) :
  TC w0 m1 m2 166 #[.map (some m2),O (some ⟨b,off,none⟩) n c,O (some ⟨b2,off2,none⟩) n d,fv] w:=by
 obtain ⟨V,t⟩:=nm ((w.alloc (zd #[zf (some ⟨b,off,none⟩),zf (some ⟨b2,off2,none⟩),A J n] 178)).drew);have f:Ov w V:=by rw [t];exact Ab (bA _ _) (bD _)
 have q:=hs.over f;have C:V.cell? ⟨w.heap.size,0,none⟩=some (zf (some ⟨b,off,none⟩)):=by rw [t];exact Ai w [zf (some ⟨b,off,none⟩),zf (some ⟨b2,off2,none⟩),A J n] 178 0 _ rfl
 have B:V.cell? ⟨w.heap.size,1,none⟩=some (zf (some ⟨b2,off2,none⟩)):=by rw [t];exact Ai w [zf (some ⟨b,off,none⟩),zf (some ⟨b2,off2,none⟩),A J n] 178 1 _ rfl
 have y:V.cell? ⟨w.heap.size,2,none⟩=some (A J n):=by rw [t];exact Ai w [zf (some ⟨b,off,none⟩),zf (some ⟨b2,off2,none⟩),A J n] 178 2 _ rfl
 obtain ⟨I,k,v⟩:=Mr Mu (n:=(n:Int)) q.2.2.2.2.2 (h1.over f) (h2.over f);have a:Ov V ((V.drewN k).alloc (zd #[] 167)):=Ab (ovD V k) (bA _ _);have j:=q.over a;obtain ⟨N,P,k2,i,l⟩:=N2 Mu (n:=(n:Int)) j.2.2.2.2.2 ((h1.over f).over a) ((h2.over f).over a);obtain ⟨X,E⟩:=nm (Dz ((V.drewN k).alloc (zd #[] 167)) m2 (.map N P) k2);rw [<-E] at i l;have u:SW w0 m1 m2 X:=by rw [E];rw [E] at l;exact j.set2 l
 have x:KpM m1 m2 w X:=by rw [E];exact ((KpM.over f).trans (KpM.over a)).trans (JH (by simp))
 have G:=Aa (hE X u);have R:=Aa (And.intro j ((KpM.over (m1:=m1) (m2:=m2) f).trans (KpM.over a)));have H:=Aa x;have u0:=ce1 a C;have u1:=ce1 a B;have u2:=ce1 a y;have M:n<=9223372036854775807:=hn2;have L:¬ n=0:=by omega
 unfold kS at v i;clear hE hs h1 h2 f q a j l u x hn2;go_enter Tryz.func166,Tryz.ntmps166;go_wp2_with fail;refine Go.Proofs.YtipngnjffjajpaaGreatDoor.gS (fun _=>True) trivial fun g=>?_;refine kT 0 ?_;refine kT 1 ?_;refine kT 2 ?_;refine kT 3 ?_;refine kT 4 ?_;refine kT 5 ?_;refine kT 6 ?_;refine rdA 7 rfl fun K F=>?_;go_simp;refine xK F trivial fun g=>?_;clear F K;refine rdA 8 rfl fun K F=>?_;go_simp;refine xK F trivial fun g=>?_;clear F K;refine gE ?_;rw [<-t];clear t g;have r:=Aa (And.intro R.o H.o);clear E H
 cases I with
 | true=>
  clear i u0 u1 u2 G;go_wp2_with fail;go_ret;exact ⟨rfl,r.o.1.1,r.o.1.2⟩
 | false=>
  go_wp2_with fail;clear v i C B y u0 u1 u2;refine G.o.mono ?_;rintro e S h1;have Q:=Aa (h1.trans r.o.2);obtain rfl:=h1.1;clear h1 G;go_wp2_with fail;go_ret;exact Q.o
theorem Pu (w0:World) (m1 m2:Nat) (k:Nat) (l l2:List D) (hll:l2.length=l.length) (ao bo:Option Addr) (c d:Nat) (hA:LS 5 (ZE w0 k) w0 (O ao l.length c) l) (hB:LS 5 (ZE w0 k) w0 (O bo l.length d) l2)
  (hE:∀ (j:Nat) (h:j < l.length) (h2:j < l2.length) (cs ct:List Value) (X:World),SW w0 m1 m2 X->ZE w0 k cs l[j]->ZE w0 k ct l2[j]->TC w0 m1 m2 128 #[ze #[.map (some m1),.map (some m2)],.agg cs.toArray,.agg ct.toArray] X) (w:World) (hs:SW w0 m1 m2 w) :
  TC w0 m1 m2 174 #[O ao l.length c,O bo l.length d,.func (.func 128) #[ze #[.map (some m1),.map (some m2)]] #[]] w:=by
 have HA:=Aa hA;have HC:=Aa hB;have HE:=Aa hE;have HL:=hA.max;have HS:=Aa hs;obtain ⟨Q,L⟩:=nm l.length;rw [<-L] at HL ⊢;have HN:=Aa L;have HM:=Aa (L.trans hll.symm);clear hA hB hE hs L hll;go_enter Tryz.func174,Tryz.ntmps174;go_wp2_with fail;go_loopw [17] (fun i wr=>∃ (j:Nat),j<=Q/\i=A J j/\SW w0 m1 m2 wr/\KpM m1 m2 w wr) (fun i _=>Q - (intOf i).toNat)
 case atStart=>exact ⟨0,Nat.zero_le _,rfl,HS.o,KpM.refl _ _ _⟩
 case round=>
  obtain ⟨j,hj,rfl,R,T⟩:=hrel;by_cases hjl:j < Q
  ·have I:j < l.length:=by have:=HN.o;omega
   have H:j < l2.length:=by have:=HM.o;omega
   have Y:(j:Int) < (Q:Int):=by omega
   obtain ⟨b,W,rfl,cs,-,E,hr⟩:=HA.o.at I;obtain ⟨b2,P,rfl,ct,-,C,K⟩:=HC.o.at H;have V:=HE.o j I H cs ct;generalize l[j]=dj at hr V;generalize l2[j]=dm at K V;have G:=R.ov;have KF:Hx (∀ X,SW w0 m1 m2 X->TC w0 m1 m2 128 #[ze #[.map (some m1),.map (some m2)],.agg cs.toArray,.agg ct.toArray] X):=fun X hX=>V X hX hr K;clear V;obtain ⟨r,q,n,g,F,f,a,rfl⟩:=hr.cells;obtain ⟨B,y,x,v,N,u,t,rfl⟩:=K.cells;have d0:wr.cell? ⟨b,W+j*5,none⟩=_:=ce1 G (E 0 _ rfl);have d1:=ce1 G (E 1 _ rfl);have d2:=ce1 G (E 2 _ rfl);have d3:=ce1 G (E 3 _ rfl);have d4:=ce1 G (E 4 _ rfl);have g0:(wr.alloc (zd #[A J r,A J q,A J n,.string g,O F f a] 49)).cell? ⟨b2,P+j*5,none⟩=_:=AL (ce1 G (C 0 _ rfl)) (zd #[A J r,A J q,A J n,.string g,O F f a] 49);have g1:=AL (ce1 G (C 1 _ rfl)) (zd #[A J r,A J q,A J n,.string g,O F f a] 49);have g2:=AL (ce1 G (C 2 _ rfl)) (zd #[A J r,A J q,A J n,.string g,O F f a] 49);have g3:=AL (ce1 G (C 3 _ rfl)) (zd #[A J r,A J q,A J n,.string g,O F f a] 49);have g4:=AL (ce1 G (C 4 _ rfl)) (zd #[A J r,A J q,A J n,.string g,O F f a] 49);have e0:=AL (Ai wr [A J r,A J q,A J n,.string g,O F f a] 49 0 _ rfl) (zd #[A J B,A J y,A J x,.string v,O N u t] 49);have e1:=AL (Ai wr [A J r,A J q,A J n,.string g,O F f a] 49 1 _ rfl) (zd #[A J B,A J y,A J x,.string v,O N u t] 49);have e2:=AL (Ai wr [A J r,A J q,A J n,.string g,O F f a] 49 2 _ rfl) (zd #[A J B,A J y,A J x,.string v,O N u t] 49);have e3:=AL (Ai wr [A J r,A J q,A J n,.string g,O F f a] 49 3 _ rfl) (zd #[A J B,A J y,A J x,.string v,O N u t] 49);have e4:=AL (Ai wr [A J r,A J q,A J n,.string g,O F f a] 49 4 _ rfl) (zd #[A J B,A J y,A J x,.string v,O N u t] 49);have S:=Aa R;have HK:=Aa T;have af:w0.heap.size<=wr.heap.size:=G.size;clear E C hr K G R T I H;obtain ⟨U,Z⟩:=nm ((wr.alloc (zd #[A J r,A J q,A J n,.string g,O F f a] 49)).alloc (zd #[A J B,A J y,A J x,.string v,O N u t] 49));have M:Hx (Ov wr U):=by show Ov _ _;rw [Z];exact Ab (bA _ _) (bA _ _)
   go_wp2_with fail;rw [<-Z];clear Z d0 g0 e0 d1 g1 e1 d2 g2 e2 d3 g3 e3 d4 g4 e4;refine (KF.o U (S.o.over M.o)).mono ?_;rintro e w1 h1;have HP:=Aa (h1.trans (HK.o.trans (KpM.over M.o)));obtain rfl:=h1.1;clear h1 KF S HK M;go_wp2_with fail;exact ⟨⟨j+1,by omega,by go_num,HP.o.2.1,HP.o.2.2⟩,by simp [intOf];omega⟩
  ·have Y:¬ (j:Int) < (Q:Int):=by omega
   have HB:=Aa (And.intro R T);clear R T;go_wp2_with fail;go_ret;exact ⟨rfl,HB.o.1,HB.o.2⟩
theorem Pw (w0:World) (m1 m2:Nat) (ke k:Nat) (l l2:List D) (hll:l2.length=l.length) (ao bo:Option Addr) (c d:Nat) (hA:LS 12 (ZC w0 ke k) w0 (O ao l.length c) l) (hB:LS 12 (ZC w0 ke k) w0 (O bo l.length d) l2)
  (hE:∀ (j:Nat) (h:j < l.length) (h2:j < l2.length) (cs ct:List Value) (X:World),SW w0 m1 m2 X->ZC w0 ke k cs l[j]->ZC w0 ke k ct l2[j]->TC w0 m1 m2 130 #[ze #[.map (some m1),.map (some m2)],.agg cs.toArray,.agg ct.toArray] X) (w:World) (hs:SW w0 m1 m2 w) :
  TC w0 m1 m2 153 #[O ao l.length c,O bo l.length d,.func (.func 130) #[ze #[.map (some m1),.map (some m2)]] #[]] w:=by
 have HA:=Aa hA;have HC:=Aa hB;have HE:=Aa hE;have HL:=hA.max;have HS:=Aa hs;obtain ⟨nn,aq⟩:=nm l.length;rw [<-aq] at HL ⊢;have HN:=Aa aq;have HM:=Aa (aq.trans hll.symm);clear hA hB hE hs aq hll;go_enter Tryz.func153,Tryz.ntmps153;go_wp2_with fail;go_loopw [17] (fun i wr=>∃ (j:Nat),j<=nn/\i=A J j/\SW w0 m1 m2 wr/\KpM m1 m2 w wr) (fun i _=>nn - (intOf i).toNat)
 case atStart=>exact ⟨0,Nat.zero_le _,rfl,HS.o,KpM.refl _ _ _⟩
 case round=>
  obtain ⟨j,hj,rfl,hS,hK⟩:=hrel;by_cases hjl:j < nn
  ·have an:j < l.length:=by have:=HN.o;omega
   have am:j < l2.length:=by have:=HM.o;omega
   have a1:(j:Int) < (nn:Int):=by omega
   obtain ⟨b,a0,rfl,cs,-,ac,hr⟩:=HA.o.at an;obtain ⟨b2,au,rfl,ct,-,ab,ap⟩:=HC.o.at am;have KE:=HE.o j an am cs ct;generalize l[j]=dj at hr KE;generalize l2[j]=dm at ap KE;have hO:=hS.ov;have KF:Hx (∀ X,SW w0 m1 m2 X->TC w0 m1 m2 130 #[ze #[.map (some m1),.map (some m2)],.agg cs.toArray,.agg ct.toArray] X):=fun X hX=>KE X hX hr ap;clear KE;obtain ⟨G,F,E,C,B,y,x,v,qa,u,t,ra,r,q,sa,n,g,ta,f,a,rfl⟩:=hr.cells;obtain ⟨aa,Z,Y,W,V,T,S,R,qb,Q,P,rb,N,M,sb,L,K,tb,I,H,rfl⟩:=ap.cells;have d0:wr.cell? ⟨b,a0+j*12,none⟩=_:=ce1 hO (ac 0 _ rfl);have d1:=ce1 hO (ac 1 _ rfl);have d2:=ce1 hO (ac 2 _ rfl);have d3:=ce1 hO (ac 3 _ rfl);have d4:=ce1 hO (ac 4 _ rfl);have d5:=ce1 hO (ac 5 _ rfl);have d6:=ce1 hO (ac 6 _ rfl);have d7:=ce1 hO (ac 7 _ rfl);have d8:=ce1 hO (ac 8 _ rfl);have d9:=ce1 hO (ac 9 _ rfl);have a9:=ce1 hO (ac 10 _ rfl);have a8:=ce1 hO (ac 11 _ rfl);have g0:(wr.alloc (zd #[A J G,A J F,.string E,.string C,A J B,A J y,A J x,.string v,O qa u t,O ra r q,O sa n g,O ta f a] 55)).cell? ⟨b2,au+j*12,none⟩=_:=AL (ce1 hO (ab 0 _ rfl)) (zd #[A J G,A J F,.string E,.string C,A J B,A J y,A J x,.string v,O qa u t,O ra r q,O sa n g,O ta f a] 55);have g1:=AL (ce1 hO (ab 1 _ rfl)) (zd #[A J G,A J F,.string E,.string C,A J B,A J y,A J x,.string v,O qa u t,O ra r q,O sa n g,O ta f a] 55);have g2:=AL (ce1 hO (ab 2 _ rfl)) (zd #[A J G,A J F,.string E,.string C,A J B,A J y,A J x,.string v,O qa u t,O ra r q,O sa n g,O ta f a] 55);have g3:=AL (ce1 hO (ab 3 _ rfl)) (zd #[A J G,A J F,.string E,.string C,A J B,A J y,A J x,.string v,O qa u t,O ra r q,O sa n g,O ta f a] 55);have g4:=AL (ce1 hO (ab 4 _ rfl)) (zd #[A J G,A J F,.string E,.string C,A J B,A J y,A J x,.string v,O qa u t,O ra r q,O sa n g,O ta f a] 55);have g5:=AL (ce1 hO (ab 5 _ rfl)) (zd #[A J G,A J F,.string E,.string C,A J B,A J y,A J x,.string v,O qa u t,O ra r q,O sa n g,O ta f a] 55);have g6:=AL (ce1 hO (ab 6 _ rfl)) (zd #[A J G,A J F,.string E,.string C,A J B,A J y,A J x,.string v,O qa u t,O ra r q,O sa n g,O ta f a] 55);have g7:=AL (ce1 hO (ab 7 _ rfl)) (zd #[A J G,A J F,.string E,.string C,A J B,A J y,A J x,.string v,O qa u t,O ra r q,O sa n g,O ta f a] 55);have g8:=AL (ce1 hO (ab 8 _ rfl)) (zd #[A J G,A J F,.string E,.string C,A J B,A J y,A J x,.string v,O qa u t,O ra r q,O sa n g,O ta f a] 55);have g9:=AL (ce1 hO (ab 9 _ rfl)) (zd #[A J G,A J F,.string E,.string C,A J B,A J y,A J x,.string v,O qa u t,O ra r q,O sa n g,O ta f a] 55);have a5:=AL (ce1 hO (ab 10 _ rfl)) (zd #[A J G,A J F,.string E,.string C,A J B,A J y,A J x,.string v,O qa u t,O ra r q,O sa n g,O ta f a] 55);have a4:=AL (ce1 hO (ab 11 _ rfl)) (zd #[A J G,A J F,.string E,.string C,A J B,A J y,A J x,.string v,O qa u t,O ra r q,O sa n g,O ta f a] 55);have e0:=AL (Ai wr [A J G,A J F,.string E,.string C,A J B,A J y,A J x,.string v,O qa u t,O ra r q,O sa n g,O ta f a] 55 0 _ rfl) (zd #[A J aa,A J Z,.string Y,.string W,A J V,A J T,A J S,.string R,O qb Q P,O rb N M,O sb L K,O tb I H] 55);have e1:=AL (Ai wr [A J G,A J F,.string E,.string C,A J B,A J y,A J x,.string v,O qa u t,O ra r q,O sa n g,O ta f a] 55 1 _ rfl) (zd #[A J aa,A J Z,.string Y,.string W,A J V,A J T,A J S,.string R,O qb Q P,O rb N M,O sb L K,O tb I H] 55);have e2:=AL (Ai wr [A J G,A J F,.string E,.string C,A J B,A J y,A J x,.string v,O qa u t,O ra r q,O sa n g,O ta f a] 55 2 _ rfl) (zd #[A J aa,A J Z,.string Y,.string W,A J V,A J T,A J S,.string R,O qb Q P,O rb N M,O sb L K,O tb I H] 55);have e3:=AL (Ai wr [A J G,A J F,.string E,.string C,A J B,A J y,A J x,.string v,O qa u t,O ra r q,O sa n g,O ta f a] 55 3 _ rfl) (zd #[A J aa,A J Z,.string Y,.string W,A J V,A J T,A J S,.string R,O qb Q P,O rb N M,O sb L K,O tb I H] 55);have e4:=AL (Ai wr [A J G,A J F,.string E,.string C,A J B,A J y,A J x,.string v,O qa u t,O ra r q,O sa n g,O ta f a] 55 4 _ rfl) (zd #[A J aa,A J Z,.string Y,.string W,A J V,A J T,A J S,.string R,O qb Q P,O rb N M,O sb L K,O tb I H] 55);have e5:=AL (Ai wr [A J G,A J F,.string E,.string C,A J B,A J y,A J x,.string v,O qa u t,O ra r q,O sa n g,O ta f a] 55 5 _ rfl) (zd #[A J aa,A J Z,.string Y,.string W,A J V,A J T,A J S,.string R,O qb Q P,O rb N M,O sb L K,O tb I H] 55);have e6:=AL (Ai wr [A J G,A J F,.string E,.string C,A J B,A J y,A J x,.string v,O qa u t,O ra r q,O sa n g,O ta f a] 55 6 _ rfl) (zd #[A J aa,A J Z,.string Y,.string W,A J V,A J T,A J S,.string R,O qb Q P,O rb N M,O sb L K,O tb I H] 55);have e7:=AL (Ai wr [A J G,A J F,.string E,.string C,A J B,A J y,A J x,.string v,O qa u t,O ra r q,O sa n g,O ta f a] 55 7 _ rfl) (zd #[A J aa,A J Z,.string Y,.string W,A J V,A J T,A J S,.string R,O qb Q P,O rb N M,O sb L K,O tb I H] 55);have e8:=AL (Ai wr [A J G,A J F,.string E,.string C,A J B,A J y,A J x,.string v,O qa u t,O ra r q,O sa n g,O ta f a] 55 8 _ rfl) (zd #[A J aa,A J Z,.string Y,.string W,A J V,A J T,A J S,.string R,O qb Q P,O rb N M,O sb L K,O tb I H] 55);have e9:=AL (Ai wr [A J G,A J F,.string E,.string C,A J B,A J y,A J x,.string v,O qa u t,O ra r q,O sa n g,O ta f a] 55 9 _ rfl) (zd #[A J aa,A J Z,.string Y,.string W,A J V,A J T,A J S,.string R,O qb Q P,O rb N M,O sb L K,O tb I H] 55);have a7:=AL (Ai wr [A J G,A J F,.string E,.string C,A J B,A J y,A J x,.string v,O qa u t,O ra r q,O sa n g,O ta f a] 55 10 _ rfl) (zd #[A J aa,A J Z,.string Y,.string W,A J V,A J T,A J S,.string R,O qb Q P,O rb N M,O sb L K,O tb I H] 55);have a6:=AL (Ai wr [A J G,A J F,.string E,.string C,A J B,A J y,A J x,.string v,O qa u t,O ra r q,O sa n g,O ta f a] 55 11 _ rfl) (zd #[A J aa,A J Z,.string Y,.string W,A J V,A J T,A J S,.string R,O qb Q P,O rb N M,O sb L K,O tb I H] 55);have ax:=Aa hS;have HK:=Aa hK;have be:w0.heap.size<=wr.heap.size:=hO.size;clear ac ab hr ap hO hS hK an am;obtain ⟨U,hU⟩:=nm ((wr.alloc (zd #[A J G,A J F,.string E,.string C,A J B,A J y,A J x,.string v,O qa u t,O ra r q,O sa n g,O ta f a] 55)).alloc (zd #[A J aa,A J Z,.string Y,.string W,A J V,A J T,A J S,.string R,O qb Q P,O rb N M,O sb L K,O tb I H] 55));have ar:Hx (Ov wr U):=by show Ov _ _;rw [hU];exact Ab (bA _ _) (bA _ _)
   go_wp2_with fail;rw [<-hU];clear hU d0 g0 e0 d1 g1 e1 d2 g2 e2 d3 g3 e3 d4 g4 e4 d5 g5 e5 d6 g6 e6 d7 g7 e7 d8 g8 e8 d9 g9 e9 a9 a5 a7 a8 a4 a6;refine (KF.o U (ax.o.over ar.o)).mono ?_;rintro e w1 h1;have HP:=Aa (h1.trans (HK.o.trans (KpM.over ar.o)));obtain rfl:=h1.1;clear h1 KF ax HK ar;go_wp2_with fail;exact ⟨⟨j+1,by omega,by go_num,HP.o.2.1,HP.o.2.2⟩,by simp [intOf];omega⟩
  ·have a1:¬ (j:Int) < (nn:Int):=by omega
   have HB:=Aa (And.intro hS hK);clear hS hK;go_wp2_with fail;go_ret;exact ⟨rfl,HB.o.1,HB.o.2⟩
theorem Pv (w0:World) (m1 m2:Nat) (ke k:Nat) (l l2:List D) (hll:l2.length=l.length) (ao bo:Option Addr) (c d:Nat) (hA:LS 13 (ZD w0 ke k) w0 (O ao l.length c) l) (hB:LS 13 (ZD w0 ke k) w0 (O bo l.length d) l2)
  (hE:∀ (j:Nat) (h:j < l.length) (h2:j < l2.length) (cs ct:List Value) (X:World),SW w0 m1 m2 X->ZD w0 ke k cs l[j]->ZD w0 ke k ct l2[j]->TC w0 m1 m2 90 #[ze #[.map (some m1),.map (some m2)],.agg cs.toArray,.agg ct.toArray] X) (w:World) (hs:SW w0 m1 m2 w) :
  TC w0 m1 m2 89 #[O ao l.length c,O bo l.length d,.func (.func 90) #[ze #[.map (some m1),.map (some m2)]] #[]] w:=by
 have HA:=Aa hA;have HC:=Aa hB;have HE:=Aa hE;have HL:=hA.max;have HS:=Aa hs;obtain ⟨nn,au⟩:=nm l.length;rw [<-au] at HL ⊢;have HN:=Aa au;have HM:=Aa (au.trans hll.symm);clear hA hB hE hs au hll;go_enter Tryz.func89,Tryz.ntmps89;go_wp2_with fail;go_loopw [17] (fun i wr=>∃ (j:Nat),j<=nn/\i=A J j/\SW w0 m1 m2 wr/\KpM m1 m2 w wr) (fun i _=>nn - (intOf i).toNat)
 case atStart=>exact ⟨0,Nat.zero_le _,rfl,HS.o,KpM.refl _ _ _⟩
 case round=>
  obtain ⟨j,hj,rfl,hS,hK⟩:=hrel;by_cases hjl:j < nn
  ·have aq:j < l.length:=by have:=HN.o;omega
   have ap:j < l2.length:=by have:=HM.o;omega
   have a3:(j:Int) < (nn:Int):=by omega
   obtain ⟨b,a2,rfl,cs,-,ae,hr⟩:=HA.o.at aq;obtain ⟨b2,aw,rfl,ct,-,ad,ar⟩:=HC.o.at ap;have KE:=HE.o j aq ap cs ct;generalize l[j]=dj at hr KE;generalize l2[j]=dm at ar KE;have hO:=hS.ov;have KF:Hx (∀ X,SW w0 m1 m2 X->TC w0 m1 m2 90 #[ze #[.map (some m1),.map (some m2)],.agg cs.toArray,.agg ct.toArray] X):=fun X hX=>KE X hX hr ar;clear KE;obtain ⟨H,G,F,E,C,qa,u,t,ra,r,q,sa,n,g,B,y,x,v,ta,f,a,rfl⟩:=hr.cells;obtain ⟨ac,ab,aa,Z,Y,qb,R,Q,rb,P,N,sb,M,L,W,V,T,S,tb,K,I,rfl⟩:=ar.cells;have d0:wr.cell? ⟨b,a2+j*13,none⟩=_:=ce1 hO (ae 0 _ rfl);have d1:=ce1 hO (ae 1 _ rfl);have d2:=ce1 hO (ae 2 _ rfl);have d3:=ce1 hO (ae 3 _ rfl);have d4:=ce1 hO (ae 4 _ rfl);have d5:=ce1 hO (ae 5 _ rfl);have d6:=ce1 hO (ae 6 _ rfl);have d7:=ce1 hO (ae 7 _ rfl);have d8:=ce1 hO (ae 8 _ rfl);have d9:=ce1 hO (ae 9 _ rfl);have be:=ce1 hO (ae 10 _ rfl);have bd:=ce1 hO (ae 11 _ rfl);have bc:=ce1 hO (ae 12 _ rfl);have g0:(wr.alloc (zd #[A J H,A J G,.string F,.string E,zc C,O qa u t,O ra r q,O sa n g,A J B,A J y,A J x,.string v,O ta f a] 51)).cell? ⟨b2,aw+j*13,none⟩=_:=AL (ce1 hO (ad 0 _ rfl)) (zd #[A J H,A J G,.string F,.string E,zc C,O qa u t,O ra r q,O sa n g,A J B,A J y,A J x,.string v,O ta f a] 51);have g1:=AL (ce1 hO (ad 1 _ rfl)) (zd #[A J H,A J G,.string F,.string E,zc C,O qa u t,O ra r q,O sa n g,A J B,A J y,A J x,.string v,O ta f a] 51);have g2:=AL (ce1 hO (ad 2 _ rfl)) (zd #[A J H,A J G,.string F,.string E,zc C,O qa u t,O ra r q,O sa n g,A J B,A J y,A J x,.string v,O ta f a] 51);have g3:=AL (ce1 hO (ad 3 _ rfl)) (zd #[A J H,A J G,.string F,.string E,zc C,O qa u t,O ra r q,O sa n g,A J B,A J y,A J x,.string v,O ta f a] 51);have g4:=AL (ce1 hO (ad 4 _ rfl)) (zd #[A J H,A J G,.string F,.string E,zc C,O qa u t,O ra r q,O sa n g,A J B,A J y,A J x,.string v,O ta f a] 51);have g5:=AL (ce1 hO (ad 5 _ rfl)) (zd #[A J H,A J G,.string F,.string E,zc C,O qa u t,O ra r q,O sa n g,A J B,A J y,A J x,.string v,O ta f a] 51);have g6:=AL (ce1 hO (ad 6 _ rfl)) (zd #[A J H,A J G,.string F,.string E,zc C,O qa u t,O ra r q,O sa n g,A J B,A J y,A J x,.string v,O ta f a] 51);have g7:=AL (ce1 hO (ad 7 _ rfl)) (zd #[A J H,A J G,.string F,.string E,zc C,O qa u t,O ra r q,O sa n g,A J B,A J y,A J x,.string v,O ta f a] 51);have g8:=AL (ce1 hO (ad 8 _ rfl)) (zd #[A J H,A J G,.string F,.string E,zc C,O qa u t,O ra r q,O sa n g,A J B,A J y,A J x,.string v,O ta f a] 51);have g9:=AL (ce1 hO (ad 9 _ rfl)) (zd #[A J H,A J G,.string F,.string E,zc C,O qa u t,O ra r q,O sa n g,A J B,A J y,A J x,.string v,O ta f a] 51);have a8:=AL (ce1 hO (ad 10 _ rfl)) (zd #[A J H,A J G,.string F,.string E,zc C,O qa u t,O ra r q,O sa n g,A J B,A J y,A J x,.string v,O ta f a] 51);have a7:=AL (ce1 hO (ad 11 _ rfl)) (zd #[A J H,A J G,.string F,.string E,zc C,O qa u t,O ra r q,O sa n g,A J B,A J y,A J x,.string v,O ta f a] 51);have a6:=AL (ce1 hO (ad 12 _ rfl)) (zd #[A J H,A J G,.string F,.string E,zc C,O qa u t,O ra r q,O sa n g,A J B,A J y,A J x,.string v,O ta f a] 51);have e0:=AL (Ai wr [A J H,A J G,.string F,.string E,zc C,O qa u t,O ra r q,O sa n g,A J B,A J y,A J x,.string v,O ta f a] 51 0 _ rfl) (zd #[A J ac,A J ab,.string aa,.string Z,zc Y,O qb R Q,O rb P N,O sb M L,A J W,A J V,A J T,.string S,O tb K I] 51);have e1:=AL (Ai wr [A J H,A J G,.string F,.string E,zc C,O qa u t,O ra r q,O sa n g,A J B,A J y,A J x,.string v,O ta f a] 51 1 _ rfl) (zd #[A J ac,A J ab,.string aa,.string Z,zc Y,O qb R Q,O rb P N,O sb M L,A J W,A J V,A J T,.string S,O tb K I] 51);have e2:=AL (Ai wr [A J H,A J G,.string F,.string E,zc C,O qa u t,O ra r q,O sa n g,A J B,A J y,A J x,.string v,O ta f a] 51 2 _ rfl) (zd #[A J ac,A J ab,.string aa,.string Z,zc Y,O qb R Q,O rb P N,O sb M L,A J W,A J V,A J T,.string S,O tb K I] 51);have e3:=AL (Ai wr [A J H,A J G,.string F,.string E,zc C,O qa u t,O ra r q,O sa n g,A J B,A J y,A J x,.string v,O ta f a] 51 3 _ rfl) (zd #[A J ac,A J ab,.string aa,.string Z,zc Y,O qb R Q,O rb P N,O sb M L,A J W,A J V,A J T,.string S,O tb K I] 51);have e4:=AL (Ai wr [A J H,A J G,.string F,.string E,zc C,O qa u t,O ra r q,O sa n g,A J B,A J y,A J x,.string v,O ta f a] 51 4 _ rfl) (zd #[A J ac,A J ab,.string aa,.string Z,zc Y,O qb R Q,O rb P N,O sb M L,A J W,A J V,A J T,.string S,O tb K I] 51);have e5:=AL (Ai wr [A J H,A J G,.string F,.string E,zc C,O qa u t,O ra r q,O sa n g,A J B,A J y,A J x,.string v,O ta f a] 51 5 _ rfl) (zd #[A J ac,A J ab,.string aa,.string Z,zc Y,O qb R Q,O rb P N,O sb M L,A J W,A J V,A J T,.string S,O tb K I] 51);have e6:=AL (Ai wr [A J H,A J G,.string F,.string E,zc C,O qa u t,O ra r q,O sa n g,A J B,A J y,A J x,.string v,O ta f a] 51 6 _ rfl) (zd #[A J ac,A J ab,.string aa,.string Z,zc Y,O qb R Q,O rb P N,O sb M L,A J W,A J V,A J T,.string S,O tb K I] 51);have e7:=AL (Ai wr [A J H,A J G,.string F,.string E,zc C,O qa u t,O ra r q,O sa n g,A J B,A J y,A J x,.string v,O ta f a] 51 7 _ rfl) (zd #[A J ac,A J ab,.string aa,.string Z,zc Y,O qb R Q,O rb P N,O sb M L,A J W,A J V,A J T,.string S,O tb K I] 51);have e8:=AL (Ai wr [A J H,A J G,.string F,.string E,zc C,O qa u t,O ra r q,O sa n g,A J B,A J y,A J x,.string v,O ta f a] 51 8 _ rfl) (zd #[A J ac,A J ab,.string aa,.string Z,zc Y,O qb R Q,O rb P N,O sb M L,A J W,A J V,A J T,.string S,O tb K I] 51);have e9:=AL (Ai wr [A J H,A J G,.string F,.string E,zc C,O qa u t,O ra r q,O sa n g,A J B,A J y,A J x,.string v,O ta f a] 51 9 _ rfl) (zd #[A J ac,A J ab,.string aa,.string Z,zc Y,O qb R Q,O rb P N,O sb M L,A J W,A J V,A J T,.string S,O tb K I] 51);have bb:=AL (Ai wr [A J H,A J G,.string F,.string E,zc C,O qa u t,O ra r q,O sa n g,A J B,A J y,A J x,.string v,O ta f a] 51 10 _ rfl) (zd #[A J ac,A J ab,.string aa,.string Z,zc Y,O qb R Q,O rb P N,O sb M L,A J W,A J V,A J T,.string S,O tb K I] 51);have ba:=AL (Ai wr [A J H,A J G,.string F,.string E,zc C,O qa u t,O ra r q,O sa n g,A J B,A J y,A J x,.string v,O ta f a] 51 11 _ rfl) (zd #[A J ac,A J ab,.string aa,.string Z,zc Y,O qb R Q,O rb P N,O sb M L,A J W,A J V,A J T,.string S,O tb K I] 51);have a9:=AL (Ai wr [A J H,A J G,.string F,.string E,zc C,O qa u t,O ra r q,O sa n g,A J B,A J y,A J x,.string v,O ta f a] 51 12 _ rfl) (zd #[A J ac,A J ab,.string aa,.string Z,zc Y,O qb R Q,O rb P N,O sb M L,A J W,A J V,A J T,.string S,O tb K I] 51);have az:=Aa hS;have HK:=Aa hK;have bj:w0.heap.size<=wr.heap.size:=hO.size;clear ae ad hr ar hO hS hK aq ap;obtain ⟨U,hU⟩:=nm ((wr.alloc (zd #[A J H,A J G,.string F,.string E,zc C,O qa u t,O ra r q,O sa n g,A J B,A J y,A J x,.string v,O ta f a] 51)).alloc (zd #[A J ac,A J ab,.string aa,.string Z,zc Y,O qb R Q,O rb P N,O sb M L,A J W,A J V,A J T,.string S,O tb K I] 51));have av:Hx (Ov wr U):=by show Ov _ _;rw [hU];exact Ab (bA _ _) (bA _ _)
   go_wp2_with fail;rw [<-hU];clear hU d0 g0 e0 d1 g1 e1 d2 g2 e2 d3 g3 e3 d4 g4 e4 d5 g5 e5 d6 g6 e6 d7 g7 e7 d8 g8 e8 d9 g9 e9 be a8 bb bd a7 ba bc a6 a9;refine (KF.o U (az.o.over av.o)).mono ?_;rintro e w1 h1;have HP:=Aa (h1.trans (HK.o.trans (KpM.over av.o)));obtain rfl:=h1.1;clear h1 KF az HK av;go_wp2_with fail;exact ⟨⟨j+1,by omega,by go_num,HP.o.2.1,HP.o.2.2⟩,by simp [intOf];omega⟩
  ·have a3:¬ (j:Int) < (nn:Int):=by omega
   have HB:=Aa (And.intro hS hK);clear hS hK;go_wp2_with fail;go_ret;exact ⟨rfl,HB.o.1,HB.o.2⟩
theorem Pt (w0:World) (m1 m2:Nat)  (l l2:List D) (hll:l2.length=l.length) (ao bo:Option Addr) (c d:Nat) (hA:LS 4 (ZP w0) w0 (O ao l.length c) l) (hB:LS 4 (ZP w0) w0 (O bo l.length d) l2)
  (hE:∀ (j:Nat) (h:j < l.length) (h2:j < l2.length) (cs ct:List Value) (X:World),SW w0 m1 m2 X->ZP w0 cs l[j]->ZP w0 ct l2[j]->TC w0 m1 m2 126 #[.agg cs.toArray,.agg ct.toArray] X) (w:World) (hs:SW w0 m1 m2 w) :
  TC w0 m1 m2 125 #[O ao l.length c,O bo l.length d,.func (.func 126) #[] #[]] w:=by
 have HA:=Aa hA;have HC:=Aa hB;have HE:=Aa hE;have HL:=hA.max;have HS:=Aa hs;obtain ⟨N,I⟩:=nm l.length;rw [<-I] at HL ⊢;have HN:=Aa I;have HM:=Aa (I.trans hll.symm);clear hA hB hE hs I hll;go_enter Tryz.func125,Tryz.ntmps125;go_wp2_with fail;go_loopw [17] (fun i wr=>∃ (j:Nat),j<=N/\i=A J j/\SW w0 m1 m2 wr/\KpM m1 m2 w wr) (fun i _=>N - (intOf i).toNat)
 case atStart=>exact ⟨0,Nat.zero_le _,rfl,HS.o,KpM.refl _ _ _⟩
 case round=>
  obtain ⟨j,hj,rfl,P,R⟩:=hrel;by_cases hjl:j < N
  ·have B:j < l.length:=by have:=HN.o;omega
   have y:j < l2.length:=by have:=HM.o;omega
   have V:(j:Int) < (N:Int):=by omega
   obtain ⟨b,T,rfl,cs,-,E,hr⟩:=HA.o.at B;obtain ⟨b2,M,rfl,ct,-,C,H⟩:=HC.o.at y;have S:=HE.o j B y cs ct;generalize l[j]=dj at hr S;generalize l2[j]=dm at H S;have G:=P.ov;have Z:Hx (∀ X,SW w0 m1 m2 X->TC w0 m1 m2 126 #[.agg cs.toArray,.agg ct.toArray] X):=fun X hX=>S X hX hr H;clear S;obtain ⟨q,n,g,F,f,a,rfl⟩:=hr.cells;obtain ⟨x,v,u,L,t,r,rfl⟩:=H.cells;have d0:wr.cell? ⟨b,T+j*4,none⟩=_:=ce1 G (E 0 _ rfl);have d1:=ce1 G (E 1 _ rfl);have d2:=ce1 G (E 2 _ rfl);have d3:=ce1 G (E 3 _ rfl);have g0:(wr.alloc (zd #[A J q,.string n,zc g,O F f a] 53)).cell? ⟨b2,M+j*4,none⟩=_:=AL (ce1 G (C 0 _ rfl)) (zd #[A J q,.string n,zc g,O F f a] 53);have g1:=AL (ce1 G (C 1 _ rfl)) (zd #[A J q,.string n,zc g,O F f a] 53);have g2:=AL (ce1 G (C 2 _ rfl)) (zd #[A J q,.string n,zc g,O F f a] 53);have g3:=AL (ce1 G (C 3 _ rfl)) (zd #[A J q,.string n,zc g,O F f a] 53);have e0:=AL (Ai wr [A J q,.string n,zc g,O F f a] 53 0 _ rfl) (zd #[A J x,.string v,zc u,O L t r] 53);have e1:=AL (Ai wr [A J q,.string n,zc g,O F f a] 53 1 _ rfl) (zd #[A J x,.string v,zc u,O L t r] 53);have e2:=AL (Ai wr [A J q,.string n,zc g,O F f a] 53 2 _ rfl) (zd #[A J x,.string v,zc u,O L t r] 53);have e3:=AL (Ai wr [A J q,.string n,zc g,O F f a] 53 3 _ rfl) (zd #[A J x,.string v,zc u,O L t r] 53);have Q:=Aa P;have HK:=Aa R;have ad:w0.heap.size<=wr.heap.size:=G.size;clear E C hr H G P R B y;obtain ⟨U,W⟩:=nm ((wr.alloc (zd #[A J q,.string n,zc g,O F f a] 53)).alloc (zd #[A J x,.string v,zc u,O L t r] 53));have K:Hx (Ov wr U):=by show Ov _ _;rw [W];exact Ab (bA _ _) (bA _ _)
   go_wp2_with fail;rw [<-W];clear W d0 g0 e0 d1 g1 e1 d2 g2 e2 d3 g3 e3;refine (Z.o U (Q.o.over K.o)).mono ?_;rintro e w1 Y;have HP:=Aa (Y.trans (HK.o.trans (KpM.over K.o)));obtain rfl:=Y.1;clear Y Z Q HK K;go_wp2_with fail;exact ⟨⟨j+1,by omega,by go_num,HP.o.2.1,HP.o.2.2⟩,by simp [intOf];omega⟩
  ·have V:¬ (j:Int) < (N:Int):=by omega
   have HB:=Aa (And.intro P R);clear P R;go_wp2_with fail;go_ret;exact ⟨rfl,HB.o.1,HB.o.2⟩
theorem O8 (ns:List ByteArray) (ao bo:Option Addr) (c d:Nat) (w:World) (ha:LS 1 ZN w (O ao ns.length c) ns) (hb:LS 1 ZN w (O bo ns.length d) ns):Ro 127 #[O ao ns.length c,O bo ns.length d] w (zc true):=by
 have N:=Aa ha;have M:=Aa hb;have L:=ha.max;obtain ⟨u,n⟩:=nm ns.length;rw [<-n] at L ⊢;have K:=Aa n;clear ha hb n;go_enter Tryz.func127,Tryz.ntmps127;go_wp2_with fail;go_loopw [13] (fun i wr=>∃ (j:Nat),j<=u/\i=A J j/\Ov w wr) (fun i _=>u - (intOf i).toNat)
 case atStart=>exact ⟨0,Nat.zero_le _,rfl,Below.refl _ _⟩
 case round=>
  obtain ⟨j,P,rfl,r⟩:=hrel;by_cases hjl:j < u
  ·have f:j < ns.length:=by have:=K.o;omega
   have y:(j:Int) < (u:Int):=by omega
   obtain ⟨b,v,rfl,Q,-,q,hr⟩:=N.o.at f;obtain ⟨H,t,rfl,G,-,g,l⟩:=M.o.at f;generalize ns[j]=x at hr l;rw [hr.1] at q;rw [l.1] at g;have F:wr.cell? ⟨b,v+j,none⟩=some (.string x):=ce1 r (by have:=q 0 _ rfl;simpa using this);have E:wr.cell? ⟨H,t + j,none⟩=some (.string x):=ce1 r (by have:=g 0 _ rfl;simpa using this);have C:=Aa r;clear q g hr l f r;go_wp2_with fail;refine Go.Proofs.YtipngnjffjajpaaGreatDoor.gS (fun I=>Below wr.heap.size wr I) (Below.refl _ _).drew fun a=>?_;generalize wr.drew=W at a ⊢;refine kO 0 ?_;refine kO 1 ?_;refine kO 2 ?_;refine kO 3 ?_;refine kO 4 ?_;refine kO 5 ?_;refine kO 6 ?_;refine kO 7 ?_;refine kO 8 ?_;refine gE ?_;have B:=Aa (Ab C.o a);clear a F E;go_wp2_with fail;exact ⟨⟨j+1,by omega,by go_num,B.o⟩,by simp [intOf];omega⟩
  ·have y:¬ (j:Int) < (u:Int):=by omega
   have C:=Aa r;clear r;go_wp2_with fail;go_ret;exact ⟨rfl,C.o⟩
end Go.Proofs.YtipngnjffjajpaaGreatDoor.Tx
