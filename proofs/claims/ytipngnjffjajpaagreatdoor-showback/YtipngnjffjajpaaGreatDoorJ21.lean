/- How long what is shown is: declarations, a tree. -/
import Derived.Test.YtipngnjffjajpaaGreatDoorJ20
import Derived.Deep.Draws
import Derived.LaidEql
import Derived.MapFrom
set_option linter.unusedVariables false
set_option maxHeartbeats 8000000
set_option maxRecDepth 100000
namespace Go.Proofs.YtipngnjffjajpaaGreatDoor.Tx
open Go.RowKit
open Go.Value renaming int -> I, slice -> zc, bool -> zd, pointer -> zf, agg -> zg, tuple -> zi
open Go.IntKind renaming i64 -> O
open Go.Obj renaming cells -> ze
open Go.Ending renaming returned -> zh
theorem Iu {p:D} (h:Da p=true) (h6:(gL 3 p).length<=6):(poT p).length<=100:=by
 obtain ⟨i,g⟩:=Dq h;have l1:=Dr i;have a:=CW [44,32] 12 ((gL 3 p).map asS) fun y c=>by
  obtain ⟨b,f,rfl⟩:=List.mem_map.1 c;exact Dr (g b f)
 rw [List.length_map] at a;have l:(gL 3 p).length*(12+2)<=6*(12+2):=Nat.mul_le_mul_right _ h6;simp only [List.length_cons,List.length_nil] at a;unfold poT;have j:(if gB 2 p=true then ([33]:List UInt8) else [58]).length=1:=by split <;> rfl
 have n:(if gL 3 p=[] then ([]:List UInt8) else [32]++AY [44,32] ((gL 3 p).map asS)).length<=1+(6*14):=by
  split
  ·exact Nat.zero_le _
  ·simp only [List.length_append,List.length_cons,List.length_nil];omega
 simp only [List.length_append,j];omega
theorem IP {d:D} (h:Eb d=true) (h4:(gL 5 d).length<=4) (h6:∀ p∈gL 5 d,(gL 3 p).length<=6):(laT d).length<=420:=by
 unfold laT;split
 ·rename_i i
  have g:=((Bw h).1 i).2;have a:=CW [59,32] 100 ((gL 5 d).map poT) fun y f=>by
   obtain ⟨b,c,rfl⟩:=List.mem_map.1 f;exact Iu (g b c) (h6 b c)
  rw [List.length_map] at a;have j:(gL 5 d).length*(100+2)<=4*(100+2):=Nat.mul_le_mul_right _ h4;simp only [List.length_append,List.length_cons,List.length_nil] at a ⊢;omega
 ·exact Nat.zero_le _
theorem LB (k:Int):(wdT k).length<=6:=by
 unfold wdT;split
 ·decide
 split
 ·decide
 split
 ·decide
 split
 ·decide
 split
 ·decide
 split
 ·decide
 ·decide
theorem QC {ke kc:Nat} {d:D} (h:dfK ke kc d=true) (hm:BH ke d=false):(deT ke kc d).length<=1000+(Bt ke kc 1 (gL 7 d)).length:=by
 obtain ⟨H,G,v,u,r,a⟩:=CX h;simp only [BH,Bool.or_eq_false_iff,decide_eq_false_iff_not] at hm;obtain ⟨⟨⟨A,x⟩,g⟩,f⟩:=hm;have C:=Dr v;have B:=FV u;have E:=LB (gI 0 d);have i:=LB 7;unfold deT;by_cases k7:gI 0 d=7
 ·rw [if_pos k7]
  simp only [Ec,k7,if_true,Bool.and_eq_true,List.all_eq_true] at a;have le:=Cn a.2 g;have c:=CW [44,32] 12 ((gL 6 d).map asS) fun y j=>by
   obtain ⟨b,n,rfl⟩:=List.mem_map.1 j;exact Dr (a.1.1 b n)
  rw [List.length_map] at c;have hm:(gL 6 d).length*(12+2)<=4*(12+2):=Nat.mul_le_mul_right _ (by omega);simp only [List.length_append,List.length_cons,List.length_nil] at c ⊢;omega
 ·rw [if_neg k7]
  have F:=IP r (by omega) fun p l=>by
   have:=List.any_eq_false.1 f p l;simp only [decide_eq_true_eq] at this;omega
  have I:(if gI 0 d=2 then [32]++gZ 3 d else ([]:List UInt8)).length<=13:=by
   split
   ·simp only [List.length_append,List.length_cons,List.length_nil];omega
   ·exact Nat.zero_le _
  simp only [List.length_append,List.length_cons,List.length_nil];omega
theorem J5 {ke kc:Nat} {ds l:List D} (h:ckT ke kc ds l=0):(trT ke kc ds l).length<=200000:=by
 obtain ⟨L,K,-⟩:=FD h;unfold ckT at h;split at h
 ·cases h
 rename_i a;simp only [C7,Bool.or_eq_true,decide_eq_true_eq,not_or,Int.not_lt] at a;obtain ⟨⟨hn,-⟩,i⟩:=a;have n:∀ (r:List D),r.foldl (fun left d=>slK ke kc (gL 7 d) 1 left) (-1)=-1:=by
  intro r
  induction r with
  | nil=>rfl
  | cons d r ih=>rw [List.foldl_cons,EJ];exact ih
 have u:∀ (r:List D) (x:Int),(∀ d∈r,d∈ds)->-1<=x->x<=50->0<=r.foldl (fun left d=>slK ke kc (gL 7 d) 1 left) x->r.foldl (fun left d=>slK ke kc (gL 7 d) 1 left) x<=50/\(((r.map (deT ke kc)).flatten.length:Nat):Int)<=1000*r.length+2000*(x - r.foldl (fun left d=>slK ke kc (gL 7 d) 1 left) x):=by
  intro r
  induction r with
  | nil=>intro x _ f g j;exact ⟨g,by simp⟩
  | cons d r ih=>
   intro x hr f g j;rw [List.foldl_cons] at j ⊢;have b:=Ek ke kc (gL 7 d) 1 x f g;have I:0<=slK ke kc (gL 7 d) 1 x:=by
    rcases Int.lt_or_le (slK ke kc (gL 7 d) 1 x) 0 with hn | hn
    ·rw [show slK ke kc (gL 7 d) 1 x=-1 by omega,n] at j
     omega
    ·exact hn
   obtain ⟨E,O⟩:=ih _ (fun c G=>hr c (List.mem_cons_of_mem _ G)) (by omega) (by omega) j;obtain ⟨p1,A,y⟩:=L d (hr d (by simp));have P:=QC p1 A;have M:=I1 (deep:=1) f g (fun s F=>(y s F).1) I;have v:((1:Nat):Int)=1:=rfl;rw [v] at M;refine ⟨E,?_⟩;simp only [List.map_cons,List.flatten_cons,List.length_append,List.length_cons];omega
 have J:0<=ds.foldl (fun left d=>slK ke kc (gL 7 d) 1 left) 50:=by
  rcases Int.lt_or_le (ds.foldl (fun left d=>slK ke kc (gL 7 d) 1 left) 50) 0 with hn | hn
  ·have H:∀ (r:List D) (x:Int),-1<=x->x<=50->-1<=r.foldl (fun left d=>slK ke kc (gL 7 d) 1 left) x:=by
    intro r
    induction r with
    | nil=>intro x f _;exact f
    | cons d r ih=>
     intro x f g;have b:=Ek ke kc (gL 7 d) 1 x f g;rw [List.foldl_cons];exact ih _ (by omega) (by omega)
   have:=H ds 50 (by omega) (by omega);rw [show ds.foldl (fun left d=>slK ke kc (gL 7 d) 1 left) 50=-1 by omega,EJ] at i;omega
  ·exact hn
 obtain ⟨C,N⟩:=u ds 50 (fun d h=>h) (by omega) (by omega) J;have B:=I1 (deep:=1) (by omega) C K i;have v:((1:Nat):Int)=1:=rfl;rw [v] at B;unfold trT;simp only [List.length_append,List.length_cons,List.length_nil];omega
def Cbl (W:World) (b:Nat):Prop:=∃ c T f,W.heap[b]? = some (.cells c T f)
theorem Cbl.of_cell {W:World} {b off:Nat} {u:Value} (h:W.cell? ⟨b,off,none⟩=some u):Cbl W b:=by
 unfold World.cell? at h;split at h
 ·rename_i c T f e
  exact ⟨c,T,f,e⟩
 ·cases h
theorem Cbl.of_heap {W W':World} {b:Nat} (h:Cbl W b) (e:W'.heap[b]? = W.heap[b]?):Cbl W' b:=by
 obtain ⟨c,T,f,a⟩:=h;exact ⟨c,T,f,e.trans a⟩
theorem JU (W:World):W.drewN 0=W:=rfl
theorem Jo {W:World} {a b:Addr} (hf:W.frozen? a=false) (ha:Cbl W a.block) (hb:Cbl W b.block):∃ r n,(sameAddr a b).run Tryz.prog W=.ok r (W.drewN n):=by
 obtain ⟨g,j,y,ha⟩:=ha;obtain ⟨f,i,x,hb⟩:=hb;have l:W.drewN 1=W.drew:=rfl;by_cases hbl:a.block=b.block
 ·exact ⟨a == b,0,by simp [sameAddr,hbl,JU]⟩
 ·obtain ⟨m,c⟩:∃ m,(mayBeOne a b).run Tryz.prog W=.ok m W:=by
   have v:W.shape? a.block=some (j,g.size):=by simp [World.shape?,ha]
   have u:W.shape? b.block=some (i,f.size):=by simp [World.shape?,hb]
   cases x1:W.frozen? b <;> cases x2:W.frozen? { block:=a.block,off:=g.size } <;> cases x3:W.frozen? { block:=b.block,off:=f.size } <;>
    exact ⟨_,by simp [mayBeOne,stringish,v,u,hf,x1,x2,x3];rfl⟩
  cases m with
  | true=>
   refine ⟨(Question.extern "sameAddr.stringBytes" 2).cut (W.tape W.drawn (Question.extern "sameAddr.stringBytes" 2)) == 1,1,?_⟩;simp [sameAddr,hbl,hf,ha,hb,noView,viewAt,World.shape?,c,l,Question.forced]
  | false=>
   refine ⟨false,0,?_⟩;simp [sameAddr,hbl,hf,ha,hb,noView,viewAt,World.shape?,c,JU]
def kS (a b:Addr) (n:Int):Value:=zg #[zf (some a),zf (some b),I O n]
def Fr0 (W:World) (a:Addr):Prop:=W.frozen? a=false/\Cbl W a.block
def EnO (W:World) (es:List MapEntry):Prop:=∀ e∈es,∃ a b n,e.key=kS a b n/\e.val=zg #[]/\Cbl W a.block/\Cbl W b.block
structure QJ (tM tK tP:TypeId):Prop where
 m:Tryz.prog.underlying tM=some (.map tK 167)
 k:Tryz.prog.underlying tK=some (.struct #[{ name:= "first",type:=tP,offset:=0,embedded:=false,tag:= "",pkgPath:= "veilwork/show",byteOffset:=0 },{ name:= "second",type:=tP,offset:=1,embedded:=false,tag:= "",pkgPath:= "veilwork/show",byteOffset:=8 },{ name:= "many",type:=3,offset:=2,embedded:=false,tag:= "",pkgPath:= "veilwork/show",byteOffset:=16 }])
 p:∃ e,Tryz.prog.underlying tP=some (TypeDesc.pointer e)/\∃ s,s≠0/\∀ W:World,(sizeOf e).run Tryz.prog W=.ok s W
 s:Tryz.prog.stoodInHeld tK=false
theorem NS:QJ 86 166 164:=⟨Tryz.underlying86,Tryz.underlying166,⟨_,Tryz.underlying164,12,by decide,fun W=>by simp [sizeOf,go_sem];kernel_rfl⟩,by kernel_rfl⟩
theorem NR:QJ 87 178 176:=⟨Tryz.underlying87,Tryz.underlying178,⟨_,Tryz.underlying176,5,by decide,fun W=>by simp [sizeOf,go_sem];kernel_rfl⟩,by kernel_rfl⟩
section
variable {tM tK tP:TypeId}
theorem Iw (K:QJ tM tK tP) {xs:Array Value} {off:Nat} {v:Value} (hx:xs[off]? = some v) (W:World):(part tP xs off).run Tryz.prog W=.ok v W:=by
 obtain ⟨e,a,-⟩:=K.p;simp [part,isAgg,run_underlying a,hx]
theorem Nr {xs:Array Value} {off:Nat} {v:Value} (hx:xs[off]? = some v) (W:World):(part 3 xs off).run Tryz.prog W=.ok v W:=by
 simp [part,isAgg,run_underlying Tryz.underlying3,hx]
theorem PU (K:QJ tM tK tP) (em:Bool) (d:Nat) (a b:Addr) (n:Int) (W:World):(Instr.checkKey em (d+2) tK (kS a b n)).run Tryz.prog W=.ok () W:=by
 obtain ⟨e,f,-⟩:=K.p;have u:=run_underlying (P:=Tryz.prog) (w:=W) K.k;have up:=run_underlying (P:=Tryz.prog) (w:=W) f;have p0:=Iw K (xs:=#[zf (some a),zf (some b),I O n]) (off:=0) rfl W;have p1:=Iw K (xs:=#[zf (some a),zf (some b),I O n]) (off:=1) rfl W;have c:=Nr (xs:=#[zf (some a),zf (some b),I O n]) (off:=2) rfl W;rw [show d+2=(d+1)+1 from rfl,Instr.checkKey];simp [u,up,kS,Instr.checkKey,p0,p1,c,run_underlying Tryz.underlying3]
theorem RA (K:QJ tM tK tP) (d:Nat) {a b:Addr} (W:World):(Op.equalIn (d+1) tP (zf (some a)) (zf (some b))).run Tryz.prog W=(sameAddr a b).run Tryz.prog W:=by
 obtain ⟨e,f,s,c,g⟩:=K.p;rw [Op.equalIn];simp [run_underlying f,g,c]
theorem RC (d:Nat) {m n:Int} (W:World):(Op.equalIn (d+1) 3 (I O m) (I O n)).run Tryz.prog W=.ok (m == n) W:=by
 rw [Op.equalIn];simp [run_underlying Tryz.underlying3]
theorem Ra (K:QJ tM tK tP) (d:Nat) {a b a2 b2:Addr} {n n2:Int} {W:World} (ha:Fr0 W a) (hb:Fr0 W b) (ha2:Cbl W a2.block) (hb2:Cbl W b2.block):∃ r m,(Op.equalIn (d+2) tK (kS a b n) (kS a2 b2 n2)).run Tryz.prog W=.ok r (W.drewN m):=by
 obtain ⟨r1,c,i⟩:=Jo ha.1 ha.2 ha2;obtain ⟨r2,j,l⟩:=Jo (W:=W.drewN c) hb.1 hb.2 hb2;rw [show d+2=(d+1)+1 from rfl,Op.equalIn];have u:=fun w=>run_underlying (P:=Tryz.prog) (w:=w) K.k;have p0:=fun x y z W=>Iw K (xs:=#[x,y,z]) (off:=0) rfl W;have p1:=fun x y z W=>Iw K (xs:=#[x,y,z]) (off:=1) rfl W;have g:=fun x y z W=>Nr (xs:=#[x,y,z]) (off:=2) rfl W;have q:=fun (a b:Addr) W=>RA K d (a:=a) (b:=b) W;have f:=fun (m n:Int) W=>RC d (m:=m) (n:=n) W
 cases r1 with
 | false=>
  refine ⟨false,c,?_⟩;simp [u,kS,p0,p1,g,q,f,i,K.s]
 | true=>
  cases r2 with
  | false=>
   refine ⟨false,c+j,?_⟩;simp [u,kS,p0,p1,g,q,f,i,l,K.s]
  | true=>
   refine ⟨n == n2,c+j,?_⟩;by_cases hn:n=n2 <;> simp [u,kS,p0,p1,g,q,f,i,l,K.s,hn]
theorem NZ (K:QJ tM tK tP) {a b:Addr} {n:Int}:∀ (es:List MapEntry) (i:Nat) (W:World),Fr0 W a->Fr0 W b->EnO W es->∃ r m,(Instr.findAsking tK (kS a b n) es i).run Tryz.prog W=.ok r (W.drewN m)/\∀ j v,r=some (j,v)->v=zg #[]
 | [],i,W,_,_,_=>⟨none,0,by simp [Instr.findAsking,JU],by simp⟩
 | e::es,i,W,ha,hb,h=>by
  obtain ⟨a2,b2,n2,hk,hv,ca,cb⟩:=h e (by simp);obtain ⟨r,m,hq⟩:=Ra K 9998 (n:=n) (n2:=n2) ha hb ca cb;replace hq:(Op.equal tK (kS a b n) e.key).run Tryz.prog W=.ok r (W.drewN m):=by rw [hk];exact hq
  cases r with
  | true=>exact ⟨some (i,zg #[]),m,by simp [Instr.findAsking,hq,hv],by rintro j v ⟨⟩;rfl⟩
  | false=>
   obtain ⟨r2,c,l,g⟩:=NZ K (n:=n) es (i+1) (W.drewN m) ha hb fun x f=>h x (List.mem_cons_of_mem _ f);exact ⟨r2,m+c,by simp [Instr.findAsking,hq,l],g⟩
theorem H8 (K:QJ tM tK tP) {a b:Addr} {n:Int} {es:List MapEntry} {W:World} (ha:Fr0 W a) (hb:Fr0 W b) (h:EnO W es):∃ r m,(Instr.findKey tK (kS a b n) es).run Tryz.prog W=.ok r (W.drewN m)/\∀ j v,r=some (j,v)->v=zg #[]:=by
 have u:=run_underlying (P:=Tryz.prog) (w:=W) K.k
 cases es with
 | nil=>exact ⟨none,0,by simp [Instr.findKey,u,Instr.findNow,JU],by simp⟩
 | cons e es=>
  obtain ⟨r,m,hr,f⟩:=NZ K (n:=n) (e::es) 0 W ha hb h;have c:∀ d,Instr.findNow (.struct d) (kS a b n) (e::es) 0=none:=fun d=>by simp [Instr.findNow,Instr.sameNow]
  exact ⟨r,m,by simp [Instr.findKey,u,c,hr],f⟩
def ED (W:World) (m:Nat):Prop:=∃ es cl,W.heap[m]? = some (.map es cl)/\EnO W es.toList
theorem NN (K:QJ tM tK tP) {m:Nat} {a b:Addr} {n:Int} {W:World} (hm:ED W m) (ha:Fr0 W a) (hb:Fr0 W b):∃ ok k,(Instr.lookup tM (.map (some m)) (kS a b n) true).run Tryz.prog W=.ok (zi #[zg #[],zd ok]) (W.drewN k):=by
 obtain ⟨g,y,h,x⟩:=hm;obtain ⟨r,k,hr,l⟩:=H8 K (n:=n) ha hb x;have u:=run_underlying (P:=Tryz.prog) (w:=W) K.m;have c:(Instr.checkKey g.isEmpty 10000 tK (kS a b n)).run Tryz.prog W=.ok () W:=PU K g.isEmpty 9998 a b n W;have f:Tryz.t167.zero=some (zg #[]):=by kernel_rfl
 have i:∀ W:World,(zeroValue 167).run Tryz.prog W=.ok (zg #[]) W:=fun W=>by
  simp [zeroValue,f]
 cases r with
 | none=>
  refine ⟨false,k,?_⟩;simp only [Instr.lookup,Sem.run_bind,u,Result.andThen,MapKept.run_getObj_map h,c,hr,i,Sem.run_pure];rfl
 | some p=>
  obtain ⟨j,v⟩:=p;obtain rfl:=l j v rfl;refine ⟨true,k,?_⟩;simp only [Instr.lookup,Sem.run_bind,u,Result.andThen,MapKept.run_getObj_map h,c,hr,Sem.run_pure];rfl
def Ea (W:World) (m:Nat) (o:Obj) (k:Nat):World:={ W with heap:=W.heap.setIfInBounds m o,drawn:=W.drawn+k }
theorem Dg {W:World} {m k:Nat} {o:Obj} (i:Nat) (hi:i≠m):(Ea W m o k).heap[i]? = W.heap[i]?:=by
 simp [Ea,Ne.symm hi]
theorem LL {W:World} {m k:Nat} {o o2:Obj} (h:W.heap[m]? = some o2):(Ea W m o k).heap[m]? = some o:=by
 have:=(Array.getElem?_eq_some_iff.1 h).1;simp [Ea,this]
theorem B5 {W:World} {m k:Nat} {es:Array MapEntry} {cl:Nat} {o:Obj} {b:Nat} (h:W.heap[m]? = some (.map es cl)) (hb:Cbl W b):Cbl (Ea W m o k) b:=hb.of_heap (Dg b (by
 rintro rfl;obtain ⟨c,T,f,e⟩:=hb;rw [h] at e;cases e))
theorem OT (x y:Value) (W:World):∃ z k,(Instr.keyThatStays x y).run Tryz.prog W=.ok z (W.drewN k)/\(z=x\/z=y):=by
 unfold Instr.keyThatStays;by_cases h:Instr.sameBits 10000 x y=true
 ·exact ⟨y,0,by simp [h,JU],Or.inr rfl⟩
 ·have a:W.drewN 1=W.drew:=rfl
  refine ⟨if (Question.extern "map.whichKeyStays" 2).cut (W.tape W.drawn (Question.extern "map.whichKeyStays" 2))=0 then y else x,1,by simp [h,a,Question.forced],?_⟩;split
  ·exact Or.inr rfl
  ·exact Or.inl rfl
theorem PM (K:QJ tM tK tP) {m:Nat} {a b:Addr} {n:Int} {W:World} (hm:ED W m) (ha:Fr0 W a) (hb:Fr0 W b):∃ es cl k,(Instr.mapUpdate tM (.map (some m)) (kS a b n) (zg #[])).run Tryz.prog W=.ok () (Ea W m (.map es cl) k)/\ED (Ea W m (.map es cl) k) m:=by
 obtain ⟨es,cl,h,E⟩:=hm;obtain ⟨r,k,hr,L⟩:=H8 K (n:=n) ha hb E;have u:=run_underlying (P:=Tryz.prog) (w:=W) K.m;have l:(Instr.checkKey false 10000 tK (kS a b n)).run Tryz.prog W=.ok () W:=PU K false 9998 a b n W
 cases r with
 | none=>
  have H:(W.drewN k).heap[m]? = some (.map es cl):=h;have f:=MapKept.run_setObj_map (P:=Tryz.prog) (.map (es.push ⟨kS a b n,zg #[],cl⟩) (cl+1)) H;refine ⟨es.push ⟨kS a b n,zg #[],cl⟩,cl+1,k,?_,_,_,LL h,fun e c=>?_⟩
  ·simp only [Instr.mapUpdate,Sem.run_bind,u,Result.andThen,MapKept.run_getObj_map h,l,hr,f]
   rfl
  ·rw [Array.toList_push,List.mem_append,List.mem_singleton] at c
   rcases c with c | rfl
   ·obtain ⟨C,B,n2,A,F,y,x⟩:=E e c
    exact ⟨C,B,n2,A,F,B5 h y,B5 h x⟩
   ·exact ⟨a,b,n,rfl,rfl,B5 h ha.2,B5 h hb.2⟩
 | some p=>
  obtain ⟨j,v⟩:=p;obtain ⟨z,I,J,g⟩:=OT (((es[j]?).map (·.key)).getD (kS a b n)) (kS a b n) (W.drewN k);have H:((W.drewN k).drewN I).heap[m]? = some (.map es cl):=h;have f:=MapKept.run_setObj_map (P:=Tryz.prog) (.map (es.modify j fun e=>{ e with key:=z,val:=zg #[] }) cl) H;refine ⟨es.modify j fun e=>{ e with key:=z,val:=zg #[] },cl,k+I,?_,_,_,LL h,fun e c=>?_⟩
  ·simp only [Instr.mapUpdate,Sem.run_bind,u,Result.andThen,MapKept.run_getObj_map h,l,hr,J,f]
   simp [Ea,World.drewN,Nat.add_assoc]
  ·obtain ⟨i,c⟩:=Array.mem_iff_getElem?.1 (Array.mem_toList_iff.1 c)
   rw [Array.getElem?_modify] at c;split at c
   ·rename_i G
    subst G
    cases hes:es[j]? with
    | none=>rw [hes] at c;cases c
    | some e0=>
     rw [hes] at c;simp only [Option.map_some,Option.some.injEq] at c;subst c;obtain ⟨C,B,n2,A,F,y,x⟩:=E e0 (by simpa using Array.mem_of_getElem? hes);rw [hes] at g;simp only [Option.map_some,Option.getD_some] at g;rcases g with rfl | rfl
     ·exact ⟨C,B,n2,A,rfl,B5 h y,B5 h x⟩
     ·exact ⟨a,b,n,rfl,rfl,B5 h ha.2,B5 h hb.2⟩
   ·obtain ⟨C,B,n2,A,F,y,x⟩:=E e (by simpa using Array.mem_of_getElem? c)
    exact ⟨C,B,n2,A,F,B5 h y,B5 h x⟩
end
theorem Cbl.over {W W':World} {b:Nat} (h:Cbl W b) (hb:Ov W W'):Cbl W' b:=h.of_heap (hb.block b (by
 obtain ⟨c,T,f,e⟩:=h;exact (Array.getElem?_eq_some_iff.1 e).1))
theorem Fr0.over {W W':World} {a:Addr} (h:Fr0 W a) (hb:Ov W W'):Fr0 W' a:=by
 refine ⟨?_,h.2.over hb⟩;rw [World.frozen?_of_block (hb.block _ (by obtain ⟨-,c,T,f,e⟩:=h;exact (Array.getElem?_eq_some_iff.1 e).1))];exact h.1
theorem ED.lt {W:World} {m:Nat} (h:ED W m):m < W.heap.size:=by
 obtain ⟨a,b,e,-⟩:=h;exact (Array.getElem?_eq_some_iff.1 e).1
theorem ED.of_heap {W W':World} {m:Nat} (h:ED W m) (hm:W'.heap[m]? = W.heap[m]?) (hc:∀ b,Cbl W b->Cbl W' b):ED W' m:=by
 obtain ⟨r,u,e,f⟩:=h;refine ⟨r,u,hm.trans e,fun x c=>?_⟩;obtain ⟨a,b,n,l,j,i,g⟩:=f x c;exact ⟨a,b,n,l,j,hc _ i,hc _ g⟩
theorem ED.over {W W':World} {m:Nat} (h:ED W m) (hb:Ov W W'):ED W' m:=h.of_heap (hb.block m h.lt) fun b hc=>hc.over hb
theorem ED.cell {W:World} {m:Nat} (h:ED W m) {a:Addr} {u:Value} (hc:W.cell? a=some u):a.block≠m:=by
 rintro rfl;obtain ⟨b,c,e,-⟩:=h;unfold World.cell? at hc;rw [e] at hc;cases hc
def SW (w0:World) (m1 m2:Nat) (w:World):Prop:=Ov w0 w/\m1≠m2/\w0.heap.size<=m1/\w0.heap.size<=m2/\ED w m1/\ED w m2
def KpM (m1 m2:Nat) (w w':World):Prop:=w'.os=w.os/\w'.tape=w.tape/\w'.output=w.output/\w.heap.size<=w'.heap.size/\∀ k,k < w.heap.size->k≠m1->k≠m2->w'.heap[k]? = w.heap[k]?
theorem KpM.over {m1 m2:Nat} {w w':World} (h:Ov w w'):KpM m1 m2 w w':=⟨h.os,h.tape,h.output,h.size,fun k hk _ _=>h.block k hk⟩
theorem KpM.refl (m1 m2:Nat) (w:World):KpM m1 m2 w w:=KpM.over (Below.refl _ _)
theorem KpM.trans {m1 m2:Nat} {w w1 w2:World} (h:KpM m1 m2 w w1) (k:KpM m1 m2 w1 w2):KpM m1 m2 w w2:=
 ⟨k.1.trans h.1,k.2.1.trans h.2.1,k.2.2.1.trans h.2.2.1,Nat.le_trans h.2.2.2.1 k.2.2.2.1,fun i hi h1 h2=>(k.2.2.2.2 i (Nat.lt_of_lt_of_le hi h.2.2.2.1) h1 h2).trans (h.2.2.2.2 i hi h1 h2)⟩
theorem SW.over {w0 w w':World} {m1 m2:Nat} (h:SW w0 m1 m2 w) (hb:Ov w w'):SW w0 m1 m2 w':=
 ⟨h.1.trans (hb.mono h.1.size),h.2.1,h.2.2.1,h.2.2.2.1,h.2.2.2.2.1.over hb,h.2.2.2.2.2.over hb⟩
theorem ovD (w:World) (n:Nat):Ov w (w.drewN n):=⟨rfl,rfl,rfl,Nat.le_refl _,fun _ _=>rfl⟩
theorem SW.keep {w0 w w':World} {m1 m2:Nat} (h:SW w0 m1 m2 w) (k:KpM m1 m2 w w') {a:Addr} {u:Value} (hc:w.cell? a=some u):w'.cell? a=some u:=by
 have:=k.2.2.2.2 a.block (World.block_lt_of_cell? w _ hc) (h.2.2.2.2.1.cell hc) (h.2.2.2.2.2.cell hc);unfold World.cell? at hc ⊢;rw [this];exact hc
theorem LK {w:World} {m m1 m2 k:Nat} {o:Obj} (hm:m=m1\/m=m2):KpM m1 m2 w (Ea w m o k):=by
 refine ⟨rfl,rfl,rfl,by simp [Ea],fun i _ b a=>Dg i ?_⟩;rcases hm with rfl | rfl
 ·exact b
 ·exact a
theorem SW.set1 {w0 w:World} {m1 m2 k:Nat} {o:Obj} (h:SW w0 m1 m2 w) (hm:ED (Ea w m1 o k) m1):SW w0 m1 m2 (Ea w m1 o k):=by
 obtain ⟨n,a,l,j,⟨u,v,g,-⟩,f⟩:=h;exact ⟨n.trans ⟨rfl,rfl,rfl,by simp [Ea],fun i r=>Dg i (by omega)⟩,a,l,j,hm,f.of_heap (Dg _ (Ne.symm a)) fun b c=>B5 g c⟩
theorem SW.set2 {w0 w:World} {m1 m2 k:Nat} {o:Obj} (h:SW w0 m1 m2 w) (hm:ED (Ea w m2 o k) m2):SW w0 m1 m2 (Ea w m2 o k):=by
 obtain ⟨n,a,l,j,f,⟨u,v,g,-⟩⟩:=h;exact ⟨n.trans ⟨rfl,rfl,rfl,by simp [Ea],fun i r=>Dg i (by omega)⟩,a,l,j,f.of_heap (Dg _ a) fun b c=>B5 g c,hm⟩
def PT (w0:World) (m1 m2:Nat) (w:World) (e:Ending) (w':World):Prop:=e=zh (zd true)/\SW w0 m1 m2 w'/\KpM m1 m2 w w'
theorem PT.trans {w0 w w1 w2:World} {m1 m2:Nat} {e:Ending} (k:KpM m1 m2 w w1) (h:PT w0 m1 m2 w1 e w2):PT w0 m1 m2 w e w2:=⟨h.1,h.2.1,k.trans h.2.2⟩
abbrev TC (w0:World) (m1 m2:Nat) (F:FuncId) (args:Array Value) (w:World):Prop:=Calls Tryz.prog F args w (PT w0 m1 m2 w)
theorem SW.ov {w0 w:World} {m1 m2:Nat} (h:SW w0 m1 m2 w):Ov w0 w:=h.1
theorem QW {w0 w:World} {m1 m2:Nat} {F:FuncId} {args:Array Value} (hs:SW w0 m1 m2 w) (h:Calls Tryz.prog F args w fun e w'=>e=zh (zd true)/\Ov w w'):TC w0 m1 m2 F args w:=h.mono fun _ _ ⟨h1,h2⟩=>⟨h1,hs.over h2,KpM.over h2⟩
theorem OU (w0:World) (m1 m2:Nat) (fv:Value) (ao bo:Option Addr) (c d:Nat) (w:World) (hs:SW w0 m1 m2 w):TC w0 m1 m2 129 #[.map (some m1),zc ao 0 c,zc bo 0 d,fv] w:=by
 have a:=Aa hs;clear hs;go_enter Tryz.func129,Tryz.ntmps129;go_wp2_with fail;go_ret;exact ⟨rfl,a.o,KpM.refl _ _ _⟩
theorem QP (w0:World) (m1 m2:Nat) (fv:Value) (n b off c b2 off2 d:Nat) (w:World) (hs:SW w0 m1 m2 w) (h1:Fr0 w ⟨b,off,none⟩) (h2:Fr0 w ⟨b2,off2,none⟩) (hn:0 < n) (hn2:n<=maxLen)
  (hE:∀ X,SW w0 m1 m2 X->TC w0 m1 m2 153 #[zc (some ⟨b,off,none⟩) n c,zc (some ⟨b2,off2,none⟩) n d,fv] X) :
  TC w0 m1 m2 129 #[.map (some m1),zc (some ⟨b,off,none⟩) n c,zc (some ⟨b2,off2,none⟩) n d,fv] w:=by
 obtain ⟨V,v⟩:=nm ((w.alloc (ze #[zf (some ⟨b,off,none⟩),zf (some ⟨b2,off2,none⟩),I O n] 166)).drew);have f:Ov w V:=by rw [v];exact Ac (bA _ _) (bD _)
 have r:=hs.over f;have E:V.cell? ⟨w.heap.size,0,none⟩=some (zf (some ⟨b,off,none⟩)):=by rw [v];exact Ax w [zf (some ⟨b,off,none⟩),zf (some ⟨b2,off2,none⟩),I O n] 166 0 _ rfl
 have C:V.cell? ⟨w.heap.size,1,none⟩=some (zf (some ⟨b2,off2,none⟩)):=by rw [v];exact Ax w [zf (some ⟨b,off,none⟩),zf (some ⟨b2,off2,none⟩),I O n] 166 1 _ rfl
 have B:V.cell? ⟨w.heap.size,2,none⟩=some (I O n):=by rw [v];exact Ax w [zf (some ⟨b,off,none⟩),zf (some ⟨b2,off2,none⟩),I O n] 166 2 _ rfl
 obtain ⟨L,k,y⟩:=NN NS (n:=(n:Int)) r.2.2.2.2.1 (h1.over f) (h2.over f);have a:Ov V ((V.drewN k).alloc (ze #[] 167)):=Ac (ovD V k) (bA _ _);have j:=r.over a;obtain ⟨Q,R,M,i,l⟩:=PM NS (n:=(n:Int)) j.2.2.2.2.1 ((h1.over f).over a) ((h2.over f).over a);obtain ⟨X,F⟩:=nm (Ea ((V.drewN k).alloc (ze #[] 167)) m1 (.map Q R) M);rw [<-F] at i l;have x:SW w0 m1 m2 X:=by rw [F];rw [F] at l;exact j.set1 l
 have A:KpM m1 m2 w X:=by rw [F];exact ((KpM.over f).trans (KpM.over a)).trans (LK (by simp))
 have H:=Aa (hE X x);have T:=Aa (And.intro j ((KpM.over (m1:=m1) (m2:=m2) f).trans (KpM.over a)));have J:=Aa A;have u0:=ce1 a E;have u1:=ce1 a C;have u2:=ce1 a B;have P:n<=9223372036854775807:=hn2;have N:¬ n=0:=by omega
 unfold kS at y i;clear hE hs h1 h2 f r a j l x A hn2;go_enter Tryz.func129,Tryz.ntmps129;go_wp2_with fail;refine Go.Proofs.YtipngnjffjajpaaGreatDoor.gS (fun _=>True) trivial fun g=>?_;refine kT 0 ?_;refine kT 1 ?_;refine kT 2 ?_;refine kT 3 ?_;refine kT 4 ?_;refine kT 5 ?_;refine kT 6 ?_;refine rdA 7 rfl fun K G=>?_;go_simp;refine xK G trivial fun g=>?_;clear G K;refine rdA 8 rfl fun K G=>?_;go_simp;refine xK G trivial fun g=>?_;clear G K;refine gE ?_;rw [<-v];clear v g;have u:=Aa (And.intro T.o J.o);clear F J
 cases L with
 | true=>
  clear i u0 u1 u2 H;go_wp2_with fail;go_ret;exact ⟨rfl,u.o.1.1,u.o.1.2⟩
 | false=>
  go_wp2_with fail;clear y i E C B u0 u1 u2;refine H.o.mono ?_;rintro e U h1;have S:=Aa (h1.trans u.o.2);obtain rfl:=h1.1;clear h1 H;go_wp2_with fail;go_ret;exact S.o
theorem OV (w0:World) (m1 m2:Nat) (fv:Value) (ao bo:Option Addr) (c d:Nat) (w:World) (hs:SW w0 m1 m2 w):TC w0 m1 m2 166 #[.map (some m2),zc ao 0 c,zc bo 0 d,fv] w:=by
 have a:=Aa hs;clear hs;go_enter Tryz.func166,Tryz.ntmps166;go_wp2_with fail;go_ret;exact ⟨rfl,a.o,KpM.refl _ _ _⟩
theorem QQ (w0:World) (m1 m2:Nat) (fv:Value) (n b off c b2 off2 d:Nat) (w:World) (hs:SW w0 m1 m2 w) (h1:Fr0 w ⟨b,off,none⟩) (h2:Fr0 w ⟨b2,off2,none⟩) (hn:0 < n) (hn2:n<=maxLen)
  (hE:∀ X,SW w0 m1 m2 X->TC w0 m1 m2 174 #[zc (some ⟨b,off,none⟩) n c,zc (some ⟨b2,off2,none⟩) n d,fv] X) :
  TC w0 m1 m2 166 #[.map (some m2),zc (some ⟨b,off,none⟩) n c,zc (some ⟨b2,off2,none⟩) n d,fv] w:=by
 obtain ⟨V,v⟩:=nm ((w.alloc (ze #[zf (some ⟨b,off,none⟩),zf (some ⟨b2,off2,none⟩),I O n] 178)).drew);have f:Ov w V:=by rw [v];exact Ac (bA _ _) (bD _)
 have r:=hs.over f;have E:V.cell? ⟨w.heap.size,0,none⟩=some (zf (some ⟨b,off,none⟩)):=by rw [v];exact Ax w [zf (some ⟨b,off,none⟩),zf (some ⟨b2,off2,none⟩),I O n] 178 0 _ rfl
 have C:V.cell? ⟨w.heap.size,1,none⟩=some (zf (some ⟨b2,off2,none⟩)):=by rw [v];exact Ax w [zf (some ⟨b,off,none⟩),zf (some ⟨b2,off2,none⟩),I O n] 178 1 _ rfl
 have B:V.cell? ⟨w.heap.size,2,none⟩=some (I O n):=by rw [v];exact Ax w [zf (some ⟨b,off,none⟩),zf (some ⟨b2,off2,none⟩),I O n] 178 2 _ rfl
 obtain ⟨L,k,y⟩:=NN NR (n:=(n:Int)) r.2.2.2.2.2 (h1.over f) (h2.over f);have a:Ov V ((V.drewN k).alloc (ze #[] 167)):=Ac (ovD V k) (bA _ _);have j:=r.over a;obtain ⟨Q,R,M,i,l⟩:=PM NR (n:=(n:Int)) j.2.2.2.2.2 ((h1.over f).over a) ((h2.over f).over a);obtain ⟨X,F⟩:=nm (Ea ((V.drewN k).alloc (ze #[] 167)) m2 (.map Q R) M);rw [<-F] at i l;have x:SW w0 m1 m2 X:=by rw [F];rw [F] at l;exact j.set2 l
 have A:KpM m1 m2 w X:=by rw [F];exact ((KpM.over f).trans (KpM.over a)).trans (LK (by simp))
 have H:=Aa (hE X x);have T:=Aa (And.intro j ((KpM.over (m1:=m1) (m2:=m2) f).trans (KpM.over a)));have J:=Aa A;have u0:=ce1 a E;have u1:=ce1 a C;have u2:=ce1 a B;have P:n<=9223372036854775807:=hn2;have N:¬ n=0:=by omega
 unfold kS at y i;clear hE hs h1 h2 f r a j l x A hn2;go_enter Tryz.func166,Tryz.ntmps166;go_wp2_with fail;refine Go.Proofs.YtipngnjffjajpaaGreatDoor.gS (fun _=>True) trivial fun g=>?_;refine kT 0 ?_;refine kT 1 ?_;refine kT 2 ?_;refine kT 3 ?_;refine kT 4 ?_;refine kT 5 ?_;refine kT 6 ?_;refine rdA 7 rfl fun K G=>?_;go_simp;refine xK G trivial fun g=>?_;clear G K;refine rdA 8 rfl fun K G=>?_;go_simp;refine xK G trivial fun g=>?_;clear G K;refine gE ?_;rw [<-v];clear v g;have u:=Aa (And.intro T.o J.o);clear F J
 cases L with
 | true=>
  clear i u0 u1 u2 H;go_wp2_with fail;go_ret;exact ⟨rfl,u.o.1.1,u.o.1.2⟩
 | false=>
  go_wp2_with fail;clear y i E C B u0 u1 u2;refine H.o.mono ?_;rintro e U h1;have S:=Aa (h1.trans u.o.2);obtain rfl:=h1.1;clear h1 H;go_wp2_with fail;go_ret;exact S.o
end Go.Proofs.YtipngnjffjajpaaGreatDoor.Tx
