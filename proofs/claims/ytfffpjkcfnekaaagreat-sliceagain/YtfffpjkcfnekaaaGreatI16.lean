/- Policies are copied. -/
import Derived.Test.YtfffpjkcfnekaaaGreatI15
import Derived.Laws.OwnMore
import Derived.Lib.SliceRun
import Derived.Laws.AppendOwnNone
import Derived.Laws.EntriesVeiled
set_option linter.unusedVariables false
set_option maxHeartbeats 8000000
set_option maxRecDepth 100000
namespace Go.Proofs.YtfffpjkcfnekaaaGreat.Ex
open Go.RowKit
open Go.Value renaming slice -> O, int -> zd, bool -> zg, agg -> zh, pointer -> zj, tuple -> zm
open Go.IntKind renaming i64 -> U
open Go.Obj renaming cells -> ze
open Go.Ending renaming returned -> zk
theorem Tryz.infoIc:(Tryz.prog.info? 3).map (fun i=>(i.zero,i.size,i.bytes))=some (some (zd U 0),1,8):=by kernel_rfl
theorem Gn {P:Program} {w:World} (base:Nat) (t ty e:TypeId) (i:TypeInfo) (size:Nat) (ht:P.underlying t=some (.slice e)) (hi:P.info? e=some i)
  (v:Value) (n:Nat) (xs:List Value) (hown:w.ownsRow base e size v n xs) (a:Option Addr) (c:Nat) :
  (Builtin.append_ #[t,t] ty #[v,O a 0 c]).run P w=.ok v w:=by
 rcases hown.2 with ⟨rfl,rfl⟩ | ⟨g,f,d,rfl,_,_,b,_⟩ <;> cases a <;> simp [Builtin.append_,run_underlying ht,sizeOf,typeInfo,Builtin.lenOf,Builtin.firstCells,storeCells,loadCells,loadCellsFrom, *]
theorem OJ {W:World} {B:Nat} {v:Value} {l:List Int} (h:W.ownsRow B 3 1 v l.length (En l)):Off B none W (fun W'=>AQ W' v l):=by
 rcases h.2 with ⟨c,s⟩ | ⟨g,k,z,c,u,q,E,C,A,y⟩
 ·exact fun W' _=>⟨none,0,by rw [c,s],fun d=>absurd (List.length_eq_zero_iff.1 s) d⟩
 ·refine fun W' hW=>⟨some ⟨g,0,none⟩,k,c,fun _=>⟨g,0,rfl,fun i t=>?_⟩⟩
  have f:g < W.heap.size:=(Array.getElem?_eq_some_iff.1 q).1;have b:W'.heap[g]? = W.heap[g]?:=hW g u f (by simp);rw [World.cell?_of_block (a:=⟨g,0+i,none⟩) b,Lib.cell_of_heap q];have p:(En l)[i]? = some (zd U l[i]):=by unfold En;rw [List.getElem?_map,List.getElem?_eq_getElem t];rfl
  rw [<-y,List.getElem?_take,if_pos (by omega)] at p;simpa using p
theorem Jm (v:Value) (l:List Int) (w:World) (h:AQ w v l) (hl:l.length<=1000) :
  Calls Tryz.prog 129 #[v] w fun e w'=>∃ a c,e=zk (O a l.length c)/\Off w.heap.size none w' (fun W=>AQ W (O a l.length c) l)/\Ov w w'/\l.length<=c/\c<=maxLen:=by
 obtain ⟨ao,B,rfl,q⟩:=h;obtain ⟨i0,R,z,t,s⟩:=info_parts Tryz.infoIc;have af:∀ (w:World) (a:Option Addr) (n c n' c':Nat),(binOp .eql 25 (O a n c) (O none n' c')).run Tryz.prog w=.ok (zg a.isNone) w:=fun w a n c n' c'=>Lib.run_eql_slice_nil w _ _ a n c n' c' Tryz.underlying25
 cases ao with
 | none=>
  obtain rfl:l=[]:=by
   cases l with
   | nil=>rfl
   | cons x l=>obtain ⟨b,off,M,-⟩:=q (by simp);cases M
  clear q R z t s;show Calls Tryz.prog 129 #[O none 0 B] w fun e w'=>∃ a c,e=zk (O a 0 c)/\Off w.heap.size none w' (fun W=>AQ W (O a 0 c) [])/\Ov w w'/\0<=c/\c<=maxLen;go_enter Tryz.func129,Tryz.ntmps129;go_wp2_with fail;go_ret;exact ⟨none,0,rfl,fun W _=>⟨none,0,rfl,fun h=>absurd rfl h⟩,Below.refl _ _,Nat.le_refl _,by unfold maxLen;omega⟩
 | some a0=>
  have A:Ov w (w.alloc (ze #[] 3)):=bA w _;have i:(w.alloc (ze #[] 3)).ownsRow w.heap.size 3 1 (O (some ⟨w.heap.size,0,none⟩) 0 0) 0 []:=World.ownsRow_made w #[] 0 (Nat.le_refl _) (by unfold maxLen;omega) (by simp);have J:=Aa A;have N:=A.size
  cases l with
  | nil=>
   clear q z t s;show Calls Tryz.prog 129 #[O (some a0) 0 B] w fun e w'=>∃ a c,e=zk (O a 0 c)/\Off w.heap.size none w' (fun W=>AQ W (O a 0 c) [])/\Ov w w'/\0<=c/\c<=maxLen;go_enter Tryz.func129,Tryz.ntmps129;go_wp2_with (at_builtin;refine wpList_append_own_none rfl _ _ 25 rfl w.heap.size 3 i0 1 Tryz.underlying25 R _ _ _ rfl i rfl ?_);go_wp2_with fail;go_ret;exact ⟨_,_,rfl,fun W _=>⟨_,_,rfl,fun h=>absurd rfl h⟩,J.o,Nat.le_refl _,by unfold maxLen;omega⟩
  | cons x l=>
   obtain ⟨b,off,M,G⟩:=q (by simp);injection M with M;subst M;have f:∀ jj u,(En (x::l))[jj]? = some u->(w.alloc (ze #[] 3)).cell? ((⟨b,off,none⟩:Addr).add jj)=some u:=fun jj u E=>by
    have hj:jj < (x::l).length:=by have:=(List.getElem?_eq_some_iff.1 E).1;simpa [En] using this
    rw [Addr.add_lit];unfold En at E;rw [List.getElem?_map,List.getElem?_eq_getElem hj] at E;simp only [Option.map_some,Option.some.injEq] at E;subst E;exact Ab A _ _ (G jj hj)
   have k:∀ u∈En (x::l),u.oneCell'=true:=by intro u E;unfold En at E;obtain ⟨y,-,rfl⟩:=List.mem_map.1 E;rfl
   obtain ⟨L,X⟩:=nm (x::l);rw [<-X] at hl f k ⊢;obtain ⟨V,p⟩:=nm L.length;have K:(En L).length=V*1:=by simp [p,En]
   have C:=Aa p;have Y:Hx (1<=V):=by rw [p,X];simp [Hx]
   rw [<-p] at hl ⊢;have ag:=Y.o;clear q G A X p;go_enter Tryz.func129,Tryz.ntmps129;go_wp2_with (at_builtin;refine wpList_append_own _ rfl _ _ 25 rfl w.heap.size 3 i0 (zd U 0) 1 8 Tryz.underlying25 R z t s rfl (by decide) _ _ _ rfl i ⟨b,off,none⟩ V B (En L) rfl K f k (by unfold maxLen;omega) (by omega) N ?_);intro v2 w2 d F _;have P:Ov w w2:=J.o.trans (Da F (fun g e=>by simp [Value.ownBlock] at e;omega) J.o.size);rw [C.o] at d;have Q:=Aa (OJ d);obtain ⟨T,S,rfl,H⟩:∃ a c,v2=O a L.length c/\L.length<=c/\c<=maxLen:=by
    rcases d.2 with ⟨h,h0⟩ | ⟨g,B,aj,h,_,_,h3,h4,_⟩
    ·exact ⟨none,0,by rw [h,h0],by rw [h0];exact Nat.le_refl _,by unfold maxLen;omega⟩
    ·exact ⟨_,_,h,h3,h4⟩
   have I:=Aa H;have Z:=Aa P;clear H i d F P R z t s f k K;go_wp2_with fail;go_ret;exact ⟨T,S,by rw [C.o];rfl,by rw [C.o];exact Q.o,Z.o,by rw [C.o];exact I.o.1,I.o.2⟩
theorem RP (v:Value) (l:List Int) (w:World) (h:AQ w v l) (hl:l.length<=100) :
  Calls Tryz.prog 129 #[v] w fun e w'=>∃ a c,e=zk (O a l.length c)/\Off w.heap.size none w' (fun W=>AQ W (O a l.length c) l)/\Ov w w':=
 (Jm v l w h (by omega)).mono fun e w' ⟨a,c,h1,h2,h3,_⟩=>⟨a,c,h1,h2,h3⟩
def goG {α:Type} (one:D->Nat->List α) (cnt:D->Nat):List D->Nat->List α
 | [],_=>[]
 | d::r,a=>one d a++goG one cnt r (a+cnt d)
def Lo:Nat->D->Nat->List (Nat × D × Nat)
 | 0,_,_=>[]
 | k+1,d,a=>(a,d,a+BD (k+1) d)::(goG (Lo k) (BD k) (Ag d) (a+1)++goG (Lo k) (BD k) (Ak d) (a+1+Ai k (Ag d)))
def BQ (k:Nat) (l:List D) (a:Nat):List (Nat × D × Nat):=goG (Lo k) (BD k) l a
def FF (nd:List Bool):Nat->D->Nat->List D
 | 0,_,_=>[]
 | k+1,d,a=>if nd.getD a false=true then [sD (Af d) (Ax d) (Ae d) (Ao d) (Al d) (goG (FF nd k) (BD k) (Ag d) (a+1)) (goG (FF nd k) (BD k) (Ak d) (a+1+Ai k (Ag d)))] else []
def AJ (nd:List Bool) (k:Nat) (l:List D) (a:Nat):List D:=goG (FF nd k) (BD k) l a
def Bc (nd:List Bool) (kf:Nat) (fs:List FnD):List FnD:=fs.mapIdx (fun i f=>⟨f.ps,AJ nd kf f.body (Ap kf (fs.take i)),f.res⟩)
def dpS:Nat->D->Prop
 | 0,_=>False
 | k+1,d=>(∀ x∈Ag d,dpS k x)/\∀ x∈Ak d,dpS k x
theorem JW (k:Nat) (a:Nat):BQ k [] a=[]:=rfl
theorem BM (k:Nat) (d:D) (r:List D) (a:Nat):BQ k (d::r) a=Lo k d a++BQ k r (a+BD k d):=rfl
theorem JV (k:Nat) (d:D) (a:Nat):BQ k [d] a=Lo k d a:=by
 rw [BM,JW,List.append_nil]
theorem Hm (nd) (k:Nat) (a:Nat):AJ nd k [] a=[]:=rfl
theorem BG (nd) (k:Nat) (d:D) (r:List D) (a:Nat):AJ nd k (d::r) a=FF nd k d a++AJ nd k r (a+BD k d):=rfl
theorem CJ (k:Nat) (d:D) (a:Nat):Lo (k+1) d a=(a,d,a+BD (k+1) d)::(BQ k (Ag d) (a+1)++BQ k (Ak d) (a+1+Ai k (Ag d))):=rfl
theorem AU (k:Nat) (d:D):BD (k+1) d=1+Ai k (Ag d)+Ai k (Ak d):=rfl
theorem Bj (k:Nat) (d:D) (r:List D):Ai k (d::r)=BD k d+Ai k r:=by
 unfold Ai;rw [List.map_cons,List.sum_cons]
theorem Fy:∀ (k:Nat) (l:List D) (a:Nat) (x) ,x∈BQ k l a->a<=x.1/\x.1 < a+Ai k l
 | k,[],a,x,h=>by cases h
 | 0,d::r,a,x,h=>by
  rw [BM] at h;have:=Fy 0 r _ x h;rw [Bj];omega
 | k+1,d::r,a,x,h=>by
  rw [BM,List.mem_append,CJ,List.mem_cons,List.mem_append] at h;rw [Bj,AU];rcases h with (rfl | h | h) | h
  ·dsimp only;omega
  ·have:=Fy k _ _ x h;omega
  ·have:=Fy k _ _ x h;omega
  ·have:=Fy (k+1) r _ x h;rw [AU] at this;omega
section
variable (nd nv ni:List Bool) (ch:Int) (K kf:Nat) (fs:List FnD)
structure Cl (x:Nat × D × Nat):Prop where
 put:Af x.2.1=4->Ae x.2.1=ch->nd.getD x.1 false=true
 set:Af x.2.1=1\/Af x.2.1=5\/Af x.2.1=6->nv.getD (Ax x.2.1).toNat false=true->nd.getD x.1 false=true
 get:Af x.2.1=3->nv.getD (Ax x.2.1).toNat false=true\/ni.getD (Ae x.2.1).toNat false=true->nd.getD x.1 false=true
 call:Af x.2.1=2->nv.getD (Ax x.2.1).toNat false=true\/(∃ p∈(Bv fs (Ae x.2.1)).ps,nv.getD p.toNat false=true)\/(∃ i,Ap kf (fs.take (Ae x.2.1).toNat)<=i/\i < Ap kf (fs.take ((Ae x.2.1).toNat+1))/\nd.getD i false=true)->nd.getD x.1 false=true
 inn:Af x.2.1=7\/Af x.2.1=8->(∃ i,x.1+1<=i/\i < x.2.2/\nd.getD i false=true)->nd.getD x.1 false=true
 vars:nd.getD x.1 false=true->∀ v∈Ar K (Ao x.2.1),nv.getD v.toNat false=true
 chan:nd.getD x.1 false=true->Af x.2.1=3->ni.getD (Ae x.2.1).toNat false=true
 args:nd.getD x.1 false=true->Af x.2.1=2->∀ q∈(Bv fs (Ae x.2.1)).ps.zip (Al x.2.1),nv.getD q.1.toNat false=true->∀ v∈Ar K q.2,nv.getD v.toNat false=true
 flat:Af x.2.1≠7->Af x.2.1≠8->Ag x.2.1=[]/\Ak x.2.1=[]
 res:nd.getD x.1 false=true->Af x.2.1=2->nv.getD (Ax x.2.1).toNat false=true->∀ v∈Ar K (Bv fs (Ae x.2.1)).res,nv.getD v.toNat false=true
structure ClF:Prop where
 dp:∀ i (h:i < fs.length),∀ x∈fs[i].body,dpS kf x
 cl:∀ i (h:i < fs.length),∀ x∈BQ kf fs[i].body (Ap kf (fs.take i)),Cl nd nv ni ch K kf fs x
end
theorem Tryz.infoI:(Tryz.prog.info? 3).map (fun i=>(i.zero,i.size,i.bytes))=some (some (zd U 0),1,8):=by kernel_rfl
def Dh (nd:List Bool) (k:Nat) (d:D) (a:Nat):D:=sD (Af d) (Ax d) (Ae d) (Ao d) (Al d) (AJ nd k (Ag d) (a+1)) (AJ nd k (Ak d) (a+1+Ai k (Ag d)))
theorem CB {nd:List Bool} {k:Nat} {d:D} {a:Nat} (h:nd.getD a false=true):FF nd (k+1) d a=[Dh nd k d a]:=by
 unfold FF;rw [if_pos h];rfl
theorem DA {nd:List Bool} {k:Nat} {d:D} {a:Nat} (h:nd.getD a false=false):FF nd (k+1) d a=[]:=by
 unfold FF;rw [h];rfl
theorem Ep (nd:List Bool) (kf:Nat) (fs:List FnD) (c:Int):Bv (Bc nd kf fs) c=⟨(Bv fs c).ps,AJ nd kf (Bv fs c).body (Ap kf (fs.take c.toNat)),(Bv fs c).res⟩:=by
 unfold Bv Bc;rw [List.getD_eq_getElem?_getD,List.getD_eq_getElem?_getD,List.getElem?_mapIdx]
 cases h:fs[c.toNat]? with
 | none=>rfl
 | some f=>rfl
structure NS where
 vs:List Bool
 cs:List Bool
 nd:List Bool
 mo:Bool
def NS.needV (st:NS) (v:Int):NS:=if st.vs.getD v.toNat false=true then st else { st with vs:=st.vs.set v.toNat true,mo:=true }
def NS.needC (st:NS) (c:Int):NS:=if st.cs.getD c.toNat false=true then st else { st with cs:=st.cs.set c.toNat true,mo:=true }
def NS.needN (st:NS) (a:Nat):NS:=if st.nd.getD a false=true then st else { st with nd:=st.nd.set a true,mo:=true }
def NS.needX (K:Nat) (st:NS) (e:D):NS:=(Ar K e).foldl NS.needV st
def De (nd:List Bool) (a b:Nat):Bool:=((nd.take b).drop a).any id
section
variable (ch:Int) (K kf:Nat) (fs:List FnD)
def Cf (st:NS) (x:Nat × D × Nat):Bool:=
 if Af x.2.1=2 then st.vs.getD (Ax x.2.1).toNat false || (Bv fs (Ae x.2.1)).ps.any (fun p=>st.vs.getD p.toNat false) || De st.nd (Ap kf (fs.take (Ae x.2.1).toNat)) (Ap kf (fs.take ((Ae x.2.1).toNat+1)))
 else if Af x.2.1=3 then st.vs.getD (Ax x.2.1).toNat false || st.cs.getD (Ae x.2.1).toNat false
 else if Af x.2.1=4 then decide (Ae x.2.1=ch)
 else if Af x.2.1=7\/Af x.2.1=8 then De st.nd (x.1+1) x.2.2
 else st.vs.getD (Ax x.2.1).toNat false
def needA (st:NS) (q:Int × D):NS:=if st.vs.getD q.1.toNat false=true then st.needX K q.2 else st
def needFor (st:NS) (d:D):NS:=
 if Af d=3 then (st.needX K (Ao d)).needC (Ae d)
 else if Af d=2 then
  (if (((Bv fs (Ae d)).ps.zip (Al d)).foldl (needA K) (st.needX K (Ao d))).vs.getD (Ax d).toNat false=true then (((Bv fs (Ae d)).ps.zip (Al d)).foldl (needA K) (st.needX K (Ao d))).needX K (Bv fs (Ae d)).res else ((Bv fs (Ae d)).ps.zip (Al d)).foldl (needA K) (st.needX K (Ao d)))
 else st.needX K (Ao d)
def look1 (st:NS) (x:Nat × D × Nat):NS:=if Cf ch kf fs st x=true then needFor K fs (st.needN x.1) x.2.1 else st
def rounds (C:List (Nat × D × Nat)):Nat->NS->NS
 | 0,st=>st
 | g+1,st=>if st.mo=true then rounds C g (C.foldl (look1 ch K kf fs) { st with mo:=false }) else st
end
def Eb (kf:Nat):List FnD->Nat->List (Nat × D × Nat)
 | [],_=>[]
 | f::r,a=>BQ kf f.body a++Eb kf r (a+Ai kf f.body)
def Cz (kf:Nat) (fs:List FnD) (l:List D):List (Nat × D × Nat):=Eb kf fs 0++BQ kf l (Ap kf fs)
def NS.left (st:NS):Nat:=st.vs.count false+st.cs.count false+st.nd.count false
def ns0 (vn yn n:Nat):NS:=⟨List.replicate vn false,List.replicate yn false,List.replicate n false,true⟩
def A6 (ch:Int) (K kf:Nat) (fs:List FnD) (l:List D) (vn yn:Nat):NS:=rounds ch K kf fs (Cz kf fs l) (vn+yn+(Ap kf fs+Ai kf l)+1) (ns0 vn yn (Ap kf fs+Ai kf l))
def Ky (f:NS->NS):Prop:=∀ st,(f st).mo=false->f st=st
theorem Ky.comp {f g:NS->NS} (hf:Ky f) (hg:Ky g):Ky (fun st=>f (g st)):=fun st h=>by
 have h1:=hf _ h;show f (g st)=st;rw [h1];have h2:(f (g st)).mo=false:=h;rw [h1] at h2;exact hg _ h2
theorem Ky.id:Ky (fun st=>st):=fun _ _=>rfl
theorem Ky.foldl {α:Type} {f:NS->α->NS} (hf:∀ x,Ky (fun st=>f st x)):∀ (l:List α),Ky (fun st=>l.foldl f st)
 | []=>Ky.id
 | x::l=>Ky.comp (f:=fun st=>l.foldl f st) (g:=fun st=>f st x) (Ky.foldl hf l) (hf x)
theorem Ky.needV (v:Int):Ky (fun st=>st.needV v):=fun st h=>by
 change (st.needV v).mo=false at h
 show st.needV v=st;unfold NS.needV at h ⊢;split
 ·rfl
 ·rename_i hh;rw [if_neg hh] at h;cases h
theorem Ky.needC (v:Int):Ky (fun st=>st.needC v):=fun st h=>by
 change (st.needC v).mo=false at h
 show st.needC v=st;unfold NS.needC at h ⊢;split
 ·rfl
 ·rename_i hh;rw [if_neg hh] at h;cases h
theorem Ky.needN (v:Nat):Ky (fun st=>st.needN v):=fun st h=>by
 change (st.needN v).mo=false at h
 show st.needN v=st;unfold NS.needN at h ⊢;split
 ·rfl
 ·rename_i hh;rw [if_neg hh] at h;cases h
theorem Ky.needX (K:Nat) (e:D):Ky (fun st=>st.needX K e):=Ky.foldl Ky.needV _
theorem Ky.ite {f g:NS->NS} {P:NS->Prop} [∀ st,Decidable (P st)] (hf:Ky f) (hg:Ky g):Ky (fun st=>if P st then f st else g st):=fun st h=>by
 dsimp only at h ⊢;split
 ·rename_i hh;rw [if_pos hh] at h;exact hf _ h
 ·rename_i hh;rw [if_neg hh] at h;exact hg _ h
section
variable {ch:Int} {K kf:Nat} {fs:List FnD}
theorem Ky.needA (q:Int × D):Ky (fun st=>needA K st q):=Ky.ite (P:=fun st=>st.vs.getD q.1.toNat false=true) (Ky.needX K q.2) Ky.id
theorem Ky.needFor (d:D):Ky (fun st=>needFor K fs st d):=by
 unfold Ex.needFor;by_cases h3:Af d=3
 ·simp only [if_pos h3]
  exact Ky.comp (Ky.needC _) (Ky.needX K _)
 ·simp only [if_neg h3]
  by_cases h2:Af d=2
  ·simp only [if_pos h2]
   exact Ky.comp (f:=fun st=>if st.vs.getD (Ax d).toNat false=true then st.needX K (Bv fs (Ae d)).res else st) (g:=fun st=>((Bv fs (Ae d)).ps.zip (Al d)).foldl (Ex.needA K) (st.needX K (Ao d))) (Ky.ite (P:=fun st=>st.vs.getD (Ax d).toNat false=true) (Ky.needX K _) Ky.id) (Ky.comp (f:=fun st=>((Bv fs (Ae d)).ps.zip (Al d)).foldl (Ex.needA K) st) (Ky.foldl Ky.needA _) (Ky.needX K _))
  ·simp only [if_neg h2]
   exact Ky.needX K _
theorem Ky.look1 (x:Nat × D × Nat):Ky (fun st=>look1 ch K kf fs st x):=Ky.ite (P:=fun st=>Cf ch kf fs st x=true) (Ky.comp (f:=fun st=>Ex.needFor K fs st x.2.1) (Ky.needFor _) (Ky.needN _)) Ky.id
theorem EQ {α:Type} {f:NS->α->NS} (hf:∀ x,Ky (fun st=>f st x)):∀ (l:List α) (st:NS),(l.foldl f st).mo=false->l.foldl f st=st/\∀ x∈l,f st x=st
 | [],st,h=>⟨rfl,fun x hx=>by cases hx⟩
 | x::l,st,h=>by
  obtain ⟨h1,h2⟩:=EQ hf l (f st x) h;have h3:(f st x).mo=false:=by
   have c:(l.foldl f (f st x)).mo=false:=h
   rwa [h1] at c
  have b:=hf x st h3;dsimp only at b;rw [b] at h1 h2;refine ⟨?_,fun y hy=>?_⟩
  ·show l.foldl f (f st x)=st
   rw [b];exact h1
  ·rcases List.mem_cons.1 hy with rfl | hy
   ·exact b
   ·exact h2 y hy
theorem OL {st:NS} {v:Int} (h:st.needV v=st) (hm:st.mo=false):st.vs.getD v.toNat false=true:=by
 unfold NS.needV at h;split at h
 ·assumption
 ·have:=congrArg NS.mo h
  rw [hm] at this;cases this
theorem OQ {st:NS} {v:Int} (h:st.needC v=st) (hm:st.mo=false):st.cs.getD v.toNat false=true:=by
 unfold NS.needC at h;split at h
 ·assumption
 ·have:=congrArg NS.mo h
  rw [hm] at this;cases this
theorem JP {st:NS} {v:Nat} (h:st.needN v=st) (hm:st.mo=false):st.nd.getD v false=true:=by
 unfold NS.needN at h;split at h
 ·assumption
 ·have:=congrArg NS.mo h
  rw [hm] at this;cases this
theorem GT {st:NS} {e:D} (h:st.needX K e=st) (hm:st.mo=false):∀ v∈Ar K e,st.vs.getD v.toNat false=true:=fun v hv=>by
 have h0:(st.needX K e).mo=false:=by rw [h,hm]
 exact OL ((EQ Ky.needV (Ar K e) st h0).2 v hv) hm
theorem DT {nd:List Bool} {a b:Nat}:De nd a b=true ↔ ∃ i,a<=i/\i < b/\nd.getD i false=true:=by
 unfold De;rw [List.any_eq_true];constructor
 ·rintro ⟨x,g,d⟩
  obtain ⟨j,k,f⟩:=List.mem_iff_getElem.1 g;rw [List.getElem_drop,List.getElem_take] at f;simp only [List.length_drop,List.length_take] at k;refine ⟨a+j,by omega,by omega,?_⟩;rw [List.getD_eq_getElem?_getD,List.getElem?_eq_getElem (by omega),f];exact d
 ·rintro ⟨i,p,l,c⟩
  rw [List.getD_eq_getElem?_getD] at c
  cases hi:nd[i]? with
  | none=>rw [hi] at c;cases c
  | some y=>
   rw [hi] at c;refine ⟨y,?_,c⟩;refine List.mem_iff_getElem?.2 ⟨i - a,?_⟩;rw [List.getElem?_drop,List.getElem?_take_of_lt (by omega),show a+(i - a)=i by omega,hi]
structure NLe (a b:NS):Prop where
 vs:∀ i,a.vs.getD i false=true->b.vs.getD i false=true
 cs:∀ i,a.cs.getD i false=true->b.cs.getD i false=true
 nd:∀ i,a.nd.getD i false=true->b.nd.getD i false=true
theorem NLe.refl (a:NS):NLe a a:=⟨fun _ h=>h,fun _ h=>h,fun _ h=>h⟩
theorem NLe.trans {a b c:NS} (h:NLe a b) (k:NLe b c):NLe a c:=⟨fun i hi=>k.vs i (h.vs i hi),fun i hi=>k.cs i (h.cs i hi),fun i hi=>k.nd i (h.nd i hi)⟩
theorem EP {l:List Bool} {i j:Nat} {x:Bool}:(l.set i x).getD j false=if i=j/\i < l.length then x else l.getD j false:=by
 rw [List.getD_eq_getElem?_getD,List.getD_eq_getElem?_getD,List.getElem?_set];by_cases h:i=j
 ·subst h
  by_cases h2:i < l.length
  ·simp [h2]
  ·simp [h2]
 ·simp [h]
theorem KD {l:List Bool} {i j:Nat} (h:l.getD j false=true):(l.set i true).getD j false=true:=by
 rw [EP];split
 ·rfl
 ·exact h
structure Up (f:NS->NS):Prop where
 le:∀ st,NLe st (f st)
 nd:∀ st,(f st).nd=st.nd
theorem Up.comp {f g:NS->NS} (hf:Up f) (hg:Up g):Up (fun st=>f (g st)):=⟨fun st=>(hg.le st).trans (hf.le _),fun st=>(hf.nd _).trans (hg.nd st)⟩
theorem Up.id:Up (fun st=>st):=⟨NLe.refl,fun _=>rfl⟩
theorem Up.foldl {α:Type} {f:NS->α->NS} (hf:∀ x,Up (fun st=>f st x)):∀ (l:List α),Up (fun st=>l.foldl f st)
 | []=>Up.id
 | x::l=>Up.comp (f:=fun st=>l.foldl f st) (g:=fun st=>f st x) (Up.foldl hf l) (hf x)
theorem Up.ite {f g:NS->NS} {P:NS->Prop} [∀ st,Decidable (P st)] (hf:Up f) (hg:Up g):Up (fun st=>if P st then f st else g st):=⟨fun st=>by
 split
 ·exact hf.le st
 ·exact hg.le st,fun st=>by
 split
 ·exact hf.nd st
 ·exact hg.nd st⟩
theorem Up.needV (v:Int):Up (fun st=>st.needV v):=Up.ite (P:=fun st=>st.vs.getD v.toNat false=true) Up.id ⟨fun st=>⟨fun i h=>KD h,fun _ h=>h,fun _ h=>h⟩,fun _=>rfl⟩
theorem Up.needC (v:Int):Up (fun st=>st.needC v):=Up.ite (P:=fun st=>st.cs.getD v.toNat false=true) Up.id ⟨fun st=>⟨fun _ h=>h,fun i h=>KD h,fun _ h=>h⟩,fun _=>rfl⟩
theorem JQ (st:NS) (a:Nat):NLe st (st.needN a):=by
 unfold NS.needN;split
 ·exact NLe.refl _
 ·exact ⟨fun _ h=>h,fun _ h=>h,fun i h=>KD h⟩
theorem JR {st:NS} {a i:Nat} (h:(st.needN a).nd.getD i false=true):st.nd.getD i false=true\/i=a:=by
 unfold NS.needN at h;split at h
 ·exact Or.inl h
 ·dsimp only at h
  rw [EP] at h;split at h
  ·rename_i b;exact Or.inr b.1.symm
  ·exact Or.inl h
theorem Up.needX (K:Nat) (e:D):Up (fun st=>st.needX K e):=Up.foldl Up.needV _
theorem Up.needA (q:Int × D):Up (fun st=>needA K st q):=Up.ite (P:=fun st=>st.vs.getD q.1.toNat false=true) (Up.needX K q.2) Up.id
theorem Up.needFor (d:D):Up (fun st=>needFor K fs st d):=by
 unfold Ex.needFor;by_cases h3:Af d=3
 ·simp only [if_pos h3]
  exact Up.comp (Up.needC _) (Up.needX K _)
 ·simp only [if_neg h3]
  by_cases h2:Af d=2
  ·simp only [if_pos h2]
   exact Up.comp (f:=fun st=>if st.vs.getD (Ax d).toNat false=true then st.needX K (Bv fs (Ae d)).res else st) (g:=fun st=>((Bv fs (Ae d)).ps.zip (Al d)).foldl (Ex.needA K) (st.needX K (Ao d))) (Up.ite (P:=fun st=>st.vs.getD (Ax d).toNat false=true) (Up.needX K _) Up.id) (Up.comp (f:=fun st=>((Bv fs (Ae d)).ps.zip (Al d)).foldl (Ex.needA K) st) (Up.foldl Up.needA _) (Up.needX K _))
  ·simp only [if_neg h2]
   exact Up.needX K _
theorem Gz {st st':NS} (h:NLe st st') {x:Nat × D × Nat} (hx:Cf ch kf fs st x=true):Cf ch kf fs st' x=true:=by
 have f:∀ a b,De st.nd a b=true->De st'.nd a b=true:=fun a b l=>by
  obtain ⟨i,q,d,c⟩:=DT.1 l;exact DT.2 ⟨i,q,d,h.nd i c⟩
 unfold Cf at hx ⊢;by_cases d:Af x.2.1=2
 ·rw [if_pos d] at hx ⊢
  rw [Bool.or_eq_true,Bool.or_eq_true] at hx ⊢;rcases hx with (hx | hx) | hx
  ·exact Or.inl (Or.inl (h.vs _ hx))
  ·obtain ⟨p,k,g⟩:=List.any_eq_true.1 hx
   exact Or.inl (Or.inr (List.any_eq_true.2 ⟨p,k,h.vs _ g⟩))
  ·exact Or.inr (f _ _ hx)
 rw [if_neg d] at hx ⊢;by_cases c:Af x.2.1=3
 ·rw [if_pos c] at hx ⊢
  rw [Bool.or_eq_true] at hx ⊢;rcases hx with hx | hx
  ·exact Or.inl (h.vs _ hx)
  ·exact Or.inr (h.cs _ hx)
 rw [if_neg c] at hx ⊢;by_cases h4:Af x.2.1=4
 ·rw [if_pos h4] at hx ⊢;exact hx
 rw [if_neg h4] at hx ⊢;by_cases h7:Af x.2.1=7\/Af x.2.1=8
 ·rw [if_pos h7] at hx ⊢;exact f _ _ hx
 rw [if_neg h7] at hx ⊢;exact h.vs _ hx
def NJ (ch:Int) (kf:Nat) (fs:List FnD) (C:List (Nat × D × Nat)) (st:NS):Prop:=∀ x∈C,st.nd.getD x.1 false=true->Cf ch kf fs st x=true
theorem GV (st:NS) (x):NLe st (look1 ch K kf fs st x):=by
 unfold look1;split
 ·exact (JQ _ _).trans ((Up.needFor x.2.1).le _)
 ·exact NLe.refl _
theorem OV {C:List (Nat × D × Nat)} (hC:∀ x∈C,∀ y∈C,x.1=y.1->x=y) {st:NS} (h:NJ ch kf fs C st) {y} (hy:y∈C):NJ ch kf fs C (look1 ch K kf fs st y):=fun x hx hn=>by
 have hle:=GV (ch:=ch) (K:=K) (kf:=kf) (fs:=fs) st y;by_cases hi:Cf ch kf fs st y=true
 ·have e:(look1 ch K kf fs st y).nd=(st.needN y.1).nd:=by
   unfold look1;rw [if_pos hi];exact (Up.needFor y.2.1).nd _
  rw [e] at hn;rcases JR hn with hn | hn
  ·exact Gz hle (h x hx hn)
  ·rw [hC x hx y hy hn]
   exact Gz hle hi
 ·have e:look1 ch K kf fs st y=st:=by unfold look1;rw [if_neg hi]
  rw [e] at hn ⊢;exact h x hx hn
theorem MA {C:List (Nat × D × Nat)} (hC:∀ x∈C,∀ y∈C,x.1=y.1->x=y):∀ (l:List (Nat × D × Nat)) (st:NS),(∀ x∈l,x∈C)->NJ ch kf fs C st->NJ ch kf fs C (l.foldl (look1 ch K kf fs) st)
 | [],st,_,h=>h
 | y::l,st,hl,h=>MA hC l _ (fun x hx=>hl x (List.mem_cons_of_mem _ hx)) (OV hC h (hl y (List.mem_cons_self ..)))
theorem Ii {C:List (Nat × D × Nat)} (hC:∀ x∈C,∀ y∈C,x.1=y.1->x=y):∀ (g:Nat) (st:NS),NJ ch kf fs C st->NJ ch kf fs C (rounds ch K kf fs C g st)
 | 0,st,h=>h
 | g+1,st,h=>by
  unfold rounds;split
  ·exact Ii hC g _ (MA hC C _ (fun x hx=>hx) h)
  ·exact h
theorem Nv {st:NS} {x:Nat × D × Nat} (hm:st.mo=false) (h:look1 ch K kf fs st x=st) (hj:st.nd.getD x.1 false=true->Cf ch kf fs st x=true) (hflat:Af x.2.1≠7->Af x.2.1≠8->Ag x.2.1=[]/\Ak x.2.1=[]):Cl st.nd st.vs st.cs ch K kf fs x:=by
 have i:Cf ch kf fs st x=true->st.nd.getD x.1 false=true/\needFor K fs st x.2.1=st:=fun d=>by
  unfold look1 at h;rw [if_pos d] at h;have E:(needFor K fs (st.needN x.1) x.2.1).mo=false:=by rw [h,hm]
  have k:=Ky.needFor (K:=K) (fs:=fs) x.2.1 (st.needN x.1) E;dsimp only at k;rw [h] at k;refine ⟨JP k.symm hm,?_⟩;rw [<-k] at h;exact h
 have l:st.nd.getD x.1 false=true->st.needX K (Ao x.2.1)=st/\(Af x.2.1=3->st.needC (Ae x.2.1)=st)/\(Af x.2.1=2->(∀ q∈(Bv fs (Ae x.2.1)).ps.zip (Al x.2.1),needA K st q=st)/\(st.vs.getD (Ax x.2.1).toNat false=true->st.needX K (Bv fs (Ae x.2.1)).res=st)):=fun d=>by
  have c:=(i (hj d)).2;have b:(needFor K fs st x.2.1).mo=false:=by rw [c,hm]
  unfold needFor at c b;by_cases h3:Af x.2.1=3
  ·rw [if_pos h3] at c b
   have g:=Ky.needC (Ae x.2.1) _ b;dsimp only at g;rw [c] at g;rw [<-g] at c;exact ⟨g.symm,fun _=>c,fun f=>by omega⟩
  rw [if_neg h3] at c b;by_cases f:Af x.2.1=2
  ·rw [if_pos f] at c b
   have g:=Ky.ite (P:=fun st=>st.vs.getD (Ax x.2.1).toNat false=true) (Ky.needX K (Bv fs (Ae x.2.1)).res) Ky.id (((Bv fs (Ae x.2.1)).ps.zip (Al x.2.1)).foldl (needA K) (st.needX K (Ao x.2.1))) b;dsimp only at g;rw [c] at g;have u:=EQ (Ky.needA (K:=K)) ((Bv fs (Ae x.2.1)).ps.zip (Al x.2.1)) (st.needX K (Ao x.2.1)) (by rw [<-g];exact hm);have t:st.needX K (Ao x.2.1)=st:=u.1.symm.trans g.symm;have s:=u.2;rw [<-g] at c;rw [t] at s;exact ⟨t,fun h=>absurd h h3,fun _=>⟨s,fun hv=>by rwa [if_pos hv] at c⟩⟩
  rw [if_neg f] at c b;exact ⟨c,fun h=>absurd h h3,fun h=>absurd h f⟩
 refine ⟨fun C A=>(i ?_).1,fun k hv=>(i ?_).1,fun h3 hv=>(i ?_).1,fun f hv=>(i ?_).1,fun B hv=>(i ?_).1,fun d=>GT (l d).1 hm,fun d h3=>OQ ((l d).2.1 h3) hm,fun d f q y hv=>?_,hflat,fun d f hv=>GT (((l d).2.2 f).2 hv) hm⟩
 ·unfold Cf;rw [if_neg (by omega),if_neg (by omega),if_pos C];exact decide_eq_true A
 ·unfold Cf;rw [if_neg (by omega),if_neg (by omega),if_neg (by omega),if_neg (by omega)];exact hv
 ·unfold Cf;rw [if_neg (by omega),if_pos h3];exact Bool.or_eq_true _ _ ▸ hv
 ·unfold Cf;rw [if_pos f,Bool.or_eq_true,Bool.or_eq_true]
  rcases hv with hv | ⟨p,z,hv⟩ | hv
  ·exact Or.inl (Or.inl hv)
  ·exact Or.inl (Or.inr (List.any_eq_true.2 ⟨p,z,hv⟩))
  ·exact Or.inr (DT.2 hv)
 ·unfold Cf;rw [if_neg (by omega),if_neg (by omega),if_neg (by omega),if_pos B];exact DT.2 hv
 ·have:=((l d).2.2 f).1 q y
  unfold needA at this;rw [if_pos hv] at this;exact GT this hm
end
theorem DJ:∀ (k:Nat) (l:List D) (a:Nat),(BQ k l a).map Prod.fst=List.range' a (Ai k l)
 | k,[],a=>rfl
 | 0,d::r,a=>by
  rw [BM,Bj,List.map_append];show []++_=List.range' a (0+Ai 0 r);rw [List.nil_append,Nat.zero_add];exact DJ 0 r a
 | k+1,d::r,a=>by
  rw [BM,Bj,List.map_append,CJ,List.map_cons,List.map_append,DJ k,DJ k,DJ (k+1) r,AU];rw [show 1+Ai k (Ag d)+Ai k (Ak d)+Ai (k+1) r=1+(Ai k (Ag d)+Ai k (Ak d))+Ai (k+1) r by omega,<-List.range'_append_1 (m:=1+(Ai k (Ag d)+Ai k (Ak d))),<-List.range'_append_1 (m:=1),<-List.range'_append_1 (m:=Ai k (Ag d))];simp [Nat.add_assoc,List.range'_one]
theorem JZ (kf:Nat):∀ (fs:List FnD) (a:Nat),(Eb kf fs a).map Prod.fst=List.range' a (Ap kf fs)
 | [],a=>rfl
 | f::r,a=>by
  show (BQ kf f.body a++Eb kf r (a+Ai kf f.body)).map _=List.range' a (Ap kf (f::r));rw [List.map_append,DJ,JZ kf r,show Ap kf (f::r)=Ai kf f.body+Ap kf r by unfold Ap;simp,<-List.range'_append_1]
theorem JY (kf:Nat) (fs:List FnD) (l:List D):(Cz kf fs l).map Prod.fst=List.range' 0 (Ap kf fs+Ai kf l):=by
 unfold Cz;rw [List.map_append,JZ,DJ,<-List.range'_append_1,Nat.zero_add]
theorem Fz (kf:Nat) (fs:List FnD) (l:List D):(Cz kf fs l).length=Ap kf fs+Ai kf l:=by
 have:=congrArg List.length (JY kf fs l);simpa using this
theorem Gx (kf:Nat) (fs:List FnD) (l:List D) (i:Nat) (h:i < (Cz kf fs l).length):((Cz kf fs l)[i]).1=i:=by
 have c:=JY kf fs l;have b:((Cz kf fs l).map Prod.fst)[i]? = some i:=by
  rw [c,List.getElem?_range' (by rw [Fz] at h;exact h)];simp
 rw [List.getElem?_map,List.getElem?_eq_getElem h] at b;simpa using b
theorem OT (kf:Nat) (fs:List FnD) (l:List D):∀ x∈Cz kf fs l,∀ y∈Cz kf fs l,x.1=y.1->x=y:=fun x hx y hy h=>by
 obtain ⟨i,hi,rfl⟩:=List.mem_iff_getElem.1 hx;obtain ⟨j,hj,rfl⟩:=List.mem_iff_getElem.1 hy;rw [Gx,Gx] at h;subst h;rfl
theorem FA {kf:Nat}:∀ {fs:List FnD} {a:Nat} {i:Nat} (h:i < fs.length) {x},x∈BQ kf fs[i].body (a+Ap kf (fs.take i))->x∈Eb kf fs a
 | f::r,a,0,h,x,hx=>by
  show x∈BQ kf f.body a++Eb kf r (a+Ai kf f.body);exact List.mem_append_left _ hx
 | f::r,a,i+1,h,x,hx=>by
  show x∈BQ kf f.body a++Eb kf r (a+Ai kf f.body);refine List.mem_append_right _ (FA (i:=i) (Nat.lt_of_succ_lt_succ h) ?_);have e:Ap kf ((f::r).take (i+1))=Ai kf f.body+Ap kf (r.take i):=by unfold Ap;simp
  rw [e,<-Nat.add_assoc] at hx;exact hx
theorem Gy {kf:Nat}:∀ {fs:List FnD} {a:Nat} {x},x∈Eb kf fs a->∃ i,∃ h:i < fs.length,x∈BQ kf fs[i].body (a+Ap kf (fs.take i))
 | f::r,a,x,hx=>by
  have hx':x∈BQ kf f.body a++Eb kf r (a+Ai kf f.body):=hx;rcases List.mem_append.1 hx' with hx | hx
  ·exact ⟨0,Nat.zero_lt_succ _,hx⟩
  ·obtain ⟨i,hi,hx⟩:=Gy hx
   refine ⟨i+1,Nat.succ_lt_succ hi,?_⟩;have e:Ap kf ((f::r).take (i+1))=Ai kf f.body+Ap kf (r.take i):=by unfold Ap;simp
   rw [e,<-Nat.add_assoc];exact hx
theorem Ej {P:Nat->D->Prop} {P1:D->Prop} (hP:∀ k d,P (k+1) d->P1 d/\(∀ s∈Ag d,P k s)/\∀ s∈Ak d,P k s):∀ (k:Nat) (l:List D) (a:Nat),(∀ s∈l,P k s)->∀ x∈BQ k l a,P1 x.2.1
 | k,[],a,_,x,hx=>by cases hx
 | 0,d::r,a,h,x,hx=>Ej hP 0 r _ (fun s hs=>h s (List.mem_cons_of_mem _ hs)) x hx
 | k+1,d::r,a,h,x,hx=>by
  rw [BM,List.mem_append,CJ,List.mem_cons,List.mem_append] at hx;obtain ⟨h1,h2,h3⟩:=hP k d (h d (List.mem_cons_self ..));rcases hx with (rfl | hx | hx) | hx
  ·exact h1
  ·exact Ej hP k _ _ h2 x hx
  ·exact Ej hP k _ _ h3 x hx
  ·exact Ej hP (k+1) r _ (fun s hs=>h s (List.mem_cons_of_mem _ hs)) x hx
structure Ln (vn yn n:Nat) (st:NS):Prop where
 vs:st.vs.length=vn
 cs:st.cs.length=yn
 nd:st.nd.length=n
def Dn (vn yn n:Nat) (f:NS->NS):Prop:=∀ st,Ln vn yn n st->Ln vn yn n (f st)/\(f st=st\/(f st).left < st.left)
section
variable {vn yn n:Nat}
theorem Dn.comp {f g:NS->NS} (hf:Dn vn yn n f) (hg:Dn vn yn n g):Dn vn yn n (fun st=>f (g st)):=fun st h=>by
 obtain ⟨h1,h2⟩:=hg st h;obtain ⟨h3,h4⟩:=hf _ h1;refine ⟨h3,?_⟩;dsimp only;rcases h2 with h2 | h2
 ·rw [h2] at h4 ⊢;exact h4
 ·rcases h4 with h4 | h4
  ·rw [h4];exact Or.inr h2
  ·exact Or.inr (Nat.lt_trans h4 h2)
theorem Dn.id:Dn vn yn n (fun st=>st):=fun st h=>⟨h,Or.inl rfl⟩
theorem Dn.foldl {α:Type} {f:NS->α->NS}:∀ (l:List α),(∀ x∈l,Dn vn yn n (fun st=>f st x))->Dn vn yn n (fun st=>l.foldl f st)
 | [],_=>Dn.id
 | x::l,h=>Dn.comp (f:=fun st=>l.foldl f st) (g:=fun st=>f st x) (Dn.foldl l (fun y hy=>h y (List.mem_cons_of_mem _ hy))) (h x (List.mem_cons_self ..))
theorem Dn.ite {f g:NS->NS} {P:NS->Prop} [∀ st,Decidable (P st)] (hf:Dn vn yn n f) (hg:Dn vn yn n g):Dn vn yn n (fun st=>if P st then f st else g st):=fun st h=>by
 dsimp only;split
 ·exact hf st h
 ·exact hg st h
theorem count_set {l:List Bool} {i:Nat} (h:i < l.length) (h2:¬ l.getD i false=true):(l.set i true).count false < l.count false:=by
 have e:l[i]=false:=by
  rw [List.getD_eq_getElem?_getD,List.getElem?_eq_getElem h] at h2;simpa using h2
 rw [List.count_set (h:=h),e];have:0 < l.count false:=List.count_pos_iff.2 (e ▸ List.getElem_mem h);simp;omega
theorem Dn.needV {v:Int} (hv:v.toNat < vn):Dn vn yn n (fun st=>st.needV v):=fun st h=>by
 show Ln vn yn n (st.needV v)/\(st.needV v=st\/(st.needV v).left < st.left);unfold NS.needV;split
 ·exact ⟨h,Or.inl rfl⟩
 ·rename_i hh
  have:=count_set (by rw [h.vs];exact hv) hh;exact ⟨⟨by simp [h.vs],h.cs,h.nd⟩,Or.inr (by unfold NS.left;dsimp only;omega)⟩
theorem Dn.needC {v:Int} (hv:v.toNat < yn):Dn vn yn n (fun st=>st.needC v):=fun st h=>by
 show Ln vn yn n (st.needC v)/\(st.needC v=st\/(st.needC v).left < st.left);unfold NS.needC;split
 ·exact ⟨h,Or.inl rfl⟩
 ·rename_i hh
  have:=count_set (by rw [h.cs];exact hv) hh;exact ⟨⟨h.vs,by simp [h.cs],h.nd⟩,Or.inr (by unfold NS.left;dsimp only;omega)⟩
theorem Dn.needN {v:Nat} (hv:v < n):Dn vn yn n (fun st=>st.needN v):=fun st h=>by
 show Ln vn yn n (st.needN v)/\(st.needN v=st\/(st.needN v).left < st.left);unfold NS.needN;split
 ·exact ⟨h,Or.inl rfl⟩
 ·rename_i hh
  have:=count_set (by rw [h.nd];exact hv) hh;exact ⟨⟨h.vs,h.cs,by simp [h.nd]⟩,Or.inr (by unfold NS.left;dsimp only;omega)⟩
theorem Dn.needX {K:Nat} {e:D} (h:∀ v∈Ar K e,v.toNat < vn):Dn vn yn n (fun st=>st.needX K e):=Dn.foldl _ (fun v hv=>Dn.needV (h v hv))
structure Rg (vn yn n K:Nat) (fs:List FnD) (x:Nat × D × Nat):Prop where
 num:x.1 < n
 expr:∀ v∈Ar K (Ao x.2.1),v.toNat < vn
 chan:Af x.2.1=3->(Ae x.2.1).toNat < yn
 args:Af x.2.1=2->∀ q∈(Bv fs (Ae x.2.1)).ps.zip (Al x.2.1),∀ v∈Ar K q.2,v.toNat < vn
 res:Af x.2.1=2->∀ v∈Ar K (Bv fs (Ae x.2.1)).res,v.toNat < vn
variable {ch:Int} {K kf:Nat} {fs:List FnD}
theorem Dn.needFor {x:Nat × D × Nat} (h:Rg vn yn n K fs x):Dn vn yn n (fun st=>needFor K fs st x.2.1):=by
 unfold Ex.needFor;by_cases h3:Af x.2.1=3
 ·simp only [if_pos h3]
  exact Dn.comp (Dn.needC (h.chan h3)) (Dn.needX h.expr)
 ·simp only [if_neg h3]
  by_cases h2:Af x.2.1=2
  ·simp only [if_pos h2]
   exact Dn.comp (f:=fun st=>if st.vs.getD (Ax x.2.1).toNat false=true then st.needX K (Bv fs (Ae x.2.1)).res else st) (g:=fun st=>((Bv fs (Ae x.2.1)).ps.zip (Al x.2.1)).foldl (Ex.needA K) (st.needX K (Ao x.2.1))) (Dn.ite (P:=fun st=>st.vs.getD (Ax x.2.1).toNat false=true) (Dn.needX (h.res h2)) Dn.id) (Dn.comp (f:=fun st=>((Bv fs (Ae x.2.1)).ps.zip (Al x.2.1)).foldl (Ex.needA K) st) (Dn.foldl _ (fun q b=>Dn.ite (P:=fun st=>st.vs.getD q.1.toNat false=true) (Dn.needX (h.args h2 q b)) Dn.id)) (Dn.needX h.expr))
  ·simp only [if_neg h2]
   exact Dn.needX h.expr
theorem Dn.look1 {x:Nat × D × Nat} (h:Rg vn yn n K fs x):Dn vn yn n (fun st=>look1 ch K kf fs st x):=Dn.ite (P:=fun st=>Cf ch kf fs st x=true) (Dn.comp (f:=fun st=>Ex.needFor K fs st x.2.1) (Dn.needFor h) (Dn.needN h.num)) Dn.id
theorem Dn.look {C:List (Nat × D × Nat)} (h:∀ x∈C,Rg vn yn n K fs x):Dn vn yn n (fun st=>C.foldl (Ex.look1 ch K kf fs) st):=Dn.foldl C (fun x hx=>Dn.look1 (h x hx))
theorem E8 {C:List (Nat × D × Nat)} (hC:∀ x∈C,Rg vn yn n K fs x):∀ (g:Nat) (st:NS),Ln vn yn n st->(st.mo=true->st.left < g)->(rounds ch K kf fs C g st).mo=false/\Ln vn yn n (rounds ch K kf fs C g st)/\(st.mo=true->∀ x∈C,look1 ch K kf fs (rounds ch K kf fs C g st) x=rounds ch K kf fs C g st)
 | 0,st,hl,hg=>by
  cases hm:st.mo with
  | false=>exact ⟨hm,hl,fun h=>by cases h⟩
  | true=>have:=hg hm;omega
 | g+1,st,hl,hg=>by
  cases hm:st.mo with
  | false=>
   unfold rounds;rw [hm];exact ⟨hm,hl,fun h=>by cases h⟩
  | true=>
   have hlt:=hg hm;have hl1:Ln vn yn n { st with mo:=false }:=⟨hl.vs,hl.cs,hl.nd⟩;obtain ⟨d1,d2⟩:=Dn.look (ch:=ch) (kf:=kf) hC { st with mo:=false } hl1;dsimp only at d1 d2;unfold rounds;rw [if_pos hm];generalize hst2:C.foldl (look1 ch K kf fs) { st with mo:=false }=st2 at *;have hi:=E8 hC g st2 d1 (fun h2=>by
    rcases d2 with d2 | d2
    ·rw [d2] at h2;cases h2
    ·have:({ st with mo:=false }:NS).left=st.left:=rfl
     omega)
   refine ⟨hi.1,hi.2.1,fun _=>?_⟩
   cases h2:st2.mo with
   | true=>exact hi.2.2 h2
   | false=>
    have e:rounds ch K kf fs C g st2=st2:=by
     cases g with
     | zero=>rfl
     | succ g=>unfold rounds;rw [h2];rfl
    rw [e];have b:=EQ (Ky.look1 (ch:=ch) (K:=K) (kf:=kf) (fs:=fs)) C { st with mo:=false } (by rw [hst2];exact h2);rw [<-hst2,b.1];exact b.2
theorem M9 {l:List D} (hR:∀ x∈Cz kf fs l,Rg vn yn (Ap kf fs+Ai kf l) K fs x) (hflat:∀ x∈Cz kf fs l,Af x.2.1≠7->Af x.2.1≠8->Ag x.2.1=[]/\Ak x.2.1=[]) :
  (A6 ch K kf fs l vn yn).mo=false/\Ln vn yn (Ap kf fs+Ai kf l) (A6 ch K kf fs l vn yn)/\∀ x∈Cz kf fs l,Cl (A6 ch K kf fs l vn yn).nd (A6 ch K kf fs l vn yn).vs (A6 ch K kf fs l vn yn).cs ch K kf fs x:=by
 have h:=E8 (ch:=ch) (kf:=kf) hR (vn+yn+(Ap kf fs+Ai kf l)+1) (ns0 vn yn (Ap kf fs+Ai kf l)) ⟨by simp [ns0],by simp [ns0],by simp [ns0]⟩ (fun _=>by
  unfold NS.left ns0;simp only [List.count_replicate_self];omega)
 have d:NJ ch kf fs (Cz kf fs l) (A6 ch K kf fs l vn yn):=Ii (OT kf fs l) _ _ (fun x c b=>by
  unfold ns0 at b;dsimp only at b;rw [List.getD_eq_getElem?_getD,List.getElem?_replicate] at b;split at b <;> cases b)
 exact ⟨h.1,h.2.1,fun x c=>Nv h.1 (h.2.2 rfl x c) (d x c) (hflat x c)⟩
end
section
variable {nd nv ni:List Bool} {ch:Int} {K kf:Nat} {fs:List FnD}
theorem Pp {l:List D} (hd:∀ i (h:i < fs.length),∀ x∈fs[i].body,dpS kf x) (h:∀ x∈Cz kf fs l,Cl nd nv ni ch K kf fs x):ClF nd nv ni ch K kf fs:=
 ⟨hd,fun i hi x hx=>h x (List.mem_append_left _ (FA hi (by rw [Nat.zero_add];exact hx)))⟩
end
end Go.Proofs.YtfffpjkcfnekaaaGreat.Ex
