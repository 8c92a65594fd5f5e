/- Trees in memory, however deep; what was read has short names. -/
import Derived.Test.YtipngnjffjajpaaGreatDoorK06
set_option linter.unusedVariables false
set_option maxHeartbeats 8000000
set_option maxRecDepth 100000
namespace Go.Proofs.YtipngnjffjajpaaGreatDoor.Tx
open Go.RowKit
open Go.Value renaming int -> O, slice -> zd, bool -> ze, agg -> zf, pointer -> zh, tuple -> zj
open Go.IntKind renaming i64 -> zc
open Go.Obj renaming cells -> zg
open Go.Ending renaming returned -> zi
def ZE (W:World):Nat->List Value->D->Prop
 | 0,_,_=>False
 | k+1,cs,d=>∃ (kd a n:Int) (x:ByteArray) (ao:Option Addr) (c:Nat) (ds:List D),cs=[O zc kd,O zc a,O zc n,.string x,zd ao ds.length c]/\d=eD kd a n x ds/\x.size<=maxLen/\LS 5 (ZE W k) W (zd ao ds.length c) ds
def ZC (W:World) (ke:Nat):Nat->List Value->D->Prop
 | 0,_,_=>False
 | k+1,cs,d=>∃ (kd a:Int) (x y:ByteArray) (e0 e1 e2:Int) (e3:ByteArray) (q:Option Addr) (q1 q2:Nat) (e:D) (aA:Option Addr) (cA:Nat) (args:List D) (aT:Option Addr) (cT:Nat) (th:List D) (aE:Option Addr) (cE:Nat) (el:List D),
   cs=[O zc kd,O zc a,.string x,.string y,O zc e0,O zc e1,O zc e2,.string e3,zd q q1 q2,zd aA args.length cA,zd aT th.length cT,zd aE el.length cE]/\d=stD kd a x y e args th el/\x.size<=maxLen/\y.size<=maxLen/\ZE W ke [O zc e0,O zc e1,O zc e2,.string e3,zd q q1 q2] e/\LS 5 (ZE W ke) W (zd aA args.length cA) args/\LS 12 (ZC W ke k) W (zd aT th.length cT) th/\LS 12 (ZC W ke k) W (zd aE el.length cE) el
def ZN (cs:List Value) (x:ByteArray):Prop:=cs=[.string x]/\x.size<=maxLen
def ZP (W:World) (cs:List Value) (d:D):Prop:=∃ (a:Int) (o:ByteArray) (wr:Bool) (an:Option Addr) (cn:Nat) (ns:List ByteArray),cs=[O zc a,.string o,ze wr,zd an ns.length cn]/\d=DD a o wr ns/\o.size<=maxLen/\LS 1 ZN W (zd an ns.length cn) ns
def ZD (W:World) (ke kc:Nat) (cs:List Value) (d:D):Prop:=∃ (kd a:Int) (x y:ByteArray) (gv:Bool) (aL:Option Addr) (cL:Nat) (lb:List D) (aP:Option Addr) (cP:Nat) (ps:List ByteArray) (aB:Option Addr) (cB:Nat) (body:List D) (e0 e1 e2:Int) (e3:ByteArray) (q:Option Addr) (q1 q2:Nat) (r:D),
  cs=[O zc kd,O zc a,.string x,.string y,ze gv,zd aL lb.length cL,zd aP ps.length cP,zd aB body.length cB,O zc e0,O zc e1,O zc e2,.string e3,zd q q1 q2]/\d=deD kd a x y gv lb ps body r/\x.size<=maxLen/\y.size<=maxLen/\LS 4 (ZP W) W (zd aL lb.length cL) lb/\LS 1 ZN W (zd aP ps.length cP) ps/\LS 12 (ZC W ke kc) W (zd aB body.length cB) body/\ZE W ke [O zc e0,O zc e1,O zc e2,.string e3,zd q q1 q2] r
def ZT (W:World) (ke kc:Nat) (v:Value) (ds l:List D):Prop:=∃ (a:Option Addr) (c:Nat) (a2:Option Addr) (c2:Nat),v=zf #[zd a ds.length c,zd a2 l.length c2]/\LS 13 (ZD W ke kc) W (zd a ds.length c) ds/\LS 12 (ZC W ke kc) W (zd a2 l.length c2) l
theorem LS.up {α:Type} {size:Nat} {R R':List Value->α->Prop} {w w':World} {v:Value} {l:List α} (h:LS size R w v l) (hw:∀ a u,w.cell? a=some u->w'.cell? a=some u) (hz:∀ (b off:Nat) {n:Nat},Fz0 w b off n->Fz0 w' b off n) (hR:∀ cs a,a∈l->R cs a->R' cs a):LS size R' w' v l:=by
 obtain ⟨G,H,g,F,E⟩:=h;refine ⟨G,H,g,F,fun c=>?_⟩;obtain ⟨b,off,C,f,B⟩:=E c;refine ⟨b,off,C,hz b off f,fun i a r=>?_⟩;obtain ⟨cs,q1,y,x⟩:=B i a r;exact ⟨cs,q1,fun j u A=>hw _ _ (y j u A),hR cs a (List.mem_of_getElem? r) x⟩
section
variable {W W':World}
theorem ZE.up (hw:∀ a u,W.cell? a=some u->W'.cell? a=some u) (hz:∀ (b off:Nat) {n:Nat},Fz0 W b off n->Fz0 W' b off n):∀ {k m:Nat} {cs:List Value} {d:D},k<=m->ZE W k cs d->ZE W' m cs d
 | 0,m,cs,d,_,h=>h.elim
 | k+1,0,cs,d,hk,h=>absurd hk (by omega)
 | k+1,m+1,cs,d,hk,h=>by
  obtain ⟨kd,a,n,x,ao,c,ds,h1,h2,h3,h4⟩:=h;exact ⟨kd,a,n,x,ao,c,ds,h1,h2,h3,h4.up hw hz fun cs d _ hh=>ZE.up hw hz (by omega) hh⟩
theorem ZC.up (hw:∀ a u,W.cell? a=some u->W'.cell? a=some u) (hz:∀ (b off:Nat) {n:Nat},Fz0 W b off n->Fz0 W' b off n) {ke ke':Nat} (hke:ke<=ke'):∀ {k m:Nat} {cs:List Value} {d:D},k<=m->ZC W ke k cs d->ZC W' ke' m cs d
 | 0,m,cs,d,_,h=>h.elim
 | k+1,0,cs,d,hk,h=>absurd hk (by omega)
 | k+1,m+1,cs,d,hk,h=>by
  obtain ⟨kd,a,x,y,e0,e1,e2,e3,q,q1,q2,e,aA,cA,args,aT,cT,th,aE,cE,el,h1,h2,h3,h4,h5,h6,h7,h8⟩:=h;exact ⟨kd,a,x,y,e0,e1,e2,e3,q,q1,q2,e,aA,cA,args,aT,cT,th,aE,cE,el,h1,h2,h3,h4,h5.up hw hz hke,h6.up hw hz fun cs d _ hh=>hh.up hw hz hke,h7.up hw hz fun cs d _ hh=>ZC.up hw hz hke (by omega) hh,h8.up hw hz fun cs d _ hh=>ZC.up hw hz hke (by omega) hh⟩
theorem ZP.up (hw:∀ a u,W.cell? a=some u->W'.cell? a=some u) (hz:∀ (b off:Nat) {n:Nat},Fz0 W b off n->Fz0 W' b off n) {cs:List Value} {d:D} (h:ZP W cs d):ZP W' cs d:=by
 obtain ⟨a,o,wr,r,l,c,j,i,g,f⟩:=h;exact ⟨a,o,wr,r,l,c,j,i,g,f.up hw hz fun _ _ _ h=>h⟩
theorem ZD.up (hw:∀ a u,W.cell? a=some u->W'.cell? a=some u) (hz:∀ (b off:Nat) {n:Nat},Fz0 W b off n->Fz0 W' b off n) {ke ke' kc kc':Nat} (hke:ke<=ke') (hkc:kc<=kc') {cs:List Value} {d:D} (h:ZD W ke kc cs d):ZD W' ke' kc' cs d:=by
 obtain ⟨j,a,x,y,H,Q,N,i,P,M,g,R,O,c,L,K,J,I,q,q1,f,r,G,F,E,C,B,A,v,l⟩:=h;exact ⟨j,a,x,y,H,Q,N,i,P,M,g,R,O,c,L,K,J,I,q,q1,f,r,G,F,E,C,B.up hw hz fun _ _ _ h=>h.up hw hz,A.up hw hz fun _ _ _ h=>h,v.up hw hz fun _ _ _ h=>h.up hw hz hke hkc,l.up hw hz hke⟩
theorem ZT.up (hw:∀ a u,W.cell? a=some u->W'.cell? a=some u) (hz:∀ (b off:Nat) {n:Nat},Fz0 W b off n->Fz0 W' b off n) {ke ke' kc kc':Nat} (hke:ke<=ke') (hkc:kc<=kc') {v:Value} {ds l:List D} (h:ZT W ke kc v ds l):ZT W' ke' kc' v ds l:=by
 obtain ⟨a,c,r,j,i,g,f⟩:=h;exact ⟨a,c,r,j,i,g.up hw hz fun _ _ _ h=>h.up hw hz hke hkc,f.up hw hz fun _ _ _ h=>h.up hw hz hke hkc⟩
end
theorem fzO {W W':World} (hb:Ov W W'):∀ (b off:Nat) {n:Nat},Fz0 W b off n->Fz0 W' b off n:=fun b off _ h=>h.of_block (hb.block b h.1)
section
variable {W W':World}
theorem ZE.over (hb:Ov W W') {k:Nat} {cs:List Value} {d:D} (h:ZE W k cs d):ZE W' k cs d:=h.up (fun _ _ h=>ce1 hb h) (fzO hb) (Nat.le_refl _)
theorem ZC.over (hb:Ov W W') {ke k:Nat} {cs:List Value} {d:D} (h:ZC W ke k cs d):ZC W' ke k cs d:=h.up (fun _ _ h=>ce1 hb h) (fzO hb) (Nat.le_refl _) (Nat.le_refl _)
theorem ZP.over (hb:Ov W W') {cs:List Value} {d:D} (h:ZP W cs d):ZP W' cs d:=h.up (fun _ _ h=>ce1 hb h) (fzO hb)
theorem ZD.over (hb:Ov W W') {ke kc:Nat} {cs:List Value} {d:D} (h:ZD W ke kc cs d):ZD W' ke kc cs d:=h.up (fun _ _ h=>ce1 hb h) (fzO hb) (Nat.le_refl _) (Nat.le_refl _)
theorem ZT.over (hb:Ov W W') {ke kc:Nat} {v:Value} {ds l:List D} (h:ZT W ke kc v ds l):ZT W' ke kc v ds l:=h.up (fun _ _ h=>ce1 hb h) (fzO hb) (Nat.le_refl _) (Nat.le_refl _)
theorem BQ (hb:Ov W W') {k:Nat} {v:Value} {ds:List D} (h:LS 5 (ZE W k) W v ds):LS 5 (ZE W' k) W' v ds:=h.up (fun _ _ h=>ce1 hb h) (fzO hb) fun _ _ _ h=>h.over hb
theorem Ar (hb:Ov W W') {ke k:Nat} {v:Value} {ds:List D} (h:LS 12 (ZC W ke k) W v ds):LS 12 (ZC W' ke k) W' v ds:=h.up (fun _ _ h=>ce1 hb h) (fzO hb) fun _ _ _ h=>h.over hb
theorem Dj (hb:Ov W W') {v:Value} {ds:List D} (h:LS 4 (ZP W) W v ds):LS 4 (ZP W') W' v ds:=h.up (fun _ _ h=>ce1 hb h) (fzO hb) fun _ _ _ h=>h.over hb
theorem Ha (hb:Ov W W') {ke k:Nat} {v:Value} {ds:List D} (h:LS 13 (ZD W ke k) W v ds):LS 13 (ZD W' ke k) W' v ds:=h.up (fun _ _ h=>ce1 hb h) (fzO hb) fun _ _ _ h=>h.over hb
theorem Bu (hb:Ov W W') {v:Value} {ns:List ByteArray} (h:LS 1 ZN W v ns):LS 1 ZN W' v ns:=h.up (fun _ _ h=>ce1 hb h) (fzO hb) fun _ _ _ h=>h
end
def QO:Nat->D->Prop
 | 0,_=>True
 | k+1,d=>match d with
  | .lit (.string x)=>x.length<=6000
  | .agg l=>∀ a∈l,QO k a
  | .slice l _=>∀ a∈l,QO k a
  | _=>True
def SD (d:D):Prop:=∀ k,QO k d
theorem SD.agg {l:List D} (h:∀ a∈l,SD a):SD (.agg l):=fun k=>by
 cases k with
 | zero=>trivial
 | succ k=>exact fun a ha=>h a ha k
theorem SD.list {l:List D} (h:∀ a∈l,SD a):SD (dL l):=fun k=>by
 cases k with
 | zero=>trivial
 | succ k=>exact fun a ha=>h a ha k
theorem SD.int (n:Int):SD (dI n):=fun k=>by cases k <;> trivial
theorem SD.bool (n:Bool):SD (dB n):=fun k=>by cases k <;> trivial
theorem SD.str {x:ByteArray} (h:x.size<=6000):SD (dS x):=fun k=>by
 cases k with
 | zero=>trivial
 | succ k=>show x.data.toList.length<=6000;simpa using h
theorem SD.of_agg {l:List D} (h:SD (.agg l)):∀ a∈l,SD a:=fun a ha k=>h (k+1) a ha
theorem SD.of_list {l:List D} (h:SD (dL l)):∀ a∈l,SD a:=fun a ha k=>h (k+1) a ha
theorem SD.of_str {x:ByteArray} (h:SD (dS x)):x.size<=6000:=by
 have:x.data.toList.length<=6000:=h 1;simpa using this
theorem SD.e {kd a n:Int} {x:ByteArray} {ds:List D} (hx:x.size<=6000) (h:∀ a∈ds,SD a):SD (eD kd a n x ds):=SD.agg fun y hy=>by
 simp at hy;rcases hy with rfl | rfl | rfl | rfl | rfl
 ·exact SD.int _
 ·exact SD.int _
 ·exact SD.int _
 ·exact SD.str hx
 ·exact SD.list h
theorem SD.s {kd a:Int} {x y:ByteArray} {e:D} {args th el:List D} (hx:x.size<=6000) (hy:y.size<=6000) (he:SD e) (h1:∀ a∈args,SD a) (h2:∀ a∈th,SD a) (h3:∀ a∈el,SD a):SD (stD kd a x y e args th el):=SD.agg fun y hy=>by
 simp at hy;rcases hy with rfl | rfl | rfl | rfl | rfl | rfl | rfl | rfl
 ·exact SD.int _
 ·exact SD.int _
 ·exact SD.str hx
 ·exact SD.str (by assumption)
 ·exact he
 ·exact SD.list h1
 ·exact SD.list h2
 ·exact SD.list h3
theorem SD.strs {ns:List ByteArray} (h:∀ x∈ns,x.size<=6000):∀ a∈ns.map dS,SD a:=fun a ha=>by
 obtain ⟨x,hx,rfl⟩:=List.mem_map.1 ha;exact SD.str (h x hx)
theorem SD.of_strs {ns:List ByteArray} (h:∀ a∈ns.map dS,SD a):∀ x∈ns,x.size<=6000:=fun x hx=>SD.of_str (h _ (List.mem_map_of_mem hx))
theorem SD.p {a:Int} {o:ByteArray} {wr:Bool} {ns:List ByteArray} (ho:o.size<=6000) (h:∀ x∈ns,x.size<=6000):SD (DD a o wr ns):=SD.agg fun y hy=>by
 simp at hy;rcases hy with rfl | rfl | rfl | rfl
 ·exact SD.int _
 ·exact SD.str ho
 ·exact SD.bool _
 ·exact SD.list (SD.strs h)
theorem SD.d {kd a:Int} {x y:ByteArray} {gv:Bool} {lb:List D} {ps:List ByteArray} {body:List D} {r:D} (hx:x.size<=6000) (hy:y.size<=6000) (h1:∀ a∈lb,SD a) (h2:∀ x∈ps,x.size<=6000) (h3:∀ a∈body,SD a) (hr:SD r):SD (deD kd a x y gv lb ps body r):=SD.agg fun y hy=>by
 simp at hy;rcases hy with rfl | rfl | rfl | rfl | rfl | rfl | rfl | rfl | rfl
 ·exact SD.int _
 ·exact SD.int _
 ·exact SD.str hx
 ·exact SD.str (by assumption)
 ·exact SD.bool _
 ·exact SD.list h1
 ·exact SD.list (SD.strs h2)
 ·exact SD.list h3
 ·exact hr
theorem Sr {α:Type} {P:α->Prop} {a b c d:α} (h:∀ y∈[a,b,c,d],P y):P a/\P b/\P c/\P d:=⟨h a (by simp),h b (by simp),h c (by simp),h d (by simp)⟩
theorem Sq {α:Type} {P:α->Prop} {a b c d e:α} (h:∀ y∈[a,b,c,d,e],P y):P a/\P b/\P c/\P d/\P e:=⟨h a (by simp),h b (by simp),h c (by simp),h d (by simp),h e (by simp)⟩
theorem Sp {α:Type} {P:α->Prop} {a b c d e f g i:α} (h:∀ y∈[a,b,c,d,e,f,g,i],P y):P a/\P b/\P c/\P d/\P e/\P f/\P g/\P i:=⟨h a (by simp),h b (by simp),h c (by simp),h d (by simp),h e (by simp),h f (by simp),h g (by simp),h i (by simp)⟩
theorem So {α:Type} {P:α->Prop} {a b c d e f g i j:α} (h:∀ y∈[a,b,c,d,e,f,g,i,j],P y):P a/\P b/\P c/\P d/\P e/\P f/\P g/\P i/\P j:=⟨h a (by simp),h b (by simp),h c (by simp),h d (by simp),h e (by simp),h f (by simp),h g (by simp),h i (by simp),h j (by simp)⟩
theorem C9 {n:Nat} (h:n<=6000):n<=maxLen:=by unfold maxLen;omega
theorem ZE.cells {W:World} {k:Nat} {cs:List Value} {d:D} (h:ZE W k cs d):∃ (kd a n:Int) (x:ByteArray) (q:Option Addr) (q1 q2:Nat),cs=[O zc kd,O zc a,O zc n,.string x,zd q q1 q2]:=by
 cases k with
 | zero=>exact h.elim
 | succ k=>
  obtain ⟨kd,a,n,x,f,c,g,b,-⟩:=h;exact ⟨kd,a,n,x,f,_,c,b⟩
theorem ZC.cells {W:World} {ke k:Nat} {cs:List Value} {d:D} (h:ZC W ke k cs d):∃ (kd a:Int) (x y:ByteArray) (e0 e1 e2:Int) (e3:ByteArray) (q:Option Addr) (q1 q2:Nat) (aA:Option Addr) (nA cA:Nat) (aT:Option Addr) (nT cT:Nat) (aE:Option Addr) (nE cE:Nat),cs=[O zc kd,O zc a,.string x,.string y,O zc e0,O zc e1,O zc e2,.string e3,zd q q1 q2,zd aA nA cA,zd aT nT cT,zd aE nE cE]:=by
 cases k with
 | zero=>exact h.elim
 | succ k=>
  obtain ⟨kd,a,x,y,e0,e1,e2,e3,q,q1,q2,e,aA,cA,b,aT,cT,f,aE,cE,g,c,-⟩:=h;exact ⟨kd,a,x,y,e0,e1,e2,e3,q,q1,q2,aA,_,cA,aT,_,cT,aE,_,cE,c⟩
theorem ZP.cells {W:World} {cs:List Value} {d:D} (h:ZP W cs d):∃ (a:Int) (o:ByteArray) (wr:Bool) (an:Option Addr) (nn cn:Nat),cs=[O zc a,.string o,ze wr,zd an nn cn]:=by
 obtain ⟨a,o,wr,an,cn,c,b,-⟩:=h;exact ⟨a,o,wr,an,_,cn,b⟩
theorem ZD.cells {W:World} {ke kc:Nat} {cs:List Value} {d:D} (h:ZD W ke kc cs d):∃ (kd a:Int) (x y:ByteArray) (gv:Bool) (aL:Option Addr) (nL cL:Nat) (aP:Option Addr) (nP cP:Nat) (aB:Option Addr) (nB cB:Nat) (e0 e1 e2:Int) (e3:ByteArray) (q:Option Addr) (q1 q2:Nat),cs=[O zc kd,O zc a,.string x,.string y,ze gv,zd aL nL cL,zd aP nP cP,zd aB nB cB,O zc e0,O zc e1,O zc e2,.string e3,zd q q1 q2]:=by
 obtain ⟨kd,a,x,y,gv,aL,cL,g,aP,cP,f,aB,cB,b,e0,e1,e2,e3,q,q1,q2,r,c,-⟩:=h;exact ⟨kd,a,x,y,gv,aL,_,cL,aP,_,cP,aB,_,cB,e0,e1,e2,e3,q,q1,q2,c⟩
abbrev Ro (F:FuncId) (args:Array Value) (w:World) (r:Value):Prop:=Calls Tryz.prog F args w fun e w'=>e=zi r/\Ov w w'
theorem LS.at {α:Type} {size:Nat} {R:List Value->α->Prop} {w:World} {ao:Option Addr} {n c:Nat} {l:List α} (h:LS size R w (zd ao n c) l) {j:Nat} (hj:j < l.length) :
  ∃ b off,ao=some ⟨b,off,none⟩/\∃ cs:List Value,cs.length=size/\(∀ (i:Nat) (u:Value),cs[i]? = some u->w.cell? ⟨b,off+j*size+i,none⟩=some u)/\R cs l[j]:=by
 obtain ⟨-,A,y,e,v⟩:=h;injection e with x C B;subst x;obtain ⟨b,off,r,-,g⟩:=v (by rintro rfl;simp at hj);obtain ⟨cs,q1,f,a⟩:=g j l[j] (List.getElem?_eq_getElem hj);exact ⟨b,off,r,cs,q1,f,a⟩
theorem LS.fz {α:Type} {size:Nat} {R:List Value->α->Prop} {w:World} {ao:Option Addr} {n c:Nat} {l:List α} (h:LS size R w (zd ao n c) l) (hl:l≠[]):∃ b off,ao=some ⟨b,off,none⟩/\Fz0 w b off (l.length*size):=by
 obtain ⟨-,r,j,e,g⟩:=h;injection e with i v u;subst i;obtain ⟨b,off,f,a,-⟩:=g hl;exact ⟨b,off,f,a⟩
theorem LS.max {α:Type} {size:Nat} {R:List Value->α->Prop} {w:World} {v:Value} {l:List α} (h:LS size R w v l):l.length<=9223372036854775807:=h.1
theorem El {α β:Type} {F:β->α->β} {l:List α} {j:Nat} (hj:j < l.length) (s:β):(l.drop j).foldl F s=(l.drop (j+1)).foldl F (F s l[j]):=by
 rw [List.drop_eq_getElem_cons hj,List.foldl_cons]
theorem J1 (k:Nat):∀ (l:List D) (t:Int),t < 0->l.foldl (fun l a=>if l < 0 then l else plK k a l) t=t
 | [],t,h=>rfl
 | a::l,t,h=>by rw [List.foldl_cons,if_pos h];exact J1 k l t h
theorem J2:∀ (k:Nat) (cs:List Value) (d:D) (w:World) (L:Int),ZE w k cs d->0<=L->L<=15->Ro 139 #[.agg cs.toArray,O zc L] w (O zc (plK k d L)):=by
 intro k
 induction k with
 | zero=>intro cs d w L h;exact h.elim
 | succ k ih=>
  intro cs d w L h L0 L1;obtain ⟨N,a,n,x,Y,c,C,rfl,rfl,-,Q⟩:=h;have HC:=Aa Q;have IH:=Aa ih;have HL:=Q.max;obtain ⟨fin,y⟩:=nm (C.foldl (fun l a=>if l < 0 then l else plK k a l) (L - 1));have v:plK (k+1) (eD N a n x C) L=fin:=by rw [y];rfl
  rw [v];have HF:=Aa y;obtain ⟨E,G⟩:=nm C.length;rw [<-G] at HL ⊢;have HN:=Aa G;have B:=bA w (zg #[O zc N,O zc a,O zc n,.string x,zd Y E c] 49);clear Q ih v y G;show Ro 139 #[zf #[O zc N,O zc a,O zc n,.string x,zd Y E c],O zc L] w _;go_enter Tryz.func139,Tryz.ntmps139;go_wp2_with fail;go_loopw [1,12] (fun c i wr=>∃ (j:Nat) (t:Int),j<=E/\i=O zc j/\c=O zc t/\-1<=t/\t<=15/\(C.drop j).foldl (fun l a=>if l < 0 then l else plK k a l) t=fin/\Ov w wr) (fun _ i _=>E - (intOf i).toNat)
  case atStart=>exact ⟨0,L - 1,Nat.zero_le _,rfl,by go_num,by omega,by omega,HF.o.symm,B⟩
  case round=>
   clear B;obtain ⟨j,t,hj,rfl,rfl,t1,t2,u,A⟩:=hrel;by_cases hjl:j < E
   ·have f:j < C.length:=by have:=HN.o;omega
    obtain ⟨b,ad,rfl,cs,H,g,hr⟩:=HC.o.at f;rw [El f] at u;by_cases ht0:t < 0
    ·rw [if_pos ht0,J1 k _ _ ht0] at u
     obtain ⟨k0,k1,k2,k3,q,q1,q2,rfl⟩:=hr.cells;have W:=CK A g rfl;have V:=CJ A g;have K:=Aa u;have M:=Aa A;clear g H hr u A f;have P:(j:Int) < (E:Int):=by omega
     go_wp2_with fail;go_ret;exact ⟨by rw [K.o];rfl,Ab M.o (bA _ _)⟩
    ·rw [if_neg ht0] at u
     have T:=N9 k C[j] t (by omega);obtain ⟨U,I⟩:=nm C[j];rw [<-I] at u T hr;obtain ⟨r,F⟩:=nm (plK k U t);have Z:Hx (∀ X,Ov wr X->Ro 139 #[.agg cs.toArray,O zc t] X (O zc r)):=fun X hX=>by rw [F];exact IH.o cs U X t ((hr.over A).over hX) (by omega) (by omega)
     obtain ⟨k0,k1,k2,k3,q,q1,q2,rfl⟩:=hr.cells;have W:=CK A g rfl;have V:=CJ A g;rw [<-F] at u T;have K:=Aa u;have M:=Aa A;have P:(j:Int) < (E:Int):=by omega
     clear g H hr u A f F I;go_wp2_with fail;refine mo (Z.o _ (bA _ _)) fun w1 J=>?_;have R:Hx (Ov w w1):=Ab M.o (Ab (bA _ _) J);clear J W V Z;go_wp2_with fail;exact ⟨⟨j+1,r,by omega,by go_num,rfl,by omega,by omega,K.o,R.o⟩,by simp [intOf];omega⟩
   ·have S:C.drop j=[]:=List.drop_eq_nil_of_le (by have:=HN.o;omega)
    rw [S] at u;have K:=Aa u;have M:=Aa A;clear u A S;go_wp2_with fail;go_ret;exact ⟨by rw [<-K.o];rfl,M.o⟩
theorem Mz {α:Type} (p:α->Bool) (l:List α):(!l.all fun x=>!p x)=l.any p:=by
 induction l with
 | nil=>rfl
 | cons a l ih=>rw [List.all_cons,List.any_cons,<-ih];cases p a <;> simp
theorem F2 (k:Nat) (cs:List Value) (d:D) (w:World) (h:ZE w k cs d):Ro 104 #[.agg cs.toArray] w (ze (Cm k d)):=by
 obtain ⟨r,hr⟩:=nm (plK k d 15);have c:Hx (∀ X,Ov w X->Ro 139 #[.agg cs.toArray,O zc 15] X (O zc r)):=fun X g=>by rw [hr];exact J2 k cs d X 15 (h.over g) (by omega) (by omega)
 obtain ⟨j,k1,k2,k3,q,q1,i,rfl⟩:=h.cells;unfold Cm;rw [<-hr];clear h hr;go_enter Tryz.func104,Tryz.ntmps104;go_wp2_with fail;refine mo (c.o _ (bA _ _)) fun f a=>?_;have b:Hx (Ov w f):=Ab (bA _ _) a;clear a c;go_wp2_with fail;go_ret;exact ⟨rfl,b.o⟩
theorem M1 (k:Nat) (cs:List Value) (d:D) (w:World) (h:ZE w k cs d):Ro 140 #[.agg cs.toArray] w (ze (!Cm k d)):=by
 obtain ⟨r,hr⟩:=nm (Cm k d);have c:Hx (∀ X,Ov w X->Ro 104 #[.agg cs.toArray] X (ze r)):=fun X g=>by rw [hr];exact F2 k cs d X (h.over g)
 obtain ⟨j,k1,k2,k3,q,q1,i,rfl⟩:=h.cells;rw [<-hr];clear h hr;go_enter Tryz.func140,Tryz.ntmps140;go_wp2_with fail;refine mo (c.o _ (bA _ _)) fun f a=>?_;have b:Hx (Ov w f):=Ab (bA _ _) a;clear a c;go_wp2_with fail;go_ret;exact ⟨rfl,b.o⟩
theorem LY {k:Nat} (F:FuncId) (hC:∀ (args:Array Value) (w:World),(callFunc F args).run Tryz.prog w=.ok (.enter F args) w) (p:D->Bool) (l:List D) (ao:Option Addr) (cap:Nat) (w:World) (hp:∀ (cs:List Value) (d:D) (X:World),d∈l->ZE X k cs d->Ro F #[.agg cs.toArray] X (ze (p d))) (hc:LS 5 (ZE w k) w (zd ao l.length cap) l) :
  Ro 111 #[zd ao l.length cap,.func (.func F) #[] #[]] w (ze (l.all p)):=by
 have Z:=Aa hc;have E:=Aa hp;have W:=hc.max;obtain ⟨fin,f⟩:=nm (l.all p);rw [<-f];have Y:=Aa f;obtain ⟨B,r⟩:=nm l.length;rw [<-r] at W ⊢;have L:=Aa r;clear hc hp f r;go_enter Tryz.func111,Tryz.ntmps111;go_wp2_with fail;go_loopw [9] (fun i wr=>∃ (j:Nat),j<=B/\i=O zc j/\(l.drop j).all p=fin/\Ov w wr) (fun i _=>B - (intOf i).toNat)
 case atStart=>exact ⟨0,Nat.zero_le _,rfl,Y.o.symm,Below.refl _ _⟩
 case round=>
  obtain ⟨j,hj,rfl,hp,v⟩:=hrel;by_cases hjl:j < B
  ·have a:j < l.length:=by have:=L.o;omega
   obtain ⟨b,N,rfl,cs,C,u,hr⟩:=Z.o.at a;rw [List.drop_eq_getElem_cons a,List.all_cons] at hp;have c:=List.getElem_mem a;obtain ⟨J,x⟩:=nm l[j];rw [<-x] at hp hr c;obtain ⟨H,n⟩:=nm (p J);rw [<-n] at hp;have K:Hx (∀ X,Ov wr X->Ro F #[.agg cs.toArray] X (ze H)):=fun X Q=>by rw [n];exact E.o cs J X c ((hr.over v).over Q)
   obtain ⟨c0,c1,c2,c3,V,T,U,rfl⟩:=hr.cells;have S:=CK v u rfl;have R:=CJ v u;have g:=Aa hp;have G:=Aa v;have P:(j:Int) < (B:Int):=by omega
   clear u C hr hp v a n x c;go_wp2_with fail;refine mo (K.o _ (bA _ _)) fun M y=>?_;have A:Hx (Ov w M):=Ab G.o (Ab (bA _ _) y);clear y S R K
   cases H with
   | true=>
    have hp:=g.o;rw [Bool.true_and] at hp;replace g:=Aa hp;clear hp;go_wp2_with fail;exact ⟨⟨j+1,by omega,by go_num,g.o,A.o⟩,by simp [intOf];omega⟩
   | false=>
    have hp:=g.o;rw [Bool.false_and] at hp;replace g:=Aa hp;clear hp;go_wp2_with fail;go_ret;exact ⟨by rw [<-g.o];rfl,A.o⟩
  ·have I:l.drop j=[]:=List.drop_eq_nil_of_le (by have:=L.o;omega)
   rw [I] at hp;have g:=Aa hp;have G:=Aa v;clear hp v I;go_wp2_with fail;go_ret;exact ⟨by rw [<-g.o];rfl,G.o⟩
theorem LZ {ke k:Nat} (F:FuncId) (hC:∀ (args:Array Value) (w:World),(callFunc F args).run Tryz.prog w=.ok (.enter F args) w) (p:D->Bool) (l:List D) (ao:Option Addr) (cap:Nat) (w:World) (hp:∀ (cs:List Value) (d:D) (X:World),d∈l->ZC X ke k cs d->Ro F #[.agg cs.toArray] X (ze (p d))) (hc:LS 12 (ZC w ke k) w (zd ao l.length cap) l) :
  Ro 35 #[zd ao l.length cap,.func (.func F) #[] #[]] w (ze (l.all p)):=by
 have HC:=Aa hc;have E:=Aa hp;have HL:=hc.max;obtain ⟨fin,f⟩:=nm (l.all p);rw [<-f];have HF:=Aa f;obtain ⟨B,r⟩:=nm l.length;rw [<-r] at HL ⊢;have S:=Aa r;clear hc hp f r;go_enter Tryz.func35,Tryz.ntmps35;go_wp2_with fail;go_loopw [9] (fun i wr=>∃ (j:Nat),j<=B/\i=O zc j/\(l.drop j).all p=fin/\Ov w wr) (fun i _=>B - (intOf i).toNat)
 case atStart=>exact ⟨0,Nat.zero_le _,rfl,HF.o.symm,Below.refl _ _⟩
 case round=>
  obtain ⟨j,hj,rfl,hp,v⟩:=hrel;by_cases hjl:j < B
  ·have a:j < l.length:=by have:=S.o;omega
   obtain ⟨b,U,rfl,cs,C,u,hr⟩:=HC.o.at a;rw [List.drop_eq_getElem_cons a,List.all_cons] at hp;have c:=List.getElem_mem a;obtain ⟨J,x⟩:=nm l[j];rw [<-x] at hp hr c;obtain ⟨H,n⟩:=nm (p J);rw [<-n] at hp;have R:Hx (∀ X,Ov wr X->Ro F #[.agg cs.toArray] X (ze H)):=fun X W=>by rw [n];exact E.o cs J X c ((hr.over v).over W)
   obtain ⟨c0,c1,c2,c3,c4,c5,c6,c7,af,ad,ae,ac,aa,ab,Q,N,P,M,K,L,rfl⟩:=hr.cells;have Z:=CK v u rfl;have Y:=CJ v u;have g:=Aa hp;have G:=Aa v;have V:(j:Int) < (B:Int):=by omega
   clear u C hr hp v a n x c;go_wp2_with fail;refine mo (R.o _ (bA _ _)) fun T y=>?_;have A:Hx (Ov w T):=Ab G.o (Ab (bA _ _) y);clear y Z Y R
   cases H with
   | true=>
    have hp:=g.o;rw [Bool.true_and] at hp;replace g:=Aa hp;clear hp;go_wp2_with fail;exact ⟨⟨j+1,by omega,by go_num,g.o,A.o⟩,by simp [intOf];omega⟩
   | false=>
    have hp:=g.o;rw [Bool.false_and] at hp;replace g:=Aa hp;clear hp;go_wp2_with fail;go_ret;exact ⟨by rw [<-g.o];rfl,A.o⟩
  ·have I:l.drop j=[]:=List.drop_eq_nil_of_le (by have:=S.o;omega)
   rw [I] at hp;have g:=Aa hp;have G:=Aa v;clear hp v I;go_wp2_with fail;go_ret;exact ⟨by rw [<-g.o];rfl,G.o⟩
theorem Pg  (F:FuncId) (hC:∀ (args:Array Value) (w:World),(callFunc F args).run Tryz.prog w=.ok (.enter F args) w) (p:D->Bool) (l:List D) (ao:Option Addr) (cap:Nat) (w:World) (hp:∀ (cs:List Value) (d:D) (X:World),d∈l->ZP X cs d->Ro F #[.agg cs.toArray] X (ze (p d))) (hc:LS 4 (ZP w) w (zd ao l.length cap) l) :
  Ro 105 #[zd ao l.length cap,.func (.func F) #[] #[]] w (ze (l.all p)):=by
 have Z:=Aa hc;have E:=Aa hp;have W:=hc.max;obtain ⟨fin,f⟩:=nm (l.all p);rw [<-f];have Y:=Aa f;obtain ⟨B,r⟩:=nm l.length;rw [<-r] at W ⊢;have L:=Aa r;clear hc hp f r;go_enter Tryz.func105,Tryz.ntmps105;go_wp2_with fail;go_loopw [9] (fun i wr=>∃ (j:Nat),j<=B/\i=O zc j/\(l.drop j).all p=fin/\Ov w wr) (fun i _=>B - (intOf i).toNat)
 case atStart=>exact ⟨0,Nat.zero_le _,rfl,Y.o.symm,Below.refl _ _⟩
 case round=>
  obtain ⟨j,hj,rfl,hp,v⟩:=hrel;by_cases hjl:j < B
  ·have a:j < l.length:=by have:=L.o;omega
   obtain ⟨b,N,rfl,cs,C,u,hr⟩:=Z.o.at a;rw [List.drop_eq_getElem_cons a,List.all_cons] at hp;have c:=List.getElem_mem a;obtain ⟨J,x⟩:=nm l[j];rw [<-x] at hp hr c;obtain ⟨H,n⟩:=nm (p J);rw [<-n] at hp;have K:Hx (∀ X,Ov wr X->Ro F #[.agg cs.toArray] X (ze H)):=fun X Q=>by rw [n];exact E.o cs J X c ((hr.over v).over Q)
   obtain ⟨c0,c1,c2,V,T,U,rfl⟩:=hr.cells;have S:=CK v u rfl;have R:=CJ v u;have g:=Aa hp;have G:=Aa v;have P:(j:Int) < (B:Int):=by omega
   clear u C hr hp v a n x c;go_wp2_with fail;refine mo (K.o _ (bA _ _)) fun M y=>?_;have A:Hx (Ov w M):=Ab G.o (Ab (bA _ _) y);clear y S R K
   cases H with
   | true=>
    have hp:=g.o;rw [Bool.true_and] at hp;replace g:=Aa hp;clear hp;go_wp2_with fail;exact ⟨⟨j+1,by omega,by go_num,g.o,A.o⟩,by simp [intOf];omega⟩
   | false=>
    have hp:=g.o;rw [Bool.false_and] at hp;replace g:=Aa hp;clear hp;go_wp2_with fail;go_ret;exact ⟨by rw [<-g.o];rfl,A.o⟩
  ·have I:l.drop j=[]:=List.drop_eq_nil_of_le (by have:=L.o;omega)
   rw [I] at hp;have g:=Aa hp;have G:=Aa v;clear hp v I;go_wp2_with fail;go_ret;exact ⟨by rw [<-g.o];rfl,G.o⟩
theorem RF {ke k:Nat} (F:FuncId) (hC:∀ (args:Array Value) (w:World),(callFunc F args).run Tryz.prog w=.ok (.enter F args) w) (p:D->Bool) (l:List D) (ao:Option Addr) (cap:Nat) (w:World) (hp:∀ (cs:List Value) (d:D) (X:World),d∈l->ZD X ke k cs d->Ro F #[.agg cs.toArray] X (ze (p d))) (hc:LS 13 (ZD w ke k) w (zd ao l.length cap) l) :
  Ro 33 #[zd ao l.length cap,.func (.func F) #[] #[]] w (ze (l.all p)):=by
 have HC:=Aa hc;have E:=Aa hp;have HL:=hc.max;obtain ⟨fin,f⟩:=nm (l.all p);rw [<-f];have HF:=Aa f;obtain ⟨B,r⟩:=nm l.length;rw [<-r] at HL ⊢;have P:=Aa r;clear hc hp f r;go_enter Tryz.func33,Tryz.ntmps33;go_wp2_with fail;go_loopw [9] (fun i wr=>∃ (j:Nat),j<=B/\i=O zc j/\(l.drop j).all p=fin/\Ov w wr) (fun i _=>B - (intOf i).toNat)
 case atStart=>exact ⟨0,Nat.zero_le _,rfl,HF.o.symm,Below.refl _ _⟩
 case round=>
  obtain ⟨j,hj,rfl,hp,v⟩:=hrel;by_cases hjl:j < B
  ·have a:j < l.length:=by have:=P.o;omega
   obtain ⟨b,R,rfl,cs,C,u,hr⟩:=HC.o.at a;rw [List.drop_eq_getElem_cons a,List.all_cons] at hp;have c:=List.getElem_mem a;obtain ⟨J,x⟩:=nm l[j];rw [<-x] at hp hr c;obtain ⟨H,n⟩:=nm (p J);rw [<-n] at hp;have N:Hx (∀ X,Ov wr X->Ro F #[.agg cs.toArray] X (ze H)):=fun X T=>by rw [n];exact E.o cs J X c ((hr.over v).over T)
   obtain ⟨c0,c1,c2,c3,c4,af,ad,ae,ac,aa,ab,Z,W,Y,c8,c9,ah,ag,M,K,L,rfl⟩:=hr.cells;have V:=CK v u rfl;have U:=CJ v u;have g:=Aa hp;have G:=Aa v;have S:(j:Int) < (B:Int):=by omega
   clear u C hr hp v a n x c;go_wp2_with fail;refine mo (N.o _ (bA _ _)) fun Q y=>?_;have A:Hx (Ov w Q):=Ab G.o (Ab (bA _ _) y);clear y V U N
   cases H with
   | true=>
    have hp:=g.o;rw [Bool.true_and] at hp;replace g:=Aa hp;clear hp;go_wp2_with fail;exact ⟨⟨j+1,by omega,by go_num,g.o,A.o⟩,by simp [intOf];omega⟩
   | false=>
    have hp:=g.o;rw [Bool.false_and] at hp;replace g:=Aa hp;clear hp;go_wp2_with fail;go_ret;exact ⟨by rw [<-g.o];rfl,A.o⟩
  ·have I:l.drop j=[]:=List.drop_eq_nil_of_le (by have:=P.o;omega)
   rw [I] at hp;have g:=Aa hp;have G:=Aa v;clear hp v I;go_wp2_with fail;go_ret;exact ⟨by rw [<-g.o];rfl,G.o⟩
theorem Ph  (F:FuncId) (hC:∀ (args:Array Value) (w:World),(callFunc F args).run Tryz.prog w=.ok (.enter F args) w) (p:ByteArray->Bool) (l:List ByteArray) (ao:Option Addr) (cap:Nat) (w:World) (hp:∀ (x:ByteArray) (X:World),x.size<=maxLen->Ro F #[.string x] X (ze (p x))) (hc:LS 1 ZN w (zd ao l.length cap) l) :
  Ro 110 #[zd ao l.length cap,.func (.func F) #[] #[]] w (ze (l.all p)):=by
 have T:=Aa hc;have I:=Aa hp;have R:=hc.max;obtain ⟨fin,c⟩:=nm (l.all p);rw [<-c];have S:=Aa c;obtain ⟨C,r⟩:=nm l.length;rw [<-r] at R ⊢;have N:=Aa r;clear hc hp c r;go_enter Tryz.func110,Tryz.ntmps110;go_wp2_with fail;go_loopw [9] (fun i wr=>∃ (j:Nat),j<=C/\i=O zc j/\(l.drop j).all p=fin/\Ov w wr) (fun i _=>C - (intOf i).toNat)
 case atStart=>exact ⟨0,Nat.zero_le _,rfl,S.o.symm,Below.refl _ _⟩
 case round=>
  obtain ⟨j,V,rfl,hp,A⟩:=hrel;by_cases hjl:j < C
  ·have a:j < l.length:=by have:=N.o;omega
   obtain ⟨b,G,rfl,Y,H,u,hr⟩:=T.o.at a;rw [List.drop_eq_getElem_cons a,List.all_cons] at hp;have f:=List.getElem_mem a;obtain ⟨E,v⟩:=nm l[j];rw [<-v] at hp hr f;obtain ⟨K,n⟩:=nm (p E);rw [<-n] at hp;have M:Hx (∀ X,Ov wr X->Ro F #[.string E] X (ze K)):=fun X W=>by rw [n];exact I.o E X hr.2
   rw [hr.1] at u;have Q:wr.cell? ⟨b,G+j,none⟩=some (.string E):=ce1 A (by have:=u 0 _ rfl;simpa using this);have g:=Aa hp;have J:=Aa A;have P:(j:Int) < (C:Int):=by omega
   clear u H hr hp A a n v f;go_wp2_with fail;refine mo (M.o _ (Below.refl _ _)) fun U y=>?_;have B:=Aa (Ab J.o y);clear y Q M
   cases K with
   | true=>
    have hp:=g.o;rw [Bool.true_and] at hp;replace g:=Aa hp;clear hp;go_wp2_with fail;exact ⟨⟨j+1,by omega,by go_num,g.o,B.o⟩,by simp [intOf];omega⟩
   | false=>
    have hp:=g.o;rw [Bool.false_and] at hp;replace g:=Aa hp;clear hp;go_wp2_with fail;go_ret;exact ⟨by rw [<-g.o];rfl,B.o⟩
  ·have L:l.drop j=[]:=List.drop_eq_nil_of_le (by have:=N.o;omega)
   rw [L] at hp;have g:=Aa hp;have J:=Aa A;clear hp A L;go_wp2_with fail;go_ret;exact ⟨by rw [<-g.o];rfl,J.o⟩
theorem Hp (x:ByteArray):(⟨x.data.toList.toArray⟩:ByteArray)=x:=by simp
theorem R4 (x:ByteArray):CU [⟨1,0,x⟩]=if Ai ⟨1,0,x⟩=true then 0 else 1:=by
 unfold CU;by_cases h:Ai ⟨1,0,x⟩=true
 ·have a:x.size<=6000:=CX h
  have:BW [⟨1,0,x⟩]<=6001:=by simp [BW];omega
  simp [h,this]
 ·simp [h]
theorem D8 (x:ByteArray) (w:World) (hx:x.size<=maxLen):Ro 65 #[.string x] w (ze (nmS x.data.toList)):=by
 obtain ⟨fin,a⟩:=nm (nmS x.data.toList);rw [<-a];unfold nmS at a;rw [Hp] at a;obtain ⟨p,n⟩:=nm (Ai ⟨1,0,x⟩);obtain ⟨q,l⟩:=nm (CV x);have C:Hx (fin=(p && !q)):=by show _=_;rw [a,n,l];rfl
 have A:Hx (∀ X,Ov w X->Ro 108 #[.string x] X (ze q)):=fun X _=>by rw [l];exact (Hc x X).mono fun e v ⟨G,F⟩=>⟨G,F ▸ Below.refl _ _⟩
 obtain ⟨V,i⟩:=nm (w.alloc (zg #[O zc 1,O zc 0,.string x] 44));obtain ⟨st,c⟩:=nm (DR [⟨1,0,x⟩]);have B:Hx (Calls Tryz.prog 18 #[zd (some ⟨w.heap.size,0,none⟩) 1 1] V fun e v=>e=zi (zj #[.string st,O zc (if p=true then 0 else 1)])/\Ov V v):=by
  have h:=La (zd (some ⟨w.heap.size,0,none⟩) 1 1) [⟨1,0,x⟩] V ⟨_,_,rfl,fun _=>⟨_,_,rfl,fun j u E=>?_⟩⟩ (by simp) (fun t y=>by simp at y;subst y;exact hx)
  ·rw [R4,<-n,<-c] at h
   exact h
  ·rw [i,Nat.zero_add]
   exact A5 w [O zc 1,O zc 0,.string x] 44 j u E
 have g:=aov i;clear a n l c hx;go_enter Tryz.func65,Tryz.ntmps65;go_wp2_with fail;rw [<-i];clear i;refine mo B.o fun I f=>?_;have b:=Aa (Ab g.o f);clear f B g
 cases p with
 | false=>
  rw [if_neg (by simp)];go_wp2_with fail;go_ret;exact ⟨by have h:=C.o;simp at h;rw [h];rfl,b.o⟩
 | true=>
  rw [if_pos rfl];go_wp2_with fail;refine mo (A.o _ b.o) fun H f=>?_;have r:=Aa (Ab b.o f);clear f A;go_wp2_with fail;go_ret;exact ⟨by have h:=C.o;simp at h;rw [h];rfl,r.o⟩
theorem CE (x:ByteArray) (m:Bool) (w:World) (hx:x.size<=maxLen):Ro 66 #[.string x,ze m] w (ze (nfS x.data.toList m)):=by
 obtain ⟨fin,a⟩:=nm (nfS x.data.toList m);rw [<-a]
 cases m with
 | true=>
  have g:Hx (Ro 65 #[.string x] w (ze fin)):=by rw [a];exact D8 x w hx
  clear a hx;go_enter Tryz.func66,Tryz.ntmps66;go_wp2_with fail;refine mo g.o fun j f=>?_;have c:=Aa f;clear f g;go_wp2_with fail;go_ret;exact ⟨rfl,c.o⟩
 | false=>
  by_cases h0:x.data.toList=[]
  ·obtain rfl:=An h0
   have b:=Aa a;clear a hx h0;go_enter Tryz.func66,Tryz.ntmps66;go_wp2_with fail;go_ret;exact ⟨by rw [b.o];rfl,Below.refl _ _⟩
  ·have i:=Av h0
   have b:Hx (fin=false):=by show _=_;rw [a];unfold nfS;simpa using h0
   clear a hx h0;go_enter Tryz.func66,Tryz.ntmps66;go_wp2_with fail;go_ret;exact ⟨by rw [b.o];rfl,Below.refl _ _⟩
theorem P1 (ke k:Nat) (cs:List Value) (d:D) (w:World) (h:ZC w ke k cs d):Ro 107 #[.agg cs.toArray] w (ze (CR ke d)):=by
 cases k with
 | zero=>exact h.elim
 | succ k=>
  obtain ⟨r,a,x,y,G,F,E,C,q,q1,n,e,j,i,b,L,J,l,M,K,B,rfl,rfl,-,-,U,P,-,-⟩:=h;obtain ⟨fin,c⟩:=nm (CR ke (stD r a x y e b l B));rw [<-c];unfold CR at c;simp only [gSs] at c;obtain ⟨T,u⟩:=nm (Cm ke e);obtain ⟨Y,v⟩:=nm (b.all fun x=>!Cm ke x);rw [<-Mz,<-u,<-v] at c;have Q:=Aa c;have V:Hx (∀ X,Ov w X->Ro 104 #[zf #[O zc G,O zc F,O zc E,.string C,zd q q1 n]] X (ze T)):=fun X N=>by rw [u];exact F2 ke _ e X (U.over N)
  have W:Hx (∀ X,Ov w X->Ro 111 #[zd j b.length i,.func (.func 140) #[] #[]] X (ze Y)):=fun X N=>by rw [v];exact LY 140 (fun b w=>by simp [go_sem]) (fun x=>!Cm ke x) b j i X (fun cs d X _ h=>M1 ke cs d X h) (BQ N P)
  have aa:=P.max;clear c u v U P;show Ro 107 #[zf #[O zc r,O zc a,.string x,.string y,O zc G,O zc F,O zc E,.string C,zd q q1 n,zd j b.length i,zd L l.length J,zd M B.length K]] w _;go_enter Tryz.func107,Tryz.ntmps107;by_cases h4:4 < b.length
  ·have Z:(4:Int) < (b.length:Int):=by omega
   go_wp2_with fail;go_ret;exact ⟨by have h:=Q.o;simp [h4] at h;rw [h];rfl,bA w (zg #[O zc r,O zc a,.string x,.string y,O zc G,O zc F,O zc E,.string C,zd q q1 n,zd j b.length i,zd L l.length J,zd M B.length K] 55)⟩
  ·have Z:¬ (4:Int) < (b.length:Int):=by omega
   go_wp2_with fail;refine mo (V.o _ (bA w (zg #[O zc r,O zc a,.string x,.string y,O zc G,O zc F,O zc E,.string C,zd q q1 n,zd j b.length i,zd L l.length J,zd M B.length K] 55))) fun S A=>?_;have I:Hx (Ov w S):=Ab (bA w (zg #[O zc r,O zc a,.string x,.string y,O zc G,O zc F,O zc E,.string C,zd q q1 n,zd j b.length i,zd L l.length J,zd M B.length K] 55)) A;have f:Hx (Ad [O zc r,O zc a,.string x,.string y,O zc G,O zc F,O zc E,.string C,zd q q1 n,zd j b.length i,zd L l.length J,zd M B.length K] S w.heap.size):=Ad.over (A5 w [O zc r,O zc a,.string x,.string y,O zc G,O zc F,O zc E,.string C,zd q q1 n,zd j b.length i,zd L l.length J,zd M B.length K] 55) A;clear A  V
   cases T with
   | true=>
    have g:=AR f.o;go_wp2_with fail;go_ret;exact ⟨by have h:=Q.o;simp [h4] at h;rw [h];rfl,I.o⟩
   | false=>
    have g:=AR f.o;go_wp2_with fail;refine mo (W.o _ I.o) fun w2 A=>?_;have R:=Aa (Ab I.o A);have H:=Aa (f.o.over A);clear A g W;have g:=AR H.o;go_wp2_with fail;go_ret;exact ⟨by have h:=Q.o;simp [h4] at h;rw [h];rfl,R.o⟩
theorem Re (cs:List Value) (d:D) (w:World) (h:ZP w cs d):Ro 106 #[.agg cs.toArray] w (ze (!decide (6 < (gL 3 d).length))):=by
 obtain ⟨a,o,wr,g,f,c,rfl,rfl,-,i⟩:=h;obtain ⟨fin,b⟩:=nm (!decide (6 < (gL 3 (DD a o wr c)).length));rw [<-b];simp only [gPp,List.length_map] at b;have j:=Aa b;have n:=i.max;clear b i;show Ro 106 #[zf #[O zc a,.string o,ze wr,zd g c.length f]] w _;go_enter Tryz.func106,Tryz.ntmps106;by_cases h6:6 < c.length
 ·have l:¬ (c.length:Int)<=6:=by omega
  go_wp2_with fail;go_ret;exact ⟨by have h:=j.o;simp [h6] at h;rw [h];(first | rfl | (simp;done) | (simp;assumption) | (simp;omega)),bA w (zg #[O zc a,.string o,ze wr,zd g c.length f] 53)⟩
 ·have l:(c.length:Int)<=6:=by omega
  go_wp2_with fail;go_ret;exact ⟨by have h:=j.o;simp [h6] at h;rw [h];(first | rfl | (simp;done) | (simp;assumption) | (simp;omega)),bA w (zg #[O zc a,.string o,ze wr,zd g c.length f] 53)⟩
theorem P2 (ke kc:Nat) (cs:List Value) (d:D) (w:World) (h:ZD w ke kc cs d):Ro 63 #[.agg cs.toArray] w (ze (CS ke d)):=by
 obtain ⟨v,a,x,y,A,n,l,g,L,J,i,M,K,b,F,E,C,B,q,q1,u,r,rfl,rfl,-,-,T,Z,-,Y⟩:=h;obtain ⟨fin,c⟩:=nm (CS ke (deD v a x y A g i b r));rw [<-c];unfold CS at c;simp only [gDd,List.length_map] at c;obtain ⟨W,G⟩:=nm (Cm ke r);obtain ⟨qa,H⟩:=nm (g.all fun p=>!decide (6 < (gL 3 p).length));rw [<-Mz,<-G,<-H] at c;have Q:=Aa c;have KL:Hx (∀ X,Ov w X->Ro 104 #[zf #[O zc F,O zc E,O zc C,.string B,zd q q1 u]] X (ze W)):=fun X S=>by rw [G];exact F2 ke _ r X (Y.over S)
 have KA:Hx (∀ X,Ov w X->Ro 105 #[zd n g.length l,.func (.func 106) #[] #[]] X (ze qa)):=fun X S=>by rw [H];exact Pg 106 (fun aa w=>by simp [go_sem]) (fun p=>!decide (6 < (gL 3 p).length)) g n l X (fun cs d X _ h=>Re cs d X h) (Dj S T)
 have ag:=T.max;have af:=Z.max;clear c G H T Z Y;show Ro 63 #[zf #[O zc v,O zc a,.string x,.string y,ze A,zd n g.length l,zd L i.length J,zd M b.length K,O zc F,O zc E,O zc C,.string B,zd q q1 u]] w _;go_enter Tryz.func63,Tryz.ntmps63;by_cases h4:4 < g.length
 ·have hi:(4:Int) < (g.length:Int):=by omega
  go_wp2_with fail;go_ret;exact ⟨by have h:=Q.o;simp [h4] at h;rw [h];rfl,bA w (zg #[O zc v,O zc a,.string x,.string y,ze A,zd n g.length l,zd L i.length J,zd M b.length K,O zc F,O zc E,O zc C,.string B,zd q q1 u] 51)⟩
 ·have hi:¬ (4:Int) < (g.length:Int):=by omega
  by_cases h5:4 < i.length
  ·have R:(4:Int) < (i.length:Int):=by omega
   go_wp2_with fail;go_ret;exact ⟨by have h:=Q.o;simp [h4,h5] at h;rw [h];rfl,bA w (zg #[O zc v,O zc a,.string x,.string y,ze A,zd n g.length l,zd L i.length J,zd M b.length K,O zc F,O zc E,O zc C,.string B,zd q q1 u] 51)⟩
  ·have R:¬ (4:Int) < (i.length:Int):=by omega
   go_wp2_with fail;refine mo (KL.o _ (bA w (zg #[O zc v,O zc a,.string x,.string y,ze A,zd n g.length l,zd L i.length J,zd M b.length K,O zc F,O zc E,O zc C,.string B,zd q q1 u] 51))) fun V I=>?_;have P:Hx (Ov w V):=Ab (bA w (zg #[O zc v,O zc a,.string x,.string y,ze A,zd n g.length l,zd L i.length J,zd M b.length K,O zc F,O zc E,O zc C,.string B,zd q q1 u] 51)) I;have f:Hx (Ad [O zc v,O zc a,.string x,.string y,ze A,zd n g.length l,zd L i.length J,zd M b.length K,O zc F,O zc E,O zc C,.string B,zd q q1 u] V w.heap.size):=Ad.over (A5 w [O zc v,O zc a,.string x,.string y,ze A,zd n g.length l,zd L i.length J,zd M b.length K,O zc F,O zc E,O zc C,.string B,zd q q1 u] 51) I;clear I  KL
   cases W with
   | true=>
    have j:=B8 f.o;go_wp2_with fail;go_ret;exact ⟨by have h:=Q.o;simp [h4,h5] at h;rw [h];rfl,P.o⟩
   | false=>
    have j:=B8 f.o;go_wp2_with fail;refine mo (KA.o _ P.o) fun w2 I=>?_;have U:=Aa (Ab P.o I);have N:=Aa (f.o.over I);clear I j KA;have j:=B8 N.o;go_wp2_with fail;go_ret;exact ⟨by have h:=Q.o;simp [h4,h5] at h;rw [h];rfl,U.o⟩
theorem Ou (k:Nat) (cs:List Value) (d:D) (w:World) (h:ZE w k cs d):Ro 71 #[.agg cs.toArray] w (ze (CO d)):=by
 cases k with
 | zero=>exact h.elim
 | succ k=>
  obtain ⟨i,a,n,x,u,c,g,rfl,rfl,-,l⟩:=h;obtain ⟨fin,b⟩:=nm (CO (eD i a n x g));rw [<-b];unfold CO at b;simp only [gEe] at b;have A:=l.max;clear l;show Ro 71 #[zf #[O zc i,O zc a,O zc n,.string x,zd u g.length c]] w _;by_cases h1:i=0
  ·by_cases h2:n=0
   ·by_cases h3:x.data.toList=[]
    ·have j:=An h3
     by_cases h4:g=[]
     ·have f:Hx (fin=true):=by show _=_;rw [b,h1,h2,h3,h4];rfl
      clear b;subst h4;subst h1;subst h2;subst j;go_enter Tryz.func71,Tryz.ntmps71;go_wp2_with fail;go_ret;exact ⟨by rw [f.o];(first | rfl | (simp;done) | (simp;assumption) | (simp;omega)),bA _ _⟩
     ·have y:0 < g.length:=List.length_pos_iff.2 h4
      have v:¬ (g.length:Int)=0:=by omega
      have f:Hx (fin=false):=by show _=_;rw [b];simp [h4]
      clear b;subst h1;subst h2;subst j;go_enter Tryz.func71,Tryz.ntmps71;go_wp2_with fail;go_ret;exact ⟨by rw [f.o];(first | rfl | (simp;done) | (simp;assumption) | (simp;omega)),bA _ _⟩
    ·have r:=Av h3
     have f:Hx (fin=false):=by show _=_;rw [b,show x.data.toList.isEmpty=false by simpa using h3];simp
     clear b;subst h1;subst h2;go_enter Tryz.func71,Tryz.ntmps71;go_wp2_with fail;go_ret;exact ⟨by rw [f.o];(first | rfl | (simp;done) | (simp;assumption) | (simp;omega)),bA _ _⟩
   ·have f:Hx (fin=false):=by show _=_;rw [b];simp [h2]
    clear b;subst h1;go_enter Tryz.func71,Tryz.ntmps71;go_wp2_with fail;go_ret;exact ⟨by rw [f.o];(first | rfl | (simp;done) | (simp;assumption) | (simp;omega)),bA _ _⟩
  ·have f:Hx (fin=false):=by show _=_;rw [b];simp [h1]
   clear b;go_enter Tryz.func71,Tryz.ntmps71;go_wp2_with fail;go_ret;exact ⟨by rw [f.o];(first | rfl | (simp;done) | (simp;assumption) | (simp;omega)),bA _ _⟩
theorem Fw:∀ (k:Nat) (cs:List Value) (d:D) (w:World),ZE w k cs d->Ro 70 #[.agg cs.toArray] w (ze (efK k d)):=by
 intro k
 induction k with
 | zero=>intro cs d w h;exact h.elim
 | succ k ih=>
  intro cs d w h;obtain ⟨u,a,n,x,K,c,H,rfl,rfl,G,J⟩:=h;obtain ⟨fin,b⟩:=nm (efK (k+1) (eD u a n x H));rw [<-b];simp only [efK,gEe] at b;obtain ⟨C,E⟩:=nm (H.all (efK k));rw [<-E] at b;have F:Hx (∀ X,Ov w X->Ro 111 #[zd K H.length c,.func (.func 70) #[] #[]] X (ze C)):=fun X R=>by rw [E];exact LY 70 (fun P w=>by simp [go_sem]) (efK k) H K c X (fun cs d X _ h=>ih cs d X h) (BQ R J)
  have S:=J.max;clear E ih J;show Ro 70 #[zf #[O zc u,O zc a,O zc n,.string x,zd K H.length c]] w _;obtain ⟨y,I⟩:=nm H.length;rw [<-I] at b F S ⊢;clear I;by_cases hlo:u < 1
  ·have r:Hx (fin=false):=by show _=_;rw [b,decide_eq_false (show ¬ 1<=u by omega)];simp
   clear b;go_enter Tryz.func70,Tryz.ntmps70;go_wp2_with fail;go_ret;exact ⟨by rw [r.o];(first | rfl | (simp;done) | (simp;assumption) | (simp;omega)),bA _ _⟩
  by_cases hhi:7 < u
  ·have r:Hx (fin=false):=by show _=_;rw [b,decide_eq_false (show ¬ u<=7 by omega)];simp
   clear b;go_enter Tryz.func70,Tryz.ntmps70;go_wp2_with fail;go_ret;exact ⟨by rw [r.o];(first | rfl | (simp;done) | (simp;assumption) | (simp;omega)),bA _ _⟩
  have Q:u=1\/u=2\/u=3\/u=4\/u=5\/u=6\/u=7:=by omega
  clear hlo hhi;rcases Q with rfl | rfl | rfl | rfl | rfl | rfl | rfl
  ·obtain ⟨v,i⟩:=nm (nfS x.data.toList false)
   have B:Hx (fin=(decide ((-9999999:Int)<=n) && decide (n<=9999999) && v && decide (y=0) && C)):=by show _=_;rw [b,i];simp
   have A:Hx (∀ X,Ov w X->Ro 66 #[.string x,ze false] X (ze v)):=fun X _=>by rw [i];exact CE x false X G
   clear b i G;go_enter Tryz.func70,Tryz.ntmps70;by_cases h1:(-9999999:Int)<=n
   case' pos=>
    by_cases h2:n<=9999999
    case' pos=>
     go_wp2_with fail;refine mo (A.o _ (bA _ _)) fun M j=>?_;obtain ⟨g,l⟩:=rov j;clear j A;cases v
     case' true=>
      by_cases h3:y=0
      case' neg=>
       have N:¬ (y:Int)=0:=by omega
      case' pos=>
       subst h3;have f:=Ad.all g.o;go_wp2_with fail;refine mo (F.o _ l.o) fun L j=>?_;replace l:=Aa (Ab l.o j);replace g:=Aa (g.o.over j);clear j f F;have r:Hx (fin=C):=by have h:=B.o;simp [h1,h2] at h;exact h
       have f:=Ad.all g.o;go_wp2_with fail;go_ret;exact ⟨by rw [r.o];(first | rfl | (simp;done) | (simp;assumption) | (simp;omega)),l.o⟩
   all_goals
    have r:Hx (fin=false):=by have h:=B.o;first | (simp at h;exact h) | (simp [h1] at h;exact h) | (simp [h2] at h;exact h) | (simp [h3] at h;exact h)
    try have f:=Ad.all g.o
    go_wp2_with fail;go_ret;exact ⟨by rw [r.o];(first | rfl | (simp;done) | (simp;assumption) | (simp;omega)),(by first | exact l.o | exact bA _ _)⟩
  ·obtain ⟨v,i⟩:=nm (nfS x.data.toList true)
   have B:Hx (fin=(decide ((0:Int)<=n) && decide (n<=0) && v && decide (y=0) && C)):=by show _=_;rw [b,i];simp
   have A:Hx (∀ X,Ov w X->Ro 66 #[.string x,ze true] X (ze v)):=fun X _=>by rw [i];exact CE x true X G
   clear b i G;go_enter Tryz.func70,Tryz.ntmps70;by_cases h1:0<=n
   case' pos=>
    by_cases h2:n<=0
    case' pos=>
     go_wp2_with fail;refine mo (A.o _ (bA _ _)) fun M j=>?_;obtain ⟨g,l⟩:=rov j;clear j A;cases v
     case' true=>
      by_cases h3:y=0
      case' neg=>
       have N:¬ (y:Int)=0:=by omega
      case' pos=>
       subst h3;have f:=Ad.all g.o;go_wp2_with fail;refine mo (F.o _ l.o) fun L j=>?_;replace l:=Aa (Ab l.o j);replace g:=Aa (g.o.over j);clear j f F;have r:Hx (fin=C):=by have h:=B.o;simp [h1,h2] at h;exact h
       have f:=Ad.all g.o;go_wp2_with fail;go_ret;exact ⟨by rw [r.o];(first | rfl | (simp;done) | (simp;assumption) | (simp;omega)),l.o⟩
   all_goals
    have r:Hx (fin=false):=by have h:=B.o;first | (simp at h;exact h) | (simp [h1] at h;exact h) | (simp [h2] at h;exact h) | (simp [h3] at h;exact h)
    try have f:=Ad.all g.o
    go_wp2_with fail;go_ret;exact ⟨by rw [r.o];(first | rfl | (simp;done) | (simp;assumption) | (simp;omega)),(by first | exact l.o | exact bA _ _)⟩
  all_goals
   obtain ⟨v,i⟩:=nm (nfS x.data.toList false);have B:Hx (fin=(decide ((0:Int)<=n) && decide (n<=0) && v && decide (y=2) && C)):=by show _=_;rw [b,i];simp
   have A:Hx (∀ X,Ov w X->Ro 66 #[.string x,ze false] X (ze v)):=fun X _=>by rw [i];exact CE x false X G
   clear b i G;go_enter Tryz.func70,Tryz.ntmps70;by_cases h1:0<=n
   case' pos=>
    by_cases h2:n<=0
    case' pos=>
     go_wp2_with fail;refine mo (A.o _ (bA _ _)) fun M j=>?_;obtain ⟨g,l⟩:=rov j;clear j A;cases v
     case' true=>
      by_cases h3:y=2
      case' neg=>
       have N:¬ (y:Int)=2:=by omega
      case' pos=>
       subst h3;have f:=Ad.all g.o;go_wp2_with fail;refine mo (F.o _ l.o) fun L j=>?_;replace l:=Aa (Ab l.o j);replace g:=Aa (g.o.over j);clear j f F;have r:Hx (fin=C):=by have h:=B.o;simp [h1,h2] at h;exact h
       have f:=Ad.all g.o;go_wp2_with fail;go_ret;exact ⟨by rw [r.o];(first | rfl | (simp;done) | (simp;assumption) | (simp;omega)),l.o⟩
   all_goals
    have r:Hx (fin=false):=by have h:=B.o;first | (simp at h;exact h) | (simp [h1] at h;exact h) | (simp [h2] at h;exact h) | (simp [h3] at h;exact h)
    try have f:=Ad.all g.o
    go_wp2_with fail;go_ret;exact ⟨by rw [r.o];(first | rfl | (simp;done) | (simp;assumption) | (simp;omega)),(by first | exact l.o | exact bA _ _)⟩
theorem Kc {k:Nat} (F:FuncId) (hC:∀ (args:Array Value) (w:World),(callFunc F args).run Tryz.prog w=.ok (.enter F args) w) (p:D->Bool) (l:List D) (ao:Option Addr) (cap:Nat) (may:Bool) (w:World) (hp:∀ (cs:List Value) (d:D) (X:World),d∈l->ZE X k cs d->Ro F #[.agg cs.toArray] X (ze (p d))) (hc:LS 5 (ZE w k) w (zd ao l.length cap) l) :
  Ro 72 #[zd ao l.length cap,ze may,.func (.func F) #[] #[]] w (ze (lfS l may p)):=by
 obtain ⟨fin,a⟩:=nm (lfS l may p);rw [<-a];unfold lfS at a;obtain ⟨n,b⟩:=nm (l.all p);have x:l.isEmpty=decide (l.length=0):=by cases l <;> simp
 rw [<-b,x] at a;have g:Hx (∀ X,Ov w X->Ro 111 #[zd ao l.length cap,.func (.func F) #[] #[]] X (ze n)):=fun X y=>by rw [b];exact LY F hC p l ao cap X hp (BQ y hc)
 have A:=hc.max;obtain ⟨v,c⟩:=nm l.length;rw [<-c] at a g A ⊢;have r:=Aa a;clear b hc hp c a x;go_enter Tryz.func72,Tryz.ntmps72
 cases may with
 | true=>
  go_wp2_with fail;refine mo (g.o _ (Below.refl _ _)) fun j f=>?_;have u:Hx (Ov w j):=Ab (Below.refl _ _) f;clear f g;have i:Hx (fin=n):=by have h:=r.o;simp at h;exact h
  go_wp2_with fail;go_ret;exact ⟨by rw [i.o];(first | rfl | (simp;done) | (simp;assumption) | (simp;omega)),u.o⟩
 | false=>
  by_cases h0:v=0
  ·subst h0
   go_wp2_with fail;refine mo (g.o _ (Below.refl _ _)) fun j f=>?_;have u:Hx (Ov w j):=Ab (Below.refl _ _) f;clear f g;have i:Hx (fin=n):=by have h:=r.o;simp at h;exact h
   go_wp2_with fail;go_ret;exact ⟨by rw [i.o];(first | rfl | (simp;done) | (simp;assumption) | (simp;omega)),u.o⟩
  ·have B:¬ (v:Int)=0:=by omega
   have i:Hx (fin=false):=by have h:=r.o;simp [h0] at h;exact h
   go_wp2_with fail;go_ret;exact ⟨by rw [i.o];(first | rfl | (simp;done) | (simp;assumption) | (simp;omega)),Below.refl _ _⟩
theorem Gs {ke k:Nat} (F:FuncId) (hC:∀ (args:Array Value) (w:World),(callFunc F args).run Tryz.prog w=.ok (.enter F args) w) (p:D->Bool) (l:List D) (ao:Option Addr) (cap:Nat) (may:Bool) (w:World) (hp:∀ (cs:List Value) (d:D) (X:World),d∈l->ZC X ke k cs d->Ro F #[.agg cs.toArray] X (ze (p d))) (hc:LS 12 (ZC w ke k) w (zd ao l.length cap) l) :
  Ro 73 #[zd ao l.length cap,ze may,.func (.func F) #[] #[]] w (ze (lfS l may p)):=by
 obtain ⟨fin,a⟩:=nm (lfS l may p);rw [<-a];unfold lfS at a;obtain ⟨n,b⟩:=nm (l.all p);have x:l.isEmpty=decide (l.length=0):=by cases l <;> simp
 rw [<-b,x] at a;have g:Hx (∀ X,Ov w X->Ro 35 #[zd ao l.length cap,.func (.func F) #[] #[]] X (ze n)):=fun X y=>by rw [b];exact LZ F hC p l ao cap X hp (Ar y hc)
 have A:=hc.max;obtain ⟨v,c⟩:=nm l.length;rw [<-c] at a g A ⊢;have r:=Aa a;clear b hc hp c a x;go_enter Tryz.func73,Tryz.ntmps73
 cases may with
 | true=>
  go_wp2_with fail;refine mo (g.o _ (Below.refl _ _)) fun j f=>?_;have u:Hx (Ov w j):=Ab (Below.refl _ _) f;clear f g;have i:Hx (fin=n):=by have h:=r.o;simp at h;exact h
  go_wp2_with fail;go_ret;exact ⟨by rw [i.o];(first | rfl | (simp;done) | (simp;assumption) | (simp;omega)),u.o⟩
 | false=>
  by_cases h0:v=0
  ·subst h0
   go_wp2_with fail;refine mo (g.o _ (Below.refl _ _)) fun j f=>?_;have u:Hx (Ov w j):=Ab (Below.refl _ _) f;clear f g;have i:Hx (fin=n):=by have h:=r.o;simp at h;exact h
   go_wp2_with fail;go_ret;exact ⟨by rw [i.o];(first | rfl | (simp;done) | (simp;assumption) | (simp;omega)),u.o⟩
  ·have B:¬ (v:Int)=0:=by omega
   have i:Hx (fin=false):=by have h:=r.o;simp [h0] at h;exact h
   go_wp2_with fail;go_ret;exact ⟨by rw [i.o];(first | rfl | (simp;done) | (simp;assumption) | (simp;omega)),Below.refl _ _⟩
end Go.Proofs.YtipngnjffjajpaaGreatDoor.Tx
