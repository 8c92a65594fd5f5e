/- Trees in memory, however deep; what was read has short names. -/
import Derived.Test.YtipngnjffjajpaaGreatDoorJ06
set_option linter.unusedVariables false
set_option maxHeartbeats 8000000
set_option maxRecDepth 100000
namespace Go.Proofs.YtipngnjffjajpaaGreatDoor.Tx
open Go.RowKit
open Go.Value renaming int -> I, slice -> zc, bool -> zd, pointer -> zf, agg -> zg, tuple -> zi
open Go.IntKind renaming i64 -> O
open Go.Obj renaming cells -> ze
open Go.Ending renaming returned -> zh
def ZE (W:World):Nat->List Value->D->Prop
 | 0,_,_=>False
 | k+1,cs,d=>∃ (kd a n:Int) (x:ByteArray) (ao:Option Addr) (c:Nat) (ds:List D),cs=[I O kd,I O a,I O n,.string x,zc ao ds.length c]/\d=eD kd a n x ds/\x.size<=maxLen/\LS 5 (ZE W k) W (zc ao ds.length c) ds
def ZC (W:World) (ke:Nat):Nat->List Value->D->Prop
 | 0,_,_=>False
 | k+1,cs,d=>∃ (kd a:Int) (x y:ByteArray) (e0 e1 e2:Int) (e3:ByteArray) (q:Option Addr) (q1 q2:Nat) (e:D) (aA:Option Addr) (cA:Nat) (args:List D) (aT:Option Addr) (cT:Nat) (th:List D) (aE:Option Addr) (cE:Nat) (el:List D),
   cs=[I O kd,I O a,.string x,.string y,I O e0,I O e1,I O e2,.string e3,zc q q1 q2,zc aA args.length cA,zc aT th.length cT,zc aE el.length cE]/\d=stD kd a x y e args th el/\x.size<=maxLen/\y.size<=maxLen/\ZE W ke [I O e0,I O e1,I O e2,.string e3,zc q q1 q2] e/\LS 5 (ZE W ke) W (zc aA args.length cA) args/\LS 12 (ZC W ke k) W (zc aT th.length cT) th/\LS 12 (ZC W ke k) W (zc aE el.length cE) el
def ZN (cs:List Value) (x:ByteArray):Prop:=cs=[.string x]/\x.size<=maxLen
def ZP (W:World) (cs:List Value) (d:D):Prop:=∃ (a:Int) (o:ByteArray) (wr:Bool) (an:Option Addr) (cn:Nat) (ns:List ByteArray),cs=[I O a,.string o,zd wr,zc an ns.length cn]/\d=Dv a o wr ns/\o.size<=maxLen/\LS 1 ZN W (zc an ns.length cn) ns
def ZD (W:World) (ke kc:Nat) (cs:List Value) (d:D):Prop:=∃ (kd a:Int) (x y:ByteArray) (gv:Bool) (aL:Option Addr) (cL:Nat) (lb:List D) (aP:Option Addr) (cP:Nat) (ps:List ByteArray) (aB:Option Addr) (cB:Nat) (body:List D) (e0 e1 e2:Int) (e3:ByteArray) (q:Option Addr) (q1 q2:Nat) (r:D),
  cs=[I O kd,I O a,.string x,.string y,zd gv,zc aL lb.length cL,zc aP ps.length cP,zc aB body.length cB,I O e0,I O e1,I O e2,.string e3,zc q q1 q2]/\d=deD kd a x y gv lb ps body r/\x.size<=maxLen/\y.size<=maxLen/\LS 4 (ZP W) W (zc aL lb.length cL) lb/\LS 1 ZN W (zc aP ps.length cP) ps/\LS 12 (ZC W ke kc) W (zc aB body.length cB) body/\ZE W ke [I O e0,I O e1,I O e2,.string e3,zc q q1 q2] r
def ZT (W:World) (ke kc:Nat) (v:Value) (ds l:List D):Prop:=∃ (a:Option Addr) (c:Nat) (a2:Option Addr) (c2:Nat),v=zg #[zc a ds.length c,zc a2 l.length c2]/\LS 13 (ZD W ke kc) W (zc a ds.length c) ds/\LS 12 (ZC W ke kc) W (zc a2 l.length c2) l
theorem LS.up {α:Type} {size:Nat} {R R':List Value->α->Prop} {w w':World} {v:Value} {l:List α} (h:LS size R w v l) (hw:∀ a u,w.cell? a=some u->w'.cell? a=some u) (hz:∀ b off,Fz0 w b off->Fz0 w' b off) (hR:∀ cs a,a∈l->R cs a->R' cs a):LS size R' w' v l:=by
 obtain ⟨F,G,g,E,C⟩:=h;refine ⟨F,G,g,E,fun c=>?_⟩;obtain ⟨b,off,B,f,A⟩:=C c;refine ⟨b,off,B,hz b off f,fun i a n=>?_⟩;obtain ⟨cs,q1,x,r⟩:=A i a n;exact ⟨cs,q1,fun j u y=>hw _ _ (x j u y),hR cs a (List.mem_of_getElem? n) r⟩
section
variable {W W':World}
theorem ZE.up (hw:∀ a u,W.cell? a=some u->W'.cell? a=some u) (hz:∀ b off,Fz0 W b off->Fz0 W' b off):∀ {k m:Nat} {cs:List Value} {d:D},k<=m->ZE W k cs d->ZE W' m cs d
 | 0,m,cs,d,_,h=>h.elim
 | k+1,0,cs,d,hk,h=>absurd hk (by omega)
 | k+1,m+1,cs,d,hk,h=>by
  obtain ⟨kd,a,n,x,ao,c,ds,h1,h2,h3,h4⟩:=h;exact ⟨kd,a,n,x,ao,c,ds,h1,h2,h3,h4.up hw hz fun cs d _ hh=>ZE.up hw hz (by omega) hh⟩
theorem ZC.up (hw:∀ a u,W.cell? a=some u->W'.cell? a=some u) (hz:∀ b off,Fz0 W b off->Fz0 W' b off) {ke ke':Nat} (hke:ke<=ke'):∀ {k m:Nat} {cs:List Value} {d:D},k<=m->ZC W ke k cs d->ZC W' ke' m cs d
 | 0,m,cs,d,_,h=>h.elim
 | k+1,0,cs,d,hk,h=>absurd hk (by omega)
 | k+1,m+1,cs,d,hk,h=>by
  obtain ⟨kd,a,x,y,e0,e1,e2,e3,q,q1,q2,e,aA,cA,args,aT,cT,th,aE,cE,el,h1,h2,h3,h4,h5,h6,h7,h8⟩:=h;exact ⟨kd,a,x,y,e0,e1,e2,e3,q,q1,q2,e,aA,cA,args,aT,cT,th,aE,cE,el,h1,h2,h3,h4,h5.up hw hz hke,h6.up hw hz fun cs d _ hh=>hh.up hw hz hke,h7.up hw hz fun cs d _ hh=>ZC.up hw hz hke (by omega) hh,h8.up hw hz fun cs d _ hh=>ZC.up hw hz hke (by omega) hh⟩
theorem ZP.up (hw:∀ a u,W.cell? a=some u->W'.cell? a=some u) (hz:∀ b off,Fz0 W b off->Fz0 W' b off) {cs:List Value} {d:D} (h:ZP W cs d):ZP W' cs d:=by
 obtain ⟨a,o,wr,l,j,b,i,g,f,c⟩:=h;exact ⟨a,o,wr,l,j,b,i,g,f,c.up hw hz fun _ _ _ h=>h⟩
theorem ZD.up (hw:∀ a u,W.cell? a=some u->W'.cell? a=some u) (hz:∀ b off,Fz0 W b off->Fz0 W' b off) {ke ke' kc kc':Nat} (hke:ke<=ke') (hkc:kc<=kc') {cs:List Value} {d:D} (h:ZD W ke kc cs d):ZD W' ke' kc' cs d:=by
 obtain ⟨i,a,x,y,E,N,K,g,M,J,f,O,L,b,I,H,G,F,q,q1,c,r,C,B,A,v,u,n,l,j⟩:=h;exact ⟨i,a,x,y,E,N,K,g,M,J,f,O,L,b,I,H,G,F,q,q1,c,r,C,B,A,v,u.up hw hz fun _ _ _ h=>h.up hw hz,n.up hw hz fun _ _ _ h=>h,l.up hw hz fun _ _ _ h=>h.up hw hz hke hkc,j.up hw hz hke⟩
theorem ZT.up (hw:∀ a u,W.cell? a=some u->W'.cell? a=some u) (hz:∀ b off,Fz0 W b off->Fz0 W' b off) {ke ke' kc kc':Nat} (hke:ke<=ke') (hkc:kc<=kc') {v:Value} {ds l:List D} (h:ZT W ke kc v ds l):ZT W' ke' kc' v ds l:=by
 obtain ⟨a,c,j,i,g,f,b⟩:=h;exact ⟨a,c,j,i,g,f.up hw hz fun _ _ _ h=>h.up hw hz hke hkc,b.up hw hz fun _ _ _ h=>h.up hw hz hke hkc⟩
end
theorem fzO {W W':World} (hb:Ov W W'):∀ b off,Fz0 W b off->Fz0 W' b off:=fun b off h=>h.of_block (hb.block b h.1)
section
variable {W W':World}
theorem ZE.over (hb:Ov W W') {k:Nat} {cs:List Value} {d:D} (h:ZE W k cs d):ZE W' k cs d:=h.up (fun _ _ h=>ce1 hb h) (fzO hb) (Nat.le_refl _)
theorem ZC.over (hb:Ov W W') {ke k:Nat} {cs:List Value} {d:D} (h:ZC W ke k cs d):ZC W' ke k cs d:=h.up (fun _ _ h=>ce1 hb h) (fzO hb) (Nat.le_refl _) (Nat.le_refl _)
theorem ZP.over (hb:Ov W W') {cs:List Value} {d:D} (h:ZP W cs d):ZP W' cs d:=h.up (fun _ _ h=>ce1 hb h) (fzO hb)
theorem ZD.over (hb:Ov W W') {ke kc:Nat} {cs:List Value} {d:D} (h:ZD W ke kc cs d):ZD W' ke kc cs d:=h.up (fun _ _ h=>ce1 hb h) (fzO hb) (Nat.le_refl _) (Nat.le_refl _)
theorem ZT.over (hb:Ov W W') {ke kc:Nat} {v:Value} {ds l:List D} (h:ZT W ke kc v ds l):ZT W' ke kc v ds l:=h.up (fun _ _ h=>ce1 hb h) (fzO hb) (Nat.le_refl _) (Nat.le_refl _)
theorem C2 (hb:Ov W W') {k:Nat} {v:Value} {ds:List D} (h:LS 5 (ZE W k) W v ds):LS 5 (ZE W' k) W' v ds:=h.up (fun _ _ h=>ce1 hb h) (fzO hb) fun _ _ _ h=>h.over hb
theorem A6 (hb:Ov W W') {ke k:Nat} {v:Value} {ds:List D} (h:LS 12 (ZC W ke k) W v ds):LS 12 (ZC W' ke k) W' v ds:=h.up (fun _ _ h=>ce1 hb h) (fzO hb) fun _ _ _ h=>h.over hb
theorem DP (hb:Ov W W') {v:Value} {ds:List D} (h:LS 4 (ZP W) W v ds):LS 4 (ZP W') W' v ds:=h.up (fun _ _ h=>ce1 hb h) (fzO hb) fun _ _ _ h=>h.over hb
theorem GL (hb:Ov W W') {ke k:Nat} {v:Value} {ds:List D} (h:LS 13 (ZD W ke k) W v ds):LS 13 (ZD W' ke k) W' v ds:=h.up (fun _ _ h=>ce1 hb h) (fzO hb) fun _ _ _ h=>h.over hb
theorem Ds (hb:Ov W W') {v:Value} {ns:List ByteArray} (h:LS 1 ZN W v ns):LS 1 ZN W' v ns:=h.up (fun _ _ h=>ce1 hb h) (fzO hb) fun _ _ _ h=>h
end
def P1:Nat->D->Prop
 | 0,_=>True
 | k+1,d=>match d with
  | .lit (.string x)=>x.length<=6000
  | .agg l=>∀ a∈l,P1 k a
  | .slice l _=>∀ a∈l,P1 k a
  | _=>True
def SD (d:D):Prop:=∀ k,P1 k d
theorem SD.agg {l:List D} (h:∀ a∈l,SD a):SD (.agg l):=fun k=>by
 cases k with
 | zero=>trivial
 | succ k=>exact fun a ha=>h a ha k
theorem SD.list {l:List D} (h:∀ a∈l,SD a):SD (dL l):=fun k=>by
 cases k with
 | zero=>trivial
 | succ k=>exact fun a ha=>h a ha k
theorem SD.int (n:Int):SD (dI n):=fun k=>by cases k <;> trivial
theorem SD.bool (n:Bool):SD (dB n):=fun k=>by cases k <;> trivial
theorem SD.str {x:ByteArray} (h:x.size<=6000):SD (dS x):=fun k=>by
 cases k with
 | zero=>trivial
 | succ k=>show x.data.toList.length<=6000;simpa using h
theorem SD.of_agg {l:List D} (h:SD (.agg l)):∀ a∈l,SD a:=fun a ha k=>h (k+1) a ha
theorem SD.of_list {l:List D} (h:SD (dL l)):∀ a∈l,SD a:=fun a ha k=>h (k+1) a ha
theorem SD.of_str {x:ByteArray} (h:SD (dS x)):x.size<=6000:=by
 have:x.data.toList.length<=6000:=h 1;simpa using this
theorem SD.e {kd a n:Int} {x:ByteArray} {ds:List D} (hx:x.size<=6000) (h:∀ a∈ds,SD a):SD (eD kd a n x ds):=SD.agg fun y hy=>by
 simp at hy;rcases hy with rfl | rfl | rfl | rfl | rfl
 ·exact SD.int _
 ·exact SD.int _
 ·exact SD.int _
 ·exact SD.str hx
 ·exact SD.list h
theorem SD.s {kd a:Int} {x y:ByteArray} {e:D} {args th el:List D} (hx:x.size<=6000) (hy:y.size<=6000) (he:SD e) (h1:∀ a∈args,SD a) (h2:∀ a∈th,SD a) (h3:∀ a∈el,SD a):SD (stD kd a x y e args th el):=SD.agg fun y hy=>by
 simp at hy;rcases hy with rfl | rfl | rfl | rfl | rfl | rfl | rfl | rfl
 ·exact SD.int _
 ·exact SD.int _
 ·exact SD.str hx
 ·exact SD.str (by assumption)
 ·exact he
 ·exact SD.list h1
 ·exact SD.list h2
 ·exact SD.list h3
theorem SD.strs {ns:List ByteArray} (h:∀ x∈ns,x.size<=6000):∀ a∈ns.map dS,SD a:=fun a ha=>by
 obtain ⟨x,hx,rfl⟩:=List.mem_map.1 ha;exact SD.str (h x hx)
theorem SD.of_strs {ns:List ByteArray} (h:∀ a∈ns.map dS,SD a):∀ x∈ns,x.size<=6000:=fun x hx=>SD.of_str (h _ (List.mem_map_of_mem hx))
theorem SD.p {a:Int} {o:ByteArray} {wr:Bool} {ns:List ByteArray} (ho:o.size<=6000) (h:∀ x∈ns,x.size<=6000):SD (Dv a o wr ns):=SD.agg fun y hy=>by
 simp at hy;rcases hy with rfl | rfl | rfl | rfl
 ·exact SD.int _
 ·exact SD.str ho
 ·exact SD.bool _
 ·exact SD.list (SD.strs h)
theorem SD.d {kd a:Int} {x y:ByteArray} {gv:Bool} {lb:List D} {ps:List ByteArray} {body:List D} {r:D} (hx:x.size<=6000) (hy:y.size<=6000) (h1:∀ a∈lb,SD a) (h2:∀ x∈ps,x.size<=6000) (h3:∀ a∈body,SD a) (hr:SD r):SD (deD kd a x y gv lb ps body r):=SD.agg fun y hy=>by
 simp at hy;rcases hy with rfl | rfl | rfl | rfl | rfl | rfl | rfl | rfl | rfl
 ·exact SD.int _
 ·exact SD.int _
 ·exact SD.str hx
 ·exact SD.str (by assumption)
 ·exact SD.bool _
 ·exact SD.list h1
 ·exact SD.list (SD.strs h2)
 ·exact SD.list h3
 ·exact hr
theorem Rz {α:Type} {P:α->Prop} {a b c d:α} (h:∀ y∈[a,b,c,d],P y):P a/\P b/\P c/\P d:=⟨h a (by simp),h b (by simp),h c (by simp),h d (by simp)⟩
theorem Ry {α:Type} {P:α->Prop} {a b c d e:α} (h:∀ y∈[a,b,c,d,e],P y):P a/\P b/\P c/\P d/\P e:=⟨h a (by simp),h b (by simp),h c (by simp),h d (by simp),h e (by simp)⟩
theorem Rx {α:Type} {P:α->Prop} {a b c d e f g i:α} (h:∀ y∈[a,b,c,d,e,f,g,i],P y):P a/\P b/\P c/\P d/\P e/\P f/\P g/\P i:=⟨h a (by simp),h b (by simp),h c (by simp),h d (by simp),h e (by simp),h f (by simp),h g (by simp),h i (by simp)⟩
theorem Rv {α:Type} {P:α->Prop} {a b c d e f g i j:α} (h:∀ y∈[a,b,c,d,e,f,g,i,j],P y):P a/\P b/\P c/\P d/\P e/\P f/\P g/\P i/\P j:=⟨h a (by simp),h b (by simp),h c (by simp),h d (by simp),h e (by simp),h f (by simp),h g (by simp),h i (by simp),h j (by simp)⟩
theorem CP {n:Nat} (h:n<=6000):n<=maxLen:=by unfold maxLen;omega
theorem ZE.cells {W:World} {k:Nat} {cs:List Value} {d:D} (h:ZE W k cs d):∃ (kd a n:Int) (x:ByteArray) (q:Option Addr) (q1 q2:Nat),cs=[I O kd,I O a,I O n,.string x,zc q q1 q2]:=by
 cases k with
 | zero=>exact h.elim
 | succ k=>
  obtain ⟨kd,a,n,x,f,c,g,b,-⟩:=h;exact ⟨kd,a,n,x,f,_,c,b⟩
theorem ZC.cells {W:World} {ke k:Nat} {cs:List Value} {d:D} (h:ZC W ke k cs d):∃ (kd a:Int) (x y:ByteArray) (e0 e1 e2:Int) (e3:ByteArray) (q:Option Addr) (q1 q2:Nat) (aA:Option Addr) (nA cA:Nat) (aT:Option Addr) (nT cT:Nat) (aE:Option Addr) (nE cE:Nat),cs=[I O kd,I O a,.string x,.string y,I O e0,I O e1,I O e2,.string e3,zc q q1 q2,zc aA nA cA,zc aT nT cT,zc aE nE cE]:=by
 cases k with
 | zero=>exact h.elim
 | succ k=>
  obtain ⟨kd,a,x,y,e0,e1,e2,e3,q,q1,q2,e,aA,cA,b,aT,cT,f,aE,cE,g,c,-⟩:=h;exact ⟨kd,a,x,y,e0,e1,e2,e3,q,q1,q2,aA,_,cA,aT,_,cT,aE,_,cE,c⟩
theorem ZP.cells {W:World} {cs:List Value} {d:D} (h:ZP W cs d):∃ (a:Int) (o:ByteArray) (wr:Bool) (an:Option Addr) (nn cn:Nat),cs=[I O a,.string o,zd wr,zc an nn cn]:=by
 obtain ⟨a,o,wr,an,cn,c,b,-⟩:=h;exact ⟨a,o,wr,an,_,cn,b⟩
theorem ZD.cells {W:World} {ke kc:Nat} {cs:List Value} {d:D} (h:ZD W ke kc cs d):∃ (kd a:Int) (x y:ByteArray) (gv:Bool) (aL:Option Addr) (nL cL:Nat) (aP:Option Addr) (nP cP:Nat) (aB:Option Addr) (nB cB:Nat) (e0 e1 e2:Int) (e3:ByteArray) (q:Option Addr) (q1 q2:Nat),cs=[I O kd,I O a,.string x,.string y,zd gv,zc aL nL cL,zc aP nP cP,zc aB nB cB,I O e0,I O e1,I O e2,.string e3,zc q q1 q2]:=by
 obtain ⟨kd,a,x,y,gv,aL,cL,g,aP,cP,f,aB,cB,b,e0,e1,e2,e3,q,q1,q2,r,c,-⟩:=h;exact ⟨kd,a,x,y,gv,aL,_,cL,aP,_,cP,aB,_,cB,e0,e1,e2,e3,q,q1,q2,c⟩
structure Rd (rb:Nat) (tv:Value) (ts:List Tok) (en:Nat) (w:World) (n:Nat) (V:World):Prop where
 st0:∃ n0,St rb tv ts en n0 w
 st:St rb tv ts en n V
 gr:w.grownBy V (some rb)
structure Bx (b:Nat) (cs:List Value) (V:World):Prop where
 row:Af cs V b
 fz:∀ j,V.frozen? ⟨b,j,none⟩=false
 lt:b < V.heap.size
section
variable {rb:Nat} {tv:Value} {ts:List Tok} {en n n1 b c j T:Nat} {w V V':World} {cs ds:List Value} {u:Value}
theorem Ah (w:World) (r:Option Nat):w.grownBy w r:=Ad (Below.refl _ _)
theorem Rd.start (h:St rb tv ts en n w):Rd rb tv ts en w n w:=⟨⟨n,h⟩,h,Ah w _⟩
theorem Rd.rlt (h:Rd rb tv ts en w n V):rb < w.heap.size:=by obtain ⟨b,a⟩:=h.st0;exact a.lt
theorem Rd.size (h:Rd rb tv ts en w n V):w.heap.size<=V.heap.size:=h.gr.size
theorem Rd.call (h:Rd rb tv ts en w n V) (hg:V.grownBy V' (some rb)) (hs:St rb tv ts en n1 V'):Rd rb tv ts en w n1 V':=⟨h.st0,hs,Ab h.gr hg⟩
theorem Rd.over (h:Rd rb tv ts en w n V) (hb:Ov V V'):Rd rb tv ts en w n V':=⟨h.st0,h.st.below hb,Ab h.gr (Ad hb)⟩
theorem Rd.set (h:Rd rb tv ts en w n V) (hb:w.heap.size<=b):Rd rb tv ts en w n (V.setCell ⟨b,j,none⟩ u):=by
 obtain ⟨f,a⟩:=h.st0;have hr:=a.lt;have c:=Ak h.gr (p:=⟨b,j,none⟩) hb u;exact ⟨⟨f,a⟩,a.keep c (by rw [Below.heap_setCell _ _ _ _ (by show rb≠b;omega)];exact h.st.1) h.st.2.1,c⟩
theorem Bx.new (V:World) (cs:List Value) (T:Nat):Bx V.heap.size cs (V.alloc (.cells cs.toArray T)):=⟨Ax V cs T,fun j=>Lib.frozen_of_heap (Gp V _) j,by rw [alS];omega⟩
theorem Bx.over (h:Bx b cs V) (hb:Ov V V'):Bx b cs V':=⟨fun j u hu=>ce1 hb (h.row j u hu),fun j=>by rw [World.frozen?_of_block (a:=⟨b,j,none⟩) (hb.block b h.lt)];exact h.fz j,Nat.lt_of_lt_of_le h.lt hb.size⟩
theorem Bx.keep (h:Bx b cs V) (hg:V.grownBy V' (some rb)) (hb:b≠rb):Bx b cs V':=
 have hbr:some b≠some rb:=fun e=>hb (by injection e)
 ⟨fun j u hu=>hg.cell (h.row j u hu) hbr,fun j=>by rw [World.frozen?_of_block (a:=⟨b,j,none⟩) (hg.block b h.lt hbr)];exact h.fz j,Nat.lt_of_lt_of_le h.lt hg.size⟩
theorem Bx.far (h:Bx b cs V) (hb:b≠c):Bx b cs (V.setCell ⟨c,j,none⟩ u):=by
 have a:=CV (w:=V) (r:=c) (j:=j) (u:=u);exact h.keep a hb
theorem Bx.set (h:Bx b cs V) (hj:j < cs.length):Bx b (cs.set j u) (V.setCell ⟨b,j,none⟩ u):=by
 refine ⟨fun i x a=>?_,fun i=>?_,?_⟩
 ·rw [List.getElem?_set] at a
  by_cases hij:j=i
  ·subst hij
   rw [if_pos rfl,if_pos hj] at a;injection a with a;rw [<-a];exact World.cell?_setCell_same' _ _ _ (by rw [h.row j _ (List.getElem?_eq_getElem hj)];rfl)
  ·rw [if_neg hij] at a
   rw [World.cell?_setCell_other _ _ _ _ (by intro e;injection e with f c;exact hij c)];exact h.row i x a
 ·have:(V.setCell ⟨b,j,none⟩ u).frozen? ⟨b,i,none⟩=V.frozen? ⟨b,i,none⟩:=by simp [go_sem]
  rw [this];exact h.fz i
 ·have:(V.setCell ⟨b,j,none⟩ u).heap.size=V.heap.size:=by simp [World.setCell]
  rw [this];exact h.lt
end
theorem bkp {b rb n:Nat} {cs:List Value} {V V':World} (h:Hx (Bx b cs V)) (hr:rb < n) (hl:Hx (n<=b)) (hg:V.grownBy V' (some rb)):Hx (Bx b cs V'):=h.o.keep hg (by have:=hl.o;omega)
theorem fz4 {P:Nat->Prop} (h:∀ j,P j):P 0/\P 1/\P 2/\P 3:=⟨h 0,h 1,h 2,h 3⟩
theorem fz5 {P:Nat->Prop} (h:∀ j,P j):P 0/\P 1/\P 2/\P 3/\P 4:=⟨h 0,h 1,h 2,h 3,h 4⟩
theorem fz6 {P:Nat->Prop} (h:∀ j,P j):P 0/\P 1/\P 2/\P 3/\P 4/\P 5:=⟨h 0,h 1,h 2,h 3,h 4,h 5⟩
theorem fz7 {P:Nat->Prop} (h:∀ j,P j):P 0/\P 1/\P 2/\P 3/\P 4/\P 5/\P 6:=⟨h 0,h 1,h 2,h 3,h 4,h 5,h 6⟩
theorem fz8 {P:Nat->Prop} (h:∀ j,P j):P 0/\P 1/\P 2/\P 3/\P 4/\P 5/\P 6/\P 7:=⟨h 0,h 1,h 2,h 3,h 4,h 5,h 6,h 7⟩
theorem fz9 {P:Nat->Prop} (h:∀ j,P j):P 0/\P 1/\P 2/\P 3/\P 4/\P 5/\P 6/\P 7/\P 8:=⟨h 0,h 1,h 2,h 3,h 4,h 5,h 6,h 7,h 8⟩
theorem RL {P:Nat->Prop} (h:∀ j,P j):P 0/\P 1/\P 2/\P 3/\P 4/\P 5/\P 6/\P 7/\P 8/\P 9:=⟨h 0,h 1,h 2,h 3,h 4,h 5,h 6,h 7,h 8,h 9⟩
theorem RK {P:Nat->Prop} (h:∀ j,P j):P 0/\P 1/\P 2/\P 3/\P 4/\P 5/\P 6/\P 7/\P 8/\P 9/\P 10:=⟨h 0,h 1,h 2,h 3,h 4,h 5,h 6,h 7,h 8,h 9,h 10⟩
theorem Ci {P:Nat->Prop} (h:∀ j,P j):P 0/\P 1/\P 2/\P 3/\P 4/\P 5/\P 6/\P 7/\P 8/\P 9/\P 10/\P 11:=⟨h 0,h 1,h 2,h 3,h 4,h 5,h 6,h 7,h 8,h 9,h 10,h 11⟩
theorem BM {P:Nat->Prop} (h:∀ j,P j):P 0/\P 1/\P 2/\P 3/\P 4/\P 5/\P 6/\P 7/\P 8/\P 9/\P 10/\P 11/\P 12:=⟨h 0,h 1,h 2,h 3,h 4,h 5,h 6,h 7,h 8,h 9,h 10,h 11,h 12⟩
theorem gst {x y:World} {r j:Nat} {u:Value} (h:x.grownBy y (some r)):x.grownBy (y.setCell ⟨r,j,none⟩ u) (some r):=Ab h CV
theorem Bx.se {b:Nat} {cs:List Value} {V:World} {u:Value} (h:Bx b cs V) (j:Nat) (hj:j < cs.length:=by simp):Bx b (cs.set j u) (V.setCell ⟨b,j,none⟩ u):=h.set hj
theorem Rd.box {rb:Nat} {tv:Value} {ts:List Tok} {en n b:Nat} {w V V':World} (h:Rd rb tv ts en w n V) (hg:V.grownBy V' (some b)) (hb:w.heap.size<=b):Rd rb tv ts en w n V':=by
 obtain ⟨j,f⟩:=h.st0;have hr:=f.lt;have a:=h.gr;have c:w.grownBy V' (some rb):=⟨hg.os.trans a.os,hg.tape.trans a.tape,hg.output.trans a.output,Nat.le_trans a.size hg.size,fun i g l=>(hg.block i (Nat.lt_of_lt_of_le g a.size) (fun e=>by injection e with e;omega)).trans (a.block i g l)⟩;exact ⟨⟨j,f⟩,f.keep c (by rw [hg.block rb (Nat.lt_of_lt_of_le hr a.size) (fun e=>by injection e with e;omega)];exact h.st.1) h.st.2.1,c⟩
theorem JK {rb:Nat} {tv:Value} {ts:List Tok} {en:Nat} (n:Nat) (w:World) (h:St rb tv ts en n w):Calls Tryz.prog 131 #[zf (some ⟨rb,0,none⟩)] w fun e w'=>e=zh (zd (AN (Ag ts n)))/\w.grownBy w' (some rb)/\St rb tv ts en n w':=
 (BF rb tv ts en n w h).mono fun e w' ⟨h1,h2⟩=>⟨h1,Ad h2,h.below h2⟩
theorem Cr {rb:Nat} {tv:Value} {ts:List Tok} {en:Nat} (n:Nat) (w:World) (h:St rb tv ts en n w):Calls Tryz.prog 93 #[zf (some ⟨rb,0,none⟩)] w fun e w'=>e=zh (I O (Av ts en n))/\w.grownBy w' (some rb)/\St rb tv ts en n w':=
 (BL rb tv ts en n w h).mono fun e w' ⟨h1,h2⟩=>⟨h1,Ad h2,h.below h2⟩
theorem Rc {rb:Nat} {tv:Value} {ts:List Tok} {en:Nat} (x:ByteArray) (n:Nat) (w:World) (h:St rb tv ts en n w):Calls Tryz.prog 51 #[zf (some ⟨rb,0,none⟩),.string x] w fun e w'=>e=zh (zd (isT ts n x.data.toList))/\w.grownBy w' (some rb)/\St rb tv ts en n w':=
 (Hy rb tv ts en n x w h).mono fun e w' ⟨h1,h2⟩=>⟨h1,Ad h2,h.below h2⟩
def G5 (W:World) (cs:List Value) (d:D):Prop:=∃ (at_:Int) (o:ByteArray) (wr:Bool) (ns:List ByteArray) (v:Value),cs=[I O at_,.string o,zd wr,v]/\d=Dv at_ o wr ns/\BR W v ns
theorem Nn {rb:Nat} {tv:Value} {ts:List Tok} {en:Nat} (n:Nat) (w:World) (h:St rb tv ts en n w) :
  Calls Tryz.prog 136 #[zf (some ⟨rb,0,none⟩)] w (Am ts en (BG ts en n) (fun d n1 e w'=>∃ (at_:Int) (o:ByteArray) (wr:Bool) (a:Option Addr) (k c:Nat),e=zh (zg #[I O at_,.string o,zd wr,zc a k c])/\Off w.heap.size none w' (fun W=>G5 W [I O at_,.string o,zd wr,zc a k c] d)/\w.grownBy w' (some rb)/\St rb tv ts en n1 w') (fun w'=>w.grownBy w' (some rb))):=by
 obtain ⟨ad,af⟩:=nm (BG ts en n);rw [<-af];have x:Hx (ad=Ar (AD ts n) fun o n1=>
   if isT ts n1 [33]=true then Ar (Bp ts (AN (Ag ts (n1+1))) (n1+1)) fun X n2=>.inl (Dv (Av ts en n) o true X,n2)
   else Ar (Aq ts [58] n1) fun _ n2=>Ar (Bp ts (AN (Ag ts n2)) n2) fun X N=>.inl (Dv (Av ts en n) o false X,N)):=af
 have g:=Aa (Rd.start h);clear h af;obtain ⟨V1,ax⟩:=nm (w.alloc (ze #[I O 0,.string ⟨#[]⟩,zd false,zc none 0 0] 53));obtain ⟨E,aw⟩:=nm w.heap.size;have C:Hx (w.heap.size<=E):=by show _<=_;rw [aw];exact g.o.size
 have b:Hx (Bx E [I O 0,.string ⟨#[]⟩,zd false,zc none 0 0] V1):=by show Bx _ _ _;rw [ax,aw];exact Bx.new w [I O 0,.string ⟨#[]⟩,zd false,zc none 0 0] 53
 replace g:Hx (Rd rb tv ts en w (n) V1):=by show Rd _ _ _ _ _ _ _;rw [ax];exact g.o.over (bA _ _)
 have K1:=Aa (Cr n _ g.o.st);go_enter Tryz.func136,Tryz.ntmps136;go_wp2_with fail;rw [<-ax,<-aw];clear aw ax;refine K1.o.mono ?_;rintro e wa ⟨rfl,u,F⟩;obtain ⟨p,hp⟩:=nm (Av ts en n);rw [<-hp] at x ⊢;clear hp;replace b:=bkp b g.o.rlt C u;replace g:Hx (Rd rb tv ts en w (n) wa):=g.o.call u F;clear u F;have K2:=Aa (Cq n _ g.o.st);clear K1;go_wp2_with fail;refine K2.o.mono ?_;rintro e w2 i;obtain ⟨m,K⟩ | ⟨o,N,K⟩:=Aj (AD ts n)
 ·replace i:Am ts en (AD ts n) _ _ e w2:=i
  rw [K] at i;obtain ⟨rfl,u⟩:=i;have HO:Hx (ad=.inr m):=by show _=_;rw [x.o,K];rfl
  have HG:=Aa (Ab g.o.gr u);clear u K;unfold Ai;go_wp2_with fail;refine ⟨rfl,?_⟩;rw [HO.o];exact ⟨rfl,HG.o⟩
 replace i:Am ts en (AD ts n) _ _ e w2:=i;rw [K] at i;obtain ⟨rfl,u,F⟩:=i;have hr:=x.o;rw [K,Al] at hr;replace x:=Aa hr;clear hr K;replace b:=bkp b g.o.rlt C u;replace g:Hx (Rd rb tv ts en w (N) w2):=g.o.call u F;clear u F;obtain ⟨V4,aj⟩:=nm (w2.alloc (ze #[I O p,.string o,zd false,zc none 0 0] 53));obtain ⟨L,ag⟩:=nm w2.heap.size;have U:Hx (w.heap.size<=L):=by show _<=_;rw [ag];exact g.o.size
 have r:Hx (E < L):=by show _ < _;rw [ag];exact b.o.lt
 have f:Hx (Bx L [I O p,.string o,zd false,zc none 0 0] V4):=by show Bx _ _ _;rw [aj,ag];exact Bx.new w2 [I O p,.string o,zd false,zc none 0 0] 53
 replace b:Hx (Bx E [I O 0,.string ⟨#[]⟩,zd false,zc none 0 0] V4):=by show Bx _ _ _;rw [aj];exact b.o.over (bA _ _)
 replace g:Hx (Rd rb tv ts en w (N) V4):=by show Rd _ _ _ _ _ _ _;rw [aj];exact g.o.over (bA _ _)
 have K3:=Aa (Gd ⟨#[33]⟩ (by decide) N _ g.o.st);clear K2;go_wp2_with fail;rw [<-aj,<-ag];clear ag aj;refine K3.o.mono ?_;rintro e wb ⟨rfl,u,F⟩;replace F:St rb tv ts en (if isT ts N [33]=true then N+1 else N) wb:=F;show _
 cases hq:isT ts N [33] with
 | false=>
  rw [hq] at F;have hr:=x.o;rw [if_neg (by rw [hq];simp)] at hr;replace x:=Aa hr;clear hr;replace F:St rb tv ts en (N) wb:=F;try rw [show isT ts N (ByteArray.mk #[33]).data.toList=false from hq]
  clear hq;replace b:=bkp b g.o.rlt C u;replace f:=bkp f g.o.rlt U u;replace g:Hx (Rd rb tv ts en w (N) wb):=g.o.call u F;clear u F;have Z:E≠L:=by have:=r.o;omega
  have Y:L≠E:=by have:=r.o;omega
  obtain ⟨ar,aq,ap,ao⟩:=rc4 f.o.row;obtain ⟨an,am,al,ak⟩:=fz4 f.o.fz;obtain ⟨V5,R⟩:=nm (wb.setCell ⟨L,2,none⟩ (zd false));replace f:Hx (Bx L [I O p,.string o,zd false,zc none 0 0] V5):=by show Bx _ _ _;rw [R];exact f.o.set (j:=2) (by simp)
  replace b:Hx (Bx E [I O 0,.string ⟨#[]⟩,zd false,zc none 0 0] V5):=by show Bx _ _ _;rw [R];exact b.o.far (by have:=r.o;omega)
  replace g:Hx (Rd rb tv ts en w (N) V5):=by show Rd _ _ _ _ _ _ _;rw [R];exact g.o.set (by exact U.o)
  have K4:=Aa (Bs ⟨#[58]⟩ (by decide) N _ g.o.st);clear K3;go_wp2_with fail;rw [<-R];clear R;clear ak al am an ao ap aq ar Y Z;refine K4.o.mono ?_;rintro e w6 i;obtain ⟨m,K⟩ | ⟨_u,n7,K⟩:=Aj (Aq ts [58] N)
  ·replace i:Am ts en (Aq ts [58] N) _ _ e w6:=i
   rw [K] at i;obtain ⟨rfl,u⟩:=i;have HO:Hx (ad=.inr m):=by show _=_;rw [x.o,K];rfl
   have HG:=Aa (Ab g.o.gr u);clear u K;unfold Ai;go_wp2_with fail;refine ⟨rfl,?_⟩;rw [HO.o];exact ⟨rfl,HG.o⟩
  replace i:Am ts en (Aq ts [58] N) _ _ e w6:=i;rw [K] at i;obtain ⟨rfl,u,F⟩:=i;have hr:=x.o;rw [K,Al] at hr;replace x:=Aa hr;clear hr K;replace b:=bkp b g.o.rlt C u;replace f:=bkp f g.o.rlt U u;replace g:Hx (Rd rb tv ts en w (n7) w6):=g.o.call u F;clear u F;have K5:=Aa (JK (n7) _ g.o.st);go_wp2_with fail;refine K5.o.mono ?_;rintro e wc ⟨rfl,u,F⟩;obtain ⟨q,hq⟩:=nm (AN (Ag ts (n7)));rw [<-hq] at x ⊢;clear hq;replace b:=bkp b g.o.rlt C u;replace f:=bkp f g.o.rlt U u;replace g:Hx (Rd rb tv ts en w (n7) wc):=g.o.call u F;clear u F;have K6:=Aa (IL q (n7) _ g.o.st);clear K5;go_wp2_with fail;obtain ⟨z,hz⟩:=nm wc.heap.size;have a3:Hx (w.heap.size<=z):=by show _<=_;rw [hz];exact g.o.size
  have M:Hx (E < z):=by show _ < _;rw [hz];exact b.o.lt
  have av:Hx (L < z):=by show _ < _;rw [hz];exact f.o.lt
  refine K6.o.mono ?_;rintro e w8 i;obtain ⟨m,K⟩ | ⟨X,n9,K⟩:=Aj (Bp ts q (n7))
  ·replace i:Am ts en (Bp ts q (n7)) _ _ e w8:=i
   rw [K] at i;obtain ⟨rfl,u⟩:=i;have HO:Hx (ad=.inr m):=by show _=_;rw [x.o,K];rfl
   have HG:=Aa (Ab g.o.gr u);clear u K;unfold Ai;go_wp2_with fail;refine ⟨rfl,?_⟩;rw [HO.o];exact ⟨rfl,HG.o⟩
  replace i:Am ts en (Bp ts q (n7)) _ _ e w8:=i;rw [K] at i;obtain ⟨J,H,rfl,P,a1,u,F⟩:=i;have hr:=x.o;rw [K,Al] at hr;replace x:=Aa hr;clear hr K;obtain ⟨G,Q⟩:=nm X.length;rw [<-Q,<-hz] at P;rw [<-Q];have l:=Aa P;clear a1 Q P hz;replace b:=bkp b g.o.rlt C u;replace f:=bkp f g.o.rlt U u;replace g:Hx (Rd rb tv ts en w (n9) w8):=g.o.call u F;clear u F;clear K6;have Z:E≠L:=by have:=r.o;omega
  have Y:L≠E:=by have:=r.o;omega
  obtain ⟨bm,bl,bk,bj⟩:=rc4 b.o.row;obtain ⟨bi,bh,bg,bf⟩:=fz4 b.o.fz;obtain ⟨ar,aq,ap,ao⟩:=rc4 f.o.row;obtain ⟨an,am,al,ak⟩:=fz4 f.o.fz;obtain ⟨T,B⟩:=nm (w8.setCell ⟨L,3,none⟩ (zc J G H));replace f:Hx (Bx L [I O p,.string o,zd false,zc J G H] T):=by show Bx _ _ _;rw [B];exact f.o.set (j:=3) (by simp)
  replace b:Hx (Bx E [I O 0,.string ⟨#[]⟩,zd false,zc none 0 0] T):=by show Bx _ _ _;rw [B];exact b.o.far (by have:=r.o;omega)
  replace g:Hx (Rd rb tv ts en w (n9) T):=by show Rd _ _ _ _ _ _ _;rw [B];exact g.o.set (by exact U.o)
  replace l:Hx (Off z none T (fun W=>BR W (zc J G H) X)):=by show Off _ _ _ _;rw [B];exact l.o.set av.o
  obtain ⟨S,A⟩:=nm (T.setCell ⟨E,0,none⟩ (I O p));replace b:Hx (Bx E [I O p,.string ⟨#[]⟩,zd false,zc none 0 0] S):=by show Bx _ _ _;rw [A];exact b.o.set (j:=0) (by simp)
  replace f:Hx (Bx L [I O p,.string o,zd false,zc J G H] S):=by show Bx _ _ _;rw [A];exact f.o.far (by have:=r.o;omega)
  replace g:Hx (Rd rb tv ts en w (n9) S):=by show Rd _ _ _ _ _ _ _;rw [A];exact g.o.set (by exact C.o)
  replace l:Hx (Off z none S (fun W=>BR W (zc J G H) X)):=by show Off _ _ _ _;rw [A];exact l.o.set M.o
  obtain ⟨V,y⟩:=nm (S.setCell ⟨E,1,none⟩ (.string o));replace b:Hx (Bx E [I O p,.string o,zd false,zc none 0 0] V):=by show Bx _ _ _;rw [y];exact b.o.set (j:=1) (by simp)
  replace f:Hx (Bx L [I O p,.string o,zd false,zc J G H] V):=by show Bx _ _ _;rw [y];exact f.o.far (by have:=r.o;omega)
  replace g:Hx (Rd rb tv ts en w (n9) V):=by show Rd _ _ _ _ _ _ _;rw [y];exact g.o.set (by exact C.o)
  replace l:Hx (Off z none V (fun W=>BR W (zc J G H) X)):=by show Off _ _ _ _;rw [y];exact l.o.set M.o
  obtain ⟨au,ab⟩:=nm (V.setCell ⟨E,2,none⟩ (zd false));replace b:Hx (Bx E [I O p,.string o,zd false,zc none 0 0] au):=by show Bx _ _ _;rw [ab];exact b.o.set (j:=2) (by simp)
  replace f:Hx (Bx L [I O p,.string o,zd false,zc J G H] au):=by show Bx _ _ _;rw [ab];exact f.o.far (by have:=r.o;omega)
  replace g:Hx (Rd rb tv ts en w (n9) au):=by show Rd _ _ _ _ _ _ _;rw [ab];exact g.o.set (by exact C.o)
  replace l:Hx (Off z none au (fun W=>BR W (zc J G H) X)):=by show Off _ _ _ _;rw [ab];exact l.o.set M.o
  obtain ⟨ay,aa⟩:=nm (au.setCell ⟨E,3,none⟩ (zc J G H));replace b:Hx (Bx E [I O p,.string o,zd false,zc J G H] ay):=by show Bx _ _ _;rw [aa];exact b.o.set (j:=3) (by simp)
  replace f:Hx (Bx L [I O p,.string o,zd false,zc J G H] ay):=by show Bx _ _ _;rw [aa];exact f.o.far (by have:=r.o;omega)
  replace g:Hx (Rd rb tv ts en w (n9) ay):=by show Rd _ _ _ _ _ _ _;rw [aa];exact g.o.set (by exact C.o)
  replace l:Hx (Off z none ay (fun W=>BR W (zc J G H) X)):=by show Off _ _ _ _;rw [aa];exact l.o.set M.o
  go_wp2_with fail;refine bodyPost_ret (v:=zg #[I O p,.string o,zd false,zc J G H]) (by simp [results,Tryz.results136,go_sem, *]) rfl ?_;rw [<-B,<-A,<-y,<-ab,<-aa];rw [x.o];exact ⟨p,o,false,J,G,H,rfl,(l.o.base a3.o).imp (fun W hW=>⟨p,o,false,X,_,rfl,rfl,hW⟩),g.o.gr,g.o.st⟩
 | true=>
  rw [hq] at F;have hr:=x.o;rw [if_pos hq] at hr;replace x:=Aa hr;clear hr;replace F:St rb tv ts en (N+1) wb:=F;try rw [show isT ts N (ByteArray.mk #[33]).data.toList=true from hq]
  clear hq;replace b:=bkp b g.o.rlt C u;replace f:=bkp f g.o.rlt U u;replace g:Hx (Rd rb tv ts en w (N+1) wb):=g.o.call u F;clear u F;have Z:E≠L:=by have:=r.o;omega
  have Y:L≠E:=by have:=r.o;omega
  obtain ⟨ar,aq,ap,ao⟩:=rc4 f.o.row;obtain ⟨an,am,al,ak⟩:=fz4 f.o.fz;obtain ⟨V5,R⟩:=nm (wb.setCell ⟨L,2,none⟩ (zd true));replace f:Hx (Bx L [I O p,.string o,zd true,zc none 0 0] V5):=by show Bx _ _ _;rw [R];exact f.o.set (j:=2) (by simp)
  replace b:Hx (Bx E [I O 0,.string ⟨#[]⟩,zd false,zc none 0 0] V5):=by show Bx _ _ _;rw [R];exact b.o.far (by have:=r.o;omega)
  replace g:Hx (Rd rb tv ts en w (N+1) V5):=by show Rd _ _ _ _ _ _ _;rw [R];exact g.o.set (by exact U.o)
  have K5:=Aa (JK (N+1) _ g.o.st);go_wp2_with fail;rw [<-R];clear R;clear ak al am an ao ap aq ar Y Z;refine K5.o.mono ?_;rintro e wc ⟨rfl,u,F⟩;obtain ⟨q,hq⟩:=nm (AN (Ag ts (N+1)));rw [<-hq] at x ⊢;clear hq;replace b:=bkp b g.o.rlt C u;replace f:=bkp f g.o.rlt U u;replace g:Hx (Rd rb tv ts en w (N+1) wc):=g.o.call u F;clear u F;have K6:=Aa (IL q (N+1) _ g.o.st);clear K5;go_wp2_with fail;obtain ⟨z,hz⟩:=nm wc.heap.size;have a3:Hx (w.heap.size<=z):=by show _<=_;rw [hz];exact g.o.size
  have M:Hx (E < z):=by show _ < _;rw [hz];exact b.o.lt
  have av:Hx (L < z):=by show _ < _;rw [hz];exact f.o.lt
  refine K6.o.mono ?_;rintro e w6 i;obtain ⟨m,K⟩ | ⟨X,n7,K⟩:=Aj (Bp ts q (N+1))
  ·replace i:Am ts en (Bp ts q (N+1)) _ _ e w6:=i
   rw [K] at i;obtain ⟨rfl,u⟩:=i;have HO:Hx (ad=.inr m):=by show _=_;rw [x.o,K];rfl
   have HG:=Aa (Ab g.o.gr u);clear u K;unfold Ai;go_wp2_with fail;refine ⟨rfl,?_⟩;rw [HO.o];exact ⟨rfl,HG.o⟩
  replace i:Am ts en (Bp ts q (N+1)) _ _ e w6:=i;rw [K] at i;obtain ⟨J,H,rfl,P,a1,u,F⟩:=i;have hr:=x.o;rw [K,Al] at hr;replace x:=Aa hr;clear hr K;obtain ⟨G,Q⟩:=nm X.length;rw [<-Q,<-hz] at P;rw [<-Q];have l:=Aa P;clear a1 Q P hz;replace b:=bkp b g.o.rlt C u;replace f:=bkp f g.o.rlt U u;replace g:Hx (Rd rb tv ts en w (n7) w6):=g.o.call u F;clear u F;clear K6;have Z:E≠L:=by have:=r.o;omega
  have Y:L≠E:=by have:=r.o;omega
  obtain ⟨bm,bl,bk,bj⟩:=rc4 b.o.row;obtain ⟨bi,bh,bg,bf⟩:=fz4 b.o.fz;obtain ⟨ar,aq,ap,ao⟩:=rc4 f.o.row;obtain ⟨an,am,al,ak⟩:=fz4 f.o.fz;obtain ⟨V8,ai⟩:=nm (w6.setCell ⟨L,3,none⟩ (zc J G H));replace f:Hx (Bx L [I O p,.string o,zd true,zc J G H] V8):=by show Bx _ _ _;rw [ai];exact f.o.set (j:=3) (by simp)
  replace b:Hx (Bx E [I O 0,.string ⟨#[]⟩,zd false,zc none 0 0] V8):=by show Bx _ _ _;rw [ai];exact b.o.far (by have:=r.o;omega)
  replace g:Hx (Rd rb tv ts en w (n7) V8):=by show Rd _ _ _ _ _ _ _;rw [ai];exact g.o.set (by exact U.o)
  replace l:Hx (Off z none V8 (fun W=>BR W (zc J G H) X)):=by show Off _ _ _ _;rw [ai];exact l.o.set av.o
  obtain ⟨V9,ah⟩:=nm (V8.setCell ⟨E,0,none⟩ (I O p));replace b:Hx (Bx E [I O p,.string ⟨#[]⟩,zd false,zc none 0 0] V9):=by show Bx _ _ _;rw [ah];exact b.o.set (j:=0) (by simp)
  replace f:Hx (Bx L [I O p,.string o,zd true,zc J G H] V9):=by show Bx _ _ _;rw [ah];exact f.o.far (by have:=r.o;omega)
  replace g:Hx (Rd rb tv ts en w (n7) V9):=by show Rd _ _ _ _ _ _ _;rw [ah];exact g.o.set (by exact C.o)
  replace l:Hx (Off z none V9 (fun W=>BR W (zc J G H) X)):=by show Off _ _ _ _;rw [ah];exact l.o.set M.o
  obtain ⟨T,B⟩:=nm (V9.setCell ⟨E,1,none⟩ (.string o));replace b:Hx (Bx E [I O p,.string o,zd false,zc none 0 0] T):=by show Bx _ _ _;rw [B];exact b.o.set (j:=1) (by simp)
  replace f:Hx (Bx L [I O p,.string o,zd true,zc J G H] T):=by show Bx _ _ _;rw [B];exact f.o.far (by have:=r.o;omega)
  replace g:Hx (Rd rb tv ts en w (n7) T):=by show Rd _ _ _ _ _ _ _;rw [B];exact g.o.set (by exact C.o)
  replace l:Hx (Off z none T (fun W=>BR W (zc J G H) X)):=by show Off _ _ _ _;rw [B];exact l.o.set M.o
  obtain ⟨S,A⟩:=nm (T.setCell ⟨E,2,none⟩ (zd true));replace b:Hx (Bx E [I O p,.string o,zd true,zc none 0 0] S):=by show Bx _ _ _;rw [A];exact b.o.set (j:=2) (by simp)
  replace f:Hx (Bx L [I O p,.string o,zd true,zc J G H] S):=by show Bx _ _ _;rw [A];exact f.o.far (by have:=r.o;omega)
  replace g:Hx (Rd rb tv ts en w (n7) S):=by show Rd _ _ _ _ _ _ _;rw [A];exact g.o.set (by exact C.o)
  replace l:Hx (Off z none S (fun W=>BR W (zc J G H) X)):=by show Off _ _ _ _;rw [A];exact l.o.set M.o
  obtain ⟨V,y⟩:=nm (S.setCell ⟨E,3,none⟩ (zc J G H));replace b:Hx (Bx E [I O p,.string o,zd true,zc J G H] V):=by show Bx _ _ _;rw [y];exact b.o.set (j:=3) (by simp)
  replace f:Hx (Bx L [I O p,.string o,zd true,zc J G H] V):=by show Bx _ _ _;rw [y];exact f.o.far (by have:=r.o;omega)
  replace g:Hx (Rd rb tv ts en w (n7) V):=by show Rd _ _ _ _ _ _ _;rw [y];exact g.o.set (by exact C.o)
  replace l:Hx (Off z none V (fun W=>BR W (zc J G H) X)):=by show Off _ _ _ _;rw [y];exact l.o.set M.o
  go_wp2_with fail;refine bodyPost_ret (v:=zg #[I O p,.string o,zd true,zc J G H]) (by simp [results,Tryz.results136,go_sem, *]) rfl ?_;rw [<-ai,<-ah,<-B,<-A,<-y];rw [x.o];exact ⟨p,o,true,J,G,H,rfl,(l.o.base a3.o).imp (fun W hW=>⟨p,o,true,X,_,rfl,rfl,hW⟩),g.o.gr,g.o.st⟩
theorem Tryz.infoPol:(Tryz.prog.info? 53).map (fun i=>(i.zero,i.size,i.bytes))=some (some (zg #[I O 0,.string ⟨#[]⟩,zd false,zc none 0 0]),4,56):=by kernel_rfl
theorem Fu {α:Type} {ts:List Tok} {sep:List UInt8} {one:Nat->Res α} (h1:∀ n a n1,one n=.inl (a,n1)->n<=n1):∀ (f:Nat) (sm:Bool) (acc:List α) (n:Nat) (l:List α) (n1:Nat),BW ts sep one f sm acc n=.inl (l,n1)->n<=n1
 | 0,sm,acc,n,l,n1,h=>by
  injection h with h;injection h with _ h;omega
 | f+1,sm,acc,n,l,n1,h=>by
  unfold BW at h;split at h
  ·obtain ⟨m,ho⟩ | ⟨a,n2,ho⟩:=Aj (one n)
   ·rw [ho] at h;cases h
   ·rw [ho,Al] at h
    have:=h1 _ _ _ ho;split at h
    ·have:=Fu h1 f true _ _ _ _ h
     omega
    ·injection h with h;injection h with _ h;omega
  ·injection h with h;injection h with _ h;omega
theorem Bk {ts:List Tok} {x:List UInt8} {n:Nat} {a:Unit} {n1:Nat} (h:Aq ts x n=.inl (a,n1)):n+1<=n1:=by
 unfold Aq at h;split at h
 ·injection h with h;injection h with _ h;omega
 ·cases h
theorem FR {ts:List Tok} {sm:Bool} {n:Nat} {l:List ByteArray} {n1:Nat} (h:Bp ts sm n=.inl (l,n1)):n<=n1:=Fu (fun _ _ _ h=>Nat.le_of_lt (BB h)) _ _ _ _ _ _ h
theorem E9 {ts:List Tok} {en n:Nat} {d:D} {n1:Nat} (h:BG ts en n=.inl (d,n1)):n+1<=n1:=by
 unfold BG at h;obtain ⟨m,c⟩ | ⟨a,n2,c⟩:=Aj (AD ts n)
 ·rw [c] at h;cases h
 rw [c,Al] at h;have l:=BB c;split at h
 ·obtain ⟨m,b⟩ | ⟨i,j,b⟩:=Aj (Bp ts (AN (Ag ts (n2+1))) (n2+1))
  ·rw [b] at h;cases h
  rw [b,Al] at h;have:=FR b;injection h with h;injection h with _ h;omega
 ·obtain ⟨m,f⟩ | ⟨u,g,f⟩:=Aj (Aq ts [58] n2)
  ·rw [f] at h;cases h
  rw [f,Al] at h;have:=Bk f;obtain ⟨m,b⟩ | ⟨i,j,b⟩:=Aj (Bp ts (AN (Ag ts g)) g)
  ·rw [b] at h;cases h
  rw [b,Al] at h;have:=FR b;injection h with h;injection h with _ h;omega
theorem PJ (args:Array Value) (w:World):(callFunc 135 args).run Tryz.prog w=.ok (.enter 135 args) w:=by simp [go_sem]
theorem NQ {w0:World} {rb:Nat} {tv:Value} {ts:List Tok} {en n0 lb xb:Nat} (acc:List D) (n:Nat) (w:World) (h:Gro w0 rb tv ts en n0 lb xb 53 4 G5 acc n w) :
  Calls Tryz.prog 135 #[zf (some ⟨lb,0,none⟩),zf (some ⟨xb,0,none⟩)] w (Am ts en (BG ts en n) (fun a n1 e w'=>e=zh (zi #[])/\Gro w0 rb tv ts en n0 lb xb 53 4 G5 (acc++[a]) n1 w') (fun w'=>w0.grownBy w' (some rb))):=by
 obtain ⟨i0,hi,am,al,ak⟩:=info_parts Tryz.infoPol;obtain ⟨v,l0,-⟩:=h.row;have x0:=h.xc;have b:=Aa h;have HL:=Aa l0;have KN:Hx (∀ X,St rb tv ts en n X->_):=fun X hX=>Nn n X hX;have HM:Hx (∀ n a n1,BG ts en n=.inl (a,n1)->n+1<=n1):=fun n a n1 h=>E9 h;clear h;go_enter Tryz.func135,Tryz.ntmps135;go_wp2_with fail;refine gS (fun Wz=>Wz.cell? ⟨xb,0,none⟩=some (zf (some ⟨rb,0,none⟩))) (ce1 (bD w) x0) fun c=>?_;have an:Hx (Ov w w.drew):=bD w;have ay:=ce1 (bD w) l0;generalize w.drew=W at c ay an ⊢;refine kT 1 ?_;refine rdB 0 2 rfl (fun K g=>?_) rfl fun K g=>?_
 ·go_simp
  refine xK g (c) fun c=>?_;clear g K;refine rdA 2 rfl fun K g=>?_;have H:Hx (Ov w W):=an.o;go_simp;refine (KN.o _ (b.o.st.below H.o)).mono ?_;rintro e E hp;obtain ⟨m,Q⟩ | ⟨a,n1,Q⟩:=Aj (BG ts en n)
  ·rw [Q] at hp
   obtain ⟨rfl,hg⟩:=hp;have HG:=Aa (Ab (Ab b.o.gr (Ad H.o)) hg);have HO:=Aa Q;clear hg Q g c;unfold Ai;go_simp;refine ⟨rfl,?_⟩;rw [HO.o];exact ⟨rfl,HG.o⟩
  rw [Q] at hp;obtain ⟨p0,p1,Z,Y,V,U,rfl,ac,ae,J⟩:=hp;have T:=Aa (ac.base H.o.size);clear ac;have HO:=Aa Q;have G:w.grownBy E (some rb):=Ab (Ad H.o) ae;have F:=Aa G;have S:=Aa J;have ad:some lb≠some rb:=fun e=>by injection e with e;have:=b.o.rlt;have:=b.o.l0;omega
  have aa:some xb≠some rb:=fun e=>by injection e with e;have:=b.o.rlt;have:=b.o.x0;omega
  have l1:E.cell? ⟨lb,0,none⟩=some v:=G.cell HL.o ad;have x1:E.cell? ⟨xb,0,none⟩=some (zf (some ⟨rb,0,none⟩)):=G.cell b.o.xc aa;clear Q ae J G ad aa c;go_simp;refine xK g (x1) fun c=>?_;clear g K;refine rdA 3 rfl fun K g=>?_;obtain ⟨R,l⟩:=nm (E.alloc (ze #[I O p0,.string p1,zd Z,zc Y V U] 53));have j:Ov E R:=by rw [l];exact bA _ _
  have ah:Hx (Af [I O p0,.string p1,zd Z,zc Y V U] R E.heap.size):=by show Af _ _ _;rw [l];exact Ax E [I O p0,.string p1,zd Z,zc Y V U] 53
  have l2:=ce1 j l1;have x2:=ce1 j x1;have C:=Aa j;go_simp;rw [<-l];clear l j;refine xK g (x2) fun c=>?_;clear g K;refine rdA 4 rfl fun K g=>?_;obtain ⟨xs,i,M,x⟩:=b.o.app HL.o F.o C.o;have L:w0.heap.size+2<=R.heap.size:=Nat.le_trans b.o.sz (Nat.le_trans F.o.size C.o.size);have af:acc.length<=6000:=Nat.le_trans b.o.few (Nat.le_trans b.o.st.2.1 b.o.st.2.2.1);obtain ⟨v2,W3,r,f,A,-,N⟩:=run_append_own_at (P:=Tryz.prog) (w:=R) (w0.heap.size+2) 45 45 53 i0 (zg #[I O 0,.string ⟨#[]⟩,zd false,zc none 0 0]) 4 56 Tryz.underlying45 hi am al ak rfl (by decide) _ _ _ i ⟨E.heap.size,0,none⟩ 1 1 [I O p0,.string p1,zd Z,zc Y V U] rfl (fun jj u hu=>by rw [Addr.add_lit,Nat.zero_add];exact ah.o jj u hu) (by simp [Value.oneCell']) (by unfold maxLen;omega) (by omega) L;obtain ⟨y,l3,x3,f3⟩:=b.o.add (a:=a) HL.o F.o S.o (HM.o _ _ _ HO.o) C.o i M x rfl T.o f A N;have B:=Aa y;obtain ⟨au,aq,ar,ab⟩:=AP f;subst ab;refine AV rfl _ _ _ rfl _ _ _ _ rfl rfl r ?_;clear r i M f A N y x af L;refine xK g (x3) fun c=>?_;clear g K;refine rdA 5 rfl fun K g=>?_;go_simp;refine xK g (B.o.xc) fun c=>?_;clear g K;refine gE ?_;go_wp2_with fail;go_end0;rw [HO.o];exact ⟨rfl,B.o⟩
 ·have H:Hx (Ov w W):=an.o
  go_simp;refine (KN.o _ (b.o.st.below H.o)).mono ?_;rintro e E hp;obtain ⟨m,Q⟩ | ⟨a,n1,Q⟩:=Aj (BG ts en n)
  ·rw [Q] at hp
   obtain ⟨rfl,hg⟩:=hp;have HG:=Aa (Ab (Ab b.o.gr (Ad H.o)) hg);have HO:=Aa Q;clear hg Q g c;unfold Ai;go_simp;refine ⟨rfl,?_⟩;rw [HO.o];exact ⟨rfl,HG.o⟩
  rw [Q] at hp;obtain ⟨p0,p1,Z,Y,V,U,rfl,ac,ae,J⟩:=hp;have T:=Aa (ac.base H.o.size);clear ac;have HO:=Aa Q;have G:w.grownBy E (some rb):=Ab (Ad H.o) ae;have F:=Aa G;have S:=Aa J;have ad:some lb≠some rb:=fun e=>by injection e with e;have:=b.o.rlt;have:=b.o.l0;omega
  have aa:some xb≠some rb:=fun e=>by injection e with e;have:=b.o.rlt;have:=b.o.x0;omega
  have l1:E.cell? ⟨lb,0,none⟩=some v:=G.cell HL.o ad;have x1:E.cell? ⟨xb,0,none⟩=some (zf (some ⟨rb,0,none⟩)):=G.cell b.o.xc aa;clear Q ae J G ad aa c;go_simp;refine xK g (x1) fun c=>?_;clear g K;refine rdB 0 3 rfl (fun K g=>?_) rfl fun K g=>?_
  ·go_simp
   refine xK g (c) fun c=>?_;clear g K;refine rdA 3 rfl fun K g=>?_;obtain ⟨R,l⟩:=nm (E.alloc (ze #[I O p0,.string p1,zd Z,zc Y V U] 53));have j:Ov E R:=by rw [l];exact bA _ _
   have ah:Hx (Af [I O p0,.string p1,zd Z,zc Y V U] R E.heap.size):=by show Af _ _ _;rw [l];exact Ax E [I O p0,.string p1,zd Z,zc Y V U] 53
   have l2:=ce1 j l1;have x2:=ce1 j x1;have C:=Aa j;go_simp;rw [<-l];clear l j;refine xK g (x2) fun c=>?_;clear g K;refine rdA 4 rfl fun K g=>?_;obtain ⟨xs,i,M,x⟩:=b.o.app HL.o F.o C.o;have L:w0.heap.size+2<=R.heap.size:=Nat.le_trans b.o.sz (Nat.le_trans F.o.size C.o.size);have af:acc.length<=6000:=Nat.le_trans b.o.few (Nat.le_trans b.o.st.2.1 b.o.st.2.2.1);obtain ⟨v2,W3,r,f,A,-,N⟩:=run_append_own_at (P:=Tryz.prog) (w:=R) (w0.heap.size+2) 45 45 53 i0 (zg #[I O 0,.string ⟨#[]⟩,zd false,zc none 0 0]) 4 56 Tryz.underlying45 hi am al ak rfl (by decide) _ _ _ i ⟨E.heap.size,0,none⟩ 1 1 [I O p0,.string p1,zd Z,zc Y V U] rfl (fun jj u hu=>by rw [Addr.add_lit,Nat.zero_add];exact ah.o jj u hu) (by simp [Value.oneCell']) (by unfold maxLen;omega) (by omega) L;obtain ⟨y,l3,x3,f3⟩:=b.o.add (a:=a) HL.o F.o S.o (HM.o _ _ _ HO.o) C.o i M x rfl T.o f A N;have B:=Aa y;obtain ⟨au,aq,ar,ab⟩:=AP f;subst ab;refine AV rfl _ _ _ rfl _ _ _ _ rfl rfl r ?_;clear r i M f A N y x af L;refine xK g (x3) fun c=>?_;clear g K;refine rdA 5 rfl fun K g=>?_;go_simp;refine xK g (B.o.xc) fun c=>?_;clear g K;refine gE ?_;go_wp2_with fail;go_end0;rw [HO.o];exact ⟨rfl,B.o⟩
  ·obtain ⟨R,l⟩:=nm (E.alloc (ze #[I O p0,.string p1,zd Z,zc Y V U] 53))
   have j:Ov E R:=by rw [l];exact bA _ _
   have ah:Hx (Af [I O p0,.string p1,zd Z,zc Y V U] R E.heap.size):=by show Af _ _ _;rw [l];exact Ax E [I O p0,.string p1,zd Z,zc Y V U] 53
   have l2:=ce1 j l1;have x2:=ce1 j x1;have C:=Aa j;go_simp;rw [<-l];clear l j;refine xK g (x2) fun c=>?_;clear g K;refine rdA 0 rfl fun K g=>?_;go_simp;refine xK g (c) fun c=>?_;clear g K;refine rdA 4 rfl fun K g=>?_;obtain ⟨xs,i,M,x⟩:=b.o.app HL.o F.o C.o;have L:w0.heap.size+2<=R.heap.size:=Nat.le_trans b.o.sz (Nat.le_trans F.o.size C.o.size);have af:acc.length<=6000:=Nat.le_trans b.o.few (Nat.le_trans b.o.st.2.1 b.o.st.2.2.1);obtain ⟨v2,W3,r,f,A,-,N⟩:=run_append_own_at (P:=Tryz.prog) (w:=R) (w0.heap.size+2) 45 45 53 i0 (zg #[I O 0,.string ⟨#[]⟩,zd false,zc none 0 0]) 4 56 Tryz.underlying45 hi am al ak rfl (by decide) _ _ _ i ⟨E.heap.size,0,none⟩ 1 1 [I O p0,.string p1,zd Z,zc Y V U] rfl (fun jj u hu=>by rw [Addr.add_lit,Nat.zero_add];exact ah.o jj u hu) (by simp [Value.oneCell']) (by unfold maxLen;omega) (by omega) L;obtain ⟨y,l3,x3,f3⟩:=b.o.add (a:=a) HL.o F.o S.o (HM.o _ _ _ HO.o) C.o i M x rfl T.o f A N;have B:=Aa y;obtain ⟨au,aq,ar,ab⟩:=AP f;subst ab;refine AV rfl _ _ _ rfl _ _ _ _ rfl rfl r ?_;clear r i M f A N y x af L;refine xK g (x3) fun c=>?_;clear g K;refine rdA 5 rfl fun K g=>?_;go_simp;refine xK g (B.o.xc) fun c=>?_;clear g K;refine gE ?_;go_wp2_with fail;go_end0;rw [HO.o];exact ⟨rfl,B.o⟩
theorem IM {rb:Nat} {tv:Value} {ts:List Tok} {en:Nat} (n:Nat) (w:World) (h:St rb tv ts en n w) :
  Calls Tryz.prog 97 #[zf (some ⟨rb,0,none⟩)] w (Am ts en (BV ts en n) (fun l n1 e w'=>∃ a c,e=zh (zc a l.length c)/\Off w.heap.size none w' (fun W=>LS 4 (G5 W) W (zc a l.length c) l)/\l.length<=6000/\w.grownBy w' (some rb)/\St rb tv ts en n1 w') (fun w'=>w.grownBy w' (some rb))):=by
 obtain ⟨V,hV⟩:=nm ((w.alloc (ze #[zf (some ⟨rb,0,none⟩)] 91)).alloc (ze #[zc none 0 0] 45));have A:Hx (Gro w rb tv ts en n (w.heap.size+1) w.heap.size 53 4 G5 [] n V):=by show Gro _ _ _ _ _ _ _ _ _ _ _ _ _ _;rw [hV];exact Gro.start h 45
 obtain ⟨C,r⟩:=nm (BV ts en n);rw [<-r];have x:Hx (C=Ar (Aq ts [123] n) fun _ n1=>Ar (BW ts [59] (BG ts en) (ts.length+1) (!isT ts n1 [125]) [] n1) fun l n2=>Ar (Aq ts [125] n2) fun _ Z=>.inl (l,Z)):=r;have K1:=Aa (Bs ⟨#[123]⟩ (by decide) n V A.o.st);have x0:=A.o.xc;clear h r;go_enter Tryz.func97,Tryz.ntmps97;go_wp2_with fail;rw [<-hV];clear hV;refine K1.o.mono ?_;rintro e B b;obtain ⟨m,f⟩ | ⟨u,n1,f⟩:=Aj (Aq ts [123] n)
 ·replace b:Am ts en (Aq ts [123] n) _ _ e B:=b
  rw [f] at b;obtain ⟨rfl,i⟩:=b;have T:Hx (C=.inr m):=by show _=_;rw [x.o,f];rfl
  have G:=Aa (Ab A.o.gr i);clear i f;unfold Ai;go_wp2_with fail;refine ⟨rfl,?_⟩;rw [T.o];exact ⟨rfl,G.o⟩
 replace b:Am ts en (Aq ts [123] n) _ _ e B:=b;rw [f] at b;obtain ⟨rfl,i,H⟩:=b;have hr:=x.o;rw [f,Al] at hr;replace x:=Aa hr;have E:=Aa (A.o.move (Nat.le_of_lt (Bk f)) i H);have K2:Hx (∀ X,Ov B X->_):=fun X (hX:Ov B X)=>Rc (rb:=rb) (tv:=tv) (ts:=ts) (en:=en) ⟨#[125]⟩ n1 X (E.o.st.below hX);have x1:=E.o.xc;clear hr f i H x0 K1 A;go_wp2_with fail;refine gS (fun Wz=>Wz.cell? ⟨w.heap.size,0,none⟩=some (zf (some ⟨rb,0,none⟩))) (ce1 (bD B) E.o.xc) fun g=>?_;have J:Hx (Ov B B.drew):=bD B;generalize B.drew=W at g J ⊢;refine kT 0 ?_;refine kT 1 ?_;refine kT 4 ?_;refine rdA 2 rfl fun K L=>?_;go_simp;refine (K2.o _ J.o).mono ?_;rintro e w2 ⟨rfl,P,M⟩;obtain ⟨q,hq⟩:=nm (isT ts n1 [125]);have N:isT ts n1 (ByteArray.mk #[125]).data.toList=q:=hq.symm;rw [N];have U:=Aa (E.o.move (Nat.le_refl _) (Ab (Ad J.o) P) M);have HQ:=Aa hq;clear hq N P M g;go_simp;refine xK L (U.o.xc) fun g=>?_;clear L K;refine kT 3 ?_;refine rdA 5 rfl fun K L=>?_;have KE:=Aa (Lm (rb:=rb) (tv:=tv) (ts:=ts) (en:=en) 135 [zf (some ⟨w.heap.size+1,0,none⟩),zf (some ⟨w.heap.size,0,none⟩)] PJ ⟨#[59]⟩ (by decide) (BG ts en) (fun I n2 w'=>Gro w rb tv ts en n (w.heap.size+1) w.heap.size 53 4 G5 I n2 w') (fun w'=>w.grownBy w' (some rb)) (fun _ _ _ h=>h.st) (fun _ _ _ h=>Nat.le_of_lt (E9 h)) (fun _ _ _ _ _ h hn i H=>h.move hn i H) (fun I n w' h=>NQ I n w' h) (!q) n1 w2 U.o);go_simp;refine KE.o.mono ?_;rintro e Y b;obtain ⟨m,f⟩ | ⟨l,n2,f⟩:=Aj (BW ts [59] (BG ts en) (ts.length+1) (!q) [] n1)
 ·replace b:Am ts en (BW ts [59] (BG ts en) (ts.length+1) (!q) [] n1) _ _ e Y:=b
  rw [f] at b;obtain ⟨rfl,i⟩:=b;have T:Hx (C=.inr m):=by show _=_;rw [x.o,<-HQ.o,f];rfl
  have G:=Aa i;clear i f L g;unfold Ai;go_simp;refine ⟨rfl,?_⟩;rw [T.o];exact ⟨rfl,G.o⟩
 replace b:Am ts en (BW ts [59] (BG ts en) (ts.length+1) (!q) [] n1) _ _ e Y:=b;rw [f] at b;obtain ⟨rfl,O⟩:=b;have hr:=x.o;rw [<-HQ.o,f,Al] at hr;have R:=Aa hr;have y:=Aa O;clear f O hr g;refine xK L (y.o.xc) fun g=>?_;clear L K;refine gE ?_;have KB:=Aa (Bs ⟨#[125]⟩ (by decide) n2 Y y.o.st);have x3:=y.o.xc;go_wp2_with fail;refine KB.o.mono ?_;rintro e w4 b;obtain ⟨m,f⟩ | ⟨u,Z,f⟩:=Aj (Aq ts [125] n2)
 ·replace b:Am ts en (Aq ts [125] n2) _ _ e w4:=b
  rw [f] at b;obtain ⟨rfl,i⟩:=b;have T:Hx (C=.inr m):=by show _=_;rw [R.o,f];rfl
  have G:=Aa (Ab y.o.gr i);clear i f;unfold Ai;go_wp2_with fail;refine ⟨rfl,?_⟩;rw [T.o];exact ⟨rfl,G.o⟩
 replace b:Am ts en (Aq ts [125] n2) _ _ e w4:=b;rw [f] at b;obtain ⟨rfl,i,H⟩:=b;have hr:=R.o;rw [f,Al] at hr;have ad:=Aa hr;have j:=y.o.move (n1:=Z) (by unfold Aq at f;split at f;(injection f with f;injection f with _ f;omega);cases f) i H;obtain ⟨v,hv,hc⟩:=j.row;have Q:l.length<=6000:=Nat.le_trans j.few (Nat.le_trans j.st.2.1 j.st.2.2.1);obtain ⟨a,c,rfl,F⟩:=Cop.ls hc (by decide) (by omega);have G:=Aa j;have S:=Aa (F.base (B':=w.heap.size) (by omega));have ae:=Aa Q;obtain ⟨k,hk⟩:=nm l.length;rw [<-hk] at hv;have HK:=Aa hk;clear f i H j hc F hr Q hk x3;go_wp2_with fail;go_ret;rw [ad.o];exact ⟨a,c,by rw [HK.o];rfl,S.o,ae.o,G.o.gr,G.o.st⟩
def XE (W:World):Nat->List Value->D->Prop
 | 0,_,_=>False
 | k+1,cs,d=>∃ (kd a n:Int) (x:ByteArray) (v:Value) (ds:List D),cs=[I O kd,I O a,I O n,.string x,v]/\d=eD kd a n x ds/\LS 5 (XE W k) W v ds
def XC (W:World):Nat->List Value->D->Prop
 | 0,_,_=>False
 | k+1,cs,d=>∃ (kd a:Int) (x y:ByteArray) (e0 e1 e2 e3 e4:Value) (e:D) (vA:Value) (args:List D) (vT:Value) (th:List D) (vE:Value) (el:List D),cs=[I O kd,I O a,.string x,.string y,e0,e1,e2,e3,e4,vA,vT,vE]/\d=stD kd a x y e args th el/\XE W 61 [e0,e1,e2,e3,e4] e/\LS 5 (XE W 61) W vA args/\LS 12 (XC W k) W vT th/\LS 12 (XC W k) W vE el
theorem LS.imp {α:Type} {size:Nat} {R R':List Value->α->Prop} {w:World} {v:Value} {l:List α} (h:LS size R w v l) (hR:∀ cs a,a∈l->R cs a->R' cs a):LS size R' w v l:=by
 obtain ⟨C,E,g,B,A⟩:=h;refine ⟨C,E,g,B,fun f=>?_⟩;obtain ⟨b,c,y,u,x⟩:=A f;refine ⟨b,c,y,u,fun i a j=>?_⟩;obtain ⟨cs,q1,r,n⟩:=x i a j;exact ⟨cs,q1,r,hR cs a (List.mem_of_getElem? j) n⟩
theorem XC.mono {W:World}:∀ {k m:Nat} {cs:List Value} {d:D},k<=m->XC W k cs d->XC W m cs d
 | 0,m,cs,d,_,h=>h.elim
 | k+1,0,cs,d,hk,h=>absurd hk (by omega)
 | k+1,m+1,cs,d,hk,h=>by
  obtain ⟨kd,a,x,y,e0,e1,e2,e3,e4,e,vA,args,vT,th,vE,el,h1,h2,h3,h4,h5,h6⟩:=h;exact ⟨kd,a,x,y,e0,e1,e2,e3,e4,e,vA,args,vT,th,vE,el,h1,h2,h3,h4,h5.imp fun cs d _ hh=>XC.mono (by omega) hh,h6.imp fun cs d _ hh=>XC.mono (by omega) hh⟩
def N5:D->List D
 | .agg [_,_,_,_,.slice l _]=>l
 | _=>[]
def Pq:Nat->D->Prop
 | 0,_=>True
 | k+1,d=>(N5 d).length<=2/\∀ a∈N5 d,Pq k a
section
variable {ts:List Tok} {en:Nat}
theorem FT:∀ (f deep n:Nat) (d:D) (n1:Nat),pE ts en f deep n=.inl (d,n1)->Pq f d/\n+1<=n1
 | 0,deep,n,d,n1,h=>by cases h
 | f+1,deep,n,d,n1,h=>by
  have nil:∀ (k a m:Int) (x:ByteArray),Pq (f+1) (eD k a m x []):=fun k a m x=>⟨Nat.zero_le _,fun y hy=>by cases hy⟩;unfold pE at h;split at h
  ·injection h with h;injection h with h1 h2;rw [<-h1];exact ⟨nil _ _ _ _,by omega⟩
  split at h
  ·split at h
   ·cases h
   split at h
   ·injection h with h;injection h with h1 h2;rw [<-h1];exact ⟨nil _ _ _ _,by omega⟩
   ·cases h
  split at h
  ·injection h with h;injection h with h1 h2;rw [<-h1];exact ⟨nil _ _ _ _,by omega⟩
  split at h
  ·cases ha:pE ts en f (deep+1) (n+1) with
   | inr m=>rw [ha] at h;cases h
   | inl p=>
    obtain ⟨a,m1⟩:=p;rw [ha] at h;obtain ⟨a1,a2⟩:=FT f _ _ _ _ ha;dsimp only at h;split at h
    ·cases h
    cases hb:pE ts en f (deep+1) (m1+1) with
    | inr m=>rw [hb] at h;cases h
    | inl q=>
     obtain ⟨b,m2⟩:=q;rw [hb] at h;obtain ⟨b1,b2⟩:=FT f _ _ _ _ hb;dsimp only at h;split at h
     ·injection h with h
      injection h with h1 h2;rw [<-h1];refine ⟨⟨Nat.le_refl _,fun y hy=>?_⟩,by omega⟩;have hy':y∈[a,b]:=hy;simp at hy';rcases hy' with rfl | rfl
      ·exact a1
      ·exact b1
     ·cases h
  ·cases h
end
theorem RE.xe {S:Nat->Prop} {W:World}:∀ {k:Nat} {cs:List Value} {d:D},RE S W k cs d->Pq k d->XE W k cs d
 | 0,cs,d,h,_=>h.elim
 | k+1,cs,d,h,hf=>by
  obtain ⟨kd,a,n,x,v,ds,h1,h2,ao,cap,hv,hc⟩:=h;subst h2;refine ⟨kd,a,n,x,v,ds,h1,rfl,?_,ao,cap,hv,fun hne=>?_⟩
  ·have:=hf.1
   have e:(N5 (eD kd a n x ds))=ds:=rfl;rw [e] at this;unfold maxLen;omega
  obtain ⟨b,off,hb,-,hz,he⟩:=hc hne;refine ⟨b,off,hb,hz,fun i d hd=>?_⟩;obtain ⟨cs,q1,q2,q3⟩:=he i d hd;exact ⟨cs,q1,q2,RE.xe q3 (hf.2 d (List.mem_of_getElem? hd))⟩
theorem Ew {rb:Nat} {tv:Value} {ts:List Tok} {en:Nat} (hall:ts.all Ao=true) (n:Nat) (w:World) (h:St rb tv ts en n w) :
  Calls Tryz.prog 133 #[zf (some ⟨rb,0,none⟩),I O 0] w (Am ts en (pX ts en n) (fun d n1 e w'=>∃ (kd a m:Int) (x:ByteArray) (ao:Option Addr) (l c:Nat),e=zh (zg #[I O kd,I O a,I O m,.string x,zc ao l c])/\Off w.heap.size none w' (fun W=>XE W 61 [I O kd,I O a,I O m,.string x,zc ao l c] d)/\N4 d=kd/\Ia d=x.data.toList/\w.grownBy w' (some rb)/\St rb tv ts en n1 w') (fun w'=>w.grownBy w' (some rb))):=by
 have C:=N1 rb tv ts hall en 61 0 n w (by omega) (by omega) h;refine C.mono fun e w' g=>?_;obtain ⟨m,i⟩ | ⟨d,n1,i⟩:=Aj (pX ts en n)
 ·have f:pE ts en 61 0 n=.inr m:=i
  rw [f] at g;rw [i];exact ⟨g.2,g.1⟩
 ·have f:pE ts en 61 0 n=.inl (d,n1):=i
  rw [f] at g;rw [i];obtain ⟨A,F,rfl,hr,u⟩:=g;obtain ⟨kd,a,m,x,v,E,rfl,rfl,y⟩:=id hr;obtain ⟨ao,r,rfl,-⟩:=id y;refine ⟨kd,a,m,x,ao,E.length,r,rfl,fun W hW=>?_,rfl,rfl,A,u⟩;exact RE.xe (S:=fun _=>True) (RE.mono (fun _ _ _=>trivial) (fun b B j=>hW b B j (by simp)) 61 61 _ _ (Nat.le_refl _) hr) (FT 61 0 n _ _ f).1
theorem XE.none (W:World):XE W 61 [I O 0,I O 0,I O 0,.string ⟨#[]⟩,zc none 0 0] noE:=⟨0,0,0,⟨#[]⟩,_,[],rfl,rfl,LS.nil⟩
section
variable (rb:Nat) (tv:Value) (ts:List Tok) (en:Nat)
def CM (f:Nat):Prop:=∀ (n:Nat) (w:World),St rb tv ts en n w->2*(ts.length - n)+2<=f ->
 Calls Tryz.prog 99 #[zf (some ⟨rb,0,none⟩)] w (Am ts en (AL ts en f [] n) (fun l n1 e w'=>∃ a c,e=zh (zc a l.length c)/\Off w.heap.size none w' (fun W=>LS 12 (XC W f) W (zc a l.length c) l)/\l.length<=6000/\w.grownBy w' (some rb)/\St rb tv ts en n1 w') (fun w'=>w.grownBy w' (some rb)))
def Lx (f:Nat):Prop:=∀ (n:Nat) (w:World),St rb tv ts en n w->2*(ts.length - n)+1<=f ->
 Calls Tryz.prog 137 #[zf (some ⟨rb,0,none⟩)] w (Am ts en (BZ ts en f n) (fun d n1 e w'=>∃ (kd a:Int) (x y:ByteArray) (e0 e1 e2:Int) (e3:ByteArray) (q0:Option Addr) (q1 q2:Nat) (q3:Option Addr) (q4 q5:Nat) (q6:Option Addr) (q7 q8:Nat) (q9:Option Addr) (r0 r1:Nat),e=zh (zg #[I O kd,I O a,.string x,.string y,I O e0,I O e1,I O e2,.string e3,zc q0 q1 q2,zc q3 q4 q5,zc q6 q7 q8,zc q9 r0 r1])/\Off w.heap.size none w' (fun W=>XC W f [I O kd,I O a,.string x,.string y,I O e0,I O e1,I O e2,.string e3,zc q0 q1 q2,zc q3 q4 q5,zc q6 q7 q8,zc q9 r0 r1] d)/\n+1<=n1/\w.grownBy w' (some rb)/\St rb tv ts en n1 w') (fun w'=>w.grownBy w' (some rb)))
end
end Go.Proofs.YtipngnjffjajpaaGreatDoor.Tx
