/- Trees in memory, however deep; what was read has short names. -/
import Derived.Test.YtipngnjffjajpaaGreatDoorI04
set_option linter.unusedVariables false
set_option maxHeartbeats 8000000
set_option maxRecDepth 100000
namespace Go.Proofs.YtipngnjffjajpaaGreatDoor.Tx
open Go.RowKit
open Go.Value renaming int -> A, slice -> O, bool -> zc, agg -> ze, pointer -> zf, tuple -> zh
open Go.IntKind renaming i64 -> J
open Go.Obj renaming cells -> zd
open Go.Ending renaming returned -> zg
def ZE (W:World):Nat->List Value->D->Prop
 | 0,_,_=>False
 | k+1,cs,d=>∃ (kd a n:Int) (x:ByteArray) (ao:Option Addr) (c:Nat) (ds:List D),cs=[A J kd,A J a,A J n,.string x,O ao ds.length c]/\d=eD kd a n x ds/\x.size<=maxLen/\LS 5 (ZE W k) W (O ao ds.length c) ds
def ZC (W:World) (ke:Nat):Nat->List Value->D->Prop
 | 0,_,_=>False
 | k+1,cs,d=>∃ (kd a:Int) (x y:ByteArray) (e0 e1 e2:Int) (e3:ByteArray) (q:Option Addr) (q1 q2:Nat) (e:D) (aA:Option Addr) (cA:Nat) (args:List D) (aT:Option Addr) (cT:Nat) (th:List D) (aE:Option Addr) (cE:Nat) (el:List D),
   cs=[A J kd,A J a,.string x,.string y,A J e0,A J e1,A J e2,.string e3,O q q1 q2,O aA args.length cA,O aT th.length cT,O aE el.length cE]/\d=stD kd a x y e args th el/\x.size<=maxLen/\y.size<=maxLen/\ZE W ke [A J e0,A J e1,A J e2,.string e3,O q q1 q2] e/\LS 5 (ZE W ke) W (O aA args.length cA) args/\LS 12 (ZC W ke k) W (O aT th.length cT) th/\LS 12 (ZC W ke k) W (O aE el.length cE) el
def ZN (cs:List Value) (x:ByteArray):Prop:=cs=[.string x]/\x.size<=maxLen
def ZP (W:World) (cs:List Value) (d:D):Prop:=∃ (a:Int) (o:ByteArray) (wr:Bool) (an:Option Addr) (cn:Nat) (ns:List ByteArray),cs=[A J a,.string o,zc wr,O an ns.length cn]/\d=C1 a o wr ns/\o.size<=maxLen/\LS 1 ZN W (O an ns.length cn) ns
def ZD (W:World) (ke kc:Nat) (cs:List Value) (d:D):Prop:=∃ (kd a:Int) (x y:ByteArray) (gv:Bool) (aL:Option Addr) (cL:Nat) (lb:List D) (aP:Option Addr) (cP:Nat) (ps:List ByteArray) (aB:Option Addr) (cB:Nat) (body:List D) (e0 e1 e2:Int) (e3:ByteArray) (q:Option Addr) (q1 q2:Nat) (r:D),
  cs=[A J kd,A J a,.string x,.string y,zc gv,O aL lb.length cL,O aP ps.length cP,O aB body.length cB,A J e0,A J e1,A J e2,.string e3,O q q1 q2]/\d=deD kd a x y gv lb ps body r/\x.size<=maxLen/\y.size<=maxLen/\LS 4 (ZP W) W (O aL lb.length cL) lb/\LS 1 ZN W (O aP ps.length cP) ps/\LS 12 (ZC W ke kc) W (O aB body.length cB) body/\ZE W ke [A J e0,A J e1,A J e2,.string e3,O q q1 q2] r
def ZT (W:World) (ke kc:Nat) (v:Value) (ds l:List D):Prop:=∃ (a:Option Addr) (c:Nat) (a2:Option Addr) (c2:Nat),v=ze #[O a ds.length c,O a2 l.length c2]/\LS 13 (ZD W ke kc) W (O a ds.length c) ds/\LS 12 (ZC W ke kc) W (O a2 l.length c2) l
theorem LS.up {α:Type} {size:Nat} {R R':List Value->α->Prop} {w w':World} {v:Value} {l:List α} (h:LS size R w v l) (hw:∀ a u,w.cell? a=some u->w'.cell? a=some u) (hz:∀ b off,Fz0 w b off->Fz0 w' b off) (hR:∀ cs a,a∈l->R cs a->R' cs a):LS size R' w' v l:=by
 obtain ⟨E,F,g,C,B⟩:=h;refine ⟨E,F,g,C,fun c=>?_⟩;obtain ⟨b,off,A,f,y⟩:=B c;refine ⟨b,off,A,hz b off f,fun i a n=>?_⟩;obtain ⟨cs,t,r,q⟩:=y i a n;exact ⟨cs,t,fun j u x=>hw _ _ (r j u x),hR cs a (List.mem_of_getElem? n) q⟩
section
variable {W W':World}
theorem ZE.up (hw:∀ a u,W.cell? a=some u->W'.cell? a=some u) (hz:∀ b off,Fz0 W b off->Fz0 W' b off):∀ {k m:Nat} {cs:List Value} {d:D},k<=m->ZE W k cs d->ZE W' m cs d
 | 0,m,cs,d,_,h=>h.elim
 | k+1,0,cs,d,hk,h=>absurd hk (by omega)
 | k+1,m+1,cs,d,hk,h=>by
  obtain ⟨kd,a,n,x,ao,c,ds,h1,h2,h3,h4⟩:=h;exact ⟨kd,a,n,x,ao,c,ds,h1,h2,h3,h4.up hw hz fun cs d _ hh=>ZE.up hw hz (by omega) hh⟩
theorem ZC.up (hw:∀ a u,W.cell? a=some u->W'.cell? a=some u) (hz:∀ b off,Fz0 W b off->Fz0 W' b off) {ke ke':Nat} (hke:ke<=ke'):∀ {k m:Nat} {cs:List Value} {d:D},k<=m->ZC W ke k cs d->ZC W' ke' m cs d
 | 0,m,cs,d,_,h=>h.elim
 | k+1,0,cs,d,hk,h=>absurd hk (by omega)
 | k+1,m+1,cs,d,hk,h=>by
  obtain ⟨kd,a,x,y,e0,e1,e2,e3,q,q1,q2,e,aA,cA,args,aT,cT,th,aE,cE,el,h1,h2,h3,h4,h5,h6,h7,h8⟩:=h;exact ⟨kd,a,x,y,e0,e1,e2,e3,q,q1,q2,e,aA,cA,args,aT,cT,th,aE,cE,el,h1,h2,h3,h4,h5.up hw hz hke,h6.up hw hz fun cs d _ hh=>hh.up hw hz hke,h7.up hw hz fun cs d _ hh=>ZC.up hw hz hke (by omega) hh,h8.up hw hz fun cs d _ hh=>ZC.up hw hz hke (by omega) hh⟩
theorem ZP.up (hw:∀ a u,W.cell? a=some u->W'.cell? a=some u) (hz:∀ b off,Fz0 W b off->Fz0 W' b off) {cs:List Value} {d:D} (h:ZP W cs d):ZP W' cs d:=by
 obtain ⟨a,o,wr,l,j,b,i,g,f,c⟩:=h;exact ⟨a,o,wr,l,j,b,i,g,f,c.up hw hz fun _ _ _ h=>h⟩
theorem ZD.up (hw:∀ a u,W.cell? a=some u->W'.cell? a=some u) (hz:∀ b off,Fz0 W b off->Fz0 W' b off) {ke ke' kc kc':Nat} (hke:ke<=ke') (hkc:kc<=kc') {cs:List Value} {d:D} (h:ZD W ke kc cs d):ZD W' ke' kc' cs d:=by
 obtain ⟨j,a,x,y,E,N,K,i,M,J,g,O,L,b,I,H,G,F,q,f,c,r,C,B,A,v,u,t,n,l⟩:=h;exact ⟨j,a,x,y,E,N,K,i,M,J,g,O,L,b,I,H,G,F,q,f,c,r,C,B,A,v,u.up hw hz fun _ _ _ h=>h.up hw hz,t.up hw hz fun _ _ _ h=>h,n.up hw hz fun _ _ _ h=>h.up hw hz hke hkc,l.up hw hz hke⟩
theorem ZT.up (hw:∀ a u,W.cell? a=some u->W'.cell? a=some u) (hz:∀ b off,Fz0 W b off->Fz0 W' b off) {ke ke' kc kc':Nat} (hke:ke<=ke') (hkc:kc<=kc') {v:Value} {ds l:List D} (h:ZT W ke kc v ds l):ZT W' ke' kc' v ds l:=by
 obtain ⟨a,c,j,i,g,f,b⟩:=h;exact ⟨a,c,j,i,g,f.up hw hz fun _ _ _ h=>h.up hw hz hke hkc,b.up hw hz fun _ _ _ h=>h.up hw hz hke hkc⟩
end
theorem fzO {W W':World} (hb:Ov W W'):∀ b off,Fz0 W b off->Fz0 W' b off:=fun b off h=>h.of_block (hb.block b h.1)
section
variable {W W':World}
theorem ZE.over (hb:Ov W W') {k:Nat} {cs:List Value} {d:D} (h:ZE W k cs d):ZE W' k cs d:=h.up (fun _ _ h=>ce1 hb h) (fzO hb) (Nat.le_refl _)
theorem ZC.over (hb:Ov W W') {ke k:Nat} {cs:List Value} {d:D} (h:ZC W ke k cs d):ZC W' ke k cs d:=h.up (fun _ _ h=>ce1 hb h) (fzO hb) (Nat.le_refl _) (Nat.le_refl _)
theorem ZP.over (hb:Ov W W') {cs:List Value} {d:D} (h:ZP W cs d):ZP W' cs d:=h.up (fun _ _ h=>ce1 hb h) (fzO hb)
theorem ZD.over (hb:Ov W W') {ke kc:Nat} {cs:List Value} {d:D} (h:ZD W ke kc cs d):ZD W' ke kc cs d:=h.up (fun _ _ h=>ce1 hb h) (fzO hb) (Nat.le_refl _) (Nat.le_refl _)
theorem ZT.over (hb:Ov W W') {ke kc:Nat} {v:Value} {ds l:List D} (h:ZT W ke kc v ds l):ZT W' ke kc v ds l:=h.up (fun _ _ h=>ce1 hb h) (fzO hb) (Nat.le_refl _) (Nat.le_refl _)
theorem Co (hb:Ov W W') {k:Nat} {v:Value} {ds:List D} (h:LS 5 (ZE W k) W v ds):LS 5 (ZE W' k) W' v ds:=h.up (fun _ _ h=>ce1 hb h) (fzO hb) fun _ _ _ h=>h.over hb
theorem Ao (hb:Ov W W') {ke k:Nat} {v:Value} {ds:List D} (h:LS 12 (ZC W ke k) W v ds):LS 12 (ZC W' ke k) W' v ds:=h.up (fun _ _ h=>ce1 hb h) (fzO hb) fun _ _ _ h=>h.over hb
theorem CF (hb:Ov W W') {v:Value} {ds:List D} (h:LS 4 (ZP W) W v ds):LS 4 (ZP W') W' v ds:=h.up (fun _ _ h=>ce1 hb h) (fzO hb) fun _ _ _ h=>h.over hb
theorem FY (hb:Ov W W') {ke k:Nat} {v:Value} {ds:List D} (h:LS 13 (ZD W ke k) W v ds):LS 13 (ZD W' ke k) W' v ds:=h.up (fun _ _ h=>ce1 hb h) (fzO hb) fun _ _ _ h=>h.over hb
theorem BB (hb:Ov W W') {v:Value} {ns:List ByteArray} (h:LS 1 ZN W v ns):LS 1 ZN W' v ns:=h.up (fun _ _ h=>ce1 hb h) (fzO hb) fun _ _ _ h=>h
end
def Og:Nat->D->Prop
 | 0,_=>True
 | k+1,d=>match d with
  | .lit (.string x)=>x.length<=6000
  | .agg l=>∀ a∈l,Og k a
  | .slice l _=>∀ a∈l,Og k a
  | _=>True
def SD (d:D):Prop:=∀ k,Og k d
theorem SD.agg {l:List D} (h:∀ a∈l,SD a):SD (.agg l):=fun k=>by
 cases k with
 | zero=>trivial
 | succ k=>exact fun a ha=>h a ha k
theorem SD.list {l:List D} (h:∀ a∈l,SD a):SD (dL l):=fun k=>by
 cases k with
 | zero=>trivial
 | succ k=>exact fun a ha=>h a ha k
theorem SD.int (n:Int):SD (dI n):=fun k=>by cases k <;> trivial
theorem SD.bool (n:Bool):SD (dB n):=fun k=>by cases k <;> trivial
theorem SD.str {x:ByteArray} (h:x.size<=6000):SD (dS x):=fun k=>by
 cases k with
 | zero=>trivial
 | succ k=>show x.data.toList.length<=6000;simpa using h
theorem SD.of_agg {l:List D} (h:SD (.agg l)):∀ a∈l,SD a:=fun a ha k=>h (k+1) a ha
theorem SD.of_list {l:List D} (h:SD (dL l)):∀ a∈l,SD a:=fun a ha k=>h (k+1) a ha
theorem SD.of_str {x:ByteArray} (h:SD (dS x)):x.size<=6000:=by
 have:x.data.toList.length<=6000:=h 1;simpa using this
theorem SD.e {kd a n:Int} {x:ByteArray} {ds:List D} (hx:x.size<=6000) (h:∀ a∈ds,SD a):SD (eD kd a n x ds):=SD.agg fun y hy=>by
 simp at hy;rcases hy with rfl | rfl | rfl | rfl | rfl
 ·exact SD.int _
 ·exact SD.int _
 ·exact SD.int _
 ·exact SD.str hx
 ·exact SD.list h
theorem SD.s {kd a:Int} {x y:ByteArray} {e:D} {args th el:List D} (hx:x.size<=6000) (hy:y.size<=6000) (he:SD e) (h1:∀ a∈args,SD a) (h2:∀ a∈th,SD a) (h3:∀ a∈el,SD a):SD (stD kd a x y e args th el):=SD.agg fun y hy=>by
 simp at hy;rcases hy with rfl | rfl | rfl | rfl | rfl | rfl | rfl | rfl
 ·exact SD.int _
 ·exact SD.int _
 ·exact SD.str hx
 ·exact SD.str (by assumption)
 ·exact he
 ·exact SD.list h1
 ·exact SD.list h2
 ·exact SD.list h3
theorem SD.strs {ns:List ByteArray} (h:∀ x∈ns,x.size<=6000):∀ a∈ns.map dS,SD a:=fun a ha=>by
 obtain ⟨x,hx,rfl⟩:=List.mem_map.1 ha;exact SD.str (h x hx)
theorem SD.of_strs {ns:List ByteArray} (h:∀ a∈ns.map dS,SD a):∀ x∈ns,x.size<=6000:=fun x hx=>SD.of_str (h _ (List.mem_map_of_mem hx))
theorem SD.p {a:Int} {o:ByteArray} {wr:Bool} {ns:List ByteArray} (ho:o.size<=6000) (h:∀ x∈ns,x.size<=6000):SD (C1 a o wr ns):=SD.agg fun y hy=>by
 simp at hy;rcases hy with rfl | rfl | rfl | rfl
 ·exact SD.int _
 ·exact SD.str ho
 ·exact SD.bool _
 ·exact SD.list (SD.strs h)
theorem SD.d {kd a:Int} {x y:ByteArray} {gv:Bool} {lb:List D} {ps:List ByteArray} {body:List D} {r:D} (hx:x.size<=6000) (hy:y.size<=6000) (h1:∀ a∈lb,SD a) (h2:∀ x∈ps,x.size<=6000) (h3:∀ a∈body,SD a) (hr:SD r):SD (deD kd a x y gv lb ps body r):=SD.agg fun y hy=>by
 simp at hy;rcases hy with rfl | rfl | rfl | rfl | rfl | rfl | rfl | rfl | rfl
 ·exact SD.int _
 ·exact SD.int _
 ·exact SD.str hx
 ·exact SD.str (by assumption)
 ·exact SD.bool _
 ·exact SD.list h1
 ·exact SD.list (SD.strs h2)
 ·exact SD.list h3
 ·exact hr
theorem Pq {α:Type} {P:α->Prop} {a b c d:α} (h:∀ y∈[a,b,c,d],P y):P a/\P b/\P c/\P d:=⟨h a (by simp),h b (by simp),h c (by simp),h d (by simp)⟩
theorem Pp {α:Type} {P:α->Prop} {a b c d e:α} (h:∀ y∈[a,b,c,d,e],P y):P a/\P b/\P c/\P d/\P e:=⟨h a (by simp),h b (by simp),h c (by simp),h d (by simp),h e (by simp)⟩
theorem Po {α:Type} {P:α->Prop} {a b c d e f g i:α} (h:∀ y∈[a,b,c,d,e,f,g,i],P y):P a/\P b/\P c/\P d/\P e/\P f/\P g/\P i:=⟨h a (by simp),h b (by simp),h c (by simp),h d (by simp),h e (by simp),h f (by simp),h g (by simp),h i (by simp)⟩
theorem Pn {α:Type} {P:α->Prop} {a b c d e f g i j:α} (h:∀ y∈[a,b,c,d,e,f,g,i,j],P y):P a/\P b/\P c/\P d/\P e/\P f/\P g/\P i/\P j:=⟨h a (by simp),h b (by simp),h c (by simp),h d (by simp),h e (by simp),h f (by simp),h g (by simp),h i (by simp),h j (by simp)⟩
theorem Cy {n:Nat} (h:n<=6000):n<=maxLen:=by unfold maxLen;omega
theorem ZE.cells {W:World} {k:Nat} {cs:List Value} {d:D} (h:ZE W k cs d):∃ (kd a n:Int) (x:ByteArray) (q:Option Addr) (q1 q2:Nat),cs=[A J kd,A J a,A J n,.string x,O q q1 q2]:=by
 cases k with
 | zero=>exact h.elim
 | succ k=>
  obtain ⟨kd,a,n,x,f,c,g,b,-⟩:=h;exact ⟨kd,a,n,x,f,_,c,b⟩
theorem ZC.cells {W:World} {ke k:Nat} {cs:List Value} {d:D} (h:ZC W ke k cs d):∃ (kd a:Int) (x y:ByteArray) (e0 e1 e2:Int) (e3:ByteArray) (q:Option Addr) (q1 q2:Nat) (aA:Option Addr) (nA cA:Nat) (aT:Option Addr) (nT cT:Nat) (aE:Option Addr) (nE cE:Nat),cs=[A J kd,A J a,.string x,.string y,A J e0,A J e1,A J e2,.string e3,O q q1 q2,O aA nA cA,O aT nT cT,O aE nE cE]:=by
 cases k with
 | zero=>exact h.elim
 | succ k=>
  obtain ⟨kd,a,x,y,e0,e1,e2,e3,q,q1,q2,e,aA,cA,b,aT,cT,f,aE,cE,g,c,-⟩:=h;exact ⟨kd,a,x,y,e0,e1,e2,e3,q,q1,q2,aA,_,cA,aT,_,cT,aE,_,cE,c⟩
theorem ZP.cells {W:World} {cs:List Value} {d:D} (h:ZP W cs d):∃ (a:Int) (o:ByteArray) (wr:Bool) (an:Option Addr) (nn cn:Nat),cs=[A J a,.string o,zc wr,O an nn cn]:=by
 obtain ⟨a,o,wr,an,cn,c,b,-⟩:=h;exact ⟨a,o,wr,an,_,cn,b⟩
theorem ZD.cells {W:World} {ke kc:Nat} {cs:List Value} {d:D} (h:ZD W ke kc cs d):∃ (kd a:Int) (x y:ByteArray) (gv:Bool) (aL:Option Addr) (nL cL:Nat) (aP:Option Addr) (nP cP:Nat) (aB:Option Addr) (nB cB:Nat) (e0 e1 e2:Int) (e3:ByteArray) (q:Option Addr) (q1 q2:Nat),cs=[A J kd,A J a,.string x,.string y,zc gv,O aL nL cL,O aP nP cP,O aB nB cB,A J e0,A J e1,A J e2,.string e3,O q q1 q2]:=by
 obtain ⟨kd,a,x,y,gv,aL,cL,g,aP,cP,f,aB,cB,b,e0,e1,e2,e3,q,q1,q2,r,c,-⟩:=h;exact ⟨kd,a,x,y,gv,aL,_,cL,aP,_,cP,aB,_,cB,e0,e1,e2,e3,q,q1,q2,c⟩
abbrev Ro (F:FuncId) (args:Array Value) (w:World) (r:Value):Prop:=Calls Tryz.prog F args w fun e w'=>e=zg r/\Ov w w'
theorem LS.at {α:Type} {size:Nat} {R:List Value->α->Prop} {w:World} {ao:Option Addr} {n c:Nat} {l:List α} (h:LS size R w (O ao n c) l) {j:Nat} (hj:j < l.length) :
  ∃ b off,ao=some ⟨b,off,none⟩/\∃ cs:List Value,cs.length=size/\(∀ (i:Nat) (u:Value),cs[i]? = some u->w.cell? ⟨b,off+j*size+i,none⟩=some u)/\R cs l[j]:=by
 obtain ⟨-,y,x,e,t⟩:=h;injection e with v B A;subst v;obtain ⟨b,off,r,-,q⟩:=t (by rintro rfl;simp at hj);obtain ⟨cs,g,f,a⟩:=q j l[j] (List.getElem?_eq_getElem hj);exact ⟨b,off,r,cs,g,f,a⟩
theorem LS.fz {α:Type} {size:Nat} {R:List Value->α->Prop} {w:World} {ao:Option Addr} {n c:Nat} {l:List α} (h:LS size R w (O ao n c) l) (hl:l≠[]):∃ b off,ao=some ⟨b,off,none⟩/\Fz0 w b off:=by
 obtain ⟨-,q,j,e,g⟩:=h;injection e with i t r;subst i;obtain ⟨b,off,f,a,-⟩:=g hl;exact ⟨b,off,f,a⟩
theorem LS.max {α:Type} {size:Nat} {R:List Value->α->Prop} {w:World} {v:Value} {l:List α} (h:LS size R w v l):l.length<=9223372036854775807:=h.1
theorem Dr {α β:Type} {F:β->α->β} {l:List α} {j:Nat} (hj:j < l.length) (s:β):(l.drop j).foldl F s=(l.drop (j+1)).foldl F (F s l[j]):=by
 rw [List.drop_eq_getElem_cons hj,List.foldl_cons]
theorem Im (k:Nat):∀ (l:List D) (t:Int),t < 0->l.foldl (fun l a=>if l < 0 then l else plK k a l) t=t
 | [],t,h=>rfl
 | a::l,t,h=>by rw [List.foldl_cons,if_pos h];exact Im k l t h
theorem Io:∀ (k:Nat) (cs:List Value) (d:D) (w:World) (L:Int),ZE w k cs d->0<=L->L<=15->Ro 139 #[.agg cs.toArray,A J L] w (A J (plK k d L)):=by
 intro k
 induction k with
 | zero=>intro cs d w L h;exact h.elim
 | succ k ih=>
  intro cs d w L h L0 L1;obtain ⟨S,a,n,x,ao,c,E,rfl,rfl,-,U⟩:=h;have HC:=Aa U;have IH:=Aa ih;have HL:=U.max;obtain ⟨P,B⟩:=nm (E.foldl (fun l a=>if l < 0 then l else plK k a l) (L - 1));have y:plK (k+1) (eD S a n x E) L=P:=by rw [B];rfl
  rw [y];have HF:=Aa B;obtain ⟨F,H⟩:=nm E.length;rw [<-H] at HL ⊢;have HN:=Aa H;have C:=bA w (zd #[A J S,A J a,A J n,.string x,O ao F c] 49);clear U ih y B H;show Ro 139 #[ze #[A J S,A J a,A J n,.string x,O ao F c],A J L] w _;go_enter Tryz.func139,Tryz.ntmps139;go_wp2_with fail;go_loopw [1,12] (fun c i wr=>∃ (j:Nat) (t:Int),j<=F/\i=A J j/\c=A J t/\-1<=t/\t<=15/\(E.drop j).foldl (fun l a=>if l < 0 then l else plK k a l) t=P/\Ov w wr) (fun _ i _=>F - (intOf i).toNat)
  case atStart=>exact ⟨0,L - 1,Nat.zero_le _,rfl,by go_num,by omega,by omega,HF.o.symm,C⟩
  case round=>
   clear C;obtain ⟨j,t,hj,rfl,rfl,t1,t2,v,g⟩:=hrel;by_cases hjl:j < F
   ·have u:j < E.length:=by have:=HN.o;omega
    obtain ⟨b,I,rfl,cs,K,f,hr⟩:=HC.o.at u;rw [Dr u] at v;by_cases ht0:t < 0
    ·rw [if_pos ht0,Im k _ _ ht0] at v
     obtain ⟨k0,k1,k2,k3,q,q1,q2,rfl⟩:=hr.cells;have c0:wr.cell? ⟨b,I+j*5,none⟩=_:=ce1 g (f 0 _ rfl);have c1:=ce1 g (f 1 _ rfl);have c2:=ce1 g (f 2 _ rfl);have c3:=ce1 g (f 3 _ rfl);have c4:=ce1 g (f 4 _ rfl);have Q:=Aa v;have R:=Aa g;clear f K hr v g u;have T:(j:Int) < (F:Int):=by omega
     go_wp2_with fail;go_ret;exact ⟨by rw [Q.o];rfl,Ab R.o (bA _ _)⟩
    ·rw [if_neg ht0] at v
     have Y:=L4 k E[j] t (by omega);obtain ⟨Z,M⟩:=nm E[j];rw [<-M] at v Y hr;obtain ⟨r,G⟩:=nm (plK k Z t);have KC:Hx (∀ X,Ov wr X->Ro 139 #[.agg cs.toArray,A J t] X (A J r)):=fun X hX=>by rw [G];exact IH.o cs Z X t ((hr.over g).over hX) (by omega) (by omega)
     obtain ⟨k0,k1,k2,k3,q,q1,q2,rfl⟩:=hr.cells;have c0:wr.cell? ⟨b,I+j*5,none⟩=_:=ce1 g (f 0 _ rfl);have c1:=ce1 g (f 1 _ rfl);have c2:=ce1 g (f 2 _ rfl);have c3:=ce1 g (f 3 _ rfl);have c4:=ce1 g (f 4 _ rfl);rw [<-G] at v Y;have Q:=Aa v;have R:=Aa g;have T:(j:Int) < (F:Int):=by omega
     clear f K hr v g u G M;go_wp2_with fail;refine (KC.o _ (bA _ _)).mono ?_;rintro e w1 ⟨rfl,N⟩;have V:Hx (Ov w w1):=Ab R.o (Ab (bA _ _) N);clear N c0 c1 c2 c3 c4 KC;go_wp2_with fail;exact ⟨⟨j+1,r,by omega,by go_num,rfl,by omega,by omega,Q.o,V.o⟩,by simp [intOf];omega⟩
   ·have W:E.drop j=[]:=List.drop_eq_nil_of_le (by have:=HN.o;omega)
    rw [W] at v;have Q:=Aa v;have R:=Aa g;clear v g W;go_wp2_with fail;go_ret;exact ⟨by rw [<-Q.o];rfl,R.o⟩
theorem J1 {α:Type} (p:α->Bool) (l:List α):(!l.all fun x=>!p x)=l.any p:=by
 induction l with
 | nil=>rfl
 | cons a l ih=>rw [List.all_cons,List.any_cons,<-ih];cases p a <;> simp
theorem EX (k:Nat) (cs:List Value) (d:D) (w:World) (h:ZE w k cs d):Ro 104 #[.agg cs.toArray] w (zc (B4 k d)):=by
 obtain ⟨r,hr⟩:=nm (plK k d 15);have c:Hx (∀ X,Ov w X->Ro 139 #[.agg cs.toArray,A J 15] X (A J r)):=fun X g=>by rw [hr];exact Io k cs d X 15 (h.over g) (by omega) (by omega)
 obtain ⟨l,k1,k2,k3,q,j,i,rfl⟩:=h.cells;unfold B4;rw [<-hr];clear h hr;go_enter Tryz.func104,Tryz.ntmps104;go_wp2_with fail;refine (c.o _ (bA _ _)).mono ?_;rintro e f ⟨rfl,a⟩;have b:Hx (Ov w f):=Ab (bA _ _) a;clear a c;go_wp2_with fail;go_ret;exact ⟨rfl,b.o⟩
theorem Kr (k:Nat) (cs:List Value) (d:D) (w:World) (h:ZE w k cs d):Ro 140 #[.agg cs.toArray] w (zc (!B4 k d)):=by
 obtain ⟨r,hr⟩:=nm (B4 k d);have c:Hx (∀ X,Ov w X->Ro 104 #[.agg cs.toArray] X (zc r)):=fun X g=>by rw [hr];exact EX k cs d X (h.over g)
 obtain ⟨l,k1,k2,k3,q,j,i,rfl⟩:=h.cells;rw [<-hr];clear h hr;go_enter Tryz.func140,Tryz.ntmps140;go_wp2_with fail;refine (c.o _ (bA _ _)).mono ?_;rintro e f ⟨rfl,a⟩;have b:Hx (Ov w f):=Ab (bA _ _) a;clear a c;go_wp2_with fail;go_ret;exact ⟨rfl,b.o⟩
theorem Jx {k:Nat} (F:FuncId) (hC:∀ (args:Array Value) (w:World),(callFunc F args).run Tryz.prog w=.ok (.enter F args) w) (p:D->Bool) (l:List D) (ao:Option Addr) (cap:Nat) (w:World) (hp:∀ (cs:List Value) (d:D) (X:World),d∈l->ZE X k cs d->Ro F #[.agg cs.toArray] X (zc (p d))) (hc:LS 5 (ZE w k) w (O ao l.length cap) l) :
  Ro 111 #[O ao l.length cap,.func (.func F) #[] #[]] w (zc (l.all p)):=by
 have HC:=Aa hc;have G:=Aa hp;have HL:=hc.max;obtain ⟨E,g⟩:=nm (l.all p);rw [<-g];have HF:=Aa g;obtain ⟨y,t⟩:=nm l.length;rw [<-t] at HL ⊢;have N:=Aa t;clear hc hp g t;go_enter Tryz.func111,Tryz.ntmps111;go_wp2_with fail;go_loopw [9] (fun i wr=>∃ (j:Nat),j<=y/\i=A J j/\(l.drop j).all p=E/\Ov w wr) (fun i _=>y - (intOf i).toNat)
 case atStart=>exact ⟨0,Nat.zero_le _,rfl,HF.o.symm,Below.refl _ _⟩
 case round=>
  obtain ⟨j,hj,rfl,hp,n⟩:=hrel;by_cases hjl:j < y
  ·have a:j < l.length:=by have:=N.o;omega
   obtain ⟨b,B,rfl,cs,C,c,hr⟩:=HC.o.at a;rw [List.drop_eq_getElem_cons a,List.all_cons] at hp;have f:=List.getElem_mem a;obtain ⟨L,u⟩:=nm l[j];rw [<-u] at hp hr f;obtain ⟨I,r⟩:=nm (p L);rw [<-r] at hp;have M:Hx (∀ X,Ov wr X->Ro F #[.agg cs.toArray] X (zc I)):=fun X R=>by rw [r];exact G.o cs L X f ((hr.over n).over R)
   obtain ⟨c0,c1,c2,c3,aa,Y,Z,rfl⟩:=hr.cells;have W:wr.cell? ⟨b,B+j*5,none⟩=_:=ce1 n (c 0 _ rfl);have V:=ce1 n (c 1 _ rfl);have U:=ce1 n (c 2 _ rfl);have T:=ce1 n (c 3 _ rfl);have S:=ce1 n (c 4 _ rfl);have q:=Aa hp;have H:=Aa n;have Q:(j:Int) < (y:Int):=by omega
   clear c C hr hp n a r u f;go_wp2_with fail;refine (M.o _ (bA _ _)).mono ?_;rintro e P ⟨rfl,v⟩;have x:Hx (Ov w P):=Ab H.o (Ab (bA _ _) v);clear v W V U T S M
   cases I with
   | true=>
    have hp:=q.o;rw [Bool.true_and] at hp;replace q:=Aa hp;clear hp;go_wp2_with fail;exact ⟨⟨j+1,by omega,by go_num,q.o,x.o⟩,by simp [intOf];omega⟩
   | false=>
    have hp:=q.o;rw [Bool.false_and] at hp;replace q:=Aa hp;clear hp;go_wp2_with fail;go_ret;exact ⟨by rw [<-q.o];rfl,x.o⟩
  ·have K:l.drop j=[]:=List.drop_eq_nil_of_le (by have:=N.o;omega)
   rw [K] at hp;have q:=Aa hp;have H:=Aa n;clear hp n K;go_wp2_with fail;go_ret;exact ⟨by rw [<-q.o];rfl,H.o⟩
theorem Jy {ke k:Nat} (F:FuncId) (hC:∀ (args:Array Value) (w:World),(callFunc F args).run Tryz.prog w=.ok (.enter F args) w) (p:D->Bool) (l:List D) (ao:Option Addr) (cap:Nat) (w:World) (hp:∀ (cs:List Value) (d:D) (X:World),d∈l->ZC X ke k cs d->Ro F #[.agg cs.toArray] X (zc (p d))) (hc:LS 12 (ZC w ke k) w (O ao l.length cap) l) :
  Ro 35 #[O ao l.length cap,.func (.func F) #[] #[]] w (zc (l.all p)):=by
 have HC:=Aa hc;have I:=Aa hp;have HL:=hc.max;obtain ⟨E,n⟩:=nm (l.all p);rw [<-n];have HF:=Aa n;obtain ⟨y,t⟩:=nm l.length;rw [<-t] at HL ⊢;have W:=Aa t;clear hc hp n t;go_enter Tryz.func35,Tryz.ntmps35;go_wp2_with fail;go_loopw [9] (fun i wr=>∃ (j:Nat),j<=y/\i=A J j/\(l.drop j).all p=E/\Ov w wr) (fun i _=>y - (intOf i).toNat)
 case atStart=>exact ⟨0,Nat.zero_le _,rfl,HF.o.symm,Below.refl _ _⟩
 case round=>
  obtain ⟨j,hj,rfl,hp,c⟩:=hrel;by_cases hjl:j < y
  ·have f:j < l.length:=by have:=W.o;omega
   obtain ⟨b,B,rfl,cs,C,a,hr⟩:=HC.o.at f;rw [List.drop_eq_getElem_cons f,List.all_cons] at hp;have g:=List.getElem_mem f;obtain ⟨N,u⟩:=nm l[j];rw [<-u] at hp hr g;obtain ⟨L,r⟩:=nm (p N);rw [<-r] at hp;have V:Hx (∀ X,Ov wr X->Ro F #[.agg cs.toArray] X (zc L)):=fun X hX=>by rw [r];exact I.o cs N X g ((hr.over c).over hX)
   obtain ⟨c0,c1,c2,c3,c4,c5,c6,c7,ar,ap,aq,an,al,am,U,S,T,R,P,Q,rfl⟩:=hr.cells;have d0:wr.cell? ⟨b,B+j*12,none⟩=_:=ce1 c (a 0 _ rfl);have d1:=ce1 c (a 1 _ rfl);have d2:=ce1 c (a 2 _ rfl);have d3:=ce1 c (a 3 _ rfl);have d4:=ce1 c (a 4 _ rfl);have d5:=ce1 c (a 5 _ rfl);have d6:=ce1 c (a 6 _ rfl);have d7:=ce1 c (a 7 _ rfl);have d8:=ce1 c (a 8 _ rfl);have d9:=ce1 c (a 9 _ rfl);have H:=ce1 c (a 10 _ rfl);have G:=ce1 c (a 11 _ rfl);have q:=Aa hp;have K:=Aa c;have Z:(j:Int) < (y:Int):=by omega
   clear a C hr hp c f r u g;go_wp2_with fail;refine (V.o _ (bA _ _)).mono ?_;rintro e Y ⟨rfl,v⟩;have x:Hx (Ov w Y):=Ab K.o (Ab (bA _ _) v);clear v d0 d1 d2 d3 d4 d5 d6 d7 d8 d9 H G V
   cases L with
   | true=>
    have hp:=q.o;rw [Bool.true_and] at hp;replace q:=Aa hp;clear hp;go_wp2_with fail;exact ⟨⟨j+1,by omega,by go_num,q.o,x.o⟩,by simp [intOf];omega⟩
   | false=>
    have hp:=q.o;rw [Bool.false_and] at hp;replace q:=Aa hp;clear hp;go_wp2_with fail;go_ret;exact ⟨by rw [<-q.o];rfl,x.o⟩
  ·have M:l.drop j=[]:=List.drop_eq_nil_of_le (by have:=W.o;omega)
   rw [M] at hp;have q:=Aa hp;have K:=Aa c;clear hp c M;go_wp2_with fail;go_ret;exact ⟨by rw [<-q.o];rfl,K.o⟩
theorem MQ  (F:FuncId) (hC:∀ (args:Array Value) (w:World),(callFunc F args).run Tryz.prog w=.ok (.enter F args) w) (p:D->Bool) (l:List D) (ao:Option Addr) (cap:Nat) (w:World) (hp:∀ (cs:List Value) (d:D) (X:World),d∈l->ZP X cs d->Ro F #[.agg cs.toArray] X (zc (p d))) (hc:LS 4 (ZP w) w (O ao l.length cap) l) :
  Ro 105 #[O ao l.length cap,.func (.func F) #[] #[]] w (zc (l.all p)):=by
 have HC:=Aa hc;have G:=Aa hp;have HL:=hc.max;obtain ⟨E,f⟩:=nm (l.all p);rw [<-f];have HF:=Aa f;obtain ⟨y,t⟩:=nm l.length;rw [<-t] at HL ⊢;have N:=Aa t;clear hc hp f t;go_enter Tryz.func105,Tryz.ntmps105;go_wp2_with fail;go_loopw [9] (fun i wr=>∃ (j:Nat),j<=y/\i=A J j/\(l.drop j).all p=E/\Ov w wr) (fun i _=>y - (intOf i).toNat)
 case atStart=>exact ⟨0,Nat.zero_le _,rfl,HF.o.symm,Below.refl _ _⟩
 case round=>
  obtain ⟨j,hj,rfl,hp,n⟩:=hrel;by_cases hjl:j < y
  ·have a:j < l.length:=by have:=N.o;omega
   obtain ⟨b,B,rfl,cs,C,g,hr⟩:=HC.o.at a;rw [List.drop_eq_getElem_cons a,List.all_cons] at hp;have c:=List.getElem_mem a;obtain ⟨L,u⟩:=nm l[j];rw [<-u] at hp hr c;obtain ⟨I,r⟩:=nm (p L);rw [<-r] at hp;have M:Hx (∀ X,Ov wr X->Ro F #[.agg cs.toArray] X (zc I)):=fun X R=>by rw [r];exact G.o cs L X c ((hr.over n).over R)
   obtain ⟨c0,c1,c2,Z,W,Y,rfl⟩:=hr.cells;have V:wr.cell? ⟨b,B+j*4,none⟩=_:=ce1 n (g 0 _ rfl);have U:=ce1 n (g 1 _ rfl);have T:=ce1 n (g 2 _ rfl);have S:=ce1 n (g 3 _ rfl);have q:=Aa hp;have H:=Aa n;have Q:(j:Int) < (y:Int):=by omega
   clear g C hr hp n a r u c;go_wp2_with fail;refine (M.o _ (bA _ _)).mono ?_;rintro e P ⟨rfl,v⟩;have x:Hx (Ov w P):=Ab H.o (Ab (bA _ _) v);clear v V U T S M
   cases I with
   | true=>
    have hp:=q.o;rw [Bool.true_and] at hp;replace q:=Aa hp;clear hp;go_wp2_with fail;exact ⟨⟨j+1,by omega,by go_num,q.o,x.o⟩,by simp [intOf];omega⟩
   | false=>
    have hp:=q.o;rw [Bool.false_and] at hp;replace q:=Aa hp;clear hp;go_wp2_with fail;go_ret;exact ⟨by rw [<-q.o];rfl,x.o⟩
  ·have K:l.drop j=[]:=List.drop_eq_nil_of_le (by have:=N.o;omega)
   rw [K] at hp;have q:=Aa hp;have H:=Aa n;clear hp n K;go_wp2_with fail;go_ret;exact ⟨by rw [<-q.o];rfl,H.o⟩
theorem OP {ke k:Nat} (F:FuncId) (hC:∀ (args:Array Value) (w:World),(callFunc F args).run Tryz.prog w=.ok (.enter F args) w) (p:D->Bool) (l:List D) (ao:Option Addr) (cap:Nat) (w:World) (hp:∀ (cs:List Value) (d:D) (X:World),d∈l->ZD X ke k cs d->Ro F #[.agg cs.toArray] X (zc (p d))) (hc:LS 13 (ZD w ke k) w (O ao l.length cap) l) :
  Ro 33 #[O ao l.length cap,.func (.func F) #[] #[]] w (zc (l.all p)):=by
 have HC:=Aa hc;have K:=Aa hp;have HL:=hc.max;obtain ⟨E,n⟩:=nm (l.all p);rw [<-n];have HF:=Aa n;obtain ⟨y,t⟩:=nm l.length;rw [<-t] at HL ⊢;have U:=Aa t;clear hc hp n t;go_enter Tryz.func33,Tryz.ntmps33;go_wp2_with fail;go_loopw [9] (fun i wr=>∃ (j:Nat),j<=y/\i=A J j/\(l.drop j).all p=E/\Ov w wr) (fun i _=>y - (intOf i).toNat)
 case atStart=>exact ⟨0,Nat.zero_le _,rfl,HF.o.symm,Below.refl _ _⟩
 case round=>
  obtain ⟨j,hj,rfl,hp,c⟩:=hrel;by_cases hjl:j < y
  ·have f:j < l.length:=by have:=U.o;omega
   obtain ⟨b,B,rfl,cs,C,a,hr⟩:=HC.o.at f;rw [List.drop_eq_getElem_cons f,List.all_cons] at hp;have g:=List.getElem_mem f;obtain ⟨P,u⟩:=nm l[j];rw [<-u] at hp hr g;obtain ⟨M,r⟩:=nm (p P);rw [<-r] at hp;have T:Hx (∀ X,Ov wr X->Ro F #[.agg cs.toArray] X (zc M)):=fun X Y=>by rw [r];exact K.o cs P X g ((hr.over c).over Y)
   obtain ⟨c0,c1,c2,c3,c4,au,aq,ar,ap,am,an,al,aj,ak,c8,c9,aw,av,S,Q,R,rfl⟩:=hr.cells;have d0:wr.cell? ⟨b,B+j*13,none⟩=_:=ce1 c (a 0 _ rfl);have d1:=ce1 c (a 1 _ rfl);have d2:=ce1 c (a 2 _ rfl);have d3:=ce1 c (a 3 _ rfl);have d4:=ce1 c (a 4 _ rfl);have d5:=ce1 c (a 5 _ rfl);have d6:=ce1 c (a 6 _ rfl);have d7:=ce1 c (a 7 _ rfl);have d8:=ce1 c (a 8 _ rfl);have Z:=ce1 c (a 9 _ rfl);have I:=ce1 c (a 10 _ rfl);have H:=ce1 c (a 11 _ rfl);have G:=ce1 c (a 12 _ rfl);have q:=Aa hp;have L:=Aa c;have W:(j:Int) < (y:Int):=by omega
   clear a C hr hp c f r u g;go_wp2_with fail;refine (T.o _ (bA _ _)).mono ?_;rintro e V ⟨rfl,v⟩;have x:Hx (Ov w V):=Ab L.o (Ab (bA _ _) v);clear v d0 d1 d2 d3 d4 d5 d6 d7 d8 Z I H G T
   cases M with
   | true=>
    have hp:=q.o;rw [Bool.true_and] at hp;replace q:=Aa hp;clear hp;go_wp2_with fail;exact ⟨⟨j+1,by omega,by go_num,q.o,x.o⟩,by simp [intOf];omega⟩
   | false=>
    have hp:=q.o;rw [Bool.false_and] at hp;replace q:=Aa hp;clear hp;go_wp2_with fail;go_ret;exact ⟨by rw [<-q.o];rfl,x.o⟩
  ·have N:l.drop j=[]:=List.drop_eq_nil_of_le (by have:=U.o;omega)
   rw [N] at hp;have q:=Aa hp;have L:=Aa c;clear hp c N;go_wp2_with fail;go_ret;exact ⟨by rw [<-q.o];rfl,L.o⟩
theorem MR  (F:FuncId) (hC:∀ (args:Array Value) (w:World),(callFunc F args).run Tryz.prog w=.ok (.enter F args) w) (p:ByteArray->Bool) (l:List ByteArray) (ao:Option Addr) (cap:Nat) (w:World) (hp:∀ (x:ByteArray) (X:World),x.size<=maxLen->Ro F #[.string x] X (zc (p x))) (hc:LS 1 ZN w (O ao l.length cap) l) :
  Ro 110 #[O ao l.length cap,.func (.func F) #[] #[]] w (zc (l.all p)):=by
 have V:=Aa hc;have I:=Aa hp;have T:=hc.max;obtain ⟨H,c⟩:=nm (l.all p);rw [<-c];have U:=Aa c;obtain ⟨B,q⟩:=nm l.length;rw [<-q] at T ⊢;have P:=Aa q;clear hc hp c q;go_enter Tryz.func110,Tryz.ntmps110;go_wp2_with fail;go_loopw [9] (fun i wr=>∃ (j:Nat),j<=B/\i=A J j/\(l.drop j).all p=H/\Ov w wr) (fun i _=>B - (intOf i).toNat)
 case atStart=>exact ⟨0,Nat.zero_le _,rfl,U.o.symm,Below.refl _ _⟩
 case round=>
  obtain ⟨j,W,rfl,hp,v⟩:=hrel;by_cases hjl:j < B
  ·have a:j < l.length:=by have:=P.o;omega
   obtain ⟨b,E,rfl,Z,G,r,hr⟩:=V.o.at a;rw [List.drop_eq_getElem_cons a,List.all_cons] at hp;have f:=List.getElem_mem a;obtain ⟨C,t⟩:=nm l[j];rw [<-t] at hp hr f;obtain ⟨L,n⟩:=nm (p C);rw [<-n] at hp;have N:Hx (∀ X,Ov wr X->Ro F #[.string C] X (zc L)):=fun X Y=>by rw [n];exact I.o C X hr.2
   rw [hr.1] at r;have S:wr.cell? ⟨b,E+j,none⟩=some (.string C):=ce1 v (by have:=r 0 _ rfl;simpa using this);have g:=Aa hp;have K:=Aa v;have R:(j:Int) < (B:Int):=by omega
   clear r G hr hp v a n t f;go_wp2_with fail;refine (N.o _ (Below.refl _ _)).mono ?_;rintro e Q ⟨rfl,u⟩;have y:Hx (Ov w Q):=Ab K.o u;clear u S N
   cases L with
   | true=>
    have hp:=g.o;rw [Bool.true_and] at hp;replace g:=Aa hp;clear hp;go_wp2_with fail;exact ⟨⟨j+1,by omega,by go_num,g.o,y.o⟩,by simp [intOf];omega⟩
   | false=>
    have hp:=g.o;rw [Bool.false_and] at hp;replace g:=Aa hp;clear hp;go_wp2_with fail;go_ret;exact ⟨by rw [<-g.o];rfl,y.o⟩
  ·have M:l.drop j=[]:=List.drop_eq_nil_of_le (by have:=P.o;omega)
   rw [M] at hp;have g:=Aa hp;have K:=Aa v;clear hp v M;go_wp2_with fail;go_ret;exact ⟨by rw [<-g.o];rfl,K.o⟩
theorem F9 (x:ByteArray):(⟨x.data.toList.toArray⟩:ByteArray)=x:=by simp
theorem O7 (x:ByteArray):CC [⟨1,0,x⟩]=if Ak ⟨1,0,x⟩=true then 0 else 1:=by
 unfold CC;by_cases h:Ak ⟨1,0,x⟩=true
 ·have a:x.size<=6000:=Cp h
  have:Bv [⟨1,0,x⟩]<=6001:=by simp [Bv];omega
  simp [h,this]
 ·simp [h]
theorem De (x:ByteArray) (w:World) (hx:x.size<=maxLen):Ro 65 #[.string x] w (zc (nmS x.data.toList)):=by
 obtain ⟨r,a⟩:=nm (nmS x.data.toList);rw [<-a];unfold nmS at a;rw [F9] at a;obtain ⟨p,n⟩:=nm (Ak ⟨1,0,x⟩);obtain ⟨q,l⟩:=nm (CD x);have F:Hx (r=(p && !q)):=by show _=_;rw [a,n,l];rfl
 have C:Hx (∀ X,Ov w X->Ro 108 #[.string x] X (zc q)):=fun X _=>by rw [l];exact (Jg x X).mono fun e y ⟨L,K⟩=>⟨L,K ▸ Below.refl _ _⟩
 obtain ⟨V,i⟩:=nm (w.alloc (zd #[A J 1,A J 0,.string x] 44));obtain ⟨st,c⟩:=nm (Dn [⟨1,0,x⟩]);have E:Hx (Calls Tryz.prog 18 #[O (some ⟨w.heap.size,0,none⟩) 1 1] V fun e y=>e=zg (zh #[.string st,A J (if p=true then 0 else 1)])/\Ov V y):=by
  have h:=MV (O (some ⟨w.heap.size,0,none⟩) 1 1) [⟨1,0,x⟩] V ⟨_,_,rfl,fun _=>⟨_,_,rfl,fun j u I=>?_⟩⟩ (by simp) (fun t B=>by simp at B;subst B;exact hx)
  ·rw [O7,<-n,<-c] at h
   exact h
  ·rw [i,Nat.zero_add]
   exact Ai w [A J 1,A J 0,.string x] 44 j u I
 have g:Hx (Ov w V):=by show Ov _ _;rw [i];exact bA _ _
 clear a n l c hx;go_enter Tryz.func65,Tryz.ntmps65;go_wp2_with fail;rw [<-i];clear i;refine E.o.mono ?_;rintro e H ⟨rfl,f⟩;have b:Hx (Ov w H):=Ab g.o f;clear f E g
 cases p with
 | false=>
  rw [if_neg (by simp)];go_wp2_with fail;go_ret;exact ⟨by have h:=F.o;simp at h;rw [h];rfl,b.o⟩
 | true=>
  rw [if_pos rfl];go_wp2_with fail;refine (C.o _ b.o).mono ?_;rintro e G ⟨rfl,f⟩;have v:Hx (Ov w G):=Ab b.o f;clear f C;go_wp2_with fail;go_ret;exact ⟨by have h:=F.o;simp at h;rw [h];rfl,v.o⟩
theorem Bn (x:ByteArray) (m:Bool) (w:World) (hx:x.size<=maxLen):Ro 66 #[.string x,zc m] w (zc (nfS x.data.toList m)):=by
 obtain ⟨b,a⟩:=nm (nfS x.data.toList m);rw [<-a]
 cases m with
 | true=>
  have i:Hx (Ro 65 #[.string x] w (zc b)):=by rw [a];exact De x w hx
  clear a hx;go_enter Tryz.func66,Tryz.ntmps66;go_wp2_with fail;refine i.o.mono ?_;rintro e l ⟨rfl,g⟩;have f:=Aa g;clear g i;go_wp2_with fail;go_ret;exact ⟨rfl,f.o⟩
 | false=>
  by_cases h0:x.data.toList=[]
  ·obtain rfl:=Aj h0
   have c:=Aa a;clear a hx h0;go_enter Tryz.func66,Tryz.ntmps66;go_wp2_with fail;go_ret;exact ⟨by rw [c.o];rfl,Below.refl _ _⟩
  ·have j:=Aq h0
   have c:Hx (b=false):=by show _=_;rw [a];unfold nfS;simpa using h0
   clear a hx h0;go_enter Tryz.func66,Tryz.ntmps66;go_wp2_with fail;go_ret;exact ⟨by rw [c.o];rfl,Below.refl _ _⟩
theorem Ny (ke k:Nat) (cs:List Value) (d:D) (w:World) (h:ZC w ke k cs d):Ro 107 #[.agg cs.toArray] w (zc (Cm ke d)):=by
 cases k with
 | zero=>exact h.elim
 | succ k=>
  obtain ⟨L,a,x,y,R,Q,P,N,q,K,I,e,G,F,b,Y,V,H,Z,W,M,rfl,rfl,-,-,he,hA,-,-⟩:=h;obtain ⟨ao,c⟩:=nm (Cm ke (stD L a x y e b H M));rw [<-c];unfold Cm at c;simp only [gSs] at c;obtain ⟨ql,S⟩:=nm (B4 ke e);obtain ⟨qa,T⟩:=nm (b.all fun x=>!B4 ke x);rw [<-J1,<-S,<-T] at c;have HF:=Aa c;have KL:Hx (∀ X,Ov w X->Ro 104 #[ze #[A J R,A J Q,A J P,.string N,O q K I]] X (zc ql)):=fun X hX=>by rw [S];exact EX ke _ e X (he.over hX)
  have KA:Hx (∀ X,Ov w X->Ro 111 #[O G b.length F,.func (.func 140) #[] #[]] X (zc qa)):=fun X hX=>by rw [T];exact Jx 140 (fun b w=>by simp [go_sem]) (fun x=>!B4 ke x) b G F X (fun cs d X _ h=>Kr ke cs d X h) (Co hX hA)
  have ap:=hA.max;clear c S T he hA;show Ro 107 #[ze #[A J L,A J a,.string x,.string y,A J R,A J Q,A J P,.string N,O q K I,O G b.length F,O Y H.length V,O Z M.length W]] w _;go_enter Tryz.func107,Tryz.ntmps107;by_cases h4:4 < b.length
  ·have hi:(4:Int) < (b.length:Int):=by omega
   go_wp2_with fail;go_ret;exact ⟨by have h:=HF.o;simp [h4] at h;rw [h];rfl,bA w (zd #[A J L,A J a,.string x,.string y,A J R,A J Q,A J P,.string N,O q K I,O G b.length F,O Y H.length V,O Z M.length W] 55)⟩
  ·have hi:¬ (4:Int) < (b.length:Int):=by omega
   go_wp2_with fail;refine (KL.o _ (bA w (zd #[A J L,A J a,.string x,.string y,A J R,A J Q,A J P,.string N,O q K I,O G b.length F,O Y H.length V,O Z M.length W] 55))).mono ?_;rintro e w1 ⟨rfl,U⟩;have ab:Hx (Ov w w1):=Ab (bA w (zd #[A J L,A J a,.string x,.string y,A J R,A J Q,A J P,.string N,O q K I,O G b.length F,O Y H.length V,O Z M.length W] 55)) U;have i:Hx (Ac [A J L,A J a,.string x,.string y,A J R,A J Q,A J P,.string N,O q K I,O G b.length F,O Y H.length V,O Z M.length W] w1 w.heap.size):=Ac.over (Ai w [A J L,A J a,.string x,.string y,A J R,A J Q,A J P,.string N,O q K I,O G b.length F,O Y H.length V,O Z M.length W] 55) U;clear U  KL
   cases ql with
   | true=>
    obtain ⟨E,C,B,v,u,t,r,n,l,j,g,f⟩:=An i.o;go_wp2_with fail;go_ret;exact ⟨by have h:=HF.o;simp [h4] at h;rw [h];rfl,ab.o⟩
   | false=>
    obtain ⟨E,C,B,v,u,t,r,n,l,j,g,f⟩:=An i.o;go_wp2_with fail;refine (KA.o _ ab.o).mono ?_;rintro e w2 ⟨rfl,U⟩;have af:Hx (Ov w w2):=Ab ab.o U;have aa:Hx (Ac [A J L,A J a,.string x,.string y,A J R,A J Q,A J P,.string N,O q K I,O G b.length F,O Y H.length V,O Z M.length W] w2 w.heap.size):=i.o.over U;clear U E C B v u t r n l j g f KA;obtain ⟨E,C,B,v,u,t,r,n,l,j,g,f⟩:=An aa.o;go_wp2_with fail;go_ret;exact ⟨by have h:=HF.o;simp [h4] at h;rw [h];rfl,af.o⟩
theorem OB (cs:List Value) (d:D) (w:World) (h:ZP w cs d):Ro 106 #[.agg cs.toArray] w (zc (!decide (6 < (gL 3 d).length))):=by
 obtain ⟨a,o,wr,g,f,c,rfl,rfl,-,i⟩:=h;obtain ⟨n,b⟩:=nm (!decide (6 < (gL 3 (C1 a o wr c)).length));rw [<-b];simp only [gPp,List.length_map] at b;have j:=Aa b;have q:=i.max;clear b i;show Ro 106 #[ze #[A J a,.string o,zc wr,O g c.length f]] w _;go_enter Tryz.func106,Tryz.ntmps106;by_cases h6:6 < c.length
 ·have l:¬ (c.length:Int)<=6:=by omega
  go_wp2_with fail;go_ret;exact ⟨by have h:=j.o;simp [h6] at h;rw [h];(first | rfl | (simp;done) | (simp;assumption) | (simp;omega)),bA w (zd #[A J a,.string o,zc wr,O g c.length f] 53)⟩
 ·have l:(c.length:Int)<=6:=by omega
  go_wp2_with fail;go_ret;exact ⟨by have h:=j.o;simp [h6] at h;rw [h];(first | rfl | (simp;done) | (simp;assumption) | (simp;omega)),bA w (zd #[A J a,.string o,zc wr,O g c.length f] 53)⟩
theorem Nz (ke kc:Nat) (cs:List Value) (d:D) (w:World) (h:ZD w ke kc cs d):Ro 63 #[.agg cs.toArray] w (zc (Cn ke d)):=by
 obtain ⟨P,a,x,y,Q,L,K,j,Y,V,n,Z,W,b,U,T,S,R,q,N,M,r,rfl,rfl,-,-,hL,hP,-,hR⟩:=h;obtain ⟨aw,c⟩:=nm (Cn ke (deD P a x y Q j n b r));rw [<-c];unfold Cn at c;simp only [gDd,List.length_map] at c;obtain ⟨ql,aa⟩:=nm (B4 ke r);obtain ⟨qa,ab⟩:=nm (j.all fun p=>!decide (6 < (gL 3 p).length));rw [<-J1,<-aa,<-ab] at c;have HF:=Aa c;have KL:Hx (∀ X,Ov w X->Ro 104 #[ze #[A J U,A J T,A J S,.string R,O q N M]] X (zc ql)):=fun X hX=>by rw [aa];exact EX ke _ r X (hR.over hX)
 have KA:Hx (∀ X,Ov w X->Ro 105 #[O L j.length K,.func (.func 106) #[] #[]] X (zc qa)):=fun X hX=>by rw [ab];exact MQ 106 (fun ap w=>by simp [go_sem]) (fun p=>!decide (6 < (gL 3 p).length)) j L K X (fun cs d X _ h=>OB cs d X h) (CF hX hL)
 have ay:=hL.max;have ax:=hP.max;clear c aa ab hL hP hR;show Ro 63 #[ze #[A J P,A J a,.string x,.string y,zc Q,O L j.length K,O Y n.length V,O Z b.length W,A J U,A J T,A J S,.string R,O q N M]] w _;go_enter Tryz.func63,Tryz.ntmps63;by_cases h4:4 < j.length
 ·have hi:(4:Int) < (j.length:Int):=by omega
  go_wp2_with fail;go_ret;exact ⟨by have h:=HF.o;simp [h4] at h;rw [h];rfl,bA w (zd #[A J P,A J a,.string x,.string y,zc Q,O L j.length K,O Y n.length V,O Z b.length W,A J U,A J T,A J S,.string R,O q N M] 51)⟩
 ·have hi:¬ (4:Int) < (j.length:Int):=by omega
  by_cases h5:4 < n.length
  ·have ag:(4:Int) < (n.length:Int):=by omega
   go_wp2_with fail;go_ret;exact ⟨by have h:=HF.o;simp [h4,h5] at h;rw [h];rfl,bA w (zd #[A J P,A J a,.string x,.string y,zc Q,O L j.length K,O Y n.length V,O Z b.length W,A J U,A J T,A J S,.string R,O q N M] 51)⟩
  ·have ag:¬ (4:Int) < (n.length:Int):=by omega
   go_wp2_with fail;refine (KL.o _ (bA w (zd #[A J P,A J a,.string x,.string y,zc Q,O L j.length K,O Y n.length V,O Z b.length W,A J U,A J T,A J S,.string R,O q N M] 51))).mono ?_;rintro e w1 ⟨rfl,hb⟩;have ae:Hx (Ov w w1):=Ab (bA w (zd #[A J P,A J a,.string x,.string y,zc Q,O L j.length K,O Y n.length V,O Z b.length W,A J U,A J T,A J S,.string R,O q N M] 51)) hb;have l:Hx (Ac [A J P,A J a,.string x,.string y,zc Q,O L j.length K,O Y n.length V,O Z b.length W,A J U,A J T,A J S,.string R,O q N M] w1 w.heap.size):=Ac.over (Ai w [A J P,A J a,.string x,.string y,zc Q,O L j.length K,O Y n.length V,O Z b.length W,A J U,A J T,A J S,.string R,O q N M] 51) hb;clear hb  KL
   cases ql with
   | true=>
    obtain ⟨I,H,G,F,E,C,B,v,u,t,i,g,f⟩:=Ah l.o;go_wp2_with fail;go_ret;exact ⟨by have h:=HF.o;simp [h4,h5] at h;rw [h];rfl,ae.o⟩
   | false=>
    obtain ⟨I,H,G,F,E,C,B,v,u,t,i,g,f⟩:=Ah l.o;go_wp2_with fail;refine (KA.o _ ae.o).mono ?_;rintro e w2 ⟨rfl,hb⟩;have aj:Hx (Ov w w2):=Ab ae.o hb;have ad:Hx (Ac [A J P,A J a,.string x,.string y,zc Q,O L j.length K,O Y n.length V,O Z b.length W,A J U,A J T,A J S,.string R,O q N M] w2 w.heap.size):=l.o.over hb;clear hb I H G F E C B v u t i g f KA;obtain ⟨I,H,G,F,E,C,B,v,u,t,i,g,f⟩:=Ah ad.o;go_wp2_with fail;go_ret;exact ⟨by have h:=HF.o;simp [h4,h5] at h;rw [h];rfl,aj.o⟩
theorem Mm (k:Nat) (cs:List Value) (d:D) (w:World) (h:ZE w k cs d):Ro 71 #[.agg cs.toArray] w (zc (BX d)):=by
 cases k with
 | zero=>exact h.elim
 | succ k=>
  obtain ⟨j,a,n,x,t,c,i,rfl,rfl,-,q⟩:=h;obtain ⟨f,b⟩:=nm (BX (eD j a n x i));rw [<-b];unfold BX at b;simp only [gEe] at b;have y:=q.max;clear q;show Ro 71 #[ze #[A J j,A J a,A J n,.string x,O t i.length c]] w _;by_cases h1:j=0
  ·by_cases h2:n=0
   ·by_cases h3:x.data.toList=[]
    ·have l:=Aj h3
     by_cases h4:i=[]
     ·have g:Hx (f=true):=by show _=_;rw [b,h1,h2,h3,h4];rfl
      clear b;subst h4;subst h1;subst h2;subst l;go_enter Tryz.func71,Tryz.ntmps71;go_wp2_with fail;go_ret;exact ⟨by rw [g.o];(first | rfl | (simp;done) | (simp;assumption) | (simp;omega)),bA _ _⟩
     ·have v:0 < i.length:=List.length_pos_iff.2 h4
      have u:¬ (i.length:Int)=0:=by omega
      have g:Hx (f=false):=by show _=_;rw [b];simp [h4]
      clear b;subst h1;subst h2;subst l;go_enter Tryz.func71,Tryz.ntmps71;go_wp2_with fail;go_ret;exact ⟨by rw [g.o];(first | rfl | (simp;done) | (simp;assumption) | (simp;omega)),bA _ _⟩
    ·have r:=Aq h3
     have g:Hx (f=false):=by show _=_;rw [b,show x.data.toList.isEmpty=false by simpa using h3];simp
     clear b;subst h1;subst h2;go_enter Tryz.func71,Tryz.ntmps71;go_wp2_with fail;go_ret;exact ⟨by rw [g.o];(first | rfl | (simp;done) | (simp;assumption) | (simp;omega)),bA _ _⟩
   ·have g:Hx (f=false):=by show _=_;rw [b];simp [h2]
    clear b;subst h1;go_enter Tryz.func71,Tryz.ntmps71;go_wp2_with fail;go_ret;exact ⟨by rw [g.o];(first | rfl | (simp;done) | (simp;assumption) | (simp;omega)),bA _ _⟩
  ·have g:Hx (f=false):=by show _=_;rw [b];simp [h1]
   clear b;go_enter Tryz.func71,Tryz.ntmps71;go_wp2_with fail;go_ret;exact ⟨by rw [g.o];(first | rfl | (simp;done) | (simp;assumption) | (simp;omega)),bA _ _⟩
end Go.Proofs.YtipngnjffjajpaaGreatDoor.Tx
