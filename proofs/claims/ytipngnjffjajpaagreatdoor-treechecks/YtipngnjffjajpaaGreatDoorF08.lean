/- Trees in memory, however deep; what was read has short names. -/
import Derived.Test.YtipngnjffjajpaaGreatDoorF07
namespace Go.Proofs.YtipngnjffjajpaaGreatDoor.Tx
open Go.RowKit
set_option linter.unusedVariables false
/-- an expression in memory, so deep at most. -/
def ZE (W : World) : Nat→List Value→D→Prop
  | 0,_,_ => False
  | k + 1,cs,d => ∃ (kd a n : Int) (x : ByteArray) (ao : Option Addr) (c : Nat) (ds : List D),cs = [.int .i64 kd,.int .i64 a,.int .i64 n,.string x,.slice ao ds.length c]∧d = eD kd a n x ds∧x.size≤maxLen∧LS 5 (ZE W k) W (.slice ao ds.length c) ds
/-- a command in memory. -/
def ZC (W : World) (ke : Nat) : Nat→List Value→D→Prop
  | 0,_,_ => False
  | k + 1,cs,d => ∃ (kd a : Int) (x y : ByteArray) (e0 e1 e2 : Int) (e3 : ByteArray) (q : Option Addr) (q1 q2 : Nat) (e : D) (aA : Option Addr) (cA : Nat) (args : List D) (aT : Option Addr) (cT : Nat) (th : List D) (aE : Option Addr) (cE : Nat) (el : List D),
      cs = [.int .i64 kd,.int .i64 a,.string x,.string y,.int .i64 e0,.int .i64 e1,.int .i64 e2,.string e3,.slice q q1 q2,.slice aA args.length cA,.slice aT th.length cT,.slice aE el.length cE]∧d = stD kd a x y e args th el∧x.size≤maxLen∧y.size≤maxLen∧ZE W ke [.int .i64 e0,.int .i64 e1,.int .i64 e2,.string e3,.slice q q1 q2] e∧LS 5 (ZE W ke) W (.slice aA args.length cA) args∧LS 12 (ZC W ke k) W (.slice aT th.length cT) th∧LS 12 (ZC W ke k) W (.slice aE el.length cE) el
/-- names in memory, a policy. -/
def ZN (cs : List Value) (x : ByteArray) : Prop:=cs = [.string x]∧x.size≤maxLen
def ZP (W : World) (cs : List Value) (d : D) : Prop:=∃ (a : Int) (o : ByteArray) (wr : Bool) (an : Option Addr) (cn : Nat) (ns : List ByteArray),cs = [.int .i64 a,.string o,.bool wr,.slice an ns.length cn]∧d = polD a o wr ns∧o.size≤maxLen∧LS 1 ZN W (.slice an ns.length cn) ns
/-- a declaration in memory. -/
def ZD (W : World) (ke kc : Nat) (cs : List Value) (d : D) : Prop:=∃ (kd a : Int) (x y : ByteArray) (gv : Bool) (aL : Option Addr) (cL : Nat) (lb : List D) (aP : Option Addr) (cP : Nat) (ps : List ByteArray) (aB : Option Addr) (cB : Nat) (body : List D) (e0 e1 e2 : Int) (e3 : ByteArray) (q : Option Addr) (q1 q2 : Nat) (r : D),
    cs = [.int .i64 kd,.int .i64 a,.string x,.string y,.bool gv,.slice aL lb.length cL,.slice aP ps.length cP,.slice aB body.length cB,.int .i64 e0,.int .i64 e1,.int .i64 e2,.string e3,.slice q q1 q2]∧d = deD kd a x y gv lb ps body r∧x.size≤maxLen∧y.size≤maxLen∧LS 4 (ZP W) W (.slice aL lb.length cL) lb∧LS 1 ZN W (.slice aP ps.length cP) ps∧LS 12 (ZC W ke kc) W (.slice aB body.length cB) body∧ZE W ke [.int .i64 e0,.int .i64 e1,.int .i64 e2,.string e3,.slice q q1 q2] r
/-- a tree in memory. -/
def ZT (W : World) (ke kc : Nat) (v : Value) (ds l : List D) : Prop:=∃ (a : Option Addr) (c : Nat) (a2 : Option Addr) (c2 : Nat),v = .agg #[.slice a ds.length c,.slice a2 l.length c2]∧LS 13 (ZD W ke kc) W (.slice a ds.length c) ds∧LS 12 (ZC W ke kc) W (.slice a2 l.length c2) l
theorem LS.up {α : Type} {size : Nat} {R R' : List Value→α→Prop} {w w' : World} {v : Value} {l : List α} (h : LS size R w v l) (hw : ∀ a u,w.cell? a = some u→w'.cell? a = some u) (hR : ∀ cs a,a∈l→R cs a→R' cs a) : LS size R' w' v l:=by
  obtain ⟨h1,ao,cap,h2,h3⟩:=h
  refine ⟨h1,ao,cap,h2,fun hne => ?_⟩
  obtain ⟨b,off,hb,he⟩:=h3 hne
  refine ⟨b,off,hb,fun i a ha => ?_⟩
  obtain ⟨cs,q1,q2,q3⟩:=he i a ha
  exact ⟨cs,q1,fun j u hu => hw _ _ (q2 j u hu),hR cs a (List.mem_of_getElem? ha) q3⟩
section
variable {W W' : World}
theorem ZE.up (hw : ∀ a u,W.cell? a = some u→W'.cell? a = some u) : ∀ {k m : Nat} {cs : List Value} {d : D},k≤m→ZE W k cs d→ZE W' m cs d
  | 0,m,cs,d,_,h => h.elim
  | k + 1,0,cs,d,hk,h => absurd hk (by omega)
  | k + 1,m + 1,cs,d,hk,h => by
    obtain ⟨kd,a,n,x,ao,c,ds,h1,h2,h3,h4⟩:=h
    exact ⟨kd,a,n,x,ao,c,ds,h1,h2,h3,h4.up hw fun cs d _ hh => ZE.up hw (by omega) hh⟩
theorem ZC.up (hw : ∀ a u,W.cell? a = some u→W'.cell? a = some u) {ke ke' : Nat} (hke : ke≤ke') : ∀ {k m : Nat} {cs : List Value} {d : D},k≤m→ZC W ke k cs d→ZC W' ke' m cs d
  | 0,m,cs,d,_,h => h.elim
  | k + 1,0,cs,d,hk,h => absurd hk (by omega)
  | k + 1,m + 1,cs,d,hk,h => by
    obtain ⟨kd,a,x,y,e0,e1,e2,e3,q,q1,q2,e,aA,cA,args,aT,cT,th,aE,cE,el,h1,h2,h3,h4,h5,h6,h7,h8⟩:=h
    exact ⟨kd,a,x,y,e0,e1,e2,e3,q,q1,q2,e,aA,cA,args,aT,cT,th,aE,cE,el,h1,h2,h3,h4,h5.up hw hke,h6.up hw fun cs d _ hh => hh.up hw hke,h7.up hw fun cs d _ hh => ZC.up hw hke (by omega) hh,h8.up hw fun cs d _ hh => ZC.up hw hke (by omega) hh⟩
theorem ZP.up (hw : ∀ a u,W.cell? a = some u→W'.cell? a = some u) {cs : List Value} {d : D} (h : ZP W cs d) : ZP W' cs d:=by
  obtain ⟨a,o,wr,an,cn,ns,h1,h2,h3,h4⟩:=h
  exact ⟨a,o,wr,an,cn,ns,h1,h2,h3,h4.up hw fun _ _ _ h => h⟩
theorem ZD.up (hw : ∀ a u,W.cell? a = some u→W'.cell? a = some u) {ke ke' kc kc' : Nat} (hke : ke≤ke') (hkc : kc≤kc') {cs : List Value} {d : D} (h : ZD W ke kc cs d) : ZD W' ke' kc' cs d:=by
  obtain ⟨kd,a,x,y,gv,aL,cL,lb,aP,cP,ps,aB,cB,body,e0,e1,e2,e3,q,q1,q2,r,h1,h2,h3,h4,h5,h6,h7,h8⟩:=h
  exact ⟨kd,a,x,y,gv,aL,cL,lb,aP,cP,ps,aB,cB,body,e0,e1,e2,e3,q,q1,q2,r,h1,h2,h3,h4,h5.up hw fun _ _ _ h => h.up hw,h6.up hw fun _ _ _ h => h,h7.up hw fun _ _ _ h => h.up hw hke hkc,h8.up hw hke⟩
theorem ZT.up (hw : ∀ a u,W.cell? a = some u→W'.cell? a = some u) {ke ke' kc kc' : Nat} (hke : ke≤ke') (hkc : kc≤kc') {v : Value} {ds l : List D} (h : ZT W ke kc v ds l) : ZT W' ke' kc' v ds l:=by
  obtain ⟨a,c,a2,c2,h1,h2,h3⟩:=h
  exact ⟨a,c,a2,c2,h1,h2.up hw fun _ _ _ h => h.up hw hke hkc,h3.up hw fun _ _ _ h => h.up hw hke hkc⟩
end
section
variable {W W' : World}
theorem ZE.over (hb : Ov W W') {k : Nat} {cs : List Value} {d : D} (h : ZE W k cs d) : ZE W' k cs d:=h.up (fun _ _ h => ce1 hb h) (Nat.le_refl _)
theorem ZC.over (hb : Ov W W') {ke k : Nat} {cs : List Value} {d : D} (h : ZC W ke k cs d) : ZC W' ke k cs d:=h.up (fun _ _ h => ce1 hb h) (Nat.le_refl _) (Nat.le_refl _)
theorem ZP.over (hb : Ov W W') {cs : List Value} {d : D} (h : ZP W cs d) : ZP W' cs d:=h.up (fun _ _ h => ce1 hb h)
theorem ZD.over (hb : Ov W W') {ke kc : Nat} {cs : List Value} {d : D} (h : ZD W ke kc cs d) : ZD W' ke kc cs d:=h.up (fun _ _ h => ce1 hb h) (Nat.le_refl _) (Nat.le_refl _)
theorem ZT.over (hb : Ov W W') {ke kc : Nat} {v : Value} {ds l : List D} (h : ZT W ke kc v ds l) : ZT W' ke kc v ds l:=h.up (fun _ _ h => ce1 hb h) (Nat.le_refl _) (Nat.le_refl _)
theorem lsE_over (hb : Ov W W') {k : Nat} {v : Value} {ds : List D} (h : LS 5 (ZE W k) W v ds) : LS 5 (ZE W' k) W' v ds:=h.up (fun _ _ h => ce1 hb h) fun _ _ _ h => h.over hb
theorem lsC_over (hb : Ov W W') {ke k : Nat} {v : Value} {ds : List D} (h : LS 12 (ZC W ke k) W v ds) : LS 12 (ZC W' ke k) W' v ds:=h.up (fun _ _ h => ce1 hb h) fun _ _ _ h => h.over hb
theorem lsP_over (hb : Ov W W') {v : Value} {ds : List D} (h : LS 4 (ZP W) W v ds) : LS 4 (ZP W') W' v ds:=h.up (fun _ _ h => ce1 hb h) fun _ _ _ h => h.over hb
theorem lsD_over (hb : Ov W W') {ke k : Nat} {v : Value} {ds : List D} (h : LS 13 (ZD W ke k) W v ds) : LS 13 (ZD W' ke k) W' v ds:=h.up (fun _ _ h => ce1 hb h) fun _ _ _ h => h.over hb
theorem lsN_over (hb : Ov W W') {v : Value} {ns : List ByteArray} (h : LS 1 ZN W v ns) : LS 1 ZN W' v ns:=h.up (fun _ _ h => ce1 hb h) fun _ _ _ h => h
end
/-- texts in a thing of a tree are short. -/
def strB : Nat→D→Prop
  | 0,_ => True
  | k + 1,d => match d with
    | .lit (.string x) => x.length≤6000
    | .agg l => ∀ a∈l,strB k a
    | .slice l _ => ∀ a∈l,strB k a
    | _ => True
def SD (d : D) : Prop:=∀ k,strB k d
theorem SD.agg {l : List D} (h : ∀ a∈l,SD a) : SD (.agg l):=fun k => by
  cases k with
  | zero => trivial
  | succ k => exact fun a ha => h a ha k
theorem SD.list {l : List D} (h : ∀ a∈l,SD a) : SD (dL l):=fun k => by
  cases k with
  | zero => trivial
  | succ k => exact fun a ha => h a ha k
theorem SD.int (n : Int) : SD (dI n):=fun k => by cases k <;> trivial
theorem SD.bool (n : Bool) : SD (dB n):=fun k => by cases k <;> trivial
theorem SD.str {x : ByteArray} (h : x.size≤6000) : SD (dS x):=fun k => by
  cases k with
  | zero => trivial
  | succ k => show x.data.toList.length≤6000; simpa using h
theorem SD.of_agg {l : List D} (h : SD (.agg l)) : ∀ a∈l,SD a:=fun a ha k => h (k + 1) a ha
theorem SD.of_list {l : List D} (h : SD (dL l)) : ∀ a∈l,SD a:=fun a ha k => h (k + 1) a ha
theorem SD.of_str {x : ByteArray} (h : SD (dS x)) : x.size≤6000:=by
  have : x.data.toList.length≤6000:=h 1
  simpa using this
theorem SD.e {kd a n : Int} {x : ByteArray} {ds : List D} (hx : x.size≤6000) (h : ∀ a∈ds,SD a) : SD (eD kd a n x ds):=SD.agg fun y hy => by
  simp at hy
  rcases hy with rfl | rfl | rfl | rfl | rfl
  · exact SD.int _
  · exact SD.int _
  · exact SD.int _
  · exact SD.str hx
  · exact SD.list h
theorem SD.s {kd a : Int} {x y : ByteArray} {e : D} {args th el : List D} (hx : x.size≤6000) (hy : y.size≤6000) (he : SD e) (h1 : ∀ a∈args,SD a) (h2 : ∀ a∈th,SD a) (h3 : ∀ a∈el,SD a) : SD (stD kd a x y e args th el):=SD.agg fun y hy => by
  simp at hy
  rcases hy with rfl | rfl | rfl | rfl | rfl | rfl | rfl | rfl
  · exact SD.int _
  · exact SD.int _
  · exact SD.str hx
  · exact SD.str (by assumption)
  · exact he
  · exact SD.list h1
  · exact SD.list h2
  · exact SD.list h3
theorem SD.strs {ns : List ByteArray} (h : ∀ x∈ns,x.size≤6000) : ∀ a∈ns.map dS,SD a:=fun a ha => by
  obtain ⟨x,hx,rfl⟩:=List.mem_map.1 ha
  exact SD.str (h x hx)
theorem SD.of_strs {ns : List ByteArray} (h : ∀ a∈ns.map dS,SD a) : ∀ x∈ns,x.size≤6000:=fun x hx => SD.of_str (h _ (List.mem_map_of_mem hx))
theorem SD.p {a : Int} {o : ByteArray} {wr : Bool} {ns : List ByteArray} (ho : o.size≤6000) (h : ∀ x∈ns,x.size≤6000) : SD (polD a o wr ns):=SD.agg fun y hy => by
  simp at hy
  rcases hy with rfl | rfl | rfl | rfl
  · exact SD.int _
  · exact SD.str ho
  · exact SD.bool _
  · exact SD.list (SD.strs h)
theorem SD.d {kd a : Int} {x y : ByteArray} {gv : Bool} {lb : List D} {ps : List ByteArray} {body : List D} {r : D} (hx : x.size≤6000) (hy : y.size≤6000) (h1 : ∀ a∈lb,SD a) (h2 : ∀ x∈ps,x.size≤6000) (h3 : ∀ a∈body,SD a) (hr : SD r) : SD (deD kd a x y gv lb ps body r):=SD.agg fun y hy => by
  simp at hy
  rcases hy with rfl | rfl | rfl | rfl | rfl | rfl | rfl | rfl | rfl
  · exact SD.int _
  · exact SD.int _
  · exact SD.str hx
  · exact SD.str (by assumption)
  · exact SD.bool _
  · exact SD.list h1
  · exact SD.list (SD.strs h2)
  · exact SD.list h3
  · exact hr
theorem mem4 {α : Type} {P : α→Prop} {a b c d : α} (h : ∀ y∈[a,b,c,d],P y) : P a∧P b∧P c∧P d:=⟨h a (by simp),h b (by simp),h c (by simp),h d (by simp)⟩
theorem mem5 {α : Type} {P : α→Prop} {a b c d e : α} (h : ∀ y∈[a,b,c,d,e],P y) : P a∧P b∧P c∧P d∧P e:=⟨h a (by simp),h b (by simp),h c (by simp),h d (by simp),h e (by simp)⟩
theorem mem8 {α : Type} {P : α→Prop} {a b c d e f g i : α} (h : ∀ y∈[a,b,c,d,e,f,g,i],P y) : P a∧P b∧P c∧P d∧P e∧P f∧P g∧P i:=⟨h a (by simp),h b (by simp),h c (by simp),h d (by simp),h e (by simp),h f (by simp),h g (by simp),h i (by simp)⟩
theorem mem9 {α : Type} {P : α→Prop} {a b c d e f g i j : α} (h : ∀ y∈[a,b,c,d,e,f,g,i,j],P y) : P a∧P b∧P c∧P d∧P e∧P f∧P g∧P i∧P j:=⟨h a (by simp),h b (by simp),h c (by simp),h d (by simp),h e (by simp),h f (by simp),h g (by simp),h i (by simp),h j (by simp)⟩
theorem small_max {n : Nat} (h : n≤6000) : n≤maxLen:=by unfold maxLen; omega
theorem ZE.cells {W : World} {k : Nat} {cs : List Value} {d : D} (h : ZE W k cs d) : ∃ (kd a n : Int) (x : ByteArray) (q : Option Addr) (q1 q2 : Nat),cs = [.int .i64 kd,.int .i64 a,.int .i64 n,.string x,.slice q q1 q2]:=by
  cases k with
  | zero => exact h.elim
  | succ k =>
    obtain ⟨kd,a,n,x,ao,c,ds,h1,-⟩:=h
    exact ⟨kd,a,n,x,ao,_,c,h1⟩
theorem ZC.cells {W : World} {ke k : Nat} {cs : List Value} {d : D} (h : ZC W ke k cs d) : ∃ (kd a : Int) (x y : ByteArray) (e0 e1 e2 : Int) (e3 : ByteArray) (q : Option Addr) (q1 q2 : Nat) (aA : Option Addr) (nA cA : Nat) (aT : Option Addr) (nT cT : Nat) (aE : Option Addr) (nE cE : Nat),cs = [.int .i64 kd,.int .i64 a,.string x,.string y,.int .i64 e0,.int .i64 e1,.int .i64 e2,.string e3,.slice q q1 q2,.slice aA nA cA,.slice aT nT cT,.slice aE nE cE]:=by
  cases k with
  | zero => exact h.elim
  | succ k =>
    obtain ⟨kd,a,x,y,e0,e1,e2,e3,q,q1,q2,e,aA,cA,args,aT,cT,th,aE,cE,el,h1,-⟩:=h
    exact ⟨kd,a,x,y,e0,e1,e2,e3,q,q1,q2,aA,_,cA,aT,_,cT,aE,_,cE,h1⟩
theorem ZP.cells {W : World} {cs : List Value} {d : D} (h : ZP W cs d) : ∃ (a : Int) (o : ByteArray) (wr : Bool) (an : Option Addr) (nn cn : Nat),cs = [.int .i64 a,.string o,.bool wr,.slice an nn cn]:=by
  obtain ⟨a,o,wr,an,cn,ns,h1,-⟩:=h
  exact ⟨a,o,wr,an,_,cn,h1⟩
theorem ZD.cells {W : World} {ke kc : Nat} {cs : List Value} {d : D} (h : ZD W ke kc cs d) : ∃ (kd a : Int) (x y : ByteArray) (gv : Bool) (aL : Option Addr) (nL cL : Nat) (aP : Option Addr) (nP cP : Nat) (aB : Option Addr) (nB cB : Nat) (e0 e1 e2 : Int) (e3 : ByteArray) (q : Option Addr) (q1 q2 : Nat),cs = [.int .i64 kd,.int .i64 a,.string x,.string y,.bool gv,.slice aL nL cL,.slice aP nP cP,.slice aB nB cB,.int .i64 e0,.int .i64 e1,.int .i64 e2,.string e3,.slice q q1 q2]:=by
  obtain ⟨kd,a,x,y,gv,aL,cL,lb,aP,cP,ps,aB,cB,body,e0,e1,e2,e3,q,q1,q2,r,h1,-⟩:=h
  exact ⟨kd,a,x,y,gv,aL,_,cL,aP,_,cP,aB,_,cB,e0,e1,e2,e3,q,q1,q2,h1⟩
/-- from a world on, the reader alone has changed what was there; it stands so far. -/
structure Rd (rb : Nat) (tv : Value) (ts : List Tok) (en : Nat) (w : World) (n : Nat) (V : World) : Prop where
  st0 : ∃ n0,St rb tv ts en n0 w
  st : St rb tv ts en n V
  gr : w.grownBy V (some rb)
/-- a box, and what it holds. -/
structure Bx (b : Nat) (cs : List Value) (V : World) : Prop where
  row : RowAt cs V b
  fz : ∀ j,V.frozen? ⟨b,j,none⟩ = false
  lt : b < V.heap.size
section
variable {rb : Nat} {tv : Value} {ts : List Tok} {en n n1 b c j T : Nat} {w V V' : World} {cs ds : List Value} {u : Value}
theorem grown_refl (w : World) (r : Option Nat) : w.grownBy w r:=grownBy_below (Below.refl _ _)
theorem Rd.start (h : St rb tv ts en n w) : Rd rb tv ts en w n w:=⟨⟨n,h⟩,h,grown_refl w _⟩
theorem Rd.rlt (h : Rd rb tv ts en w n V) : rb < w.heap.size:=by obtain ⟨n0,h0⟩:=h.st0; exact h0.lt
theorem Rd.size (h : Rd rb tv ts en w n V) : w.heap.size≤V.heap.size:=h.gr.size
theorem Rd.call (h : Rd rb tv ts en w n V) (hg : V.grownBy V' (some rb)) (hs : St rb tv ts en n1 V') : Rd rb tv ts en w n1 V':=⟨h.st0,hs,grownBy_trans h.gr hg⟩
theorem Rd.over (h : Rd rb tv ts en w n V) (hb : Ov V V') : Rd rb tv ts en w n V':=⟨h.st0,h.st.below hb,grownBy_trans h.gr (grownBy_below hb)⟩
theorem Rd.set (h : Rd rb tv ts en w n V) (hb : w.heap.size≤b) : Rd rb tv ts en w n (V.setCell ⟨b,j,none⟩ u):=by
  obtain ⟨n0,h0⟩:=h.st0
  have hr:=h0.lt
  have hg:=grownBy_setCell h.gr (p:=⟨b,j,none⟩) hb u
  exact ⟨⟨n0,h0⟩,h0.keep hg (by rw [Below.heap_setCell _ _ _ _ (by show rb≠b; omega)]; exact h.st.1) h.st.2.1,hg⟩
theorem Bx.new (V : World) (cs : List Value) (T : Nat) : Bx V.heap.size cs (V.alloc (.cells cs.toArray T)):=⟨al10 V cs T,fun j => Lib.frozen_of_heap (allocAt V _) j,by rw [alS]; omega⟩
theorem Bx.over (h : Bx b cs V) (hb : Ov V V') : Bx b cs V':=⟨fun j u hu => ce1 hb (h.row j u hu),fun j => by rw [World.frozen?_of_block (a:=⟨b,j,none⟩) (hb.block b h.lt)]; exact h.fz j,Nat.lt_of_lt_of_le h.lt hb.size⟩
theorem Bx.keep (h : Bx b cs V) (hg : V.grownBy V' (some rb)) (hb : b≠rb) : Bx b cs V' :=
  have hbr : some b≠some rb:=fun e => hb (by injection e)
  ⟨fun j u hu => hg.cell (h.row j u hu) hbr,fun j => by rw [World.frozen?_of_block (a:=⟨b,j,none⟩) (hg.block b h.lt hbr)]; exact h.fz j,Nat.lt_of_lt_of_le h.lt hg.size⟩
theorem Bx.far (h : Bx b cs V) (hb : b≠c) : Bx b cs (V.setCell ⟨c,j,none⟩ u):=by
  have hg:=grow_set1 (w:=V) (r:=c) (j:=j) (u:=u)
  exact h.keep hg hb
theorem Bx.set (h : Bx b cs V) (hj : j < cs.length) : Bx b (cs.set j u) (V.setCell ⟨b,j,none⟩ u):=by
  refine ⟨fun i x hx => ?_,fun i => ?_,?_⟩
  · rw [List.getElem?_set] at hx
    by_cases hij : j = i
    · subst hij
      rw [if_pos rfl,if_pos hj] at hx
      injection hx with hx
      rw [← hx]
      exact World.cell?_setCell_same' _ _ _ (by rw [h.row j _ (List.getElem?_eq_getElem hj)]; rfl)
    · rw [if_neg hij] at hx
      rw [World.cell?_setCell_other _ _ _ _ (by intro e; injection e with e1 e2; exact hij e2)]
      exact h.row i x hx
  · have : (V.setCell ⟨b,j,none⟩ u).frozen? ⟨b,i,none⟩ = V.frozen? ⟨b,i,none⟩:=by simp [go_sem]
    rw [this]; exact h.fz i
  · have : (V.setCell ⟨b,j,none⟩ u).heap.size = V.heap.size:=by simp [World.setCell]
    rw [this]; exact h.lt
end
theorem isName_c {rb : Nat} {tv : Value} {ts : List Tok} {en : Nat} (n : Nat) (w : World) (h : St rb tv ts en n w) : Calls Tryz.prog 131 #[.pointer (some ⟨rb,0,none⟩)] w fun e w' => e = .returned (.bool (isNameT (peekT ts n)))∧w.grownBy w' (some rb)∧St rb tv ts en n w' :=
  (isName_any rb tv ts en n w h).mono fun e w' ⟨h1,h2⟩ => ⟨h1,grownBy_below h2,h.below h2⟩
theorem here_c {rb : Nat} {tv : Value} {ts : List Tok} {en : Nat} (n : Nat) (w : World) (h : St rb tv ts en n w) : Calls Tryz.prog 93 #[.pointer (some ⟨rb,0,none⟩)] w fun e w' => e = .returned (.int .i64 (posn ts en n))∧w.grownBy w' (some rb)∧St rb tv ts en n w' :=
  (here_any rb tv ts en n w h).mono fun e w' ⟨h1,h2⟩ => ⟨h1,grownBy_below h2,h.below h2⟩
theorem is_c {rb : Nat} {tv : Value} {ts : List Tok} {en : Nat} (x : ByteArray) (n : Nat) (w : World) (h : St rb tv ts en n w) : Calls Tryz.prog 51 #[.pointer (some ⟨rb,0,none⟩),.string x] w fun e w' => e = .returned (.bool (isT ts n x.data.toList))∧w.grownBy w' (some rb)∧St rb tv ts en n w' :=
  (is_at rb tv ts en n x w h).mono fun e w' ⟨h1,h2⟩ => ⟨h1,grownBy_below h2,h.below h2⟩
/-- a policy in memory. -/
def RPol (W : World) (cs : List Value) (d : D) : Prop:=∃ (at_ : Int) (o : ByteArray) (wr : Bool) (ns : List ByteArray) (v : Value),cs = [.int .i64 at_,.string o,.bool wr,v]∧d = polD at_ o wr ns∧StrsAt W v ns
set_option maxHeartbeats 4000000 in
set_option maxRecDepth 100000 in
theorem policy_c {rb : Nat} {tv : Value} {ts : List Tok} {en : Nat} (n : Nat) (w : World) (h : St rb tv ts en n w) :
    Calls Tryz.prog 136 #[.pointer (some ⟨rb,0,none⟩)] w (PostC ts en (pPolicy ts en n) (fun d n1 e w' => ∃ (at_ : Int) (o : ByteArray) (wr : Bool) (a : Option Addr) (k c : Nat),e = .returned (.agg #[.int .i64 at_,.string o,.bool wr,.slice a k c])∧Off w.heap.size none w' (fun W => RPol W [.int .i64 at_,.string o,.bool wr,.slice a k c] d)∧w.grownBy w' (some rb)∧St rb tv ts en n1 w') (fun w' => w.grownBy w' (some rb))):=by
  obtain ⟨res,hres⟩:=nm (pPolicy ts en n)
  rw [← hres]
  have HRP : Hx (res = bindR (pName ts n) fun o n1 =>
      if isT ts n1 [33] = true then bindR (pNames ts (isNameT (peekT ts (n1 + 1))) (n1 + 1)) fun ns n2 => .inl (polD (posn ts en n) o true ns,n2)
      else bindR (pTake ts [58] n1) fun _ n2 => bindR (pNames ts (isNameT (peekT ts n2)) n2) fun ns n3 => .inl (polD (posn ts en n) o false ns,n3)):=hres
  have HD:=hide (Rd.start h)
  clear h hres
  obtain ⟨V1,hV1⟩:=nm (w.alloc (.cells #[.int .i64 0,.string ⟨#[]⟩,.bool false,.slice none 0 0] 53))
  obtain ⟨ba,hba⟩:=nm w.heap.size
  have HLa : Hx (w.heap.size≤ba):=by show _≤_; rw [hba]; exact HD.o.size
  have HBa : Hx (Bx ba [.int .i64 0,.string ⟨#[]⟩,.bool false,.slice none 0 0] V1):=by show Bx _ _ _; rw [hV1,hba]; exact Bx.new w [.int .i64 0,.string ⟨#[]⟩,.bool false,.slice none 0 0] 53
  replace HD : Hx (Rd rb tv ts en w (n) V1):=by show Rd _ _ _ _ _ _ _; rw [hV1]; exact HD.o.over (bA _ _)
  have K1:=hide (here_c n _ HD.o.st)
  go_enter Tryz.func136,Tryz.ntmps136
  go_wp2_with fail
  rw [← hV1,← hba]
  clear hba hV1
  refine K1.o.mono ?_
  rintro e wa ⟨rfl,hg,hs⟩
  obtain ⟨p,hp⟩:=nm (posn ts en n)
  rw [← hp] at HRP ⊢
  clear hp
  replace HBa:=hide (HBa.o.keep hg (by have:=HD.o.rlt; have:=HLa.o; omega))
  replace HD : Hx (Rd rb tv ts en w (n) wa):=HD.o.call hg hs
  clear hg hs
  have K2:=hide (name_c n _ HD.o.st)
  clear K1
  go_wp2_with fail
  refine K2.o.mono ?_
  rintro e w2 hpo
  obtain ⟨m,ho⟩ | ⟨o,n3,ho⟩:=res_cases (pName ts n)
  · replace hpo : PostC ts en (pName ts n) _ _ e w2:=hpo
    rw [ho] at hpo
    obtain ⟨rfl,hg⟩:=hpo
    have HO : Hx (res = .inr m):=by show _ = _; rw [HRP.o,ho]; rfl
    have HG:=hide (grownBy_trans HD.o.gr hg)
    clear hg ho
    unfold gaveUpAt
    go_wp2_with fail
    refine ⟨rfl,?_⟩
    rw [HO.o]
    exact ⟨rfl,HG.o⟩
  replace hpo : PostC ts en (pName ts n) _ _ e w2:=hpo
  rw [ho] at hpo
  obtain ⟨rfl,hg,hs⟩:=hpo
  have hr:=HRP.o
  rw [ho,bindR_inl] at hr
  replace HRP:=hide hr
  clear hr ho
  replace HBa:=hide (HBa.o.keep hg (by have:=HD.o.rlt; have:=HLa.o; omega))
  replace HD : Hx (Rd rb tv ts en w (n3) w2):=HD.o.call hg hs
  clear hg hs
  obtain ⟨V4,hV4⟩:=nm (w2.alloc (.cells #[.int .i64 p,.string o,.bool false,.slice none 0 0] 53))
  obtain ⟨bp,hbp⟩:=nm w2.heap.size
  have HLp : Hx (w.heap.size≤bp):=by show _≤_; rw [hbp]; exact HD.o.size
  have HLap : Hx (ba < bp):=by show _ < _; rw [hbp]; exact HBa.o.lt
  have HBp : Hx (Bx bp [.int .i64 p,.string o,.bool false,.slice none 0 0] V4):=by show Bx _ _ _; rw [hV4,hbp]; exact Bx.new w2 [.int .i64 p,.string o,.bool false,.slice none 0 0] 53
  replace HBa : Hx (Bx ba [.int .i64 0,.string ⟨#[]⟩,.bool false,.slice none 0 0] V4):=by show Bx _ _ _; rw [hV4]; exact HBa.o.over (bA _ _)
  replace HD : Hx (Rd rb tv ts en w (n3) V4):=by show Rd _ _ _ _ _ _ _; rw [hV4]; exact HD.o.over (bA _ _)
  have K3:=hide (takes_c ⟨#[33]⟩ (by decide) n3 _ HD.o.st)
  clear K2
  go_wp2_with fail
  rw [← hV4,← hbp]
  clear hbp hV4
  refine K3.o.mono ?_
  rintro e wb ⟨rfl,hg,hs⟩
  replace hs : St rb tv ts en (if isT ts n3 [33] = true then n3 + 1 else n3) wb:=hs
  show _
  cases hq : isT ts n3 [33] with
  | false =>
    rw [hq] at hs
    have hr:=HRP.o
    rw [if_neg (by rw [hq]; simp)] at hr
    replace HRP:=hide hr
    clear hr
    replace hs : St rb tv ts en (n3) wb:=hs
    try rw [show isT ts n3 (ByteArray.mk #[33]).data.toList = false from hq]
    clear hq
    replace HBa:=hide (HBa.o.keep hg (by have:=HD.o.rlt; have:=HLa.o; omega))
    replace HBp:=hide (HBp.o.keep hg (by have:=HD.o.rlt; have:=HLp.o; omega))
    replace HD : Hx (Rd rb tv ts en w (n3) wb):=HD.o.call hg hs
    clear hg hs
    have neap : ba≠bp:=by have:=HLap.o; omega
    have nepa : bp≠ba:=by have:=HLap.o; omega
    obtain ⟨cp0,cp1,cp2,cp3⟩:=rc4 HBp.o.row
    have fp0:=HBp.o.fz 0
    have fp1:=HBp.o.fz 1
    have fp2:=HBp.o.fz 2
    have fp3:=HBp.o.fz 3
    obtain ⟨V5,hV5⟩:=nm (wb.setCell ⟨bp,2,none⟩ (.bool false))
    replace HBp : Hx (Bx bp [.int .i64 p,.string o,.bool false,.slice none 0 0] V5):=by show Bx _ _ _; rw [hV5]; exact HBp.o.set (j:=2) (by simp)
    replace HBa : Hx (Bx ba [.int .i64 0,.string ⟨#[]⟩,.bool false,.slice none 0 0] V5):=by show Bx _ _ _; rw [hV5]; exact HBa.o.far (by have:=HLap.o; omega)
    replace HD : Hx (Rd rb tv ts en w (n3) V5):=by show Rd _ _ _ _ _ _ _; rw [hV5]; exact HD.o.set (by exact HLp.o)
    have K4:=hide (take_c ⟨#[58]⟩ (by decide) n3 _ HD.o.st)
    clear K3
    go_wp2_with fail
    rw [← hV5]
    clear hV5
    clear fp3 fp2 fp1 fp0 cp3 cp2 cp1 cp0 nepa neap
    refine K4.o.mono ?_
    rintro e w6 hpo
    obtain ⟨m,ho⟩ | ⟨_u,n7,ho⟩:=res_cases (pTake ts [58] n3)
    · replace hpo : PostC ts en (pTake ts [58] n3) _ _ e w6:=hpo
      rw [ho] at hpo
      obtain ⟨rfl,hg⟩:=hpo
      have HO : Hx (res = .inr m):=by show _ = _; rw [HRP.o,ho]; rfl
      have HG:=hide (grownBy_trans HD.o.gr hg)
      clear hg ho
      unfold gaveUpAt
      go_wp2_with fail
      refine ⟨rfl,?_⟩
      rw [HO.o]
      exact ⟨rfl,HG.o⟩
    replace hpo : PostC ts en (pTake ts [58] n3) _ _ e w6:=hpo
    rw [ho] at hpo
    obtain ⟨rfl,hg,hs⟩:=hpo
    have hr:=HRP.o
    rw [ho,bindR_inl] at hr
    replace HRP:=hide hr
    clear hr ho
    replace HBa:=hide (HBa.o.keep hg (by have:=HD.o.rlt; have:=HLa.o; omega))
    replace HBp:=hide (HBp.o.keep hg (by have:=HD.o.rlt; have:=HLp.o; omega))
    replace HD : Hx (Rd rb tv ts en w (n7) w6):=HD.o.call hg hs
    clear hg hs
    have K5:=hide (isName_c (n7) _ HD.o.st)
    go_wp2_with fail
    refine K5.o.mono ?_
    rintro e wc ⟨rfl,hg,hs⟩
    obtain ⟨q,hq⟩:=nm (isNameT (peekT ts (n7)))
    rw [← hq] at HRP ⊢
    clear hq
    replace HBa:=hide (HBa.o.keep hg (by have:=HD.o.rlt; have:=HLa.o; omega))
    replace HBp:=hide (HBp.o.keep hg (by have:=HD.o.rlt; have:=HLp.o; omega))
    replace HD : Hx (Rd rb tv ts en w (n7) wc):=HD.o.call hg hs
    clear hg hs
    have K6:=hide (names_c q (n7) _ HD.o.st)
    clear K5
    go_wp2_with fail
    obtain ⟨z,hz⟩:=nm wc.heap.size
    have HWz : Hx (w.heap.size≤z):=by show _≤_; rw [hz]; exact HD.o.size
    have HZza : Hx (ba < z):=by show _ < _; rw [hz]; exact HBa.o.lt
    have HZzp : Hx (bp < z):=by show _ < _; rw [hz]; exact HBp.o.lt
    refine K6.o.mono ?_
    rintro e w8 hpo
    obtain ⟨m,ho⟩ | ⟨ns,n9,ho⟩:=res_cases (pNames ts q (n7))
    · replace hpo : PostC ts en (pNames ts q (n7)) _ _ e w8:=hpo
      rw [ho] at hpo
      obtain ⟨rfl,hg⟩:=hpo
      have HO : Hx (res = .inr m):=by show _ = _; rw [HRP.o,ho]; rfl
      have HG:=hide (grownBy_trans HD.o.gr hg)
      clear hg ho
      unfold gaveUpAt
      go_wp2_with fail
      refine ⟨rfl,?_⟩
      rw [HO.o]
      exact ⟨rfl,HG.o⟩
    replace hpo : PostC ts en (pNames ts q (n7)) _ _ e w8:=hpo
    rw [ho] at hpo
    obtain ⟨na,nc,rfl,hoff,hnl,hg,hs⟩:=hpo
    have hr:=HRP.o
    rw [ho,bindR_inl] at hr
    replace HRP:=hide hr
    clear hr ho
    obtain ⟨nl,hnl2⟩:=nm ns.length
    rw [← hnl2,← hz] at hoff
    rw [← hnl2]
    have HOFF:=hide hoff
    clear hnl hnl2 hoff hz
    replace HBa:=hide (HBa.o.keep hg (by have:=HD.o.rlt; have:=HLa.o; omega))
    replace HBp:=hide (HBp.o.keep hg (by have:=HD.o.rlt; have:=HLp.o; omega))
    replace HD : Hx (Rd rb tv ts en w (n9) w8):=HD.o.call hg hs
    clear hg hs
    clear K6
    have neap : ba≠bp:=by have:=HLap.o; omega
    have nepa : bp≠ba:=by have:=HLap.o; omega
    obtain ⟨ca0,ca1,ca2,ca3⟩:=rc4 HBa.o.row
    have fa0:=HBa.o.fz 0
    have fa1:=HBa.o.fz 1
    have fa2:=HBa.o.fz 2
    have fa3:=HBa.o.fz 3
    obtain ⟨cp0,cp1,cp2,cp3⟩:=rc4 HBp.o.row
    have fp0:=HBp.o.fz 0
    have fp1:=HBp.o.fz 1
    have fp2:=HBp.o.fz 2
    have fp3:=HBp.o.fz 3
    obtain ⟨V10,hV10⟩:=nm (w8.setCell ⟨bp,3,none⟩ (.slice na nl nc))
    replace HBp : Hx (Bx bp [.int .i64 p,.string o,.bool false,.slice na nl nc] V10):=by show Bx _ _ _; rw [hV10]; exact HBp.o.set (j:=3) (by simp)
    replace HBa : Hx (Bx ba [.int .i64 0,.string ⟨#[]⟩,.bool false,.slice none 0 0] V10):=by show Bx _ _ _; rw [hV10]; exact HBa.o.far (by have:=HLap.o; omega)
    replace HD : Hx (Rd rb tv ts en w (n9) V10):=by show Rd _ _ _ _ _ _ _; rw [hV10]; exact HD.o.set (by exact HLp.o)
    replace HOFF : Hx (Off z none V10 (fun W => StrsAt W (.slice na nl nc) ns)):=by show Off _ _ _ _; rw [hV10]; exact HOFF.o.set HZzp.o
    obtain ⟨V11,hV11⟩:=nm (V10.setCell ⟨ba,0,none⟩ (.int .i64 p))
    replace HBa : Hx (Bx ba [.int .i64 p,.string ⟨#[]⟩,.bool false,.slice none 0 0] V11):=by show Bx _ _ _; rw [hV11]; exact HBa.o.set (j:=0) (by simp)
    replace HBp : Hx (Bx bp [.int .i64 p,.string o,.bool false,.slice na nl nc] V11):=by show Bx _ _ _; rw [hV11]; exact HBp.o.far (by have:=HLap.o; omega)
    replace HD : Hx (Rd rb tv ts en w (n9) V11):=by show Rd _ _ _ _ _ _ _; rw [hV11]; exact HD.o.set (by exact HLa.o)
    replace HOFF : Hx (Off z none V11 (fun W => StrsAt W (.slice na nl nc) ns)):=by show Off _ _ _ _; rw [hV11]; exact HOFF.o.set HZza.o
    obtain ⟨V12,hV12⟩:=nm (V11.setCell ⟨ba,1,none⟩ (.string o))
    replace HBa : Hx (Bx ba [.int .i64 p,.string o,.bool false,.slice none 0 0] V12):=by show Bx _ _ _; rw [hV12]; exact HBa.o.set (j:=1) (by simp)
    replace HBp : Hx (Bx bp [.int .i64 p,.string o,.bool false,.slice na nl nc] V12):=by show Bx _ _ _; rw [hV12]; exact HBp.o.far (by have:=HLap.o; omega)
    replace HD : Hx (Rd rb tv ts en w (n9) V12):=by show Rd _ _ _ _ _ _ _; rw [hV12]; exact HD.o.set (by exact HLa.o)
    replace HOFF : Hx (Off z none V12 (fun W => StrsAt W (.slice na nl nc) ns)):=by show Off _ _ _ _; rw [hV12]; exact HOFF.o.set HZza.o
    obtain ⟨V13,hV13⟩:=nm (V12.setCell ⟨ba,2,none⟩ (.bool false))
    replace HBa : Hx (Bx ba [.int .i64 p,.string o,.bool false,.slice none 0 0] V13):=by show Bx _ _ _; rw [hV13]; exact HBa.o.set (j:=2) (by simp)
    replace HBp : Hx (Bx bp [.int .i64 p,.string o,.bool false,.slice na nl nc] V13):=by show Bx _ _ _; rw [hV13]; exact HBp.o.far (by have:=HLap.o; omega)
    replace HD : Hx (Rd rb tv ts en w (n9) V13):=by show Rd _ _ _ _ _ _ _; rw [hV13]; exact HD.o.set (by exact HLa.o)
    replace HOFF : Hx (Off z none V13 (fun W => StrsAt W (.slice na nl nc) ns)):=by show Off _ _ _ _; rw [hV13]; exact HOFF.o.set HZza.o
    obtain ⟨V14,hV14⟩:=nm (V13.setCell ⟨ba,3,none⟩ (.slice na nl nc))
    replace HBa : Hx (Bx ba [.int .i64 p,.string o,.bool false,.slice na nl nc] V14):=by show Bx _ _ _; rw [hV14]; exact HBa.o.set (j:=3) (by simp)
    replace HBp : Hx (Bx bp [.int .i64 p,.string o,.bool false,.slice na nl nc] V14):=by show Bx _ _ _; rw [hV14]; exact HBp.o.far (by have:=HLap.o; omega)
    replace HD : Hx (Rd rb tv ts en w (n9) V14):=by show Rd _ _ _ _ _ _ _; rw [hV14]; exact HD.o.set (by exact HLa.o)
    replace HOFF : Hx (Off z none V14 (fun W => StrsAt W (.slice na nl nc) ns)):=by show Off _ _ _ _; rw [hV14]; exact HOFF.o.set HZza.o
    go_wp2_with fail
    refine bodyPost_ret (v:=.agg #[.int .i64 p,.string o,.bool false,.slice na nl nc]) (by simp [results,Tryz.results136,go_sem, *]) rfl ?_
    rw [← hV10,← hV11,← hV12,← hV13,← hV14]
    rw [HRP.o]
    exact ⟨p,o,false,na,nl,nc,rfl,(HOFF.o.base HWz.o).imp (fun W hW => ⟨p,o,false,ns,_,rfl,rfl,hW⟩),HD.o.gr,HD.o.st⟩
  | true =>
    rw [hq] at hs
    have hr:=HRP.o
    rw [if_pos hq] at hr
    replace HRP:=hide hr
    clear hr
    replace hs : St rb tv ts en (n3 + 1) wb:=hs
    try rw [show isT ts n3 (ByteArray.mk #[33]).data.toList = true from hq]
    clear hq
    replace HBa:=hide (HBa.o.keep hg (by have:=HD.o.rlt; have:=HLa.o; omega))
    replace HBp:=hide (HBp.o.keep hg (by have:=HD.o.rlt; have:=HLp.o; omega))
    replace HD : Hx (Rd rb tv ts en w (n3 + 1) wb):=HD.o.call hg hs
    clear hg hs
    have neap : ba≠bp:=by have:=HLap.o; omega
    have nepa : bp≠ba:=by have:=HLap.o; omega
    obtain ⟨cp0,cp1,cp2,cp3⟩:=rc4 HBp.o.row
    have fp0:=HBp.o.fz 0
    have fp1:=HBp.o.fz 1
    have fp2:=HBp.o.fz 2
    have fp3:=HBp.o.fz 3
    obtain ⟨V5,hV5⟩:=nm (wb.setCell ⟨bp,2,none⟩ (.bool true))
    replace HBp : Hx (Bx bp [.int .i64 p,.string o,.bool true,.slice none 0 0] V5):=by show Bx _ _ _; rw [hV5]; exact HBp.o.set (j:=2) (by simp)
    replace HBa : Hx (Bx ba [.int .i64 0,.string ⟨#[]⟩,.bool false,.slice none 0 0] V5):=by show Bx _ _ _; rw [hV5]; exact HBa.o.far (by have:=HLap.o; omega)
    replace HD : Hx (Rd rb tv ts en w (n3 + 1) V5):=by show Rd _ _ _ _ _ _ _; rw [hV5]; exact HD.o.set (by exact HLp.o)
    have K5:=hide (isName_c (n3 + 1) _ HD.o.st)
    go_wp2_with fail
    rw [← hV5]
    clear hV5
    clear fp3 fp2 fp1 fp0 cp3 cp2 cp1 cp0 nepa neap
    refine K5.o.mono ?_
    rintro e wc ⟨rfl,hg,hs⟩
    obtain ⟨q,hq⟩:=nm (isNameT (peekT ts (n3 + 1)))
    rw [← hq] at HRP ⊢
    clear hq
    replace HBa:=hide (HBa.o.keep hg (by have:=HD.o.rlt; have:=HLa.o; omega))
    replace HBp:=hide (HBp.o.keep hg (by have:=HD.o.rlt; have:=HLp.o; omega))
    replace HD : Hx (Rd rb tv ts en w (n3 + 1) wc):=HD.o.call hg hs
    clear hg hs
    have K6:=hide (names_c q (n3 + 1) _ HD.o.st)
    clear K5
    go_wp2_with fail
    obtain ⟨z,hz⟩:=nm wc.heap.size
    have HWz : Hx (w.heap.size≤z):=by show _≤_; rw [hz]; exact HD.o.size
    have HZza : Hx (ba < z):=by show _ < _; rw [hz]; exact HBa.o.lt
    have HZzp : Hx (bp < z):=by show _ < _; rw [hz]; exact HBp.o.lt
    refine K6.o.mono ?_
    rintro e w6 hpo
    obtain ⟨m,ho⟩ | ⟨ns,n7,ho⟩:=res_cases (pNames ts q (n3 + 1))
    · replace hpo : PostC ts en (pNames ts q (n3 + 1)) _ _ e w6:=hpo
      rw [ho] at hpo
      obtain ⟨rfl,hg⟩:=hpo
      have HO : Hx (res = .inr m):=by show _ = _; rw [HRP.o,ho]; rfl
      have HG:=hide (grownBy_trans HD.o.gr hg)
      clear hg ho
      unfold gaveUpAt
      go_wp2_with fail
      refine ⟨rfl,?_⟩
      rw [HO.o]
      exact ⟨rfl,HG.o⟩
    replace hpo : PostC ts en (pNames ts q (n3 + 1)) _ _ e w6:=hpo
    rw [ho] at hpo
    obtain ⟨na,nc,rfl,hoff,hnl,hg,hs⟩:=hpo
    have hr:=HRP.o
    rw [ho,bindR_inl] at hr
    replace HRP:=hide hr
    clear hr ho
    obtain ⟨nl,hnl2⟩:=nm ns.length
    rw [← hnl2,← hz] at hoff
    rw [← hnl2]
    have HOFF:=hide hoff
    clear hnl hnl2 hoff hz
    replace HBa:=hide (HBa.o.keep hg (by have:=HD.o.rlt; have:=HLa.o; omega))
    replace HBp:=hide (HBp.o.keep hg (by have:=HD.o.rlt; have:=HLp.o; omega))
    replace HD : Hx (Rd rb tv ts en w (n7) w6):=HD.o.call hg hs
    clear hg hs
    clear K6
    have neap : ba≠bp:=by have:=HLap.o; omega
    have nepa : bp≠ba:=by have:=HLap.o; omega
    obtain ⟨ca0,ca1,ca2,ca3⟩:=rc4 HBa.o.row
    have fa0:=HBa.o.fz 0
    have fa1:=HBa.o.fz 1
    have fa2:=HBa.o.fz 2
    have fa3:=HBa.o.fz 3
    obtain ⟨cp0,cp1,cp2,cp3⟩:=rc4 HBp.o.row
    have fp0:=HBp.o.fz 0
    have fp1:=HBp.o.fz 1
    have fp2:=HBp.o.fz 2
    have fp3:=HBp.o.fz 3
    obtain ⟨V8,hV8⟩:=nm (w6.setCell ⟨bp,3,none⟩ (.slice na nl nc))
    replace HBp : Hx (Bx bp [.int .i64 p,.string o,.bool true,.slice na nl nc] V8):=by show Bx _ _ _; rw [hV8]; exact HBp.o.set (j:=3) (by simp)
    replace HBa : Hx (Bx ba [.int .i64 0,.string ⟨#[]⟩,.bool false,.slice none 0 0] V8):=by show Bx _ _ _; rw [hV8]; exact HBa.o.far (by have:=HLap.o; omega)
    replace HD : Hx (Rd rb tv ts en w (n7) V8):=by show Rd _ _ _ _ _ _ _; rw [hV8]; exact HD.o.set (by exact HLp.o)
    replace HOFF : Hx (Off z none V8 (fun W => StrsAt W (.slice na nl nc) ns)):=by show Off _ _ _ _; rw [hV8]; exact HOFF.o.set HZzp.o
    obtain ⟨V9,hV9⟩:=nm (V8.setCell ⟨ba,0,none⟩ (.int .i64 p))
    replace HBa : Hx (Bx ba [.int .i64 p,.string ⟨#[]⟩,.bool false,.slice none 0 0] V9):=by show Bx _ _ _; rw [hV9]; exact HBa.o.set (j:=0) (by simp)
    replace HBp : Hx (Bx bp [.int .i64 p,.string o,.bool true,.slice na nl nc] V9):=by show Bx _ _ _; rw [hV9]; exact HBp.o.far (by have:=HLap.o; omega)
    replace HD : Hx (Rd rb tv ts en w (n7) V9):=by show Rd _ _ _ _ _ _ _; rw [hV9]; exact HD.o.set (by exact HLa.o)
    replace HOFF : Hx (Off z none V9 (fun W => StrsAt W (.slice na nl nc) ns)):=by show Off _ _ _ _; rw [hV9]; exact HOFF.o.set HZza.o
    obtain ⟨V10,hV10⟩:=nm (V9.setCell ⟨ba,1,none⟩ (.string o))
    replace HBa : Hx (Bx ba [.int .i64 p,.string o,.bool false,.slice none 0 0] V10):=by show Bx _ _ _; rw [hV10]; exact HBa.o.set (j:=1) (by simp)
    replace HBp : Hx (Bx bp [.int .i64 p,.string o,.bool true,.slice na nl nc] V10):=by show Bx _ _ _; rw [hV10]; exact HBp.o.far (by have:=HLap.o; omega)
    replace HD : Hx (Rd rb tv ts en w (n7) V10):=by show Rd _ _ _ _ _ _ _; rw [hV10]; exact HD.o.set (by exact HLa.o)
    replace HOFF : Hx (Off z none V10 (fun W => StrsAt W (.slice na nl nc) ns)):=by show Off _ _ _ _; rw [hV10]; exact HOFF.o.set HZza.o
    obtain ⟨V11,hV11⟩:=nm (V10.setCell ⟨ba,2,none⟩ (.bool true))
    replace HBa : Hx (Bx ba [.int .i64 p,.string o,.bool true,.slice none 0 0] V11):=by show Bx _ _ _; rw [hV11]; exact HBa.o.set (j:=2) (by simp)
    replace HBp : Hx (Bx bp [.int .i64 p,.string o,.bool true,.slice na nl nc] V11):=by show Bx _ _ _; rw [hV11]; exact HBp.o.far (by have:=HLap.o; omega)
    replace HD : Hx (Rd rb tv ts en w (n7) V11):=by show Rd _ _ _ _ _ _ _; rw [hV11]; exact HD.o.set (by exact HLa.o)
    replace HOFF : Hx (Off z none V11 (fun W => StrsAt W (.slice na nl nc) ns)):=by show Off _ _ _ _; rw [hV11]; exact HOFF.o.set HZza.o
    obtain ⟨V12,hV12⟩:=nm (V11.setCell ⟨ba,3,none⟩ (.slice na nl nc))
    replace HBa : Hx (Bx ba [.int .i64 p,.string o,.bool true,.slice na nl nc] V12):=by show Bx _ _ _; rw [hV12]; exact HBa.o.set (j:=3) (by simp)
    replace HBp : Hx (Bx bp [.int .i64 p,.string o,.bool true,.slice na nl nc] V12):=by show Bx _ _ _; rw [hV12]; exact HBp.o.far (by have:=HLap.o; omega)
    replace HD : Hx (Rd rb tv ts en w (n7) V12):=by show Rd _ _ _ _ _ _ _; rw [hV12]; exact HD.o.set (by exact HLa.o)
    replace HOFF : Hx (Off z none V12 (fun W => StrsAt W (.slice na nl nc) ns)):=by show Off _ _ _ _; rw [hV12]; exact HOFF.o.set HZza.o
    go_wp2_with fail
    refine bodyPost_ret (v:=.agg #[.int .i64 p,.string o,.bool true,.slice na nl nc]) (by simp [results,Tryz.results136,go_sem, *]) rfl ?_
    rw [← hV8,← hV9,← hV10,← hV11,← hV12]
    rw [HRP.o]
    exact ⟨p,o,true,na,nl,nc,rfl,(HOFF.o.base HWz.o).imp (fun W hW => ⟨p,o,true,ns,_,rfl,rfl,hW⟩),HD.o.gr,HD.o.st⟩
theorem Tryz.infoPol : (Tryz.prog.info? 53).map (fun i => (i.zero,i.size,i.bytes)) = some (some (.agg #[.int .i64 0,.string ⟨#[]⟩,.bool false,.slice none 0 0]),4,56):=by kernel_rfl
theorem pEach_le {α : Type} {ts : List Tok} {sep : List UInt8} {one : Nat→Res α} (h1 : ∀ n a n1,one n = .inl (a,n1)→n≤n1) : ∀ (f : Nat) (sm : Bool) (acc : List α) (n : Nat) (l : List α) (n1 : Nat),pEach ts sep one f sm acc n = .inl (l,n1)→n≤n1
  | 0,sm,acc,n,l,n1,h => by
    injection h with h; injection h with _ h; omega
  | f + 1,sm,acc,n,l,n1,h => by
    unfold pEach at h
    split at h
    · obtain ⟨m,ho⟩ | ⟨a,n2,ho⟩:=res_cases (one n)
      · rw [ho] at h; cases h
      · rw [ho,bindR_inl] at h
        have:=h1 _ _ _ ho
        split at h
        · have:=pEach_le h1 f true _ _ _ _ h
          omega
        · injection h with h; injection h with _ h; omega
    · injection h with h; injection h with _ h; omega
theorem pTake_lt {ts : List Tok} {x : List UInt8} {n : Nat} {a : Unit} {n1 : Nat} (h : pTake ts x n = .inl (a,n1)) : n + 1≤n1:=by
  unfold pTake at h
  split at h
  · injection h with h; injection h with _ h; omega
  · cases h
theorem pNames_le {ts : List Tok} {sm : Bool} {n : Nat} {l : List ByteArray} {n1 : Nat} (h : pNames ts sm n = .inl (l,n1)) : n≤n1:=pEach_le (fun _ _ _ h => Nat.le_of_lt (pName_lt h)) _ _ _ _ _ _ h
theorem pPolicy_lt {ts : List Tok} {en n : Nat} {d : D} {n1 : Nat} (h : pPolicy ts en n = .inl (d,n1)) : n + 1≤n1:=by
  unfold pPolicy at h
  obtain ⟨m,ho⟩ | ⟨a,n2,ho⟩:=res_cases (pName ts n)
  · rw [ho] at h; cases h
  rw [ho,bindR_inl] at h
  have h2:=pName_lt ho
  split at h
  · obtain ⟨m,hn⟩ | ⟨ns,n3,hn⟩:=res_cases (pNames ts (isNameT (peekT ts (n2 + 1))) (n2 + 1))
    · rw [hn] at h; cases h
    rw [hn,bindR_inl] at h
    have:=pNames_le hn
    injection h with h; injection h with _ h; omega
  · obtain ⟨m,hk⟩ | ⟨u,n4,hk⟩:=res_cases (pTake ts [58] n2)
    · rw [hk] at h; cases h
    rw [hk,bindR_inl] at h
    have:=pTake_lt hk
    obtain ⟨m,hn⟩ | ⟨ns,n3,hn⟩:=res_cases (pNames ts (isNameT (peekT ts n4)) n4)
    · rw [hn] at h; cases h
    rw [hn,bindR_inl] at h
    have:=pNames_le hn
    injection h with h; injection h with _ h; omega
theorem call135 (args : Array Value) (w : World) : (callFunc 135 args).run Tryz.prog w = .ok (.enter 135 args) w:=by simp [go_sem]
set_option maxHeartbeats 4000000 in
set_option maxRecDepth 100000 in
theorem labelOne {w0 : World} {rb : Nat} {tv : Value} {ts : List Tok} {en n0 lb xb : Nat} (acc : List D) (n : Nat) (w : World) (h : Gro w0 rb tv ts en n0 lb xb 53 4 RPol acc n w) :
    Calls Tryz.prog 135 #[.pointer (some ⟨lb,0,none⟩),.pointer (some ⟨xb,0,none⟩)] w (PostC ts en (pPolicy ts en n) (fun a n1 e w' => e = .returned (.tuple #[])∧Gro w0 rb tv ts en n0 lb xb 53 4 RPol (acc ++ [a]) n1 w') (fun w' => w0.grownBy w' (some rb))):=by
  obtain ⟨i0,hi,hz0,hz1,hz2⟩:=info_parts Tryz.infoPol
  obtain ⟨v,l0,-⟩:=h.row
  have x0:=h.xc
  have HGRO:=hide h
  have HL:=hide l0
  have KN : Hx (∀ X,St rb tv ts en n X→_):=fun X hX => policy_c n X hX
  have HM : Hx (∀ n a n1,pPolicy ts en n = .inl (a,n1)→n + 1≤n1):=fun n a n1 h => pPolicy_lt h
  clear h
  go_enter Tryz.func135,Tryz.ntmps135
  go_wp2_with fail
  refine gS (fun Wz => Wz.cell? ⟨xb,0,none⟩ = some (.pointer (some ⟨rb,0,none⟩))) (ce1 (bD w) x0) fun hHeld => ?_
  have HW0 : Hx (Ov w w.drew):=bD w
  have l00:=ce1 (bD w) l0
  generalize w.drew = W at hHeld l00 HW0 ⊢
  refine kT 1 ?_
  refine rdB 0 2 rfl (fun K hK => ?_) rfl fun K hK => ?_
  · go_simp
    refine xK hK (hHeld) fun hHeld => ?_
    clear hK K
    refine rdA 2 rfl fun K hK => ?_
    have HDD : Hx (Ov w W):=HW0.o
    go_simp
    refine (KN.o _ (HGRO.o.st.below HDD.o)).mono ?_
    rintro e w1 hp
    obtain ⟨m,ho⟩ | ⟨a,n1,ho⟩:=res_cases (pPolicy ts en n)
    · rw [ho] at hp
      obtain ⟨rfl,hg⟩:=hp
      have HG:=hide (grownBy_trans (grownBy_trans HGRO.o.gr (grownBy_below HDD.o)) hg)
      have HO:=hide ho
      clear hg ho hK hHeld
      unfold gaveUpAt
      go_simp
      refine ⟨rfl,?_⟩
      rw [HO.o]
      exact ⟨rfl,HG.o⟩
    rw [ho] at hp
    obtain ⟨p0,p1,p2,p3,p4,p5,rfl,hof,hg1,hst1⟩:=hp
    have HOFF:=hide (hof.base HDD.o.size)
    clear hof
    have HO:=hide ho
    have hgw : w.grownBy w1 (some rb):=grownBy_trans (grownBy_below HDD.o) hg1
    have HG1:=hide hgw
    have HST1:=hide hst1
    have hlr : some lb≠some rb:=fun e => by injection e with e; have:=HGRO.o.rlt; have:=HGRO.o.l0; omega
    have hxr : some xb≠some rb:=fun e => by injection e with e; have:=HGRO.o.rlt; have:=HGRO.o.x0; omega
    have l1 : w1.cell? ⟨lb,0,none⟩ = some v:=hgw.cell HL.o hlr
    have x1 : w1.cell? ⟨xb,0,none⟩ = some (.pointer (some ⟨rb,0,none⟩)):=hgw.cell HGRO.o.xc hxr
    clear ho hg1 hst1 hgw hlr hxr hHeld
    go_simp
    refine xK hK (x1) fun hHeld => ?_
    clear hK K
    refine rdA 3 rfl fun K hK => ?_
    obtain ⟨W2,hW2⟩:=nm (w1.alloc (.cells #[.int .i64 p0,.string p1,.bool p2,.slice p3 p4 p5] 53))
    have hb2 : Ov w1 W2:=by rw [hW2]; exact bA _ _
    have HN2 : Hx (RowAt [.int .i64 p0,.string p1,.bool p2,.slice p3 p4 p5] W2 w1.heap.size):=by show RowAt _ _ _; rw [hW2]; exact al10 w1 [.int .i64 p0,.string p1,.bool p2,.slice p3 p4 p5] 53
    have l2:=ce1 hb2 l1
    have x2:=ce1 hb2 x1
    have HB2:=hide hb2
    go_simp
    rw [← hW2]
    clear hW2 hb2
    refine xK hK (x2) fun hHeld => ?_
    clear hK K
    refine rdA 4 rfl fun K hK => ?_
    obtain ⟨xs,hown,hel,hrow⟩:=HGRO.o.app HL.o HG1.o HB2.o
    have hs2 : w0.heap.size + 2≤W2.heap.size:=Nat.le_trans HGRO.o.sz (Nat.le_trans HG1.o.size HB2.o.size)
    have hfw : acc.length≤6000:=Nat.le_trans HGRO.o.few (Nat.le_trans HGRO.o.st.2.1 HGRO.o.st.2.2.1)
    obtain ⟨v2,W3,hrun,hown3,hgr3,-,hat⟩:=run_append_own_at (P:=Tryz.prog) (w:=W2) (w0.heap.size + 2) 45 45 53 i0 (.agg #[.int .i64 0,.string ⟨#[]⟩,.bool false,.slice none 0 0]) 4 56 Tryz.underlying45 hi hz0 hz1 hz2 rfl (by decide) _ _ _ hown ⟨w1.heap.size,0,none⟩ 1 1 [.int .i64 p0,.string p1,.bool p2,.slice p3 p4 p5] rfl (fun jj u hu => by rw [Addr.add_lit,Nat.zero_add]; exact HN2.o jj u hu) (by simp [Value.oneCell']) (by unfold maxLen; omega) (by omega) hs2
    obtain ⟨hgro,l3,x3,f3⟩:=HGRO.o.add (a:=a) HL.o HG1.o HST1.o (HM.o _ _ _ HO.o) HB2.o hown hel hrow rfl HOFF.o hown3 hgr3 hat
    have HFIN:=hide hgro
    obtain ⟨va2,vn2,vc2,hv2⟩:=own_form hown3
    subst hv2
    refine step_appJ rfl _ _ _ rfl _ _ _ _ rfl rfl hrun ?_
    clear hrun hown hel hown3 hgr3 hat hgro hrow hfw hs2
    refine xK hK (x3) fun hHeld => ?_
    clear hK K
    refine rdA 5 rfl fun K hK => ?_
    go_simp
    refine xK hK (HFIN.o.xc) fun hHeld => ?_
    clear hK K
    refine gE ?_
    go_wp2_with fail
    go_end0
    rw [HO.o]
    exact ⟨rfl,HFIN.o⟩
  · have HDD : Hx (Ov w W):=HW0.o
    go_simp
    refine (KN.o _ (HGRO.o.st.below HDD.o)).mono ?_
    rintro e w1 hp
    obtain ⟨m,ho⟩ | ⟨a,n1,ho⟩:=res_cases (pPolicy ts en n)
    · rw [ho] at hp
      obtain ⟨rfl,hg⟩:=hp
      have HG:=hide (grownBy_trans (grownBy_trans HGRO.o.gr (grownBy_below HDD.o)) hg)
      have HO:=hide ho
      clear hg ho hK hHeld
      unfold gaveUpAt
      go_simp
      refine ⟨rfl,?_⟩
      rw [HO.o]
      exact ⟨rfl,HG.o⟩
    rw [ho] at hp
    obtain ⟨p0,p1,p2,p3,p4,p5,rfl,hof,hg1,hst1⟩:=hp
    have HOFF:=hide (hof.base HDD.o.size)
    clear hof
    have HO:=hide ho
    have hgw : w.grownBy w1 (some rb):=grownBy_trans (grownBy_below HDD.o) hg1
    have HG1:=hide hgw
    have HST1:=hide hst1
    have hlr : some lb≠some rb:=fun e => by injection e with e; have:=HGRO.o.rlt; have:=HGRO.o.l0; omega
    have hxr : some xb≠some rb:=fun e => by injection e with e; have:=HGRO.o.rlt; have:=HGRO.o.x0; omega
    have l1 : w1.cell? ⟨lb,0,none⟩ = some v:=hgw.cell HL.o hlr
    have x1 : w1.cell? ⟨xb,0,none⟩ = some (.pointer (some ⟨rb,0,none⟩)):=hgw.cell HGRO.o.xc hxr
    clear ho hg1 hst1 hgw hlr hxr hHeld
    go_simp
    refine xK hK (x1) fun hHeld => ?_
    clear hK K
    refine rdB 0 3 rfl (fun K hK => ?_) rfl fun K hK => ?_
    · go_simp
      refine xK hK (hHeld) fun hHeld => ?_
      clear hK K
      refine rdA 3 rfl fun K hK => ?_
      obtain ⟨W2,hW2⟩:=nm (w1.alloc (.cells #[.int .i64 p0,.string p1,.bool p2,.slice p3 p4 p5] 53))
      have hb2 : Ov w1 W2:=by rw [hW2]; exact bA _ _
      have HN2 : Hx (RowAt [.int .i64 p0,.string p1,.bool p2,.slice p3 p4 p5] W2 w1.heap.size):=by show RowAt _ _ _; rw [hW2]; exact al10 w1 [.int .i64 p0,.string p1,.bool p2,.slice p3 p4 p5] 53
      have l2:=ce1 hb2 l1
      have x2:=ce1 hb2 x1
      have HB2:=hide hb2
      go_simp
      rw [← hW2]
      clear hW2 hb2
      refine xK hK (x2) fun hHeld => ?_
      clear hK K
      refine rdA 4 rfl fun K hK => ?_
      obtain ⟨xs,hown,hel,hrow⟩:=HGRO.o.app HL.o HG1.o HB2.o
      have hs2 : w0.heap.size + 2≤W2.heap.size:=Nat.le_trans HGRO.o.sz (Nat.le_trans HG1.o.size HB2.o.size)
      have hfw : acc.length≤6000:=Nat.le_trans HGRO.o.few (Nat.le_trans HGRO.o.st.2.1 HGRO.o.st.2.2.1)
      obtain ⟨v2,W3,hrun,hown3,hgr3,-,hat⟩:=run_append_own_at (P:=Tryz.prog) (w:=W2) (w0.heap.size + 2) 45 45 53 i0 (.agg #[.int .i64 0,.string ⟨#[]⟩,.bool false,.slice none 0 0]) 4 56 Tryz.underlying45 hi hz0 hz1 hz2 rfl (by decide) _ _ _ hown ⟨w1.heap.size,0,none⟩ 1 1 [.int .i64 p0,.string p1,.bool p2,.slice p3 p4 p5] rfl (fun jj u hu => by rw [Addr.add_lit,Nat.zero_add]; exact HN2.o jj u hu) (by simp [Value.oneCell']) (by unfold maxLen; omega) (by omega) hs2
      obtain ⟨hgro,l3,x3,f3⟩:=HGRO.o.add (a:=a) HL.o HG1.o HST1.o (HM.o _ _ _ HO.o) HB2.o hown hel hrow rfl HOFF.o hown3 hgr3 hat
      have HFIN:=hide hgro
      obtain ⟨va2,vn2,vc2,hv2⟩:=own_form hown3
      subst hv2
      refine step_appJ rfl _ _ _ rfl _ _ _ _ rfl rfl hrun ?_
      clear hrun hown hel hown3 hgr3 hat hgro hrow hfw hs2
      refine xK hK (x3) fun hHeld => ?_
      clear hK K
      refine rdA 5 rfl fun K hK => ?_
      go_simp
      refine xK hK (HFIN.o.xc) fun hHeld => ?_
      clear hK K
      refine gE ?_
      go_wp2_with fail
      go_end0
      rw [HO.o]
      exact ⟨rfl,HFIN.o⟩
    · obtain ⟨W2,hW2⟩:=nm (w1.alloc (.cells #[.int .i64 p0,.string p1,.bool p2,.slice p3 p4 p5] 53))
      have hb2 : Ov w1 W2:=by rw [hW2]; exact bA _ _
      have HN2 : Hx (RowAt [.int .i64 p0,.string p1,.bool p2,.slice p3 p4 p5] W2 w1.heap.size):=by show RowAt _ _ _; rw [hW2]; exact al10 w1 [.int .i64 p0,.string p1,.bool p2,.slice p3 p4 p5] 53
      have l2:=ce1 hb2 l1
      have x2:=ce1 hb2 x1
      have HB2:=hide hb2
      go_simp
      rw [← hW2]
      clear hW2 hb2
      refine xK hK (x2) fun hHeld => ?_
      clear hK K
      refine rdA 0 rfl fun K hK => ?_
      go_simp
      refine xK hK (hHeld) fun hHeld => ?_
      clear hK K
      refine rdA 4 rfl fun K hK => ?_
      obtain ⟨xs,hown,hel,hrow⟩:=HGRO.o.app HL.o HG1.o HB2.o
      have hs2 : w0.heap.size + 2≤W2.heap.size:=Nat.le_trans HGRO.o.sz (Nat.le_trans HG1.o.size HB2.o.size)
      have hfw : acc.length≤6000:=Nat.le_trans HGRO.o.few (Nat.le_trans HGRO.o.st.2.1 HGRO.o.st.2.2.1)
      obtain ⟨v2,W3,hrun,hown3,hgr3,-,hat⟩:=run_append_own_at (P:=Tryz.prog) (w:=W2) (w0.heap.size + 2) 45 45 53 i0 (.agg #[.int .i64 0,.string ⟨#[]⟩,.bool false,.slice none 0 0]) 4 56 Tryz.underlying45 hi hz0 hz1 hz2 rfl (by decide) _ _ _ hown ⟨w1.heap.size,0,none⟩ 1 1 [.int .i64 p0,.string p1,.bool p2,.slice p3 p4 p5] rfl (fun jj u hu => by rw [Addr.add_lit,Nat.zero_add]; exact HN2.o jj u hu) (by simp [Value.oneCell']) (by unfold maxLen; omega) (by omega) hs2
      obtain ⟨hgro,l3,x3,f3⟩:=HGRO.o.add (a:=a) HL.o HG1.o HST1.o (HM.o _ _ _ HO.o) HB2.o hown hel hrow rfl HOFF.o hown3 hgr3 hat
      have HFIN:=hide hgro
      obtain ⟨va2,vn2,vc2,hv2⟩:=own_form hown3
      subst hv2
      refine step_appJ rfl _ _ _ rfl _ _ _ _ rfl rfl hrun ?_
      clear hrun hown hel hown3 hgr3 hat hgro hrow hfw hs2
      refine xK hK (x3) fun hHeld => ?_
      clear hK K
      refine rdA 5 rfl fun K hK => ?_
      go_simp
      refine xK hK (HFIN.o.xc) fun hHeld => ?_
      clear hK K
      refine gE ?_
      go_wp2_with fail
      go_end0
      rw [HO.o]
      exact ⟨rfl,HFIN.o⟩
set_option maxHeartbeats 4000000 in
set_option maxRecDepth 100000 in
theorem label_c {rb : Nat} {tv : Value} {ts : List Tok} {en : Nat} (n : Nat) (w : World) (h : St rb tv ts en n w) :
    Calls Tryz.prog 97 #[.pointer (some ⟨rb,0,none⟩)] w (PostC ts en (pLabel ts en n) (fun l n1 e w' => ∃ a c,e = .returned (.slice a l.length c)∧Off w.heap.size none w' (fun W => LS 4 (RPol W) W (.slice a l.length c) l)∧l.length≤6000∧w.grownBy w' (some rb)∧St rb tv ts en n1 w') (fun w' => w.grownBy w' (some rb))):=by
  obtain ⟨V,hV⟩:=nm ((w.alloc (.cells #[.pointer (some ⟨rb,0,none⟩)] 91)).alloc (.cells #[.slice none 0 0] 45))
  have HG0 : Hx (Gro w rb tv ts en n (w.heap.size + 1) w.heap.size 53 4 RPol [] n V):=by show Gro _ _ _ _ _ _ _ _ _ _ _ _ _ _; rw [hV]; exact Gro.start h 45
  obtain ⟨res,hres⟩:=nm (pLabel ts en n)
  rw [← hres]
  have HRP : Hx (res = bindR (pTake ts [123] n) fun _ n1 => bindR (pEach ts [59] (pPolicy ts en) (ts.length + 1) (!isT ts n1 [125]) [] n1) fun l n2 => bindR (pTake ts [125] n2) fun _ n3 => .inl (l,n3)):=hres
  have K1:=hide (take_c ⟨#[123]⟩ (by decide) n V HG0.o.st)
  have x0:=HG0.o.xc
  clear h hres
  go_enter Tryz.func97,Tryz.ntmps97
  go_wp2_with fail
  rw [← hV]
  clear hV
  refine K1.o.mono ?_
  rintro e wa hpo
  obtain ⟨m,ho⟩ | ⟨u,n1,ho⟩:=res_cases (pTake ts [123] n)
  · replace hpo : PostC ts en (pTake ts [123] n) _ _ e wa:=hpo
    rw [ho] at hpo
    obtain ⟨rfl,hg⟩:=hpo
    have HO : Hx (res = .inr m):=by show _ = _; rw [HRP.o,ho]; rfl
    have HG:=hide (grownBy_trans HG0.o.gr hg)
    clear hg ho
    unfold gaveUpAt
    go_wp2_with fail
    refine ⟨rfl,?_⟩
    rw [HO.o]
    exact ⟨rfl,HG.o⟩
  replace hpo : PostC ts en (pTake ts [123] n) _ _ e wa:=hpo
  rw [ho] at hpo
  obtain ⟨rfl,hg,hs⟩:=hpo
  have hr:=HRP.o
  rw [ho,bindR_inl] at hr
  replace HRP:=hide hr
  have HGA:=hide (HG0.o.move (Nat.le_of_lt (pTake_lt ho)) hg hs)
  have K2 : Hx (∀ X,Ov wa X→_):=fun X (hX : Ov wa X) => is_c (rb:=rb) (tv:=tv) (ts:=ts) (en:=en) ⟨#[125]⟩ n1 X (HGA.o.st.below hX)
  have x1:=HGA.o.xc
  clear hr ho hg hs x0 K1 HG0
  go_wp2_with fail
  refine gS (fun Wz => Wz.cell? ⟨w.heap.size,0,none⟩ = some (.pointer (some ⟨rb,0,none⟩))) (ce1 (bD wa) HGA.o.xc) fun hHeld => ?_
  have HDW : Hx (Ov wa wa.drew):=bD wa
  generalize wa.drew = W at hHeld HDW ⊢
  refine kT 0 ?_
  refine kT 1 ?_
  refine kT 4 ?_
  refine rdA 2 rfl fun K hK => ?_
  go_simp
  refine (K2.o _ HDW.o).mono ?_
  rintro e w2 ⟨rfl,hg2,hs2⟩
  obtain ⟨q,hq⟩:=nm (isT ts n1 [125])
  have hq' : isT ts n1 (ByteArray.mk #[125]).data.toList = q:=hq.symm
  rw [hq']
  have HG2:=hide (HGA.o.move (Nat.le_refl _) (grownBy_trans (grownBy_below HDW.o) hg2) hs2)
  have HQ:=hide hq
  clear hq hq' hg2 hs2 hHeld
  go_simp
  refine xK hK (HG2.o.xc) fun hHeld => ?_
  clear hK K
  refine kT 3 ?_
  refine rdA 5 rfl fun K hK => ?_
  have KE:=hide (each_c (rb:=rb) (tv:=tv) (ts:=ts) (en:=en) 135 [.pointer (some ⟨w.heap.size + 1,0,none⟩),.pointer (some ⟨w.heap.size,0,none⟩)] call135 ⟨#[59]⟩ (by decide) (pPolicy ts en) (fun acc n2 w' => Gro w rb tv ts en n (w.heap.size + 1) w.heap.size 53 4 RPol acc n2 w') (fun w' => w.grownBy w' (some rb)) (fun _ _ _ h => h.st) (fun _ _ _ h => Nat.le_of_lt (pPolicy_lt h)) (fun _ _ _ _ _ h hn hg hs => h.move hn hg hs) (fun acc n w' h => labelOne acc n w' h) (!q) n1 w2 HG2.o)
  go_simp
  refine KE.o.mono ?_
  rintro e w3 hpo
  obtain ⟨m,ho⟩ | ⟨l,n2,ho⟩:=res_cases (pEach ts [59] (pPolicy ts en) (ts.length + 1) (!q) [] n1)
  · replace hpo : PostC ts en (pEach ts [59] (pPolicy ts en) (ts.length + 1) (!q) [] n1) _ _ e w3:=hpo
    rw [ho] at hpo
    obtain ⟨rfl,hg⟩:=hpo
    have HO : Hx (res = .inr m):=by show _ = _; rw [HRP.o,← HQ.o,ho]; rfl
    have HG:=hide hg
    clear hg ho hK hHeld
    unfold gaveUpAt
    go_simp
    refine ⟨rfl,?_⟩
    rw [HO.o]
    exact ⟨rfl,HG.o⟩
  replace hpo : PostC ts en (pEach ts [59] (pPolicy ts en) (ts.length + 1) (!q) [] n1) _ _ e w3:=hpo
  rw [ho] at hpo
  obtain ⟨rfl,hg3⟩:=hpo
  have hr:=HRP.o
  rw [← HQ.o,ho,bindR_inl] at hr
  have HRQ:=hide hr
  have HG3:=hide hg3
  clear ho hg3 hr hHeld
  refine xK hK (HG3.o.xc) fun hHeld => ?_
  clear hK K
  refine gE ?_
  have KB:=hide (take_c ⟨#[125]⟩ (by decide) n2 w3 HG3.o.st)
  have x3:=HG3.o.xc
  go_wp2_with fail
  refine KB.o.mono ?_
  rintro e w4 hpo
  obtain ⟨m,ho⟩ | ⟨u,n3,ho⟩:=res_cases (pTake ts [125] n2)
  · replace hpo : PostC ts en (pTake ts [125] n2) _ _ e w4:=hpo
    rw [ho] at hpo
    obtain ⟨rfl,hg⟩:=hpo
    have HO : Hx (res = .inr m):=by show _ = _; rw [HRQ.o,ho]; rfl
    have HG:=hide (grownBy_trans HG3.o.gr hg)
    clear hg ho
    unfold gaveUpAt
    go_wp2_with fail
    refine ⟨rfl,?_⟩
    rw [HO.o]
    exact ⟨rfl,HG.o⟩
  replace hpo : PostC ts en (pTake ts [125] n2) _ _ e w4:=hpo
  rw [ho] at hpo
  obtain ⟨rfl,hg,hs⟩:=hpo
  have hr:=HRQ.o
  rw [ho,bindR_inl] at hr
  have HRZ:=hide hr
  have hg4:=HG3.o.move (n1:=n3) (by unfold pTake at ho; split at ho; (injection ho with ho; injection ho with _ ho; omega); cases ho) hg hs
  obtain ⟨v,hv,hc⟩:=hg4.row
  have hfw : l.length≤6000:=Nat.le_trans hg4.few (Nat.le_trans hg4.st.2.1 hg4.st.2.2.1)
  obtain ⟨a,c,rfl,hoff⟩:=Cop.ls hc (by decide) (by omega)
  have HG:=hide hg4
  have HOFF:=hide (hoff.base (B':=w.heap.size) (by omega))
  have HFW:=hide hfw
  obtain ⟨k,hk⟩:=nm l.length
  rw [← hk] at hv
  have HK:=hide hk
  clear ho hg hs hg4 hc hoff hr hfw hk x3
  go_wp2_with fail
  go_ret
  rw [HRZ.o]
  exact ⟨a,c,by rw [HK.o]; rfl,HOFF.o,HFW.o,HG.o.gr,HG.o.st⟩
/-- an expression in memory, so deep at most. -/
def XE (W : World) : Nat→List Value→D→Prop
  | 0,_,_ => False
  | k + 1,cs,d => ∃ (kd a n : Int) (x : ByteArray) (v : Value) (ds : List D),cs = [.int .i64 kd,.int .i64 a,.int .i64 n,.string x,v]∧d = eD kd a n x ds∧LS 5 (XE W k) W v ds
/-- a command in memory, so deep at most. -/
def XC (W : World) : Nat→List Value→D→Prop
  | 0,_,_ => False
  | k + 1,cs,d => ∃ (kd a : Int) (x y : ByteArray) (e0 e1 e2 e3 e4 : Value) (e : D) (vA : Value) (args : List D) (vT : Value) (th : List D) (vE : Value) (el : List D),cs = [.int .i64 kd,.int .i64 a,.string x,.string y,e0,e1,e2,e3,e4,vA,vT,vE]∧d = stD kd a x y e args th el∧XE W 61 [e0,e1,e2,e3,e4] e∧LS 5 (XE W 61) W vA args∧LS 12 (XC W k) W vT th∧LS 12 (XC W k) W vE el
theorem LS.imp {α : Type} {size : Nat} {R R' : List Value→α→Prop} {w : World} {v : Value} {l : List α} (h : LS size R w v l) (hR : ∀ cs a,a∈l→R cs a→R' cs a) : LS size R' w v l:=by
  obtain ⟨h1,ao,cap,h2,h3⟩:=h
  refine ⟨h1,ao,cap,h2,fun hne => ?_⟩
  obtain ⟨b,off,hb,he⟩:=h3 hne
  refine ⟨b,off,hb,fun i a ha => ?_⟩
  obtain ⟨cs,q1,q2,q3⟩:=he i a ha
  exact ⟨cs,q1,q2,hR cs a (List.mem_of_getElem? ha) q3⟩
theorem XC.mono {W : World} : ∀ {k m : Nat} {cs : List Value} {d : D},k≤m→XC W k cs d→XC W m cs d
  | 0,m,cs,d,_,h => h.elim
  | k + 1,0,cs,d,hk,h => absurd hk (by omega)
  | k + 1,m + 1,cs,d,hk,h => by
    obtain ⟨kd,a,x,y,e0,e1,e2,e3,e4,e,vA,args,vT,th,vE,el,h1,h2,h3,h4,h5,h6⟩:=h
    exact ⟨kd,a,x,y,e0,e1,e2,e3,e4,e,vA,args,vT,th,vE,el,h1,h2,h3,h4,h5.imp fun cs d _ hh => XC.mono (by omega) hh,h6.imp fun cs d _ hh => XC.mono (by omega) hh⟩
/-- the parts of an expression that was read are few. -/
def eArgs : D→List D
  | .agg [_,_,_,_,.slice l _] => l
  | _ => []
def fewE : Nat→D→Prop
  | 0,_ => True
  | k + 1,d => (eArgs d).length≤2∧∀ a∈eArgs d,fewE k a
section
variable {ts : List Tok} {en : Nat}
theorem pE_few : ∀ (f deep n : Nat) (d : D) (n1 : Nat),pE ts en f deep n = .inl (d,n1)→fewE f d∧n + 1≤n1
  | 0,deep,n,d,n1,h => by cases h
  | f + 1,deep,n,d,n1,h => by
    have nil : ∀ (k a m : Int) (x : ByteArray),fewE (f + 1) (eD k a m x []):=fun k a m x => ⟨Nat.zero_le _,fun y hy => by cases hy⟩
    unfold pE at h
    split at h
    · injection h with h; injection h with h1 h2; rw [← h1]; exact ⟨nil _ _ _ _,by omega⟩
    split at h
    · split at h
      · cases h
      split at h
      · injection h with h; injection h with h1 h2; rw [← h1]; exact ⟨nil _ _ _ _,by omega⟩
      · cases h
    split at h
    · injection h with h; injection h with h1 h2; rw [← h1]; exact ⟨nil _ _ _ _,by omega⟩
    split at h
    · cases ha : pE ts en f (deep + 1) (n + 1) with
      | inr m => rw [ha] at h; cases h
      | inl p =>
        obtain ⟨a,m1⟩:=p
        rw [ha] at h
        obtain ⟨a1,a2⟩:=pE_few f _ _ _ _ ha
        dsimp only at h
        split at h
        · cases h
        cases hb : pE ts en f (deep + 1) (m1 + 1) with
        | inr m => rw [hb] at h; cases h
        | inl q =>
          obtain ⟨b,m2⟩:=q
          rw [hb] at h
          obtain ⟨b1,b2⟩:=pE_few f _ _ _ _ hb
          dsimp only at h
          split at h
          · injection h with h
            injection h with h1 h2
            rw [← h1]
            refine ⟨⟨Nat.le_refl _,fun y hy => ?_⟩,by omega⟩
            have hy' : y∈[a,b]:=hy
            simp at hy'
            rcases hy' with rfl | rfl
            · exact a1
            · exact b1
          · cases h
    · cases h
end
theorem RE.xe {S : Nat→Prop} {W : World} : ∀ {k : Nat} {cs : List Value} {d : D},RE S W k cs d→fewE k d→XE W k cs d
  | 0,cs,d,h,_ => h.elim
  | k + 1,cs,d,h,hf => by
    obtain ⟨kd,a,n,x,v,ds,h1,h2,ao,cap,hv,hc⟩:=h
    subst h2
    refine ⟨kd,a,n,x,v,ds,h1,rfl,?_,ao,cap,hv,fun hne => ?_⟩
    · have:=hf.1
      have e : (eArgs (eD kd a n x ds)) = ds:=rfl
      rw [e] at this
      unfold maxLen; omega
    obtain ⟨b,off,hb,-,he⟩:=hc hne
    refine ⟨b,off,hb,fun i d hd => ?_⟩
    obtain ⟨cs,q1,q2,q3⟩:=he i d hd
    exact ⟨cs,q1,q2,RE.xe q3 (hf.2 d (List.mem_of_getElem? hd))⟩
/-- an expression, whatever stands there. -/
theorem expr_c {rb : Nat} {tv : Value} {ts : List Tok} {en : Nat} (hall : ts.all isAlone = true) (n : Nat) (w : World) (h : St rb tv ts en n w) :
    Calls Tryz.prog 133 #[.pointer (some ⟨rb,0,none⟩),.int .i64 0] w (PostC ts en (pX ts en n) (fun d n1 e w' => ∃ (kd a m : Int) (x : ByteArray) (ao : Option Addr) (l c : Nat),e = .returned (.agg #[.int .i64 kd,.int .i64 a,.int .i64 m,.string x,.slice ao l c])∧Off w.heap.size none w' (fun W => XE W 61 [.int .i64 kd,.int .i64 a,.int .i64 m,.string x,.slice ao l c] d)∧eKind d = kd∧eName d = x.data.toList∧w.grownBy w' (some rb)∧St rb tv ts en n1 w') (fun w' => w.grownBy w' (some rb))):=by
  have hE:=expr_any rb tv ts hall en 61 0 n w (by omega) (by omega) h
  refine hE.mono fun e w' hp => ?_
  obtain ⟨m,ho⟩ | ⟨d,n1,ho⟩:=res_cases (pX ts en n)
  · have ho' : pE ts en 61 0 n = .inr m:=ho
    rw [ho'] at hp
    rw [ho]
    exact ⟨hp.2,hp.1⟩
  · have ho' : pE ts en 61 0 n = .inl (d,n1):=ho
    rw [ho'] at hp
    rw [ho]
    obtain ⟨hg,cs,rfl,hr,hs⟩:=hp
    obtain ⟨kd,a,m,x,v,ds,rfl,rfl,hl⟩:=id hr
    obtain ⟨ao,cap,rfl,-⟩:=id hl
    refine ⟨kd,a,m,x,ao,ds.length,cap,rfl,fun W hW => ?_,rfl,rfl,hg,hs⟩
    exact RE.xe (S:=fun _ => True) (RE.mono (fun _ _ _ => trivial) (fun b hb hlt => hW b hb hlt (by simp)) 61 61 _ _ (Nat.le_refl _) hr) (pE_few 61 0 n _ _ ho').1
/-- nothing, in memory. -/
theorem XE.none (W : World) : XE W 61 [.int .i64 0,.int .i64 0,.int .i64 0,.string ⟨#[]⟩,.slice none 0 0] noE:=⟨0,0,0,⟨#[]⟩,_,[],rfl,rfl,LS.nil⟩
section
variable (rb : Nat) (tv : Value) (ts : List Tok) (en : Nat)
/-- what stmts and stmt are to answer. -/
def StmtsOk (f : Nat) : Prop:=∀ (n : Nat) (w : World),St rb tv ts en n w→2 * (ts.length - n) + 2≤f →
  Calls Tryz.prog 99 #[.pointer (some ⟨rb,0,none⟩)] w (PostC ts en (pStmts ts en f [] n) (fun l n1 e w' => ∃ a c,e = .returned (.slice a l.length c)∧Off w.heap.size none w' (fun W => LS 12 (XC W f) W (.slice a l.length c) l)∧l.length≤6000∧w.grownBy w' (some rb)∧St rb tv ts en n1 w') (fun w' => w.grownBy w' (some rb)))
def StmtOk (f : Nat) : Prop:=∀ (n : Nat) (w : World),St rb tv ts en n w→2 * (ts.length - n) + 1≤f →
  Calls Tryz.prog 137 #[.pointer (some ⟨rb,0,none⟩)] w (PostC ts en (pStmt ts en f n) (fun d n1 e w' => ∃ (kd a : Int) (x y : ByteArray) (e0 e1 e2 : Int) (e3 : ByteArray) (q0 : Option Addr) (q1 q2 : Nat) (q3 : Option Addr) (q4 q5 : Nat) (q6 : Option Addr) (q7 q8 : Nat) (q9 : Option Addr) (r0 r1 : Nat),e = .returned (.agg #[.int .i64 kd,.int .i64 a,.string x,.string y,.int .i64 e0,.int .i64 e1,.int .i64 e2,.string e3,.slice q0 q1 q2,.slice q3 q4 q5,.slice q6 q7 q8,.slice q9 r0 r1])∧Off w.heap.size none w' (fun W => XC W f [.int .i64 kd,.int .i64 a,.string x,.string y,.int .i64 e0,.int .i64 e1,.int .i64 e2,.string e3,.slice q0 q1 q2,.slice q3 q4 q5,.slice q6 q7 q8,.slice q9 r0 r1] d)∧n + 1≤n1∧w.grownBy w' (some rb)∧St rb tv ts en n1 w') (fun w' => w.grownBy w' (some rb)))
end
end Go.Proofs.YtipngnjffjajpaaGreatDoor.Tx
