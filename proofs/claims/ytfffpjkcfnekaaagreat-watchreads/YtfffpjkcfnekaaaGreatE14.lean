/- Who sees the same coming in sees the same happen, watched: plain. -/
import Derived.Test.YtfffpjkcfnekaaaGreatE13
set_option linter.unusedVariables false
set_option maxHeartbeats 8000000
set_option maxRecDepth 100000
namespace Go.Proofs.YtfffpjkcfnekaaaGreat.Ex
open Go.RowKit
open Go.Value renaming slice -> O, int -> zd, bool -> zg, agg -> zh, pointer -> zi, tuple -> zk
open Go.IntKind renaming i64 -> U
open Go.Obj renaming cells -> ze
open Go.Ending renaming returned -> zj
def low (q:Nat) (l:Lev):Bool:=l.r[q]?.getD false
theorem Eg {q n:Nat} (h:q < n) (a b:Lev):low q (BA a b n)=(low q a && low q b):=by
 unfold low BA;simp only [DM _ h,GF]
theorem Kl {q n:Nat} (h:q < n) (L:List Lev):∀ (vs:List Int) (p:Lev),low q (A6 n L p vs)=(low q p && vs.all (fun v=>low q (L.getD v.toNat Ah)))
 | [],p=>by simp [A6]
 | v::vs,p=>by
  show low q (A6 n L (BA p _ n) vs)=_;rw [Kl h L vs,Eg h];simp [Bool.and_assoc]
theorem EN {q n:Nat} (h:q < n) {a b:Lev} (hf:Av a b n=true) (hb:low q b=true):low q a=true:=(BL.1 hf q h).1 hb
theorem Dq {q n:Nat} (h:q < n) {a b:Lev} (hf:Av a b n=true) (ha:low q a=false):low q b=false:=by
 cases hb:low q b with
 | false=>rfl
 | true=>rw [EN h hf hb] at ha;cases ha
theorem EB {vs vs':List Int}:∀ (K:Nat) (d:D),(∀ v∈AG K d,vs.getD v.toNat 0=vs'.getD v.toNat 0)->AC vs K d=AC vs' K d
 | 0,d,_=>rfl
 | k+1,d,h=>by
  simp only [AC,AG] at h ⊢;by_cases h2:AQ d=2
  ·rw [if_pos h2] at h
   have:=h _ (List.mem_singleton.2 rfl);simp only [if_pos h2,this]
  ·rw [if_neg h2] at h
   simp only [if_neg h2];split
   ·rfl
   ·split
    ·rename_i x y he
     rw [he] at h;rw [EB k x (fun v hv=>h v (by simp [hv])),EB k y (fun v hv=>h v (by simp [hv]))]
    ·rfl
def Alk (kd:Int):List Ev4->List Ev4->Prop
 | x::a,y::b=>(x=y/\Alk kd a b)\/(x≠y/\x.1=kd/\y.1=kd/\x.2.1=y.2.1/\x.2.2.1=y.2.2.1)
 | _,_=>True
theorem Alk.nilL (kd:Int) (b):Alk kd [] b:=by cases b <;> trivial
theorem Alk.nilR (kd:Int) (a):Alk kd a []:=by cases a <;> trivial
theorem Alk.app {kd:Int} {a b:List Ev4}:∀ (c:List Ev4),Alk kd a b->Alk kd (c++a) (c++b)
 | [],h=>h
 | x::c,h=>Or.inl ⟨rfl,Alk.app c h⟩
theorem Alk.left (kd:Int) (c d):Alk kd c (c++d):=by
 have:=Alk.app c (Alk.nilL kd d)
 rwa [List.append_nil] at this
theorem Alk.right (kd:Int) (c d):Alk kd (c++d) c:=by
 have:=Alk.app c (Alk.nilR kd d)
 rwa [List.append_nil] at this
theorem Lg (r:Bool × RSt) (f h:RSt->Bool × RSt):A0 (A0 r f) h=A0 r (fun x=>A0 (f x) h):=by
 unfold A0;by_cases h1:r.1=true
 ·simp only [if_pos h1]
 ·simp only [if_neg h1]
section
variable (q:Nat) (c:WK) (seen:Ev4->Bool)
structure BF (dp:Nat) (s s':RSt):Prop where
 lv:∀ i,low q (s'.o.vs.getD i Ah)=low q (s.o.vs.getD i Ah)
 va:∀ i,low q (s.o.vs.getD i Ah)=true->s'.vars.getD i 0=s.vars.getD i 0
 ps:∀ j,j<=dp->s'.o.ps.getD j Ah=s.o.ps.getD j Ah
 tk:∀ ch,low q (c.ins.getD ch Ah)=true->s'.taken.getD ch 0=s.taken.getD ch 0
 ev:s'.ev.filter seen=s.ev.filter seen
 tl:s'.taken.length=s.taken.length
structure Lq (dp:Nat) (s t:RSt):Prop where
 lv:∀ i,low q (s.o.vs.getD i Ah)=low q (t.o.vs.getD i Ah)
 va:∀ i,low q (s.o.vs.getD i Ah)=true->s.vars.getD i 0=t.vars.getD i 0
 ps:∀ j,j<=dp->low q (s.o.ps.getD j Ah)=low q (t.o.ps.getD j Ah)
 tk:∀ ch,low q (c.ins.getD ch Ah)=true->s.taken.getD ch 0=t.taken.getD ch 0
 ev:s.ev.filter seen=t.ev.filter seen
 tl:s.taken.length=t.taken.length
structure Iv (vn dp:Nat) (s:RSt):Prop where
 known:FN c s.o
 l1:s.o.vs.length=vn
 l2:s.vars.length=vn
 l3:dp < s.o.ps.length
end
section
variable {q:Nat} {c:WK} {seen:Ev4->Bool}
theorem BF.refl (dp:Nat) (s):BF q c seen dp s s:=⟨fun _=>rfl,fun _ _=>rfl,fun _ _=>rfl,fun _ _=>rfl,rfl,rfl⟩
theorem BF.trans {dp:Nat} {s t u:RSt} (h:BF q c seen dp s t) (k:BF q c seen dp t u):BF q c seen dp s u:=
 ⟨fun i=>(k.lv i).trans (h.lv i),fun i hi=>(k.va i (by rw [h.lv];exact hi)).trans (h.va i hi),fun j hj=>(k.ps j hj).trans (h.ps j hj),fun ch hc=>(k.tk ch hc).trans (h.tk ch hc),k.ev.trans h.ev,k.tl.trans h.tl⟩
theorem BF.less {dp dp':Nat} {s t:RSt} (h:BF q c seen dp s t) (hd:dp'<=dp):BF q c seen dp' s t:=⟨h.lv,h.va,fun j hj=>h.ps j (Nat.le_trans hj hd),h.tk,h.ev,h.tl⟩
theorem Lq.less {dp dp':Nat} {s t:RSt} (h:Lq q c seen dp s t) (hd:dp'<=dp):Lq q c seen dp' s t:=⟨h.lv,h.va,fun j hj=>h.ps j (Nat.le_trans hj hd),h.tk,h.ev,h.tl⟩
theorem Lq.conf {dp:Nat} {s t s' t':RSt} (h:Lq q c seen dp s t) (h1:BF q c seen dp s s') (h2:BF q c seen dp t t'):Lq q c seen dp s' t':=
 ⟨fun i=>by rw [h1.lv,h2.lv,h.lv],fun i hi=>by
  rw [h1.lv] at hi;rw [h1.va i hi,h2.va i (by rw [<-h.lv];exact hi),h.va i hi],fun j hj=>by rw [h1.ps j hj,h2.ps j hj,h.ps j hj],fun ch hc=>by rw [h1.tk ch hc,h2.tk ch hc,h.tk ch hc],by rw [h1.ev,h2.ev,h.ev],by rw [h1.tl,h2.tl,h.tl]⟩
theorem Iv.less {vn dp dp':Nat} {s:RSt} (h:Iv c vn dp s) (hd:dp'<=dp):Iv c vn dp' s:=⟨h.known,h.l1,h.l2,Nat.lt_of_le_of_lt hd h.l3⟩
theorem CQ (s:WSt) (dp:Nat) (p) (h:dp < s.ps.length):(s.enter dp p).ps.getD (dp+1) Ah=p:=by
 unfold WSt.enter;simp only [List.getD_eq_getElem?_getD];rw [List.getElem?_append_right (by simp;omega)];simp [Nat.min_eq_left (Nat.succ_le_of_lt h)]
theorem D1 (s:WSt) (dp:Nat) (p) (h:dp < s.ps.length) (j:Nat) (hj:j<=dp):(s.enter dp p).ps.getD j Ah=s.ps.getD j Ah:=by
 unfold WSt.enter;simp only [List.getD_eq_getElem?_getD];rw [List.getElem?_append_left (by simp;omega),List.getElem?_take_of_lt (by omega)]
theorem Me (s:WSt) (dp:Nat) (p) (h:dp < s.ps.length):(s.enter dp p).ps.length=dp+2:=by
 unfold WSt.enter;simp;omega
def RSt.lay (st:RSt) (v:Int) (l:Lev) (x:Int):RSt:={ st with vars:=st.vars.set v.toNat x,o:=⟨st.o.vs.set v.toNat l,st.o.ps⟩ }
theorem Dd {l:List Int} {i j:Nat} {x:Int}:(l.set i x).getD j 0=if i=j/\i < l.length then x else l.getD j 0:=KU
theorem BF.lay {dp:Nat} (s:RSt) (v:Int) {l:Lev} (x:Int) (h1:low q (s.o.vs.getD v.toNat Ah)=false) (h2:low q l=false):BF q c seen dp s (s.lay v l x):=by
 refine ⟨fun i=>?_,fun i hi=>?_,fun _ _=>rfl,fun _ _=>rfl,rfl,rfl⟩
 ·show low q ((s.o.vs.set v.toNat l).getD i Ah)=_
  rw [DE];split
  ·rename_i h
   rw [h2,<-h.1,h1]
  ·rfl
 ·show (s.vars.set v.toNat x).getD i 0=_
  rw [Dd];split
  ·rename_i h
   rw [<-h.1,h1] at hi;cases hi
  ·rfl
theorem Lq.lay {dp vn:Nat} {s t:RSt} (h:Lq q c seen dp s t) (hs:Iv c vn dp s) (ht:Iv c vn dp t) (v:Int) {l m:Lev} {x y:Int} (h1:low q l=low q m) (h2:low q l=true->x=y):Lq q c seen dp (s.lay v l x) (t.lay v m y):=by
 refine ⟨fun i=>?_,fun i hi=>?_,h.ps,h.tk,h.ev,h.tl⟩
 ·show low q ((s.o.vs.set v.toNat l).getD i Ah)=low q ((t.o.vs.set v.toNat m).getD i Ah)
  rw [DE,DE,hs.l1,ht.l1];split
  ·exact h1
  ·exact h.lv i
 ·show (s.vars.set v.toNat x).getD i 0=(t.vars.set v.toNat y).getD i 0
  have b:low q ((s.o.vs.set v.toNat l).getD i Ah)=true:=hi;rw [DE] at b;rw [Dd,Dd,hs.l2,ht.l2];rw [hs.l1] at b;by_cases hv:v.toNat=i/\v.toNat < vn
  ·rw [if_pos hv,if_pos hv]
   rw [if_pos ⟨hv.1,hv.1 ▸ hv.2⟩] at b;exact h2 b
  ·rw [if_neg hv,if_neg hv]
   rw [if_neg (fun (e:v.toNat=i/\i < vn)=>hv ⟨e.1,e.1 ▸ e.2⟩)] at b;exact h.va i b
theorem Iv.lay {vn dp:Nat} {s:RSt} (h:Iv c vn dp s) {v:Int} {l:Lev} (x:Int) (hm:c.known.getD v.toNat false=true->Av l (c.bound.getD v.toNat Ah) c.n=true):Iv c vn dp (s.lay v l x):=
 ⟨h.known.set hm,by show (s.o.vs.set _ _).length=vn;simp [h.l1],by show (s.vars.set _ _).length=vn;simp [h.l2],h.l3⟩
theorem Fg {s:WSt} {p:Lev} {v:Int} {l:Lev} (h:Cr c s p v l=true):Av p (s.vs.getD v.toNat Ah) c.n=true:=by
 unfold Cr at h;exact (Bool.and_eq_true _ _ ▸ h).1
def stp (c:WK) (kf F:Nat) (ins:List (List Int)) (g k:Nat) (d:D) (a:Int) (dp:Nat) (st:RSt):Bool × RSt:=
 A0 (Bq (obW c) 1 a dp d st) (fun st1=>rn c.K kf c.fs F ins (obW c) g 1 k [d] a dp st1)
theorem Fy (kf F:Nat) (ins) (g k:Nat) (d:D) (r) (a:Int) (dp:Nat) (st:RSt):rn c.K kf c.fs F ins (obW c) (g+1) 0 k (d::r) a dp st=if st.steps=F then (false,st.out) else A0 (stp c kf F ins g k d a dp st.step) (fun st'=>rn c.K kf c.fs F ins (obW c) g 0 k r (a+CY k d) dp st'):=by
 simp only [rn];unfold stp;rw [Lg]
theorem DP {ob:Ob} {kind:Nat} {a:Int} {dp:Nat} {d:D} {st:RSt} (h:(ob kind a dp d st.o).1=false):Bq ob kind a dp d st=(false,st.stop a (ob kind a dp d st.o).2):=by
 unfold Bq;rw [h];simp
theorem Cq {ob:Ob} {kind:Nat} {a:Int} {dp:Nat} {d:D} {st:RSt} (h:(ob kind a dp d st.o).1=true):Bq ob kind a dp d st=(true,st.held (ob kind a dp d st.o).2):=by
 unfold Bq;rw [h];simp
theorem Er (st:RSt) (f):A0 (false,st) f=(false,st):=rfl
theorem CL (st:RSt) (f):A0 (true,st) f=f st:=rfl
theorem Gv {a:Int} {dp:Nat} {d:D} {s:WSt} (h7:Ag d≠7) (h8:Ag d≠8):obW c 1 a dp d s=doX c s a d (s.ps.getD dp Ah):=by
 unfold obW;rw [if_neg (by decide),if_neg (by decide),if_neg (by rintro (h | h);exact h7 h;exact h8 h)]
theorem Ru {a:Int} {dp:Nat} {d:D} {s:WSt} (h:Ag d=7\/Ag d=8):obW c 1 a dp d s=(true,s.enter dp (withX c s (s.ps.getD dp Ah) (Am d))):=by
 unfold obW;rw [if_neg (by decide),if_neg (by decide),if_pos h]
theorem DB {a:Int} {dp:Nat} {d:D} {s:WSt}:obW c 2 a dp d s=(true,s.enter dp (withX c s (s.ps.getD (dp+1) Ah) (Am d))):=by
 unfold obW;rw [if_pos rfl]
theorem Js {a:Int} {dp:Nat} {d:D} {s:WSt}:obW c 3 a dp d s=CC c s (s.ps.getD dp Ah) (Ap d) (withX c s (s.ps.getD dp Ah) (BV c.fs (Ae d)).res):=by
 unfold obW;rw [if_neg (by decide),if_pos rfl]
theorem H9 {s:WSt} {p:Lev} {v:Int} {l:Lev} (h:Cr c s p v l=true):CC c s p v l=(true,⟨s.vs.set v.toNat l,s.ps⟩):=by
 unfold CC;rw [if_pos h]
theorem M3 {s:WSt} {p:Lev} {v:Int} {l:Lev} (h:Cr c s p v l=false):CC c s p v l=(false,s):=by
 unfold CC;rw [h];simp
theorem DC (hq:q < c.n) (s:WSt) (p) (e):low q (withX c s p e)=(low q p && (AG c.K e).all (fun v=>low q (s.vs.getD v.toNat Ah))):=Kl hq _ _ _
theorem CA (hq:q < c.n) (s:WSt) {p:Lev} (e) (hp:low q p=false):low q (withX c s p e)=false:=by
 rw [DC hq,hp];rfl
def Dg (c:WK) (s:WSt) (p:Lev) (d:D):Lev:=
 if Ag d=3 then BA (c.ins.getD (Ae d).toNat Ah) p c.n
 else if Ag d=5 then ⟨(c.bound.getD (Ap d).toNat Ah).r,(withX c s p (Am d)).w⟩
 else if Ag d=6 then ⟨(withX c s p (Am d)).r,(c.bound.getD (Ap d).toNat Ah).w⟩
 else withX c s p (Am d)
def FF (c:WK) (ins:List (List Int)) (st:RSt) (d:D):Int:=if Ag d=3 then Dj ins st (Ae d) else AC st.vars c.K (Am d)
def RSt.beside (st:RSt) (d:D) (a x:Int):RSt:=
 if Ag d=3 then st.took (Ae d) else if Ag d=5 then st.tell (2,a,Ap d,x) else if Ag d=6 then st.tell (3,a,Ap d,x) else st
theorem Jh (kf F:Nat) (ins) (g k:Nat) (d:D) (a:Int) (dp:Nat) (st:RSt) (hd:Ag d=1\/Ag d=3\/Ag d=5\/Ag d=6) :
  (∃ o',stp c kf F ins (g+1) k d a dp st=(false,st.stop a o')/\o'=st.o)\/(Cr c st.o (st.o.ps.getD dp Ah) (Ap d) (Dg c st.o (st.o.ps.getD dp Ah) d)=true/\(Ag d=3->Av (st.o.ps.getD dp Ah) (c.ins.getD (Ae d).toNat Ah) c.n=true)/\(Ag d=5\/Ag d=6->c.known.getD (Ap d).toNat false=true) /\
   stp c kf F ins (g+1) k d a dp st=(true,(st.lay (Ap d) (Dg c st.o (st.o.ps.getD dp Ah) d) (FF c ins st d)).beside d a (FF c ins st d))):=by
 have i:Ag d≠7:=by omega
 have f:Ag d≠8:=by omega
 have p:Ag d≠2:=by omega
 have q:Ag d≠4:=by omega
 have l:∀ u,rn c.K kf c.fs F ins (obW c) (g+1) 1 k [d] a dp u=(true,DR c.K ins d a u):=fun u=>by
  simp only [rn];rw [if_neg p,if_neg i,if_neg f]
 obtain ⟨b,e,hk⟩:∃ b:Bool,doX c st.o a d (st.o.ps.getD dp Ah)=(if b=true then CC c st.o (st.o.ps.getD dp Ah) (Ap d) (Dg c st.o (st.o.ps.getD dp Ah) d) else (false,st.o))/\(b=true->(Ag d=3->Av (st.o.ps.getD dp Ah) (c.ins.getD (Ae d).toNat Ah) c.n=true)/\(Ag d=5\/Ag d=6->c.known.getD (Ap d).toNat false=true)):=by
  rcases hd with hd | hd | hd | hd
  ·exact ⟨true,by unfold doX Dg;simp [hd],fun _=>⟨fun h=>by omega,fun h=>by omega⟩⟩
  ·exact ⟨Av (st.o.ps.getD dp Ah) (c.ins.getD (Ae d).toNat Ah) c.n,by unfold doX Dg;simp [hd],fun h=>⟨fun _=>h,fun h=>by omega⟩⟩
  ·exact ⟨E3 c a d,by unfold doX Dg;simp [hd],fun h=>⟨fun h=>by omega,fun _=>by unfold E3 at h;exact (Bool.and_eq_true _ _ ▸ h).1⟩⟩
  ·exact ⟨E3 c a d,by unfold doX Dg;simp [hd],fun h=>⟨fun h=>by omega,fun _=>by unfold E3 at h;exact (Bool.and_eq_true _ _ ▸ h).1⟩⟩
 cases b with
 | false=>
  left;refine ⟨_,?_,rfl⟩;rw [if_neg (by decide)] at e;unfold stp;rw [DP (by rw [Gv i f,e]),Gv i f,e,Er]
 | true=>
  rw [if_pos rfl] at e
  cases hm:Cr c st.o (st.o.ps.getD dp Ah) (Ap d) (Dg c st.o (st.o.ps.getD dp Ah) d) with
  | false=>
   left;refine ⟨_,?_,rfl⟩;rw [M3 hm] at e;unfold stp;rw [DP (by rw [Gv i f,e]),Gv i f,e,Er]
  | true=>
   right;refine ⟨rfl,(hk rfl).1,(hk rfl).2,?_⟩;rw [H9 hm] at e;unfold stp;rw [Cq (by rw [Gv i f,e]),Gv i f,e,CL,l];congr 1;unfold DR FF RSt.beside;rcases hd with hd | hd | hd | hd <;> simp [hd] <;> rfl
theorem Ji (kf F:Nat) (ins) (g k:Nat) (d:D) (a:Int) (dp:Nat) (st:RSt) (hd:Ag d=4) :
  (∃ o',stp c kf F ins (g+1) k d a dp st=(false,st.stop a o'))\/(Av (withX c st.o (st.o.ps.getD dp Ah) (Am d)) (c.outs.getD (Ae d).toNat Ah) c.n=true/\stp c kf F ins (g+1) k d a dp st=(true,st.tell (1,a,Ae d,AC st.vars c.K (Am d)))):=by
 have b:obW c 1 a dp d st.o=(Av (withX c st.o (st.o.ps.getD dp Ah) (Am d)) (c.outs.getD (Ae d).toNat Ah) c.n,st.o):=by
  rw [Gv (by omega) (by omega)];unfold doX;simp [hd]
 cases hm:Av (withX c st.o (st.o.ps.getD dp Ah) (Am d)) (c.outs.getD (Ae d).toNat Ah) c.n with
 | false=>
  left;refine ⟨(obW c 1 a dp d st.o).2,?_⟩;unfold stp;rw [DP (by rw [b,hm]),Er]
 | true=>
  right;refine ⟨rfl,?_⟩;unfold stp;rw [Cq (by rw [b,hm]),b,CL];simp only [rn];rw [if_neg (by omega),if_neg (by omega),if_neg (by omega)];unfold DR;simp [hd];rfl
def layAll (L:D->Lev) (V:D->Int) (l:List (Int × D)) (st:RSt):RSt:=l.foldl (fun s y=>s.lay y.1 (L y.2) (V y.2)) st
theorem F3 (L:D->Lev) (V:D->Int):∀ (l:List (Int × D)) (st:RSt),layAll L V l st={ st with vars:=BP st.vars (l.map (fun y=>(y.1,V y.2))),o:=⟨setLev st.o.vs (l.map (fun y=>(y.1,L y.2))),st.o.ps⟩ }
 | [],st=>rfl
 | y::l,st=>by
  show layAll L V l (st.lay y.1 (L y.2) (V y.2))=_;rw [F3 L V l];rfl
theorem BF.layAll {dp:Nat} {L:D->Lev} {V:D->Int}:∀ (l:List (Int × D)) (st:RSt),(∀ y∈l,low q (st.o.vs.getD y.1.toNat Ah)=false/\low q (L y.2)=false)->BF q c seen dp st (layAll L V l st)
 | [],st,_=>BF.refl _ _
 | y::l,st,h=>by
  have h1:BF q c seen dp st (st.lay y.1 (L y.2) (V y.2)):=BF.lay st y.1 _ (h y (by simp)).1 (h y (by simp)).2;exact h1.trans (BF.layAll l _ (fun z hz=>by rw [h1.lv];exact h z (by simp [hz])))
theorem Iv.layAll {vn dp:Nat} {L:D->Lev} {V:D->Int}:∀ (l:List (Int × D)) (st:RSt),Iv c vn dp st->(∀ y∈l,c.known.getD y.1.toNat false=true->Av (L y.2) (c.bound.getD y.1.toNat Ah) c.n=true)->Iv c vn dp (layAll L V l st)
 | [],st,h,_=>h
 | y::l,st,h,hl=>Iv.layAll l _ (h.lay _ (hl y (by simp))) (fun z hz=>hl z (by simp [hz]))
theorem Lq.layAll {vn dp:Nat} {L L':D->Lev} {V V':D->Int}:∀ (l:List (Int × D)) (s t:RSt),Lq q c seen dp s t->Iv c vn dp s->Iv c vn dp t->(∀ y∈l,c.known.getD y.1.toNat false=true->Av (L y.2) (c.bound.getD y.1.toNat Ah) c.n=true/\Av (L' y.2) (c.bound.getD y.1.toNat Ah) c.n=true)->(∀ y∈l,low q (L y.2)=low q (L' y.2)/\(low q (L y.2)=true->V y.2=V' y.2))->Lq q c seen dp (layAll L V l s) (layAll L' V' l t)
 | [],s,t,h,_,_,_,_=>h
 | y::l,s,t,h,hs,ht,hk,hl=>Lq.layAll l _ _ (h.lay hs ht y.1 (hl y (by simp)).1 (hl y (by simp)).2) (hs.lay _ (fun hh=>(hk y (by simp) hh).1)) (ht.lay _ (fun hh=>(hk y (by simp) hh).2)) (fun z hz=>hk z (by simp [hz])) (fun z hz=>hl z (by simp [hz]))
def J9 (c:WK) (d:D):List (Int × D):=(BV c.fs (Ae d)).ps.zip (Ai d)
def CS (c:WK) (p:Lev) (d:D) (st:RSt):RSt:=layAll (withX c st.o p) (AC st.vars c.K) (J9 c d) st
def Li (c:WK) (a:Int) (dp:Nat) (d:D) (st:RSt):Bool × RSt:=A0 (Bq (obW c) 3 a dp d st) (fun st'=>(true,st'.setv (Ap d) (AC st'.vars c.K (BV c.fs (Ae d)).res)))
theorem Ic (a:Int) (dp:Nat) (d:D) (st:RSt):(∃ o',Li c a dp d st=(false,st.stop a o'))\/(Cr c st.o (st.o.ps.getD dp Ah) (Ap d) (withX c st.o (st.o.ps.getD dp Ah) (BV c.fs (Ae d)).res)=true/\Li c a dp d st=(true,st.lay (Ap d) (withX c st.o (st.o.ps.getD dp Ah) (BV c.fs (Ae d)).res) (AC st.vars c.K (BV c.fs (Ae d)).res))):=by
 unfold Li
 cases hm:Cr c st.o (st.o.ps.getD dp Ah) (Ap d) (withX c st.o (st.o.ps.getD dp Ah) (BV c.fs (Ae d)).res) with
 | false=>
  left;refine ⟨(obW c 3 a dp d st.o).2,?_⟩;rw [DP (by rw [Js,M3 hm]),Er]
 | true=>
  right;refine ⟨rfl,?_⟩;rw [Cq (by rw [Js,H9 hm]),Js,H9 hm,CL];rfl
theorem GD (s:WSt) (p:Lev) (d:D):C6 c s p d=(J9 c d).map (fun y=>(y.1,withX c s p y.2)):=by
 unfold C6 J9;rw [List.zip_map_right];rfl
theorem G5 (kf F:Nat) (ins) (g k:Nat) (d:D) (a:Int) (dp:Nat) (st:RSt) (hd:Ag d=2) :
  (∃ o',stp c kf F ins (g+1) k d a dp st=(false,st.stop a o'))\/((∀ y∈J9 c d,Cr c st.o (st.o.ps.getD dp Ah) y.1 (withX c st.o (st.o.ps.getD dp Ah) y.2)=true)/\stp c kf F ins (g+1) k d a dp st=A0 (rn c.K kf c.fs F ins (obW c) g 0 kf (BV c.fs (Ae d)).body (A2 kf (c.fs.take (Ae d).toNat)) dp (CS c (st.o.ps.getD dp Ah) d st)) (Li c a dp d)):=by
 have b:obW c 1 a dp d st.o=Es c st.o (st.o.ps.getD dp Ah) d:=by
  rw [Gv (by omega) (by omega)];unfold doX;simp [hd]
 cases hm:(C6 c st.o (st.o.ps.getD dp Ah) d).all (fun x=>Cr c st.o (st.o.ps.getD dp Ah) x.1 x.2) with
 | false=>
  left;refine ⟨(obW c 1 a dp d st.o).2,?_⟩;unfold stp;rw [DP (by rw [b];unfold Es;rw [hm];rfl),Er]
 | true=>
  right;constructor
  ·intro y f
   rw [GD] at hm;exact List.all_eq_true.1 hm (y.1,withX c st.o (st.o.ps.getD dp Ah) y.2) (List.mem_map.2 ⟨y,f,rfl⟩)
  ·have e:Es c st.o (st.o.ps.getD dp Ah) d=(true,⟨setLev st.o.vs (C6 c st.o (st.o.ps.getD dp Ah) d),st.o.ps⟩):=by
    unfold Es;rw [if_pos hm]
   unfold stp;rw [Cq (by rw [b,e]),b,e,CL];simp only [rn];rw [if_pos hd];have h:(st.held ⟨setLev st.o.vs (C6 c st.o (st.o.ps.getD dp Ah) d),st.o.ps⟩).args c.K c.fs d=CS c (st.o.ps.getD dp Ah) d st:=by
    unfold CS;rw [F3,GD];unfold RSt.args RSt.held J9;rw [List.zip_map_right];rfl
   rw [h];rfl
theorem Lu (kf F:Nat) (ins) (g k:Nat) (d:D) (a:Int) (dp:Nat) (st:RSt) (hd:Ag d=7\/Ag d=8):stp c kf F ins g k d a dp st=rn c.K kf c.fs F ins (obW c) g 1 k [d] a dp (st.held (st.o.enter dp (withX c st.o (st.o.ps.getD dp Ah) (Am d)))):=by
 unfold stp;rw [Cq (by rw [Ru hd]),Ru hd,CL]
structure Wf (c:WK) (seen:Ev4->Bool) (q vn kf:Nat) (P:Nat->D->Prop):Prop where
 who:q < c.n
 put:∀ a ch v,seen (1,a,ch,v)=low q (c.outs.getD ch.toNat Ah)
 tell:∀ k a x v,(k=2\/k=3)->c.known.getD x.toNat false=true->seen (k,a,x,v)=low q (c.bound.getD x.toNat Ah)
 kind:∀ k d,P k d->1<=Ag d/\Ag d<=8
 var:∀ k d,P k d->(Ag d=5\/Ag d=6)->(Ap d).toNat < vn
 then_:∀ k d,P k d->∀ s∈Aj d,P (k - 1) s
 else_:∀ k d,P k d->∀ s∈Ao d,P (k - 1) s
 body:∀ i,∀ s∈(BV c.fs i).body,P kf s
def Hi (q:Nat) (c:WK) (seen:Ev4->Bool) (vn dp:Nat) (st:RSt) (r:Bool × RSt):Prop:=r.2.ev.filter seen=st.ev.filter seen/\(r.1=true->BF q c seen dp st r.2/\Iv c vn dp r.2)
theorem Lf {vn dp:Nat} {st:RSt} {r:Bool × RSt} {f:RSt->Bool × RSt} (h:Hi q c seen vn dp st r) (hf:BF q c seen dp st r.2->Iv c vn dp r.2->Hi q c seen vn dp r.2 (f r.2)):Hi q c seen vn dp st (A0 r f):=by
 unfold A0;split
 ·rename_i k
  obtain ⟨g,i⟩:=h.2 k;have b:=hf g i;exact ⟨b.1.trans h.1,fun e=>⟨g.trans (b.2 e).1,(b.2 e).2⟩⟩
 ·exact h
theorem NT {vn dp dp':Nat} {st:RSt} {r:Bool × RSt} {f:RSt->Bool × RSt} (h:Hi q c seen vn dp st r) (hd:dp'<=dp) (hf:BF q c seen dp st r.2->Iv c vn dp r.2->Hi q c seen vn dp' r.2 (f r.2)):Hi q c seen vn dp' st (A0 r f):=by
 unfold A0;split
 ·rename_i g
  obtain ⟨b,k⟩:=h.2 g;have e:=hf b k;exact ⟨e.1.trans h.1,fun i=>⟨(b.less hd).trans (e.2 i).1,(e.2 i).2⟩⟩
 ·rename_i g
  exact ⟨h.1,fun b=>absurd b g⟩
theorem Hi.no {vn dp:Nat} {st st':RSt} (h:st'.ev=st.ev):Hi q c seen vn dp st (false,st'):=⟨by rw [h],fun h=>by cases h⟩
theorem Hi.yes {vn dp:Nat} {st st':RSt} (h:BF q c seen dp st st') (h2:Iv c vn dp st'):Hi q c seen vn dp st (true,st'):=⟨h.ev,fun _=>⟨h,h2⟩⟩
theorem Hi.less {vn dp dp':Nat} {st:RSt} {r:Bool × RSt} (h:Hi q c seen vn dp st r) (hd:dp'<=dp):Hi q c seen vn dp' st r:=⟨h.1,fun h1=>⟨(h.2 h1).1.less hd,(h.2 h1).2.less hd⟩⟩
theorem Hi.from {vn dp:Nat} {st st':RSt} {r:Bool × RSt} (h:Hi q c seen vn dp st' r) (h2:BF q c seen dp st st'):Hi q c seen vn dp st r:=⟨h.1.trans h2.ev,fun h1=>⟨h2.trans (h.2 h1).1,(h.2 h1).2⟩⟩
theorem BF.tell {dp:Nat} (st:RSt) (e:Ev4) (h:seen e=false):BF q c seen dp st (st.tell e):=⟨fun _=>rfl,fun _ _=>rfl,fun _ _=>rfl,fun _ _=>rfl,by
 show (st.ev++[e]).filter seen=_;rw [List.filter_append];simp [h],rfl⟩
theorem BF.took {dp:Nat} (st:RSt) (ch:Int) (h:low q (c.ins.getD ch.toNat Ah)=false):BF q c seen dp st (st.took ch):=⟨fun _=>rfl,fun _ _=>rfl,fun _ _=>rfl,fun x hx=>by
 show (st.taken.set _ _).getD x 0=_;rw [Dd];split
 ·rename_i hh
  rw [<-hh.1,h] at hx;cases hx
 ·rfl,rfl,by simp [RSt.took]⟩
theorem Iv.tell {vn dp:Nat} {st:RSt} (h:Iv c vn dp st) (e):Iv c vn dp (st.tell e):=⟨h.known,h.l1,h.l2,h.l3⟩
theorem Iv.took {vn dp:Nat} {st:RSt} (h:Iv c vn dp st) (e):Iv c vn dp (st.took e):=⟨h.known,h.l1,h.l2,h.l3⟩
theorem Iv.beside {vn dp:Nat} {st:RSt} (h:Iv c vn dp st) (d) (a x:Int):Iv c vn dp (st.beside d a x):=by
 unfold RSt.beside
 repeat' split
 ·exact h.took _
 ·exact h.tell _
 ·exact h.tell _
 ·exact h
theorem Iv.enter {vn dp:Nat} {st:RSt} (h:Iv c vn dp st) (p):Iv c vn (dp+1) (st.held (st.o.enter dp p)):=⟨h.known,h.l1,h.l2,by
 show dp+1 < (st.o.enter dp p).ps.length;rw [Me _ _ _ h.l3];omega⟩
theorem BF.enter {vn dp:Nat} {st:RSt} (h:Iv c vn dp st) (p):BF q c seen dp st (st.held (st.o.enter dp p)):=⟨fun _=>rfl,fun _ _=>rfl,fun j hj=>D1 _ _ _ h.l3 j hj,fun _ _=>rfl,rfl,rfl⟩
theorem BF.step {dp:Nat} (st:RSt):BF q c seen dp st st.step:=⟨fun _=>rfl,fun _ _=>rfl,fun _ _=>rfl,fun _ _=>rfl,rfl,rfl⟩
theorem Iv.step {vn dp:Nat} {st:RSt} (h:Iv c vn dp st):Iv c vn dp st.step:=⟨h.known,h.l1,h.l2,h.l3⟩
theorem NF {vn dp kf:Nat} {P:Nat->D->Prop} (W:Wf c seen q vn kf P) {st:RSt} (h:Iv c vn dp st) {v:Int} (hv:v.toNat < vn) (hk:c.known.getD v.toNat false=true) (hb:low q (c.bound.getD v.toNat Ah)=true):low q (st.o.vs.getD v.toNat Ah)=true:=
 EN W.who (h.known _ hk (by rw [h.l1];exact hv)) hb
theorem Gm {vn kf F:Nat} {ins:List (List Int)} {P:Nat->D->Prop} (W:Wf c seen q vn kf P):∀ g:Nat,
  (∀ (k:Nat) (l:List D) (a:Int) (dp:Nat) (st:RSt),(∀ s∈l,P k s)->Iv c vn dp st->low q (st.o.ps.getD dp Ah)=false->Hi q c seen vn dp st (rn c.K kf c.fs F ins (obW c) g 0 k l a dp st)) /\
  (∀ (k:Nat) (d:D) (a:Int) (dp:Nat) (st:RSt),P k d->Iv c vn (dp+1) st->low q (st.o.ps.getD (dp+1) Ah)=false->Hi q c seen vn dp st (rn c.K kf c.fs F ins (obW c) g 2 k [d] a dp st)) /\
  (∀ (k:Nat) (d:D) (a:Int) (dp:Nat) (st:RSt),P k d->Iv c vn dp st->low q (st.o.ps.getD dp Ah)=false->Hi q c seen vn dp st (stp c kf F ins g k d a dp st)):=by
 intro g
 induction g with
 | zero=>
  refine ⟨fun k l a dp st _ _ _=>Hi.no rfl,fun k d a dp st _ _ _=>Hi.no rfl,fun k d a dp st _ _ _=>?_⟩;unfold stp
  cases h:(obW c 1 a dp d st.o).1 with
  | false=>rw [DP h];exact Hi.no rfl
  | true=>rw [Cq h];exact Hi.no rfl
 | succ g ih=>
  obtain ⟨G,N,Q⟩:=ih;refine ⟨fun k l a dp st hl hi b=>?_,fun k d a dp st t hi b=>?_,fun k d a dp st t hi b=>?_⟩
  ·cases l with
   | nil=>exact Hi.yes (BF.refl _ _) hi
   | cons d r=>
    rw [Fy];split
    ·exact Hi.no rfl
    ·refine Lf ((Q k d a dp st.step (hl d (by simp)) hi.step b).from (BF.step st)) (fun B f=>?_)
     exact G _ _ _ _ _ (fun s R=>hl s (by simp [R])) f (by rw [B.ps dp (Nat.le_refl _)];exact b)
  ·simp only [rn]
   split
   ·exact Hi.yes (BF.refl _ _) (hi.less (Nat.le_succ _))
   ·have U:=G (k - 1) (Aj d) (a+1) (dp+1) st (W.then_ k d t) hi b
    refine NT U (Nat.le_succ _) (fun B f=>?_);generalize (rn c.K kf c.fs F ins (obW c) g 0 (k - 1) (Aj d) (a+1) (dp+1) st).2=u at B f ⊢;split
    ·exact Hi.no rfl
    ·rw [Cq (by rw [DB]),DB,CL]
     have A:=(f.step).less (Nat.le_succ dp);refine (N k d a dp _ t (A.enter _) ?_).from ((BF.step _).trans (BF.enter A _));show low q ((WSt.enter _ _ _).ps.getD (dp+1) Ah)=false;rw [CQ _ _ _ A.l3];refine CA W.who _ _ ?_;show low q (u.o.ps.getD (dp+1) Ah)=false;rw [B.ps _ (Nat.le_refl _)];exact b
  ·obtain ⟨Z,V⟩:=W.kind k d t
   by_cases h78:Ag d=7\/Ag d=8
   ·rw [Lu _ _ _ _ _ _ _ _ _ h78]
    have E:=hi.enter (withX c st.o (st.o.ps.getD dp Ah) (Am d));have p:=BF.enter (q:=q) (seen:=seen) hi (withX c st.o (st.o.ps.getD dp Ah) (Am d));have I:low q ((st.held (st.o.enter dp (withX c st.o (st.o.ps.getD dp Ah) (Am d)))).o.ps.getD (dp+1) Ah)=false:=by
     show low q ((WSt.enter _ _ _).ps.getD (dp+1) Ah)=false;rw [CQ _ _ _ hi.l3];exact CA W.who _ _ b
    generalize st.held (st.o.enter dp (withX c st.o (st.o.ps.getD dp Ah) (Am d)))=u at E p I ⊢;simp only [rn];rw [if_neg (by omega)];rcases h78 with S | h8
    ·rw [if_pos S]
     split
     ·exact ((G _ _ _ _ _ (W.else_ k d t) E I).less (Nat.le_succ _)).from p
     ·exact ((G _ _ _ _ _ (W.then_ k d t) E I).less (Nat.le_succ _)).from p
    ·rw [if_neg (by omega),if_pos h8]
     exact (N _ _ _ _ _ t E I).from p
   ·by_cases h2:Ag d=2
    ·rcases G5 (c:=c) kf F ins g k d a dp st h2 with ⟨J,e⟩ | ⟨i,e⟩
     ·rw [e];exact Hi.no rfl
     ·rw [e]
      have p:BF q c seen dp st (CS c (st.o.ps.getD dp Ah) d st):=BF.layAll _ _ (fun y L=>⟨Dq W.who (Fg (i y L)) b,CA W.who _ _ b⟩);have E:Iv c vn dp (CS c (st.o.ps.getD dp Ah) d st):=Iv.layAll _ _ hi (fun y L=>Br (i y L));refine Lf ((G kf _ _ dp _ (W.body _) E (by rw [p.ps dp (Nat.le_refl _)];exact b)).from p) (fun B f=>?_);generalize (rn c.K kf c.fs F ins (obW c) g 0 kf (BV c.fs (Ae d)).body (A2 kf (c.fs.take (Ae d).toNat)) dp (CS c (st.o.ps.getD dp Ah) d st)).2=u at B f ⊢;have O:low q (u.o.ps.getD dp Ah)=false:=by rw [B.ps dp (Nat.le_refl _)];exact b
      rcases Ic (c:=c) a dp d u with ⟨J,e⟩ | ⟨i,e⟩
      ·rw [e];exact Hi.no rfl
      ·rw [e]
       exact Hi.yes (BF.lay _ _ _ (Dq W.who (Fg i) O) (CA W.who _ _ O)) (f.lay _ (Br i))
    ·by_cases h4:Ag d=4
     ·rcases Ji (c:=c) kf F ins g k d a dp st h4 with ⟨J,e⟩ | ⟨i,e⟩
      ·rw [e];exact Hi.no rfl
      ·rw [e]
       exact Hi.yes (BF.tell _ _ (by rw [W.put];exact Dq W.who i (CA W.who _ _ b))) (hi.tell _)
     ·rcases Jh (c:=c) kf F ins g k d a dp st (by omega) with ⟨J,e,-⟩ | ⟨i,T,M,e⟩
      ·rw [e];exact Hi.no rfl
      ·rw [e]
       have f:=Dq W.who (Fg i) b;have C:(Ag d=5\/Ag d=6)->low q (c.bound.getD (Ap d).toNat Ah)=false:=fun H=>by
        cases hb:low q (c.bound.getD (Ap d).toNat Ah) with
        | false=>rfl
        | true=>rw [NF W hi (W.var k d t H) (M H) hb] at f;cases f
       have hl:low q (Dg c st.o (st.o.ps.getD dp Ah) d)=false:=by
        unfold Dg;split
        ·rw [Eg W.who,b,Bool.and_false]
        ·split
         ·rename_i h
          exact C (Or.inl h)
         ·split
          ·exact CA W.who _ _ b
          ·exact CA W.who _ _ b
       have p:BF q c seen dp st (st.lay (Ap d) (Dg c st.o (st.o.ps.getD dp Ah) d) (FF c ins st d)):=BF.lay _ _ _ f hl;refine Hi.yes (p.trans ?_) ((hi.lay _ (Br i)).beside _ _ _);unfold RSt.beside;split
       ·rename_i h
        exact BF.took _ _ (Dq W.who (T h) b)
       ·split
        ·rename_i h
         exact BF.tell _ _ (by rw [W.tell _ _ _ _ (Or.inl rfl) (M (Or.inl h))];exact C (Or.inl h))
        ·split
         ·rename_i h
          exact BF.tell _ _ (by rw [W.tell _ _ _ _ (Or.inr rfl) (M (Or.inr h))];exact C (Or.inr h))
         ·exact BF.refl _ _
def Ovr (seen:Ev4->Bool) (x y:Bool × RSt):Prop:=∀ a b,x.2.ev <+: a->y.2.ev <+: b->(x.1=false->a=x.2.ev)->(y.1=false->b=y.2.ev)->Alk 2 (a.filter seen) (b.filter seen)
def EY (q dp:Nat) (s:RSt):Prop:=∀ j,j<=dp->low q (s.o.ps.getD j Ah)=true
def Res (q:Nat) (c:WK) (seen:Ev4->Bool) (vn dp:Nat) (x y:Bool × RSt):Prop:=
 (x.1=true/\y.1=true/\Lq q c seen dp x.2 y.2/\Iv c vn dp x.2/\Iv c vn dp y.2/\EY q dp x.2)\/Ovr seen x y
theorem Ovr.ended {x y:Bool × RSt} (h:x.2.ev.filter seen=y.2.ev.filter seen) (h2:x.1=false\/y.1=false):Ovr seen x y:=by
 rintro a b ⟨i,rfl⟩ ⟨g,rfl⟩ f e;rw [List.filter_append,List.filter_append,h];rcases h2 with h2 | h2
 ·have:=f h2
  rw [List.append_right_eq_self] at this;rw [this,List.filter_nil,List.append_nil];exact Alk.left _ _ _
 ·have:=e h2
  rw [List.append_right_eq_self] at this;rw [this,List.filter_nil,List.append_nil];exact Alk.right _ _ _
theorem NS {x y:Bool × RSt} {f f':RSt->Bool × RSt} (h:Ovr seen x y) (hg:∀ u,Gr u (f u).2) (hg':∀ u,Gr u (f' u).2):Ovr seen (A0 x f) (A0 y f'):=by
 intro a b e t i A;have g:∀ {z:Bool × RSt} {f:RSt->Bool × RSt} {a:List Ev4},(∀ u,Gr u (f u).2)->(A0 z f).2.ev <+: a->((A0 z f).1=false->a=(A0 z f).2.ev)->z.2.ev <+: a/\(z.1=false->a=z.2.ev):=fun {z f a} hg e i=>by
  unfold A0 at e i;split at e
  ·rename_i k
   exact ⟨(hg _).ev.trans e,fun h=>by rw [k] at h;cases h⟩
  ·rename_i k
   rw [if_neg k] at i;exact ⟨e,i⟩
 obtain ⟨s,q⟩:=g hg e i;obtain ⟨p,l⟩:=g hg' t A;exact h a b s p q l
theorem Gc {vn dp dp':Nat} {x y:Bool × RSt} {f f':RSt->Bool × RSt} (h:Res q c seen vn dp x y) (hf:Lq q c seen dp x.2 y.2->Iv c vn dp x.2->Iv c vn dp y.2->EY q dp x.2->Res q c seen vn dp' (f x.2) (f' y.2)) (hg:∀ u,Gr u (f u).2) (hg':∀ u,Gr u (f' u).2):Res q c seen vn dp' (A0 x f) (A0 y f'):=by
 rcases h with ⟨l,k,i,g,e,b⟩ | h
 ·unfold A0
  rw [if_pos l,if_pos k];exact hf i g e b
 ·exact Or.inr (NS h hg hg')
theorem Res.less {vn dp dp':Nat} {x y:Bool × RSt} (h:Res q c seen vn dp x y) (hd:dp'<=dp):Res q c seen vn dp' x y:=by
 rcases h with ⟨l,k,i,g,f,e⟩ | h
 ·exact Or.inl ⟨l,k,i.less hd,g.less hd,f.less hd,fun j b=>e j (Nat.le_trans b hd)⟩
 ·exact Or.inr h
theorem EY.conf {dp:Nat} {s t:RSt} (h:EY q dp s) (hc:BF q c seen dp s t):EY q dp t:=fun j hj=>by rw [hc.ps j hj];exact h j hj
theorem Res.hi {vn dp:Nat} {s t:RSt} {x y:Bool × RSt} (h:Lq q c seen dp s t) (hl:EY q dp s) (h1:Hi q c seen vn dp s x) (h2:Hi q c seen vn dp t y):Res q c seen vn dp x y:=by
 cases hx:x.1 with
 | false=>exact Or.inr (Ovr.ended (by rw [h1.1,h2.1,h.ev]) (Or.inl hx))
 | true=>
  cases hy:y.1 with
  | false=>exact Or.inr (Ovr.ended (by rw [h1.1,h2.1,h.ev]) (Or.inr hy))
  | true=>exact Or.inl ⟨hx,hy,h.conf (h1.2 hx).1 (h2.2 hy).1,(h1.2 hx).2,(h2.2 hy).2,hl.conf (h1.2 hx).1⟩
theorem Res.endL {vn dp:Nat} {s t s':RSt} {y:Bool × RSt} (h:Lq q c seen dp s t) (h1:s'.ev=s.ev) (h2:Gr t y.2):Res q c seen vn dp (false,s') y:=by
 refine Or.inr ?_;rintro a b g e f i;rw [f rfl];obtain ⟨k,rfl⟩:=h2.ev.trans e;rw [List.filter_append,<-h.ev];show Alk 2 (s'.ev.filter seen) _;rw [h1];exact Alk.left _ _ _
theorem Res.endR {vn dp:Nat} {s t t':RSt} {x:Bool × RSt} (h:Lq q c seen dp s t) (h1:t'.ev=t.ev) (h2:Gr s x.2):Res q c seen vn dp x (false,t'):=by
 refine Or.inr ?_;rintro a b e g i f;rw [f rfl];obtain ⟨k,rfl⟩:=h2.ev.trans e;rw [List.filter_append,h.ev];show Alk 2 _ (t'.ev.filter seen);rw [h1];exact Alk.right _ _ _
theorem Fb (kf F:Nat) (ins) (g k:Nat) (d:D) (a:Int) (dp:Nat) (st:RSt):Gr st (stp c kf F ins g k d a dp st).2:=CR (Gr.pass _ _ _ _ _ _) (fun u=>Gn _ _ _ _ _ _ _ _ _ _ _ _ _)
theorem GS (a:Int) (dp:Nat) (d:D) (st:RSt):Gr st (Li c a dp d st).2:=CR (Gr.pass _ _ _ _ _ _) (fun u=>Gr.setv _ _ _)
theorem Lq.withX {dp:Nat} (hq:q < c.n) {s t:RSt} (h:Lq q c seen dp s t) {p p':Lev} (hp:low q p=low q p') (e:D):low q (withX c s.o p e)=low q (withX c t.o p' e)/\(low q (Ex.withX c s.o p e)=true->AC s.vars c.K e=AC t.vars c.K e):=by
 rw [DC hq,DC hq,hp];constructor
 ·congr 2
  funext v;exact h.lv _
 ·intro hl
  rw [Bool.and_eq_true,List.all_eq_true] at hl;exact EB _ _ (fun v b=>h.va _ (hl.2 v b))
theorem Lq.step {dp:Nat} {s t:RSt} (h:Lq q c seen dp s t):Lq q c seen dp s.step t.step:=⟨h.lv,h.va,h.ps,h.tk,h.ev,h.tl⟩
theorem Lq.tell {dp:Nat} {s t:RSt} (h:Lq q c seen dp s t) {e e':Ev4} (he:seen e=true\/seen e'=true->e=e'):Lq q c seen dp (s.tell e) (t.tell e'):=⟨h.lv,h.va,h.ps,h.tk,by
 show (s.ev++[e]).filter seen=(t.ev++[e']).filter seen;rw [List.filter_append,List.filter_append,h.ev];congr 1;by_cases h1:seen e=true\/seen e'=true
 ·rw [he h1]
 ·have h2:seen e=false:=by cases hh:seen e with | false=>rfl | true=>exact absurd (Or.inl hh) h1
  have b:seen e'=false:=by cases hh:seen e' with | false=>rfl | true=>exact absurd (Or.inr hh) h1
  simp [h2,b],h.tl⟩
theorem Lq.took {dp:Nat} {s t:RSt} (h:Lq q c seen dp s t) (ch:Int):Lq q c seen dp (s.took ch) (t.took ch):=⟨h.lv,h.va,h.ps,fun x hx=>by
 show (s.taken.set _ _).getD x 0=(t.taken.set _ _).getD x 0;rw [Dd,Dd,h.tl];split
 ·rename_i hh
  rw [hh.1,h.tk x hx]
 ·exact h.tk x hx,h.ev,by simp [RSt.took,h.tl]⟩
theorem Ovr.told {s t:RSt} (h:s.ev.filter seen=t.ev.filter seen) {e e':Ev4} (h1:seen e=true) (h2:seen e'=true) (hne:e≠e') (hk:e.1=2/\e'.1=2/\e.2.1=e'.2.1/\e.2.2.1=e'.2.2.1) {x y:Bool × RSt} (hx:x.2.ev=s.ev++[e]) (hy:y.2.ev=t.ev++[e']):Ovr seen x y:=by
 rintro a b ⟨g,rfl⟩ ⟨f,rfl⟩ - -;rw [hx,hy,List.filter_append,List.filter_append,List.filter_append,List.filter_append,h];rw [List.append_assoc,List.append_assoc];refine Alk.app _ ?_;rw [List.filter_cons,if_pos h1,List.filter_cons,if_pos h2];exact Or.inr ⟨hne,hk⟩
theorem Lq.enter {vn dp:Nat} {s t:RSt} (h:Lq q c seen dp s t) (hs:Iv c vn dp s) (ht:Iv c vn dp t) {p p':Lev} (hp:low q p=low q p'):Lq q c seen (dp+1) (s.held (s.o.enter dp p)) (t.held (t.o.enter dp p')):=⟨h.lv,h.va,fun j hj=>by
 show low q ((s.o.enter dp p).ps.getD j Ah)=low q ((t.o.enter dp p').ps.getD j Ah);by_cases h1:j=dp+1
 ·subst h1
  rw [CQ _ _ _ hs.l3,CQ _ _ _ ht.l3,hp]
 ·rw [D1 _ _ _ hs.l3 j (by omega),D1 _ _ _ ht.l3 j (by omega),h.ps j (by omega)],h.tk,h.ev,h.tl⟩
theorem EY.enter {vn dp:Nat} {s:RSt} (h:EY q dp s) (hs:Iv c vn dp s) {p:Lev} (hp:low q p=true):EY q (dp+1) (s.held (s.o.enter dp p)):=fun j hj=>by
 show low q ((s.o.enter dp p).ps.getD j Ah)=true;by_cases h1:j=dp+1
 ·subst h1
  rw [CQ _ _ _ hs.l3,hp]
 ·rw [D1 _ _ _ hs.l3 j (by omega)]
  exact h j (by omega)
theorem Rt {kf F:Nat} {ins:List (List Int)} {ob:Ob} {g k:Nat} {d:D} {a:Int} {dp:Nat} {u:RSt} (h:Ag d=7):rn c.K kf c.fs F ins ob (g+1) 1 k [d] a dp u=if AC u.vars c.K (Am d)=0 then rn c.K kf c.fs F ins ob g 0 (k - 1) (Ao d) (a+1+AI (k - 1) (Aj d)) (dp+1) u else rn c.K kf c.fs F ins ob g 0 (k - 1) (Aj d) (a+1) (dp+1) u:=by
 simp only [rn];rw [if_neg (by omega),if_pos h]
theorem Rs {kf F:Nat} {ins:List (List Int)} {ob:Ob} {g k:Nat} {d:D} {a:Int} {dp:Nat} {u:RSt} (h:Ag d=8):rn c.K kf c.fs F ins ob (g+1) 1 k [d] a dp u=rn c.K kf c.fs F ins ob g 2 k [d] a dp u:=by
 simp only [rn];rw [if_neg (by omega),if_neg (by omega),if_pos h]
theorem Sk {vn kf F:Nat} {ins ins':List (List Int)} {P:Nat->D->Prop} (W:Wf c seen q vn kf P) (hins:∀ ch,low q (c.ins.getD ch Ah)=true->ins.getD ch []=ins'.getD ch []):∀ g:Nat,
  (∀ (k:Nat) (l:List D) (a:Int) (dp:Nat) (s t:RSt),(∀ x∈l,P k x)->Lq q c seen dp s t->Iv c vn dp s->Iv c vn dp t->EY q dp s->Res q c seen vn dp (rn c.K kf c.fs F ins (obW c) g 0 k l a dp s) (rn c.K kf c.fs F ins' (obW c) g 0 k l a dp t)) /\
  (∀ (k:Nat) (d:D) (a:Int) (dp:Nat) (s t:RSt),P k d->Lq q c seen (dp+1) s t->Iv c vn (dp+1) s->Iv c vn (dp+1) t->EY q (dp+1) s->(∀ v∈AG c.K (Am d),low q (s.o.vs.getD v.toNat Ah)=true)->Res q c seen vn dp (rn c.K kf c.fs F ins (obW c) g 2 k [d] a dp s) (rn c.K kf c.fs F ins' (obW c) g 2 k [d] a dp t)) /\
  (∀ (k:Nat) (d:D) (a:Int) (dp:Nat) (s t:RSt),P k d->Lq q c seen dp s t->Iv c vn dp s->Iv c vn dp t->EY q dp s->Res q c seen vn dp (stp c kf F ins g k d a dp s) (stp c kf F ins' g k d a dp t)):=by
 intro g
 induction g with
 | zero=>
  refine ⟨fun k l a dp s t _ h _ _ _=>Res.endL h rfl (Gr.refl _),fun k d a dp s t _ h _ _ _ _=>(Res.endL h rfl (Gr.refl _)).less (Nat.le_succ _),fun k d a dp s t _ h _ _ _=>?_⟩;have e:∀ (ins) (u:RSt),∃ u',stp c kf F ins 0 k d a dp u=(false,u')/\u'.ev=u.ev:=fun ins u=>by
   unfold stp
   cases hh:(obW c 1 a dp d u.o).1 with
   | false=>rw [DP hh];exact ⟨_,rfl,rfl⟩
   | true=>rw [Cq hh];exact ⟨_,rfl,rfl⟩
  obtain ⟨s',Q,T⟩:=e ins s;rw [Q];exact Res.endL h T (Fb _ _ _ _ _ _ _ _ _)
 | succ g ih=>
  obtain ⟨iA,iB,iC⟩:=ih;refine ⟨fun k l a dp s t hl h i p C=>?_,fun k d a dp s t J h i p C hV=>?_,fun k d a dp s t J h i p C=>?_⟩
  ·cases l with
   | nil=>exact Or.inl ⟨rfl,rfl,h,i,p,C⟩
   | cons d r=>
    rw [Fy,Fy];by_cases h1:s.steps=F
    ·rw [if_pos h1]
     refine Res.endL h rfl ?_;rw [<-Fy];exact Gn _ _ _ _ _ _ _ _ _ _ _ _ _
    ·by_cases h2:t.steps=F
     ·rw [if_pos h2]
      refine Res.endR h rfl ?_;rw [<-Fy];exact Gn _ _ _ _ _ _ _ _ _ _ _ _ _
     ·rw [if_neg h1,if_neg h2]
      refine Gc (iC k d a dp _ _ (hl d (by simp)) h.step i.step p.step C) (fun B S R g4=>?_) (fun u=>Gn _ _ _ _ _ _ _ _ _ _ _ _ _) (fun u=>Gn _ _ _ _ _ _ _ _ _ _ _ _ _);exact iA _ _ _ _ _ _ (fun x hx=>hl x (by simp [hx])) B S R g4
  ·have al:AC s.vars c.K (Am d)=AC t.vars c.K (Am d):=EB _ _ (fun v hv=>h.va _ (hV v hv))
   have gr:∀ (ins:List (List Int)) (u:RSt),Gr u ((fun U:RSt=>if U.steps=F then (false,U.out) else A0 (Bq (obW c) 2 a dp d U.step) (fun ag=>rn c.K kf c.fs F ins (obW c) g 2 k [d] a dp ag)) u).2:=fun ins u=>by
    dsimp only;split
    ·exact Gr.out _
    ·exact CR ((Gr.step u).trans (Gr.pass _ _ _ _ _ _)) (fun ag=>Gn _ _ _ _ _ _ _ _ _ _ _ _ _)
   simp only [rn];rw [<-al];split
   ·exact Or.inl ⟨rfl,rfl,h.less (Nat.le_succ _),i.less (Nat.le_succ _),p.less (Nat.le_succ _),fun j hj=>C j (Nat.le_succ_of_le hj)⟩
   ·refine Gc (iA (k - 1) (Aj d) (a+1) (dp+1) s t (W.then_ k d J) h i p C) (fun B S R g4=>?_) (gr ins) (gr ins')
    have gs:=gr ins (rn c.K kf c.fs F ins (obW c) g 0 (k - 1) (Aj d) (a+1) (dp+1) s).2;have gt:=gr ins' (rn c.K kf c.fs F ins' (obW c) g 0 (k - 1) (Aj d) (a+1) (dp+1) t).2;generalize (rn c.K kf c.fs F ins (obW c) g 0 (k - 1) (Aj d) (a+1) (dp+1) s).2=u at B S g4 gs ⊢;generalize (rn c.K kf c.fs F ins' (obW c) g 0 (k - 1) (Aj d) (a+1) (dp+1) t).2=v at B R gt ⊢;dsimp only at gs gt;by_cases h1:u.steps=F
    ·rw [if_pos h1]
     exact (Res.endL (s':=u.out) B rfl gt).less (Nat.le_succ _)
    ·by_cases h2:v.steps=F
     ·rw [if_pos h2]
      exact (Res.endR (t':=v.out) B rfl gs).less (Nat.le_succ _)
     ·rw [if_neg h1,if_neg h2]
      rw [Cq (by rw [DB]),DB,CL,Cq (by rw [DB]),DB,CL];have q1:=(B.step).less (Nat.le_succ dp);have q2:=(S.step).less (Nat.le_succ dp);have q3:=(R.step).less (Nat.le_succ dp);have q4:EY q dp u.step:=fun j hj=>g4 j (Nat.le_succ_of_le hj);have hw:=(B.step).withX W.who (B.ps (dp+1) (Nat.le_refl _)) (Am d);have Q:=q1.enter q2 q3 hw.1
      cases hlo:low q (withX c u.step.o (u.o.ps.getD (dp+1) Ah) (Am d)) with
      | true=>
       have A:=hlo;rw [DC W.who,Bool.and_eq_true,List.all_eq_true] at A;exact iB k d a dp _ _ J Q (q2.enter _) (q3.enter _) (q4.enter q2 hlo) A.2
      | false=>
       have M:low q (withX c v.step.o (v.o.ps.getD (dp+1) Ah) (Am d))=false:=by rw [<-hw.1];exact hlo
       have b1:=(Gm (F:=F) (ins:=ins) W g).2.1 k d a dp _ J (q2.enter (withX c u.step.o (u.o.ps.getD (dp+1) Ah) (Am d))) (by
        show low q ((WSt.enter _ _ _).ps.getD (dp+1) Ah)=false;rw [CQ _ _ _ q2.l3];exact hlo)
       have b2:=(Gm (F:=F) (ins:=ins') W g).2.1 k d a dp _ J (q3.enter (withX c v.step.o (v.o.ps.getD (dp+1) Ah) (Am d))) (by
        show low q ((WSt.enter _ _ _).ps.getD (dp+1) Ah)=false;rw [CQ _ _ _ q3.l3];exact M)
       exact Res.hi (Q.less (Nat.le_succ _)) (q4.conf (seen:=seen) (BF.enter q2 _)) b1 b2
  ·obtain ⟨k1,k8⟩:=W.kind k d J
   have hp:=C dp (Nat.le_refl _);have a4:low q (t.o.ps.getD dp Ah)=true:=by rw [<-h.ps dp (Nat.le_refl _)];exact hp
   have L:=h.ps dp (Nat.le_refl _);by_cases h78:Ag d=7\/Ag d=8
   ·rw [Lu _ _ _ _ _ _ _ _ _ h78,Lu _ _ _ _ _ _ _ _ _ h78]
    have hw:=h.withX W.who L (Am d);have Q:=h.enter i p hw.1;have T:=i.enter (withX c s.o (s.o.ps.getD dp Ah) (Am d));have e3:=p.enter (withX c t.o (t.o.ps.getD dp Ah) (Am d));have es:=CQ s.o dp (withX c s.o (s.o.ps.getD dp Ah) (Am d)) i.l3;have et:=CQ t.o dp (withX c t.o (t.o.ps.getD dp Ah) (Am d)) p.l3;have e4:EY q dp (s.held (s.o.enter dp (withX c s.o (s.o.ps.getD dp Ah) (Am d)))):=C.conf (seen:=seen) (BF.enter i _)
    cases hlo:low q (withX c s.o (s.o.ps.getD dp Ah) (Am d)) with
    | true=>
     have e5:=C.enter i hlo;have hv:=hw.2 hlo;have A:=hlo;rw [DC W.who,Bool.and_eq_true,List.all_eq_true] at A;rcases h78 with h7 | h8
     ·rw [Rt h7,Rt h7]
      show Res q c seen vn dp (if AC s.vars c.K (Am d)=0 then _ else _) (if AC t.vars c.K (Am d)=0 then _ else _);rw [<-hv];split
      ·exact (iA _ _ _ _ _ _ (W.else_ k d J) Q T e3 e5).less (Nat.le_succ _)
      ·exact (iA _ _ _ _ _ _ (W.then_ k d J) Q T e3 e5).less (Nat.le_succ _)
     ·rw [Rs h8,Rs h8]
      exact iB _ _ _ _ _ _ J Q T e3 e5 A.2
    | false=>
     have M:low q (withX c t.o (t.o.ps.getD dp Ah) (Am d))=false:=by rw [<-hw.1];exact hlo
     refine Res.hi (Q.less (Nat.le_succ _)) e4 ?_ ?_
     ·simp only [rn]
      rw [if_neg (by omega)];have hP:low q ((s.held (s.o.enter dp (withX c s.o (s.o.ps.getD dp Ah) (Am d)))).o.ps.getD (dp+1) Ah)=false:=(congrArg (low q) es).trans hlo;rcases h78 with h7 | h8
      ·rw [if_pos h7]
       split
       ·exact ((Gm W g).1 _ _ _ _ _ (W.else_ k d J) T hP).less (Nat.le_succ _)
       ·exact ((Gm W g).1 _ _ _ _ _ (W.then_ k d J) T hP).less (Nat.le_succ _)
      ·rw [if_neg (by omega),if_pos h8]
       exact (Gm W g).2.1 _ _ _ _ _ J T hP
     ·simp only [rn]
      rw [if_neg (by omega)];have hP:low q ((t.held (t.o.enter dp (withX c t.o (t.o.ps.getD dp Ah) (Am d)))).o.ps.getD (dp+1) Ah)=false:=(congrArg (low q) et).trans M;rcases h78 with h7 | h8
      ·rw [if_pos h7]
       split
       ·exact ((Gm W g).1 _ _ _ _ _ (W.else_ k d J) e3 hP).less (Nat.le_succ _)
       ·exact ((Gm W g).1 _ _ _ _ _ (W.then_ k d J) e3 hP).less (Nat.le_succ _)
      ·rw [if_neg (by omega),if_pos h8]
       exact (Gm W g).2.1 _ _ _ _ _ J e3 hP
   ·by_cases h2:Ag d=2
    ·rcases G5 (c:=c) kf F ins g k d a dp s h2 with ⟨V,I⟩ | ⟨N,I⟩
     ·rw [I];exact Res.endL h rfl (Fb _ _ _ _ _ _ _ _ _)
     ·rcases G5 (c:=c) kf F ins' g k d a dp t h2 with ⟨V,f⟩ | ⟨G,f⟩
      ·rw [f];exact Res.endR h rfl (Fb _ _ _ _ _ _ _ _ _)
      ·rw [I,f]
       have hC:Lq q c seen dp (CS c (s.o.ps.getD dp Ah) d s) (CS c (t.o.ps.getD dp Ah) d t):=Lq.layAll _ _ _ h i p (fun y Z hk=>⟨Br (N y Z) hk,Br (G y Z) hk⟩) (fun y Z=>h.withX W.who L y.2);have hI:Iv c vn dp (CS c (s.o.ps.getD dp Ah) d s):=Iv.layAll _ _ i (fun y Z=>Br (N y Z));have av:Iv c vn dp (CS c (t.o.ps.getD dp Ah) d t):=Iv.layAll _ _ p (fun y Z=>Br (G y Z));have au:EY q dp (CS c (s.o.ps.getD dp Ah) d s):=fun j hj=>by
        unfold CS;rw [F3];exact C j hj
       refine Gc (iA kf _ _ dp _ _ (W.body _) hC hI av au) (fun B S R g4=>?_) (GS _ _ _) (GS _ _ _);generalize (rn c.K kf c.fs F ins (obW c) g 0 kf (BV c.fs (Ae d)).body (A2 kf (c.fs.take (Ae d).toNat)) dp (CS c (s.o.ps.getD dp Ah) d s)).2=u at B S g4 ⊢;generalize (rn c.K kf c.fs F ins' (obW c) g 0 kf (BV c.fs (Ae d)).body (A2 kf (c.fs.take (Ae d).toNat)) dp (CS c (t.o.ps.getD dp Ah) d t)).2=v at B R ⊢;rcases Ic (c:=c) a dp d u with ⟨V,I⟩ | ⟨N,I⟩
       ·rw [I];exact Res.endL B rfl (GS _ _ _ _)
       ·rcases Ic (c:=c) a dp d v with ⟨V,f⟩ | ⟨G,f⟩
        ·rw [f];exact Res.endR B rfl (GS _ _ _ _)
        ·rw [I,f]
         have hw:=B.withX W.who (B.ps dp (Nat.le_refl _)) (BV c.fs (Ae d)).res;exact Or.inl ⟨rfl,rfl,B.lay S R _ hw.1 hw.2,S.lay _ (Br N),R.lay _ (Br G),g4⟩
    ·by_cases h4:Ag d=4
     ·rcases Ji (c:=c) kf F ins g k d a dp s h4 with ⟨V,I⟩ | ⟨N,I⟩
      ·rw [I];exact Res.endL h rfl (Fb _ _ _ _ _ _ _ _ _)
      ·rcases Ji (c:=c) kf F ins' g k d a dp t h4 with ⟨V,f⟩ | ⟨G,f⟩
       ·rw [f];exact Res.endR h rfl (Fb _ _ _ _ _ _ _ _ _)
       ·rw [I,f]
        refine Or.inl ⟨rfl,rfl,h.tell (fun hh=>?_),i.tell _,p.tell _,C⟩;have hlo:low q (c.outs.getD (Ae d).toNat Ah)=true:=by
         rcases hh with hh | hh
         ·rwa [W.put] at hh
         ·rwa [W.put] at hh
        rw [(h.withX W.who L (Am d)).2 (EN W.who N hlo)]
     ·have aa:Ag d=1\/Ag d=3\/Ag d=5\/Ag d=6:=by omega
      rcases Jh (c:=c) kf F ins g k d a dp s aa with ⟨V,I,-⟩ | ⟨N,h3,h5,I⟩
      ·rw [I];exact Res.endL h rfl (Fb _ _ _ _ _ _ _ _ _)
      ·rcases Jh (c:=c) kf F ins' g k d a dp t aa with ⟨V,f,-⟩ | ⟨G,bb,a9,f⟩
       ·rw [f];exact Res.endR h rfl (Fb _ _ _ _ _ _ _ _ _)
       ·rw [I,f]
        have hw:=h.withX W.who L (Am d);have i1:=i.lay (FF c ins s d) (Br N);have i2:=p.lay (FF c ins' t d) (Br G);rcases aa with h1 | h1 | h1 | h1
        ·
         have b:∀ (u:RSt) (x),u.beside d a x=u:=fun u x=>by unfold RSt.beside;simp [h1]
         rw [b,b];refine Or.inl ⟨rfl,rfl,h.lay i p _ ?_ ?_,i1,i2,C⟩
         ·unfold Dg;simp only [h1];exact hw.1
         ·unfold Dg FF;simp only [h1];exact hw.2
        ·
         have b:∀ (u:RSt) (x),u.beside d a x=u.took (Ae d):=fun u x=>by unfold RSt.beside;simp [h1]
         rw [b,b];refine Or.inl ⟨rfl,rfl,(h.lay i p _ ?_ ?_).took _,i1.took _,i2.took _,C⟩
         ·unfold Dg;simp only [h1,if_true];rw [Eg W.who,Eg W.who,L]
         ·unfold Dg FF
          simp only [h1,if_true];intro hlo;rw [Eg W.who,Bool.and_eq_true] at hlo;unfold Dj;rw [hins _ hlo.1,h.tk _ hlo.1]
        ·
         have b:∀ (u:RSt) (x),u.beside d a x=u.tell (2,a,Ap d,x):=fun u x=>by unfold RSt.beside;simp [h1]
         rw [b,b];have E:=fun x=>W.tell 2 a (Ap d) x (Or.inl rfl) (h5 (Or.inl h1));have H:low q (Dg c s.o (s.o.ps.getD dp Ah) d)=low q (c.bound.getD (Ap d).toNat Ah):=by unfold Dg;simp [h1,low]
         have O:low q (Dg c t.o (t.o.ps.getD dp Ah) d)=low q (c.bound.getD (Ap d).toNat Ah):=by unfold Dg;simp [h1,low]
         by_cases hx:FF c ins s d=FF c ins' t d
         ·refine Or.inl ⟨rfl,rfl,(h.lay i p _ (H.trans O.symm) (fun _=>hx)).tell (fun _=>by rw [hx]),i1.tell _,i2.tell _,C⟩
         ·cases hb:low q (c.bound.getD (Ap d).toNat Ah) with
          | true=>exact Or.inr (Ovr.told (e:=(2,a,Ap d,FF c ins s d)) (e':=(2,a,Ap d,FF c ins' t d)) h.ev (by rw [E,hb]) (by rw [E,hb]) (fun hh=>hx (by injection hh with _ hh;injection hh with _ hh;injection hh)) ⟨rfl,rfl,rfl,rfl⟩ rfl rfl)
          | false=>
           refine Or.inl ⟨rfl,rfl,(h.lay i p _ (H.trans O.symm) (fun hh=>by rw [H,hb] at hh;cases hh)).tell (fun hh=>?_),i1.tell _,i2.tell _,C⟩;rw [E,E,hb] at hh;rcases hh with hh | hh <;> cases hh
        ·
         have b:∀ (u:RSt) (x),u.beside d a x=u.tell (3,a,Ap d,x):=fun u x=>by unfold RSt.beside;simp [h1]
         rw [b,b];have E:=fun x=>W.tell 3 a (Ap d) x (Or.inr rfl) (h5 (Or.inr h1));have H:Dg c s.o (s.o.ps.getD dp Ah) d=⟨(withX c s.o (s.o.ps.getD dp Ah) (Am d)).r,(c.bound.getD (Ap d).toNat Ah).w⟩:=by unfold Dg;simp [h1]
         have O:Dg c t.o (t.o.ps.getD dp Ah) d=⟨(withX c t.o (t.o.ps.getD dp Ah) (Am d)).r,(c.bound.getD (Ap d).toNat Ah).w⟩:=by unfold Dg;simp [h1]
         have hg:∀ (ins:List (List Int)) (u:RSt),FF c ins u d=AC u.vars c.K (Am d):=fun ins u=>by unfold FF;simp [h1]
         have ar:=Br N (h5 (Or.inr h1));refine Or.inl ⟨rfl,rfl,(h.lay i p _ (by rw [H,O];exact hw.1) (fun hh=>by rw [hg,hg];rw [H] at hh;exact hw.2 hh)).tell (fun hh=>?_),i1.tell _,i2.tell _,C⟩;rw [E,E] at hh;have hb:low q (c.bound.getD (Ap d).toNat Ah)=true:=by rcases hh with hh | hh <;> exact hh
         have:=EN W.who ar hb;rw [H] at this;rw [hg,hg,hw.2 this]
theorem Lq.refl (dp:Nat) (s:RSt):Lq q c seen dp s s:=⟨fun _=>rfl,fun _ _=>rfl,fun _ _=>rfl,fun _ _=>rfl,rfl,rfl⟩
theorem Ma (r:Bool × RSt):(QI r).ev=r.2.ev:=by
 unfold QI;split <;> rfl
theorem Ly {vn yn kf F:Nat} {ins ins':List (List Int)} {P:Nat->D->Prop} (W:Wf c seen q vn kf P) (hins:∀ ch,low q (c.ins.getD ch Ah)=true->ins.getD ch []=ins'.getD ch []) (l:List D) (hl:∀ x∈l,P kf x) :
  Alk 2 ((Jk c.K kf c.fs F ins (obW c) l vn yn ⟨List.replicate vn (A7 c.n),[A7 c.n]⟩).ev.filter seen) ((Jk c.K kf c.fs F ins' (obW c) l vn yn ⟨List.replicate vn (A7 c.n),[A7 c.n]⟩).ev.filter seen):=by
 unfold Jk;rw [Ma,Ma];have b:Iv c vn 0 (st0 vn yn ⟨List.replicate vn (A7 c.n),[A7 c.n]⟩):=⟨Ks c c.n rfl vn _,by simp [st0],by simp [st0],by simp [st0]⟩;have e:EY q 0 (st0 vn yn ⟨List.replicate vn (A7 c.n),[A7 c.n]⟩):=fun j f=>by
  have:j=0:=by omega
  subst this;show low q (A7 c.n)=true;simp [low,A7,W.who]
 have h:=(Sk (F:=F) W hins 6001).1 kf l (A2 kf c.fs:Nat) 0 _ _ hl (Lq.refl 0 (st0 vn yn ⟨List.replicate vn (A7 c.n),[A7 c.n]⟩)) b b e;rcases h with ⟨-,-,h,-⟩ | h
 ·rw [h.ev]
  have:=Alk.left 2 ((rn c.K kf c.fs F ins' (obW c) 6001 0 kf l (A2 kf c.fs:Nat) 0 (st0 vn yn ⟨List.replicate vn (A7 c.n),[A7 c.n]⟩)).2.ev.filter seen) []
  rwa [List.append_nil] at this
 ·exact h _ _ List.prefix_rfl List.prefix_rfl (fun _=>rfl) (fun _=>rfl)
end
def CB (touch:Bool) (who:Nat) (L:Lev):Bool:=if touch=true then !(L.w.getD who false) else L.r.getD who false
theorem MZ (m:Int) (ga gn gc sa sn sc ya yn yc oa on oc va vn vc fa fn fc ba bn bc) (who:Nat) (touch:Bool) (ra rn rc wa wn wc) (L) (w:World) (hL:A3 w (zh #[O ra rn rc,O wa wn wc]) L) (hr:who < L.r.length) (hw:who < L.w.length) (hwm:who<=100) :
  Calls Tryz.prog 136 #[zh #[zd U m,O ga gn gc,O sa sn sc,O ya yn yc,O oa on oc,O va vn vc,O fa fn fc,O ba bn bc,zd U (who:Int),zg touch],zh #[O ra rn rc,O wa wn wc]] w fun e w'=>e=zj (zg (CB touch who L))/\Ov w w':=by
 have b:Ov w ((w.alloc (ze #[zd U m,O ga gn gc,O sa sn sc,O ya yn yc,O oa on oc,O va vn vc,O fa fn fc,O ba bn bc,zd U (who:Int),zg touch] 151)).alloc (ze #[O ra rn rc,O wa wn wc] 50)):=(bA w _).alloc (by simp) _;obtain ⟨R,Q,q,⟨ar,Z,M,i⟩,⟨aw,cw,J,h⟩⟩:=hL;simp only [Value.agg.injEq,Array.mk.injEq,List.cons.injEq,and_true] at q;obtain ⟨I,H⟩:=q;subst I H;injection M with E C B;injection J with A y u;obtain ⟨b1,T,G,l⟩:=i (by intro p;rw [p] at hr;simp at hr);obtain ⟨b2,S,F,k⟩:=h (by intro p;rw [p] at hw;simp at hw);have x1:=Ab b _ _ (l who hr);have x2:=Ab b _ _ (k who hw);subst G F;subst E A;have W:(who:Int) < (rn:Int):=by omega
 have V:(who:Int) < (wn:Int):=by omega
 have t:L.r.getD who false=L.r[who]:=by simp [hr]
 have s:L.w.getD who false=L.w[who]:=by simp [hw]
 unfold CB;rw [t,s];obtain ⟨P,g⟩:=nm (L.r[who]);obtain ⟨N,f⟩:=nm (L.w[who]);rw [<-g] at x1 ⊢;rw [<-f] at x2 ⊢;clear i h l k t s g f C B y u hr hw
 cases touch with
 | true=>
  go_enter Tryz.func136,Tryz.ntmps136;go_wp2_with fail;go_ret;exact ⟨by simp,b⟩
 | false=>
  go_enter Tryz.func136,Tryz.ntmps136;go_wp2_with fail;go_ret;exact ⟨by simp,b⟩
def Cd (n:Nat):Array Value:=(List.replicate n (Value.bool false)).toArray
abbrev JI (l:List Bool):List Value:=l.map Value.bool
theorem Tryz.infoBo:(Tryz.prog.info? 4).map (fun i=>(i.zero,i.size,i.bytes))=some (some (zg false),1,1):=by kernel_rfl
theorem Ry (n:Nat) (hn:n<=100) (w:World):(Instr.makeSlice 48 (zd U n) (zd U n)).run Tryz.prog w=.ok (O (some ⟨w.heap.size,0,none⟩) n n) (w.alloc (.cells (Cd n) 4)):=by
 obtain ⟨i,hi,g,f,b⟩:=info_parts Tryz.infoBo;have:=run_make (P:=Tryz.prog) w 48 4 i (zg false) Tryz.underlying48 hi g U U (n:Int) (n:Int) (by omega) (by omega) (by rw [b];omega) (by omega);rw [this,f];simp only [Int.toNat_natCast,Nat.mul_one];have e:madeCells (Value.bool false).cells n=Cd n:=by
  unfold Cd;apply Array.ext
  ·simp [madeCells]
  ·intro j f b
   simp [madeCells,Value.cells,Nat.mod_one]
 rw [e]
structure Gj (l:List Bool) (b:Nat) (w:World):Prop where
 row:Ad (JI l) w b
 z:∀ j,w.frozen? ⟨b,j,none⟩=false
theorem Gj.over {l:List Bool} {b:Nat} {w w':World} (h:Gj l b w) (hb:Ov w w') (hlt:b < w.heap.size):Gj l b w':=⟨h.row.over hb,fun j=>((An hb).2 _ _ hlt).trans (h.z j)⟩
theorem Gj.set {l:List Bool} {b:Nat} {w:World} (h:Gj l b w) {j:Nat} (hj:j < l.length) (x:Bool):Gj (l.set j x) b (w.setCell ⟨b,j,none⟩ (zg x)):=by
 refine ⟨?_,fun k=>(by simp [go_sem]:(w.setCell ⟨b,j,none⟩ (zg x)).frozen? ⟨b,k,none⟩=w.frozen? ⟨b,k,none⟩).trans (h.z k)⟩;have:=h.row.set (j:=j) (v:=zg x) (by simpa using hj);simpa [JI,List.map_set] using this
theorem take_set {l:List Bool} {m:List Bool} {j:Nat} {x:Bool} (hj:j < l.length) (hl:l.length=m.length) (h:l.take j=m.take j) (hx:m[j]? = some x):(l.set j x).take (j+1)=m.take (j+1):=by
 have b:j < m.length:=by omega
 rw [List.take_succ_eq_append_getElem (by simpa using hj),List.take_succ_eq_append_getElem b,List.take_set_of_le (Nat.le_refl _),h];simp only [List.getElem_set_self];rw [List.getElem?_eq_getElem b] at hx;injection hx with hx;rw [hx]
theorem IU {w:World} {v:Value} {L:Lev} (h:A3 w v L):∃ ra rc wa wc,v=zh #[O ra L.r.length rc,O wa L.w.length wc]:=by
 obtain ⟨e,b,rfl,⟨i,f,rfl,-⟩,⟨g,cw,rfl,-⟩⟩:=h;exact ⟨_,_,_,_,rfl⟩
theorem FJ (n:Nat) (ga gn gc) (sa sn sc ya yn yc oa on oc va vn vc fa fn fc ba bn bc) (who:Nat) (touch:Bool) (la ln lc) (gs ls) (w:World) (hg:AA w (O ga gn gc) gs) (hl:AW w (O la ln lc) ls) (hc:∀ b∈ls,Bb (n:Int) gs b=0) (hwho:who < n) (hn:n<=6) (hl5:ls.length<=100) :
  Calls Tryz.prog 80 #[zh #[zd U (n:Int),O ga gn gc,O sa sn sc,O ya yn yc,O oa on oc,O va vn vc,O fa fn fc,O ba bn bc,zd U (who:Int),zg touch],O la ln lc] w fun e w'=>∃ b,e=zj (O (some ⟨b,0,none⟩) ls.length ls.length)/\w.heap.size<=b/\b < w'.heap.size/\Gj (ls.map (fun x=>CB touch who (Ar (Ax gs) n x))) b w'/\Ov w w':=by
 obtain ⟨M,hM⟩:=nm (ls.map (fun x=>CB touch who (Ar (Ax gs) n x)));rw [<-hM];have af:M.length=ls.length:=by rw [hM];simp
 have F:Ov w (w.alloc (ze #[zd U (n:Int),O ga gn gc,O sa sn sc,O ya yn yc,O oa on oc,O va vn vc,O fa fn fc,O ba bn bc,zd U (who:Int),zg touch] 151)):=bA w _;have k:=Ad.newA #[zd U (n:Int),O ga gn gc,O sa sn sc,O ya yn yc,O oa on oc,O va vn vc,O fa fn fc,O ba bn bc,zd U (who:Int),zg touch] 151 w;have a6:ln=ls.length:=by obtain ⟨-,a,c,he,-⟩:=hl;injection he
 have mk:=Ry ls.length hl5;have HG:=Aa hg;have HL:=Aa hl;have HC:=Aa hc;have HM:=Aa hM;have am:=Aa af;have S:∃ (j:Nat) (l:List Bool),j=0/\j<=ls.length/\l.length=ls.length/\l.take j=M.take j/\Gj l (w.heap.size+1) ((w.alloc (ze #[zd U (n:Int),O ga gn gc,O sa sn sc,O ya yn yc,O oa on oc,O va vn vc,O fa fn fc,O ba bn bc,zd U (who:Int),zg touch] 151)).alloc (.cells (Cd ls.length) 4))/\Ad [zd U (n:Int),O ga gn gc,O sa sn sc,O ya yn yc,O oa on oc,O va vn vc,O fa fn fc,O ba bn bc,zd U (who:Int),zg touch] ((w.alloc (ze #[zd U (n:Int),O ga gn gc,O sa sn sc,O ya yn yc,O oa on oc,O va vn vc,O fa fn fc,O ba bn bc,zd U (who:Int),zg touch] 151)).alloc (.cells (Cd ls.length) 4)) w.heap.size/\Ov w ((w.alloc (ze #[zd U (n:Int),O ga gn gc,O sa sn sc,O ya yn yc,O oa on oc,O va vn vc,O fa fn fc,O ba bn bc,zd U (who:Int),zg touch] 151)).alloc (.cells (Cd ls.length) 4)):=by
  refine ⟨0,List.replicate ls.length false,rfl,Nat.zero_le _,by simp,by simp,⟨?_,fun j=>by simp [go_sem]⟩,k.over (bA _ _),F.alloc (by simp) _⟩;have:=Ad.newA (Cd ls.length) 4 (w.alloc (ze #[zd U (n:Int),O ga gn gc,O sa sn sc,O ya yn yc,O oa on oc,O va vn vc,O fa fn fc,O ba bn bc,zd U (who:Int),zg touch] 151));simpa [Cd,JI] using this
 have aj:=Aa S;subst a6;clear S k hg hl hc hM af F;go_enter Tryz.func80,Tryz.ntmps80;go_wp2_with fail;go_loopw [15] (fun i wr=>∃ (j:Nat) (l:List Bool),i=zd U (j:Int)/\j<=ls.length/\l.length=ls.length/\l.take j=M.take j/\Gj l (w.heap.size+1) wr/\Ad [zd U (n:Int),O ga gn gc,O sa sn sc,O ya yn yc,O oa on oc,O va vn vc,O fa fn fc,O ba bn bc,zd U (who:Int),zg touch] wr w.heap.size/\Ov w wr/\w.heap.size+1 < wr.heap.size) (fun i _=>ls.length - (intOf i).toNat)
 case atStart=>
  obtain ⟨j,l,rfl,i1,i2,i3,i4,i5,i6⟩:=aj.o;exact ⟨0,l,rfl,i1,i2,i3,i4,i5,i6,by simp⟩
 case round=>
  clear aj;obtain ⟨j,l,rfl,hj,Z,u,y,h,P,G⟩:=hrel;by_cases hjl:j < ls.length
  ·obtain ⟨a5,lo,bo,a7,ac⟩:=HL.o
   injection a7 with e1 e2 e3;obtain ⟨lb,bm,ab,E⟩:=ac (by intro hz;rw [hz] at hjl;simp at hjl);obtain ⟨pr,pw,p0,p1,I,H⟩:=E j hjl;have a9:=e1.trans ab;subst a9;obtain ⟨a1,n1,c1,rfl⟩:=Az I;obtain ⟨a2,n2,c2,rfl⟩:=Az H;obtain ⟨q0,q1⟩:=co2 P p0 p1;have bq:lb < w.heap.size:=bL p0;have N:Ov wr (wr.alloc (ze #[O a1 n1 c1,O a2 n2 c2] 39)):=bA wr _;have B:=P.trans (N.mono P.size);have KL:=Aa (MT (n:Int) (O ga gn gc) gs (O a1 n1 c1) (O a2 n2 c2) ls[j] _ (Af HG.o B) (Ak I B) (Ak H B));rw [HC.o ls[j] (List.getElem_mem hjl),if_pos rfl] at KL;obtain ⟨LV,t⟩:=nm (Ar (Ax gs) ((n:Int).toNat) ls[j]);rw [<-t] at KL;have W:LV.r.length=n:=by rw [t];simp [Ar,BI]
   have V:LV.w.length=n:=by rw [t];simp [Ar,BI]
   have ae:M[j]? = some (CB touch who LV):=by rw [HM.o,t,List.getElem?_map,List.getElem?_eq_getElem hjl];simp
   have C:=h.over N;have bf:=Aa y;have bd:=Aa h;have HB:=Aa P;have bh:=Aa N;have an:=Aa ae;have aq:=Aa W;have ao:=Aa V;have be:=Aa u;have Q:=Aa Z;obtain ⟨v0,v1⟩:=rc2 C;obtain ⟨u0,u1⟩:=rc2 h;clear ac E p0 p1 I H e1 e2 e3 ab t ae y C u Z W V P a5 B;go_wp2_with fail;refine (KL.o).mono ?_;rintro e R ⟨vl,rfl,J,ad⟩;obtain ⟨ra,rc,wa,wc,a3⟩:=IU (Gy J);subst a3;have s:=Gy J;rw [aq.o,ao.o] at s ⊢;have L:Ov R (R.alloc (ze #[O ra n rc,O wa n wc] 50)):=bA R _;have A:=Ac (Ac bh.o ad) L;have g:=bd.o.over A;have ak:=Aa (bf.o.over A G);have KH:=Aa (MZ (n:Int) ga gn gc sa sn sc ya yn yc oa on oc va vn vc fa fn fc ba bn bc who touch ra n rc wa n wc LV (R.alloc (ze #[O ra n rc,O wa n wc] 50)) (AK s L) (by rw [aq.o];exact hwho) (by rw [ao.o];exact hwho) (by omega));obtain ⟨t0,t1,t2,t3,t4,t5,t6,t7,t8,t9⟩:=Ch g;have ah:=Aa g;have ar:=Aa A;obtain ⟨x,hx⟩:=nm (CB touch who LV);rw [<-hx] at KH an;clear KL J s ad L A g hx v0 v1 u0 u1 h q0 q1;go_wp2_with fail;refine (KH.o).mono ?_;rintro e w2 ⟨rfl,q⟩;have T:w.heap.size+1 < (R.alloc (ze #[O ra n rc,O wa n wc] 50)).heap.size:=Nat.lt_of_lt_of_le G ar.o.size;have f:=ak.o.over q T;have p:j < l.length:=by rw [Q.o];exact hjl
   have y0:CE w2 (w.heap.size+1) j (zg l[j]):=f.row j _ (by simp [p]);have y1:=f.z j;have a4:w.heap.size+1 < w2.heap.size:=Nat.lt_of_lt_of_le T q.size;have al:=Aa (f.set p x);have bi:=Aa (Ac ar.o q);have ai:=Aa ((ah.o.over q).other (b':=w.heap.size+1) (j:=j) (v:=zg x) (by omega));obtain ⟨lj,aa⟩:=nm (l[j]);rw [<-aa] at y0;have ck:(j:Int) < (ls.length:Int):=by omega
   clear KH q f aa t0 t1 t2 t3 t4 t5 t6 t7 t8 t9;go_wp2_with fail;refine ⟨⟨j+1,l.set j x,by go_num,by omega,by simpa using Q.o,take_set p (Q.o.trans am.o.symm) be.o an.o,al.o,ai.o,(HB.o.trans (bi.o.mono HB.o.size)).setCell (by simp) _,by simpa [World.setCell] using a4⟩,by simp [intOf];omega⟩
  ·have cl:j=ls.length:=by omega
   have a8:l=M:=by
    have h1:l.take j=l:=List.take_of_length_le (by omega);have h2:M.take j=M:=List.take_of_length_le (by rw [am.o];omega);rw [<-h1,u,h2]
   have HF:=Aa (And.intro y P);rw [a8] at HF;clear u y P h;go_wp2_with fail;go_ret;exact ⟨w.heap.size+1,rfl,Nat.le_succ _,G,HF.o.1,HF.o.2⟩
def Lp (K kf n:Nat) (vn:Nat) (touch:Bool) (who:Nat) (gs:List (Int × Int)) (ls:List Lab) (vs:List (Bool × Lab)) (fs:List FnD) (l:List D) (w:World) (e:Ending) (w':World):Prop:=
 ∃ b st,e=zj (O (some ⟨b,0,none⟩) vn vn)/\w.heap.size<=b/\b < w'.heap.size/\B2 n K kf gs vs ls fs l st/\st.vs.length=vn/\Gj (st.vs.map (CB touch who)) b w'/\Ov w w'
theorem OH (K kf n:Nat) (ga gn gc sa sn sc ya yn yc oa on oc va vn vc fa fn fc ba bn bc) (who:Nat) (touch:Bool) (gs sp ls ms vs fs l) (w:World) (h:BD K kf (n:Int) ga gn gc sa sn sc ya yn yc oa on oc va vn vc fa fn fc ba bn bc gs sp ls ms vs fs l w) (hX:Ey.xP K kf (n:Int) vn yn on sn gs sp ls ms vs fs l) (hwho:who < n) :
  Calls Tryz.prog 81 #[zh #[zd U (n:Int),O ga gn gc,O sa sn sc,O ya yn yc,O oa on oc,O va vn vc,O fa fn fc,O ba bn bc,zd U (who:Int),zg touch]] w (Lp K kf n vn touch who gs ls vs fs l w):=by
 have s:Ov w (w.alloc (ze #[zd U (n:Int),O ga gn gc,O sa sn sc,O ya yn yc,O oa on oc,O va vn vc,O fa fn fc,O ba bn bc,zd U (who:Int),zg touch] 151)):=bA w _;have k:=Ad.newA #[zd U (n:Int),O ga gn gc,O sa sn sc,O ya yn yc,O oa on oc,O va vn vc,O fa fn fc,O ba bn bc,zd U (who:Int),zg touch] 151 w;have K1:=Aa (Pr K kf (n:Int) ga gn gc sa sn sc ya yn yc oa on oc va vn vc fa fn fc ba bn bc gs sp ls ms vs fs l _ (h.over s) (fun aa=>(aa=0 ↔ Ey.xP K kf (n:Int) vn yn on sn gs sp ls ms vs fs l)) (fun W hW=>Ey.scopeCheck_any K kf (n:Int) ga gn gc sa sn sc ya yn yc oa on oc va vn vc fa fn fc ba bn bc gs sp ls ms vs fs l W ((h.over s).over hW)) (fun hp=>(hp.1 rfl).ok));have HX:=Aa hX;have b7:vn<=16:=hX.ok.vars;have cy:n<=6:=by obtain ⟨n',h1,-,h2,-⟩:=Dr hX.chk;omega
 have ay:=Aa s;have bv:=Aa k;obtain ⟨a0,a1,a2,a3,a4,a5,a6,a7⟩:=rc8 k;clear h hX s k;unfold Lp;go_enter Tryz.func81,Tryz.ntmps81;go_wp2_with fail;refine (K1.o).mono ?_;rintro e b ⟨aa,hP,G,⟨bj,-⟩ | ⟨-,-,n',st,la,ln,lc,ka,kn,kc,bk,rfl,hV,-,H,-,Q,-,I,-,-⟩⟩
 ·exact absurd (hP.2 HX.o) bj
 have bi:n=n':=by omega
 subst bi;obtain ⟨M,hM⟩:=nm (st.vs.map (CB touch who));have aj:M.length=vn:=by rw [hM];simp [Q]
 have ae:vn=ln:=by obtain ⟨a,c,he,-⟩:=hV;injection he with e1 e2 e3;omega
 have f:Ov b (b.alloc (ze #[O la ln lc,O ka kn kc] 44)):=bA b _;have S:Ov b ((b.alloc (ze #[O la ln lc,O ka kn kc] 44)).alloc (.cells (Cd vn) 4)):=f.alloc (by simp) _;have L:=ay.o.trans (G.mono ay.o.size);have u:=bv.o.over G;have ac:∃ (j:Nat) (l:List Bool),j=0/\j<=vn/\l.length=vn/\l.take j=M.take j/\Gj l (b.heap.size+1) ((b.alloc (ze #[O la ln lc,O ka kn kc] 44)).alloc (.cells (Cd vn) 4))/\Ad [zd U (n:Int),O ga gn gc,O sa sn sc,O ya yn yc,O oa on oc,O va vn vc,O fa fn fc,O ba bn bc,zd U (who:Int),zg touch] ((b.alloc (ze #[O la ln lc,O ka kn kc] 44)).alloc (.cells (Cd vn) 4)) w.heap.size/\Ov b ((b.alloc (ze #[O la ln lc,O ka kn kc] 44)).alloc (.cells (Cd vn) 4)):=by
  refine ⟨0,List.replicate vn false,rfl,Nat.zero_le _,by simp,by simp,⟨?_,fun j=>by simp [go_sem]⟩,u.over S,S⟩;have:=Ad.newA (Cd vn) 4 (b.alloc (ze #[O la ln lc,O ka kn kc] 44));simpa [Cd,JI] using this
 have ao:=Aa ac;have mk:=Ry vn (by omega);have b6:w.heap.size < b.heap.size:=by have:=G.size;simp at this;omega
 have HV:=Aa hV;have HM:=Aa hM;have au:=Aa aj;have bt:=Aa Q;have av:=Aa H;have aw:=Aa I;have N:=Aa L;have df:=Aa ae;subst ae;clear ac K1 G hV hM aj Q H I L f S u a0 a1 a2 a3 a4 a5 a6 a7 hP bk;go_wp2_with fail;go_loopw [21] (fun i wr=>∃ (j:Nat) (l:List Bool),i=zd U (j:Int)/\j<=vn/\l.length=vn/\l.take j=M.take j/\Gj l (b.heap.size+1) wr/\Ad [zd U (n:Int),O ga gn gc,O sa sn sc,O ya yn yc,O oa on oc,O va vn vc,O fa fn fc,O ba bn bc,zd U (who:Int),zg touch] wr w.heap.size/\Ov b wr/\b.heap.size+1 < wr.heap.size) (fun i _=>vn - (intOf i).toNat)
 case atStart=>
  obtain ⟨j,l,rfl,i1,i2,i3,i4,i5,i6⟩:=ao.o;exact ⟨0,l,rfl,i1,i2,i3,i4,i5,i6,by simp⟩
 case round=>
  clear ao;obtain ⟨j,l,rfl,hj,af,B,C,P,V,R⟩:=hrel;by_cases hjl:j < vn
  ·obtain ⟨lo,b4,bl,ai⟩:=HV.o
   injection bl with e1 e2 e3;have y:j < st.vs.length:=by omega
   obtain ⟨lb,b3,ah,J⟩:=ai (by intro hz;rw [hz] at y;simp at y);obtain ⟨rv,wv,p0,p1,g⟩:=J j y;have bq:=e1.trans ah;subst bq;obtain ⟨LV,F⟩:=nm (st.vs[j]);have p:LV.r.length=n/\LV.w.length=n:=by rw [F];exact av.o _ (List.getElem_mem y)
   rw [<-F] at g;obtain ⟨ra,rc,wa,wc,ab⟩:=IU g;simp only [Value.agg.injEq,Array.mk.injEq,List.cons.injEq,and_true] at ab;obtain ⟨h1,h2⟩:=ab;subst h1 h2;rw [p.1,p.2] at g;rw [p.1] at p0;rw [p.2] at p1;obtain ⟨q0,q1⟩:=co2 V p0 p1;have E:Ov wr (wr.alloc (ze #[O ra n rc,O wa n wc] 50)):=bA wr _;have ak:=V.trans (E.mono V.size);have t:=P.over E;have KH:=Aa (MZ (n:Int) ga gn gc sa sn sc ya yn yc oa on oc va vn vc fa fn fc ba bn bc who touch ra n rc wa n wc LV (wr.alloc (ze #[O ra n rc,O wa n wc] 50)) (AK g ak) (by rw [p.1];exact hwho) (by rw [p.2];exact hwho) (by omega));have T:M[j]? = some (CB touch who LV):=by rw [HM.o,F,List.getElem?_map,List.getElem?_eq_getElem y];simp
   obtain ⟨x,hx⟩:=nm (CB touch who LV);rw [<-hx] at KH T;obtain ⟨t0,t1,t2,t3,t4,t5,t6,t7,t8,t9⟩:=Ch t;have aq:=Aa (C.over E R);have am:=Aa t;have HB:=Aa V;have ax:=Aa E;have bx:=Aa T;have bu:=Aa B;have Z:=Aa af;clear ai J p0 p1 e1 e2 e3 ah F T C P t B af p V ak g hx;go_wp2_with fail;refine (KH.o).mono ?_;rintro e w2 ⟨rfl,f⟩;have ad:b.heap.size+1 < (wr.alloc (ze #[O ra n rc,O wa n wc] 50)).heap.size:=Nat.lt_of_lt_of_le R ax.o.size;have q:=aq.o.over f ad;have A:j < l.length:=by rw [Z.o];exact hjl
   have y0:CE w2 (b.heap.size+1) j (zg l[j]):=q.row j _ (by simp [A]);have y1:=q.z j;have bh:b.heap.size+1 < w2.heap.size:=Nat.lt_of_lt_of_le ad f.size;have ar:=Aa (q.set A x);have b0:=Aa (Ac ax.o f);have an:=Aa ((am.o.over f).other (b':=b.heap.size+1) (j:=j) (v:=zg x) (by omega));obtain ⟨lj,ag⟩:=nm (l[j]);rw [<-ag] at y0;have cz:(j:Int) < (vn:Int):=by omega
   clear KH f q ag t0 t1 t2 t3 t4 t5 t6 t7 t8 t9;go_wp2_with fail;refine ⟨⟨j+1,l.set j x,by go_num,by omega,by simpa using Z.o,take_set A (Z.o.trans au.o.symm) bu.o bx.o,ar.o,an.o,(HB.o.trans (b0.o.mono HB.o.size)).setCell (by simp) _,by simpa [World.setCell] using bh⟩,by simp [intOf];omega⟩
  ·have c2:j=vn:=by omega
   have bm:l=M:=by
    have h1:l.take j=l:=List.take_of_length_le (by omega);have h2:M.take j=M:=List.take_of_length_le (by rw [au.o];omega);rw [<-h1,B,h2]
   have HF:=Aa (And.intro C V);rw [bm] at HF;clear B C V P;go_wp2_with fail;go_ret;exact ⟨b.heap.size+1,st,rfl,by omega,R,aw.o,bt.o,by rw [<-HM.o];exact HF.o.1,N.o.trans (HF.o.2.mono N.o.size)⟩
theorem En:∀ (l:List Ev4) (i:Nat) (h:i < l.length),(Bi l)[i*4]? = some (zd U l[i].1)/\(Bi l)[i*4+1]? = some (zd U l[i].2.1)/\(Bi l)[i*4+2]? = some (zd U l[i].2.2.1)/\(Bi l)[i*4+3]? = some (zd U l[i].2.2.2)
 | [],i,h=>by simp at h
 | e::r,0,h=>⟨rfl,rfl,rfl,rfl⟩
 | e::r,i+1,h=>by
  have:=En r i (by simpa using h);rw [Nat.succ_mul];simpa [Bi] using this
def Ft (w:World) (v:Value) (l:List Ev4):Prop:=∃ ao cap,v=O ao l.length cap/\l.length<=cap/\cap<=maxLen/\(l≠[]->∃ b,ao=some ⟨b,0,none⟩/\Ad (Bi l) w b)
theorem Ft.over {w w':World} {v:Value} {l:List Ev4} (h:Ft w v l) (hb:Ov w w'):Ft w' v l:=by
 obtain ⟨s,cap,f,k,i,g⟩:=h;exact ⟨s,cap,f,k,i,fun e=>by obtain ⟨b,q,p⟩:=g e;exact ⟨b,q,p.over hb⟩⟩
theorem Ft.of_own {w:World} {B:Nat} {v:Value} {l:List Ev4} (h:w.ownsRow B 136 4 v l.length (Bi l)):Ft w v l:=by
 rcases h.2 with ⟨f,b⟩ | ⟨g,cap,p,i,s,q,f,b,y,t⟩
 ·exact ⟨none,0,by rw [f,b],by omega,by unfold maxLen;omega,fun e=>absurd (List.length_eq_zero_iff.1 b) e⟩
 ·refine ⟨_,cap,i,f,b,fun _=>⟨g,rfl,fun j u k=>?_⟩⟩
  have:=h.cells (g:=g) (by rw [i];rfl) j u k
  rwa [Addr.add_lit,Nat.zero_add] at this
theorem Io (l:List Ev4) (va vb:Value) (w:World) (ha:Ft w va l) (hb:Ft w vb l) (hl:l.length<=9223372036854775807) :
  Calls Tryz.prog 68 #[va,vb] w fun e w'=>e=zj (zg true)/\Ov w w':=by
 obtain ⟨ao,ac,rfl,-,-,y⟩:=ha;obtain ⟨Z,bc,rfl,-,-,u⟩:=hb;have S:=Aa y;have R:=Aa u;clear y u;go_enter Tryz.func68,Tryz.ntmps68;go_wp2_with fail;go_loopw [5] (fun i wr=>∃ j:Nat,j<=l.length/\i=zd U j/\Ov w wr) (fun i _=>l.length - (intOf i).toNat)
 case atStart=>exact ⟨0,Nat.zero_le _,rfl,Below.refl _ _⟩
 case round=>
  obtain ⟨j,W,rfl,f⟩:=hrel;by_cases hjl:j < l.length
  ·obtain ⟨b,rfl,k⟩:=S.o (by intro A;rw [A] at hjl;simp at hjl)
   obtain ⟨b',rfl,g⟩:=R.o (by intro A;rw [A] at hjl;simp at hjl);obtain ⟨G,F,E,C⟩:=En l j hjl;have Q:=Ab f _ _ (k _ _ G);have P:=Ab f _ _ (k _ _ F);have O:=Ab f _ _ (k _ _ E);have N:=Ab f _ _ (k _ _ C);have M:=Ab f _ _ (g _ _ G);have L:=Ab f _ _ (g _ _ F);have J:=Ab f _ _ (g _ _ E);have I:=Ab f _ _ (g _ _ C);have B:(j:Int) < (l.length:Int):=by omega
   obtain ⟨x0,t⟩:=nm (l[j].1);obtain ⟨x1,s⟩:=nm (l[j].2.1);obtain ⟨x2,q⟩:=nm (l[j].2.2.1);obtain ⟨T,p⟩:=nm (l[j].2.2.2);rw [<-t] at Q M;rw [<-s] at P L;rw [<-q] at O J;rw [<-p] at N I;obtain ⟨V,h⟩:=nm l.length;rw [<-h] at B ⊢;have H:=Aa h;clear k g t s q p h G F E C;go_wp2_with fail
   go_quiet ((fail))
   go_wp2_with fail;have h:=H.o;subst h;exact ⟨⟨j+1,by omega,by go_num,below_drewN f _⟩,by simp [intOf];omega⟩
  ·go_wp2_with fail
   go_ret;exact ⟨rfl,f⟩
def EvL (w:World) (v:Value) (l:List Ev4):Prop:=
 l.length<=maxLen/\∃ ao cap,v=O ao l.length cap/\(l≠[]->∃ b off,ao=some ⟨b,off,none⟩/\∀ i (h:i < l.length),w.cell? ⟨b,off+i*4,none⟩=some (zd U l[i].1)/\w.cell? ⟨b,off+i*4+1,none⟩=some (zd U l[i].2.1)/\w.cell? ⟨b,off+i*4+2,none⟩=some (zd U l[i].2.2.1)/\w.cell? ⟨b,off+i*4+3,none⟩=some (zd U l[i].2.2.2))
theorem EvL.over {w w':World} {v:Value} {l:List Ev4} (h:EvL w v l) (hb:Ov w w'):EvL w' v l:=by
 obtain ⟨p,A,cap,k,q⟩:=h;refine ⟨p,A,cap,k,fun e=>?_⟩;obtain ⟨b,off,g,f⟩:=q e;refine ⟨b,off,g,fun i hi=>?_⟩;obtain ⟨y,u,t,s⟩:=f i hi;exact ⟨Ab hb _ _ y,Ab hb _ _ u,Ab hb _ _ t,Ab hb _ _ s⟩
theorem Ft.evL {w:World} {v:Value} {l:List Ev4} (h:Ft w v l):EvL w v l:=by
 obtain ⟨B,cap,k,s,q,p⟩:=h;refine ⟨Nat.le_trans s q,B,cap,k,fun f=>?_⟩;obtain ⟨b,g,e⟩:=p f;refine ⟨b,0,g,fun i hi=>?_⟩;obtain ⟨A,y,u,t⟩:=En l i hi;refine ⟨?_,?_,?_,?_⟩
 ·simpa using e _ _ A
 ·simpa using e _ _ y
 ·simpa using e _ _ u
 ·simpa using e _ _ t
def JN (F:FuncId) (cap:List Value) (p:Ev4->Bool) (w:World):Prop:=
 ∀ (e4:Ev4) (W:World),Ov w W->Calls Tryz.prog F (zh #[zd U e4.1,zd U e4.2.1,zd U e4.2.2.1,zd U e4.2.2.2]::cap).toArray W fun e w'=>e=zj (zg (p e4))/\Ov W w'
theorem Kw (F:FuncId) (cap:List Value) (p:Ev4->Bool) (l:List Ev4) (v:Value) (w:World) (h:EvL w v l) (hF:Hx (JN F cap p w)) (hC:∀ (args:Array Value) (w:World),(callFunc F args).run Tryz.prog w=.ok (.enter F args) w) :
  Calls Tryz.prog 195 #[v,.func (.func F) #[] cap.toArray] w fun e w'=>∃ r:Int,e=zj (zd U r)/\decide (0<=r)=l.any p/\Ov w w':=by
 obtain ⟨T,ao,N,rfl,C⟩:=h;have aa:l.length<=9223372036854775807:=T;have M:=Aa C;clear C T;go_enter Tryz.func195,Tryz.ntmps195;go_wp2_with fail;go_loopw [8] (fun i wr=>∃ k:Nat,k<=l.length/\i=zd U k/\(l.take k).any p=false/\Ov w wr) (fun i _=>l.length - (intOf i).toNat)
 case atStart=>exact ⟨0,Nat.zero_le _,rfl,rfl,Below.refl _ _⟩
 case round=>
  obtain ⟨k,hk,rfl,s,E⟩:=hrel;have H:=Aa s;have G:=Aa E;clear s;by_cases hkl:k < l.length
  ·obtain ⟨b,off,rfl,B⟩:=M.o (by rintro rfl;simp at hkl)
   obtain ⟨c0,c1,W,V⟩:=B k hkl;obtain ⟨R,Q,P,O⟩:=co4 E c0 c1 W V;have t:p l[k]=true->l.any p=true:=fun h=>by rw [List.any_eq_true];exact ⟨l[k],List.getElem_mem hkl,h⟩
   have u:p l[k]=false->(l.take (k+1)).any p=false:=fun h=>by rw [List.take_succ_eq_append_getElem hkl,List.any_append,H.o];simp [h]
   have f:=hF.o l[k] wr E;obtain ⟨r,S⟩:=nm (p l[k]);rw [<-S] at f t u;obtain ⟨e4,A⟩:=nm (l[k]);rw [<-A] at f R Q P O;obtain ⟨x0,x1,x2,x3⟩:=e4;dsimp only at f R Q P O;have q:=Aa f;have J:=Aa t;have L:=Aa u;clear f t u S B H hF A c0 c1 W V E
   cases r with
   | false=>
    go_wp2_with fail;refine (q.o).mono ?_;rintro e Z ⟨rfl,g⟩;have y:=Aa (G.o.trans (g.mono G.o.size));clear g;go_wp2_with fail;exact ⟨⟨k+1,by omega,by go_num,L.o (by first | rfl | trivial),y.o⟩,by simp [intOf];omega⟩
   | true=>
    go_wp2_with fail;refine (q.o).mono ?_;rintro e Z ⟨rfl,g⟩;have y:=Aa (G.o.trans (g.mono G.o.size));clear g;go_wp2_with fail;go_ret;refine ⟨(k:Int),by first | rfl | trivial,?_,y.o⟩;rw [J.o (by first | rfl | trivial)];simp
  ·have I:=H.o
   rw [List.take_of_length_le (by omega)] at I;have HD:=Aa I;clear I H hF E;go_wp2_with fail;go_ret;refine ⟨-1,by first | rfl | trivial,?_,G.o⟩;rw [HD.o];rfl
theorem Ep (F:FuncId) (cap:List Value) (p:Ev4->Bool) (l:List Ev4) (v:Value) (w:World) (h:EvL w v l) (hF:Hx (JN F cap p w)) (hC:∀ (args:Array Value) (w:World),(callFunc F args).run Tryz.prog w=.ok (.enter F args) w) :
  Calls Tryz.prog 135 #[v,.func (.func F) #[] cap.toArray] w fun e w'=>e=zj (zg (l.any p))/\Ov w w':=by
 have K:=Aa (Kw F cap p l v w h hF hC);obtain ⟨u,y,f,rfl,b⟩:=h;obtain ⟨q,i⟩:=nm (l.any p);rw [<-i] at K ⊢;clear b i hF;go_enter Tryz.func135,Tryz.ntmps135;go_wp2_with fail;refine (K.o).mono ?_;rintro e t ⟨r,rfl,g,k⟩;have s:=Aa g;clear g;go_wp2_with fail;go_ret;exact ⟨by rw [<-s.o];simp,k⟩
def EV (e:Ev4):Bool:=decide (e.1 < 1) || decide (3 < e.1)
def C7 (on vn:Nat) (e:Ev4):Bool:=decide (e.2.2.1 < 0) || decide ((if e.1=1 then (on:Int) else (vn:Int))<=e.2.2.1)
def FH (on vn:Nat) (l:List Ev4):Int:=if l.any EV=true then 7 else if l.any (C7 on vn)=true then 5 else 0
theorem LL (w:World):JN 132 [] EV w:=by
 rintro ⟨k,a,c,x⟩ W e;have b:Ov W (W.alloc (ze #[zd U k,zd U a,zd U c,zd U x] 136)):=bA W _;unfold EV;dsimp only;show Calls Tryz.prog 132 #[zh #[zd U k,zd U a,zd U c,zd U x]] W _;clear e;by_cases h1:k < 1
 ·go_enter Tryz.func132,Tryz.ntmps132
  go_wp2_with fail;go_ret;exact ⟨by first | (simp;done) | (simp [h1];done),b⟩
 ·by_cases h2:3 < k
  ·go_enter Tryz.func132,Tryz.ntmps132
   go_wp2_with fail;go_ret;exact ⟨by first | (simp;done) | (simp [h1,h2];done) | (simp;omega),b⟩
  ·go_enter Tryz.func132,Tryz.ntmps132
   go_wp2_with fail;go_ret;exact ⟨by first | (simp;done) | (simp [h1,h2];done) | (simp;omega),b⟩
theorem NA (m:Int) (ga gn gc sa sn sc ya yn yc oa on oc va vn vc fa fn fc ba bn bc) (k:Int) (w:World):Calls Tryz.prog 134 #[zh #[zd U m,O ga gn gc,O sa sn sc,O ya yn yc,O oa on oc,O va vn vc,O fa fn fc,O ba bn bc],zd U k] w fun e w'=>e=zj (zd U (if k=1 then (on:Int) else (vn:Int)))/\Ov w w':=by
 have b:Ov w (w.alloc (ze #[zd U m,O ga gn gc,O sa sn sc,O ya yn yc,O oa on oc,O va vn vc,O fa fn fc,O ba bn bc] 31)):=bA w _;by_cases h1:k=1
 ·subst h1
  rw [if_pos rfl];go_enter Tryz.func134,Tryz.ntmps134;go_wp2_with fail;go_ret;exact ⟨rfl,b⟩
 ·rw [if_neg h1]
  have f:(k == 1)=false:=by simpa using h1
  go_enter Tryz.func134,Tryz.ntmps134;go_wp2_with fail;go_ret;exact ⟨rfl,b⟩
abbrev Rl (W:World) (k a c x:Int) (bp:Nat) (m:Int) (ga:Option Addr) (gn gc:Nat) (sa:Option Addr) (sn sc:Nat) (ya:Option Addr) (yn yc:Nat) (oa:Option Addr) (on oc:Nat) (va:Option Addr) (vn vc:Nat) (fa:Option Addr) (fn fc:Nat) (ba:Option Addr) (bn bc:Nat) (Wz:World):Prop:=Wz.cell? ⟨W.heap.size,0,none⟩=some (zd U k)/\CE Wz W.heap.size 1 (zd U a)/\CE Wz W.heap.size 2 (zd U c)/\CE Wz W.heap.size 3 (zd U x)/\CE Wz bp 0 (zd U m)/\CE Wz bp 1 (O ga gn gc)/\CE Wz bp 2 (O sa sn sc)/\CE Wz bp 3 (O ya yn yc)/\CE Wz bp 4 (O oa on oc)/\CE Wz bp 5 (O va vn vc)/\CE Wz bp 6 (O fa fn fc)/\CE Wz bp 7 (O ba bn bc)
theorem LK (m:Int) (ga gn gc sa sn sc ya yn yc oa on oc va vn vc fa fn fc ba bn bc) (bp:Nat) (w:World) (hp:Ad [zd U m,O ga gn gc,O sa sn sc,O ya yn yc,O oa on oc,O va vn vc,O fa fn fc,O ba bn bc] w bp):JN 133 [zi (some ⟨bp,0,none⟩)] (C7 on vn) w:=by
 rintro ⟨k,a,c,x⟩ W S;have f:Ov W (W.alloc (ze #[zd U k,zd U a,zd U c,zd U x] 136)):=bA W _;have t:Ov W (W.alloc (ze #[zd U k,zd U a,zd U c,zd U x] 136)).drew:=below_drewN f 1;have h:=Ad.newA #[zd U k,zd U a,zd U c,zd U x] 136 W;have s:=(hp.over S).over f;have P:=Aa (NA m ga gn gc sa sn sc ya yn yc oa on oc va vn vc fa fn fc ba bn bc k (W.alloc (ze #[zd U k,zd U a,zd U c,zd U x] 136)).drew);unfold C7;dsimp only;show Calls Tryz.prog 133 #[zh #[zd U k,zd U a,zd U c,zd U x],zi (some ⟨bp,0,none⟩)] W _;obtain ⟨M,L,J,I⟩:=rc4 h;obtain ⟨G,F,E,C,B,A,y,u⟩:=rc8 s;have l:=Aa t;obtain ⟨N,R⟩:∃ q:Int,q=(if k=1 then (on:Int) else (vn:Int)):=⟨_,rfl⟩;rw [<-R] at P ⊢;clear S hp s h R f t;by_cases h1:c < 0
 ·have T:decide (c < 0)=true:=by simp [h1]
  have p:(decide (c < 0) || decide (N<=c))=true:=by simp [h1]
  rw [p];clear p P;go_enter Tryz.func133,Tryz.ntmps133;go_wp2_with fail;refine gS (Rl W k a c x bp m ga gn gc sa sn sc ya yn yc oa on oc va vn vc fa fn fc ba bn bc) (⟨M,L,J,I,G,F,E,C,B,A,y,u⟩) fun g=>?_;refine kT 0 ?_;refine kT 1 ?_;refine kT 2 ?_;refine kT 3 ?_;refine kU 4 ?_;refine kU 5 ?_;refine kU 6 ?_;refine kU 7 ?_;refine kU 8 ?_;refine kU 9 ?_;refine kU 10 ?_;refine kT 11 ?_;refine kT 12 ?_;refine gE ?_;go_wp2_with fail;go_ret;exact ⟨rfl,l.o⟩
 ·have T:decide (c < 0)=false:=by simp [h1]
  have p:(decide (c < 0) || decide (N<=c))=decide (N<=c):=by simp [h1]
  rw [p];obtain ⟨r,H⟩:=nm (decide (N<=c));rw [<-H];have HR:=Aa H;clear p H;go_enter Tryz.func133,Tryz.ntmps133;go_wp2_with fail;refine gS (Rl W k a c x bp m ga gn gc sa sn sc ya yn yc oa on oc va vn vc fa fn fc ba bn bc) (⟨M,L,J,I,G,F,E,C,B,A,y,u⟩) fun g=>?_;refine kT 0 ?_;refine kT 1 ?_;refine kT 2 ?_;refine kT 3 ?_;refine kT 4 ?_;refine kT 5 ?_;refine kT 6 ?_;refine kT 7 ?_;refine kT 8 ?_;refine rdA 9 rfl fun K V=>?_;go_simp;refine (P.o).mono ?_;rintro e Z ⟨rfl,i⟩;have b:Ov (W.alloc (ze #[zd U k,zd U a,zd U c,zd U x] 136)) Z:=(bD _).trans i;have Q:=Aa (l.o.trans (i.mono l.o.size));clear i;go_simp;refine xK V (⟨Ab b _ _ M,Ab b _ _ L,Ab b _ _ J,Ab b _ _ I,Ab b _ _ G,Ab b _ _ F,Ab b _ _ E,Ab b _ _ C,Ab b _ _ B,Ab b _ _ A,Ab b _ _ y,Ab b _ _ u⟩) fun g=>?_;refine kT 10 ?_;refine kT 11 ?_;refine kT 12 ?_;refine gE ?_;go_wp2_with fail;go_ret;exact ⟨by rw [HR.o];try simp,Q.o⟩
theorem GL (m:Int) (ga gn gc sa sn sc ya yn yc oa on oc va vn vc fa fn fc ba bn bc) (la ln lc) (l:List Ev4) (w:World) (h:EvL w (O la ln lc) l) :
  Calls Tryz.prog 79 #[zh #[zd U m,O ga gn gc,O sa sn sc,O ya yn yc,O oa on oc,O va vn vc,O fa fn fc,O ba bn bc],O la ln lc] w fun e w'=>e=zj (zd U (FH on vn l))/\Ov w w':=by
 have G:∀ (fn:Fn) (first cap:Array Value) (w:World),(Instr.makeFunc fn first cap).run Tryz.prog w=.ok (.func fn first cap) w:=fun _ _ _ _=>rfl;have g:Ov w (w.alloc (ze #[zd U m,O ga gn gc,O sa sn sc,O ya yn yc,O oa on oc,O va vn vc,O fa fn fc,O ba bn bc] 31)):=bA w _;have p:=Ad.newA #[zd U m,O ga gn gc,O sa sn sc,O ya yn yc,O oa on oc,O va vn vc,O fa fn fc,O ba bn bc] 31 w;have q:=Aa (Ep 132 [] EV l (O la ln lc) _ (h.over g) (Aa (LL _)) (fun args w=>by simp [go_sem]));have A:=Aa fun W (hW:Ov (w.alloc (ze #[zd U m,O ga gn gc,O sa sn sc,O ya yn yc,O oa on oc,O va vn vc,O fa fn fc,O ba bn bc] 31)) W)=>Ep 133 [zi (some ⟨w.heap.size,0,none⟩)] (C7 on vn) l (O la ln lc) W ((h.over g).over hW) (Aa (LK m ga gn gc sa sn sc ya yn yc oa on oc va vn vc fa fn fc ba bn bc w.heap.size W (p.over hW))) (fun args w=>by simp [go_sem]);unfold FH;obtain ⟨F,y⟩:=nm (l.any EV);obtain ⟨E,u⟩:=nm (l.any (C7 on vn));rw [<-y] at q ⊢;rw [<-u] at A ⊢;have t:=Aa g;clear h p y u g
 change Hx (Calls Tryz.prog 135 #[O la ln lc,.func (.func 132) #[] #[]] _ _) at q
 cases F with
 | true=>
  go_enter Tryz.func79,Tryz.ntmps79;go_wp2_with fail;refine (q.o).mono ?_;rintro e B ⟨rfl,b⟩;have f:=Aa (t.o.trans (b.mono t.o.size));clear b;go_wp2_with fail;go_ret;exact ⟨by first | rfl | simp,f.o⟩
 | false=>
  cases E with
  | true=>
   go_enter Tryz.func79,Tryz.ntmps79;go_wp2_with fail;refine (q.o).mono ?_;rintro e B ⟨rfl,b⟩;have k:=Aa (A.o B b)
   change Hx (Calls Tryz.prog 135 #[O la ln lc,.func (.func 133) #[] #[zi (some ⟨w.heap.size,0,none⟩)]] _ _) at k
   have f:=Aa (t.o.trans (b.mono t.o.size));clear b q A;go_wp2_with fail;refine (k.o).mono ?_;rintro e C ⟨rfl,i⟩;have s:=Aa (f.o.trans (i.mono f.o.size));clear i;go_wp2_with fail;go_ret;exact ⟨by first | rfl | simp,s.o⟩
  | false=>
   go_enter Tryz.func79,Tryz.ntmps79;go_wp2_with fail;refine (q.o).mono ?_;rintro e B ⟨rfl,b⟩;have k:=Aa (A.o B b)
   change Hx (Calls Tryz.prog 135 #[O la ln lc,.func (.func 133) #[] #[zi (some ⟨w.heap.size,0,none⟩)]] _ _) at k
   have f:=Aa (t.o.trans (b.mono t.o.size));clear b q A;go_wp2_with fail;refine (k.o).mono ?_;rintro e C ⟨rfl,i⟩;have s:=Aa (f.o.trans (i.mono f.o.size));clear i;go_wp2_with fail;go_ret;exact ⟨by first | rfl | simp,s.o⟩
def Rq (X:Prop) (m who:Int) (why:Int):Prop:=why=0 ↔ (X/\0<=who/\who < m)
theorem EZ (K kf:Nat) (m:Int) (ga gn gc sa sn sc ya yn yc oa on oc va vn vc fa fn fc ba bn bc) (who:Int) (gs sp ls ms vs fs l) (w:World) (h:BD K kf m ga gn gc sa sn sc ya yn yc oa on oc va vn vc fa fn fc ba bn bc gs sp ls ms vs fs l w) :
  Calls Tryz.prog 78 #[zh #[zd U m,O ga gn gc,O sa sn sc,O ya yn yc,O oa on oc,O va vn vc,O fa fn fc,O ba bn bc],zd U who] w fun e w'=>∃ why:Int,e=zj (zd U why)/\Rq (Ey.xP K kf m vn yn on sn gs sp ls ms vs fs l) m who why/\Ov w w':=by
 have b:Ov w (w.alloc (ze #[zd U m,O ga gn gc,O sa sn sc,O ya yn yc,O oa on oc,O va vn vc,O fa fn fc,O ba bn bc] 31)):=bA w _;have g:=Ad.newA #[zd U m,O ga gn gc,O sa sn sc,O ya yn yc,O oa on oc,O va vn vc,O fa fn fc,O ba bn bc] 31 w;have k:=Aa (Ey.scopeCheck_any K kf m ga gn gc sa sn sc ya yn yc oa on oc va vn vc fa fn fc ba bn bc gs sp ls ms vs fs l _ (h.over b));obtain ⟨c0,c1,C,B,A,y,u,t⟩:=rc8 g;have q:=Aa b;clear h g b;unfold Rq;go_enter Tryz.func78,Tryz.ntmps78;go_wp2_with fail;refine (k.o).mono ?_;rintro e E ⟨why,rfl,hw,i⟩;have G:=Ab i _ _ c0;have f:=Aa (q.o.trans (i.mono q.o.size));have p:=Aa hw;clear c0 c1 C B A y u t i hw k;by_cases h0:why=0;rotate_left
 ·have F:(why == 0)=false:=by simpa using h0
  go_wp2_with fail;go_ret;exact ⟨why,rfl,⟨fun h=>absurd h h0,fun h=>absurd (p.o.2 h.1) h0⟩,f.o⟩
 subst h0;by_cases h1:who < 0
 ·go_wp2_with fail
  go_ret;exact ⟨5,rfl,⟨fun h=>absurd h (by decide),fun h=>by omega⟩,f.o⟩
 by_cases h2:who < m
 ·have s:¬ m<=who:=by omega
  go_wp2_with fail;go_ret;exact ⟨0,rfl,⟨fun _=>⟨p.o.1 (by first | rfl | trivial),by omega,h2⟩,fun _=>rfl⟩,f.o⟩
 ·have s:m<=who:=by omega
  go_wp2_with fail;go_ret;exact ⟨5,rfl,⟨fun h=>absurd h (by decide),fun h=>by omega⟩,f.o⟩
def Dh (outs vars:List Bool) (e:Ev4):Bool:=(if e.1=1 then outs else vars).getD e.2.2.1.toNat false
def Gt (n:Nat) (touch:Bool) (who:Nat) (gs:List (Int × Int)) (ms:List Lab):List Bool:=ms.map (fun x=>CB touch who (Ar (Ax gs) n x))
theorem La {p:Ev4->Bool} {l:List Ev4} {j:Nat} (hj:j < l.length):(l.take (j+1)).filter p=(l.take j).filter p++(if p l[j]=true then [l[j]] else []):=by
 rw [List.take_succ_eq_append_getElem hj,List.filter_append];congr 1;cases h:p l[j] <;> simp [h]
theorem H4 (K kf n:Nat) (ga gn gc sa sn sc ya yn yc oa on oc va vn vc fa fn fc ba bn bc) (who:Nat) (touch:Bool) (la ln lc) (evs:List Ev4) (gs sp ls ms vs fs l) (w:World) (h:BD K kf (n:Int) ga gn gc sa sn sc ya yn yc oa on oc va vn vc fa fn fc ba bn bc gs sp ls ms vs fs l w) (hE:EvL w (O la ln lc) evs) (hlen:evs.length<=100000) (hX:Ey.xP K kf (n:Int) vn yn on sn gs sp ls ms vs fs l) (hwho:who < n) (hev:FH on vn evs=0) :
  Calls Tryz.prog 27 #[zh #[zd U (n:Int),O ga gn gc,O sa sn sc,O ya yn yc,O oa on oc,O va vn vc,O fa fn fc,O ba bn bc],zd U (who:Int),zg touch,O la ln lc] w fun e w'=>∃ st v,e=zj (zk #[v,zd U 0])/\B2 n K kf gs vs ls fs l st/\st.vs.length=vn/\w'.ownsRow w.heap.size 136 4 v (evs.filter (Dh (Gt n touch who gs ms) (st.vs.map (CB touch who)))).length (Bi (evs.filter (Dh (Gt n touch who gs ms) (st.vs.map (CB touch who)))))/\Ov w w':=by
 have ak:Ov w (w.alloc (ze #[zd U (n:Int),O ga gn gc,O sa sn sc,O ya yn yc,O oa on oc,O va vn vc,O fa fn fc,O ba bn bc] 31)):=bA w _;have af:=Ad.newA #[zd U (n:Int),O ga gn gc,O sa sn sc,O ya yn yc,O oa on oc,O va vn vc,O fa fn fc,O ba bn bc] 31 w;have K1:=Aa (EZ K kf (n:Int) ga gn gc sa sn sc ya yn yc oa on oc va vn vc fa fn fc ba bn bc (who:Int) gs sp ls ms vs fs l _ (h.over ak));have K2:=Aa fun W (hW:Ov w W)=>GL (n:Int) ga gn gc sa sn sc ya yn yc oa on oc va vn vc fa fn fc ba bn bc la ln lc evs W (hE.over hW);rw [hev] at K2;have bm:on=ms.length:=by obtain ⟨-,a,c,he,-⟩:=h.outs;injection he
 have a8:∀ b∈ms,Bb (n:Int) gs b=0:=fun b hb=>hX.labs.1 b (List.mem_append_right _ hb);have ea:n<=6:=by obtain ⟨n',h1,-,h2,-⟩:=Dr hX.chk;omega
 have f2:on<=5:=hX.ok.outs;have KC:=Aa fun W (hW:Ov w W)=>FJ n ga gn gc sa sn sc ya yn yc oa on oc va vn vc fa fn fc ba bn bc who touch oa on oc gs ms W (Af h.grants hW) (h.outs.over hW) a8 hwho ea (by omega);have KV:=Aa fun W (hW:Ov w W)=>OH K kf n ga gn gc sa sn sc ya yn yc oa on oc va vn vc fa fn fc ba bn bc who touch gs sp ls ms vs fs l W (h.over hW) hX hwho;have ah:∀ x∈evs,C7 on vn x=false:=by
  intro x hx;unfold FH at hev;split at hev
  ·omega
  ·split at hev
   ·omega
   ·rename_i h2
    have:=List.any_eq_false.1 (by simpa using h2:evs.any (C7 on vn)=false) x hx;simpa using this
 have ch:ln=evs.length:=by obtain ⟨-,a,c,he,-⟩:=hE;injection he
 have HX:=Aa hX;have HE:=Aa hE;have cb:=Aa ah;have db:=Aa ak;have er:=Aa af;have et:=Aa bm;obtain ⟨i0,hi,cf,ce,cd⟩:=info_parts Tryz.infoE;obtain ⟨Z,au⟩:=nm (Gt n touch who gs ms);rw [<-au];have bg:Z.length=on:=by rw [au,bm];simp [Gt]
 have es:=Aa au;have cy:=Aa bg;obtain ⟨a0,a1,a2,a3,a4,a5,a6,a7⟩:=rc8 af;subst ch;clear h hE hX hev af a8 ah bm au bg ak;go_enter Tryz.func27,Tryz.ntmps27;go_wp2_with fail;refine (K1.o).mono ?_;rintro e w1 ⟨dw,rfl,ay,bz⟩;have h0:dw=0:=ay.2 ⟨HX.o,by omega,by omega⟩;subst h0;have ca:=db.o.trans (bz.mono db.o.size);have cr:=Aa (K2.o w1 ca);have Q:=er.o.over bz;have eq:=Aa Q;have da:=Aa ca;obtain ⟨b0,b1,b2,b3,b4,b5,b6,b7⟩:=rc8 Q;clear K1 K2 ay bz ca Q a0 a1 a2 a3 a4 a5 a6 a7;go_wp2_with fail;refine (cr.o).mono ?_;rintro e F ⟨rfl,bu⟩;have b9:=da.o.trans (bu.mono da.o.size);have P:=eq.o.over bu;have bq:Ov F (F.alloc (ze #[zd U (n:Int),O ga gn gc,O sa sn sc,O ya yn yc,O oa on oc,O va vn vc,O fa fn fc,O ba bn bc,zd U (who:Int),zg touch] 151)):=bA F _;have N:=P.over bq;have M:=Ad.newA #[zd U (n:Int),O ga gn gc,O sa sn sc,O ya yn yc,O oa on oc,O va vn vc,O fa fn fc,O ba bn bc,zd U (who:Int),zg touch] 151 F;have g6:=Aa M;have g7:=Aa N;have ax:=Aa (b9.trans (bq.mono b9.size));obtain ⟨c0,c1,c2,c3,c4,c5,c6,c7⟩:=rc8 P;obtain ⟨d0,d1,d2,d3,d4,d5,d6,d7⟩:=rc8 N;obtain ⟨v0,v1,v2,v3,v4,v5,v6,v7,v8,v9⟩:=Ch M;have br:Ov (F.alloc (ze #[zd U (n:Int),O ga gn gc,O sa sn sc,O ya yn yc,O oa on oc,O va vn vc,O fa fn fc,O ba bn bc,zd U (who:Int),zg touch] 151)) (F.alloc (ze #[zd U (n:Int),O ga gn gc,O sa sn sc,O ya yn yc,O oa on oc,O va vn vc,O fa fn fc,O ba bn bc,zd U (who:Int),zg touch] 151)).drew:=(bD _);have cq:=Aa (KC.o (F.alloc (ze #[zd U (n:Int),O ga gn gc,O sa sn sc,O ya yn yc,O oa on oc,O va vn vc,O fa fn fc,O ba bn bc,zd U (who:Int),zg touch] 151)).drew (ax.o.trans (br.mono ax.o.size)));have eu:=Aa br;clear cr KC bu b9 P N bq M br b0 b1 b2 b3 b4 b5 b6 b7;go_wp2_with fail;clear c0 c1 c2 c3 c4 c5 c6 c7;refine gS (fun G=>CE G w.heap.size 0 (zd U (n:Int))/\CE G w.heap.size 1 (O ga gn gc)/\CE G w.heap.size 2 (O sa sn sc)/\CE G w.heap.size 3 (O ya yn yc)/\CE G w.heap.size 4 (O oa on oc)/\CE G w.heap.size 5 (O va vn vc)/\CE G w.heap.size 6 (O fa fn fc)/\CE G w.heap.size 7 (O ba bn bc)/\CE G F.heap.size 0 (zd U (n:Int))/\CE G F.heap.size 1 (O ga gn gc)/\CE G F.heap.size 2 (O sa sn sc)/\CE G F.heap.size 3 (O ya yn yc)/\CE G F.heap.size 4 (O oa on oc)/\CE G F.heap.size 5 (O va vn vc)/\CE G F.heap.size 6 (O fa fn fc)/\CE G F.heap.size 7 (O ba bn bc)/\CE G F.heap.size 8 (zd U (who:Int))/\CE G F.heap.size 9 (zg touch)) (⟨d0,d1,d2,d3,d4,d5,d6,d7,v0,v1,v2,v3,v4,v5,v6,v7,v8,v9⟩) fun S=>?_;refine kT 0 ?_;refine kT 1 ?_;refine kT 2 ?_;refine kT 4 ?_;refine rdA 3 rfl fun K hK=>?_;go_simp;refine (cq.o).mono ?_;rintro e w3 ⟨bo,rfl,fe,bd,ad,be⟩;have f:Ov (F.alloc (ze #[zd U (n:Int),O ga gn gc,O sa sn sc,O ya yn yc,O oa on oc,O va vn vc,O fa fn fc,O ba bn bc,zd U (who:Int),zg touch] 151)) w3:=eu.o.trans be;have b8:=ax.o.trans (f.mono ax.o.size);have cp:=Aa (KV.o w3 b8);rw [<-et.o];have cx:=Aa ad;have c8:=Aa b8;clear be ad b8 KV;go_simp;refine xK hK (⟨Ab f _ _ d0,Ab f _ _ d1,Ab f _ _ d2,Ab f _ _ d3,Ab f _ _ d4,Ab f _ _ d5,Ab f _ _ d6,Ab f _ _ d7,Ab f _ _ v0,Ab f _ _ v1,Ab f _ _ v2,Ab f _ _ v3,Ab f _ _ v4,Ab f _ _ v5,Ab f _ _ v6,Ab f _ _ v7,Ab f _ _ v8,Ab f _ _ v9⟩) fun S=>?_;refine rdA 5 rfl fun K hK=>?_;go_simp;refine (cp.o).mono ?_;rintro e w4 ⟨bv,st,rfl,fb,cl,a9,az,ac,aj⟩;have q:Ov (F.alloc (ze #[zd U (n:Int),O ga gn gc,O sa sn sc,O ya yn yc,O oa on oc,O va vn vc,O fa fn fc,O ba bn bc,zd U (who:Int),zg touch] 151)) w4:=f.trans (aj.mono f.size);have cv:=Aa ac;have bj:=Aa (cx.o.over aj bd);have am:=Aa (c8.o.trans (aj.mono c8.o.size));have cm:bo < w4.heap.size:=Nat.lt_of_lt_of_le bd aj.size;have cz:=Aa a9;have bi:=Aa az;clear ac aj a9 az;go_simp;refine xK hK (⟨Ab q _ _ d0,Ab q _ _ d1,Ab q _ _ d2,Ab q _ _ d3,Ab q _ _ d4,Ab q _ _ d5,Ab q _ _ d6,Ab q _ _ d7,Ab q _ _ v0,Ab q _ _ v1,Ab q _ _ v2,Ab q _ _ v3,Ab q _ _ v4,Ab q _ _ v5,Ab q _ _ v6,Ab q _ _ v7,Ab q _ _ v8,Ab q _ _ v9⟩) fun S=>?_;refine kT 6 ?_;refine kT 7 ?_;refine gE ?_;clear d0 d1 d2 d3 d4 d5 d6 d7 v0 v1 v2 v3 v4 v5 v6 v7 v8 v9 f q cq cp S;obtain ⟨VB,ar⟩:=nm (st.vs.map (CB touch who));have bf:VB.length=vn:=by rw [ar];simpa using bi.o
 have ep:=Aa ar;have ct:=Aa bf;rw [<-ar] at cv;rw [show (ms.map fun x=>CB touch who (Ar (Ax gs) n x))=Z from es.o.symm] at bj;clear ar bf cx;have d9:w.heap.size<=w4.heap.size:=am.o.size;have cu:Hx (w4.ownsRow w4.heap.size 136 4 (O none 0 0) ((evs.take 0).filter (Dh Z VB)).length (Bi ((evs.take 0).filter (Dh Z VB)))):=World.ownsRow_nil _ _ _ _;go_wp2_with fail;go_loopw [15,43] (fun v i wr=>∃ j:Nat,i=zd U (j:Int)/\j<=evs.length/\wr.ownsRow w4.heap.size 136 4 v ((evs.take j).filter (Dh Z VB)).length (Bi ((evs.take j).filter (Dh Z VB)))/\Ov w4 wr) (fun _ i _=>evs.length - (intOf i).toNat)
 case atStart=>exact ⟨0,rfl,Nat.zero_le _,cu.o,Below.refl _ _⟩
 case round=>
  clear cu;obtain ⟨j,rfl,hj,C,hB⟩:=hrel;have bk:=Aa C;have HB:=Aa hB;by_cases hjl:j < evs.length
  ·obtain ⟨-,ao,fh,ec,ci⟩:=HE.o
   injection ec with e1 e2 e3;obtain ⟨eb,fg,cj,bb⟩:=ci (by intro hz;rw [hz] at hjl;simp at hjl);obtain ⟨p0,p1,p2,p3⟩:=bb j hjl;have ek:=e1.trans cj;subst ek;have co:=am.o.trans (hB.mono am.o.size);obtain ⟨q0,q1,q2,q3⟩:=co4 co p0 p1 p2 p3;have bp:=La (p:=Dh Z VB) hjl;have an:=cb.o evs[j] (List.getElem_mem hjl);have f4:((evs.take j).filter (Dh Z VB)).length<=100000:=Nat.le_trans (List.length_filter_le _ _) (by rw [List.length_take];omega);obtain ⟨e4,ck⟩:=nm (evs[j]);rw [<-ck] at q0 q1 q2 q3 bp an;obtain ⟨k,a,c,x⟩:=e4;dsimp only at q0 q1 q2 q3;unfold C7 at an;simp only [Bool.or_eq_false_iff,decide_eq_false_iff_not,Int.not_lt,Int.not_le] at an;obtain ⟨eh,aq⟩:=an;obtain ⟨t,ef⟩:=Int.eq_ofNat_of_zero_le eh;subst ef;have ad:=bj.o.over hB cm;have ac:=cv.o.over hB cl;have aw:=Aa bp;have bt:Ov wr (wr.alloc (ze #[zd U k,zd U a,zd U (t:Int),zd U x] 136)):=bA wr _;have ag:=Bw C bt;have T:w4.heap.size<=wr.heap.size:=hB.size;have y:=Aa bt;have HN:Hx (Ad [zd U k,zd U a,zd U (t:Int),zd U x] ((wr.alloc (ze #[zd U k,zd U a,zd U (t:Int),zd U x] 136)).alloc (ze #[zd U k,zd U a,zd U (t:Int),zd U x] 136)) (wr.heap.size+1)):=by
    have:=Ad.newA #[zd U k,zd U a,zd U (t:Int),zd U x] 136 (wr.alloc (ze #[zd U k,zd U a,zd U (t:Int),zd U x] 136));show Ad _ _ _;simpa using this
   have bs:Ov (wr.alloc (ze #[zd U k,zd U a,zd U (t:Int),zd U x] 136)) ((wr.alloc (ze #[zd U k,zd U a,zd U (t:Int),zd U x] 136)).alloc (ze #[zd U k,zd U a,zd U (t:Int),zd U x] 136)):=bA _ _;have s:=Bw ag bs;have bl:=Aa bs;have V:w4.heap.size<=((wr.alloc (ze #[zd U k,zd U a,zd U (t:Int),zd U x] 136)).alloc (ze #[zd U k,zd U a,zd U (t:Int),zd U x] 136)).heap.size:=by simp;omega
   have av:∀ (L:List Bool) (b:Nat),Gj L b wr->t < L.length->CE wr b t (zg L[t]!):=fun L b hr cg=>by
    have:=hr.row t (zg L[t]) (by simp [cg]);simpa [cg] using this
   clear ci bb p0 p1 p2 p3 e1 e2 e3 cj ck bp C ag bt bs co hB;by_cases hk1:k=1
   ·subst hk1
    rw [if_pos rfl] at aq;have R:t < Z.length:=by rw [cy.o];omega
    have y0:=Ab y.o _ _ (av Z bo ad R);have A:Dh Z VB (1,a,(t:Int),x)=Z[t]!:=by
     unfold Dh;rw [if_pos rfl];simp [R]
    have eg:(t:Int) < (on:Int):=aq;obtain ⟨bx,ai⟩:=nm (Z[t]!);rw [<-ai] at y0 A;have E:=aw.o;rw [A] at E;have J:=Aa E;clear A ai av ad ac aw E R
    cases bx with
    | true=>
     go_wp2_with (at_builtin;refine wpList_append_own _ rfl _ _ 53 rfl w4.heap.size 136 i0 (zh #[zd U 0,zd U 0,zd U 0,zd U 0]) 4 32 Tryz.underlying53 hi cf ce cd rfl (by decide) _ _ _ rfl s ⟨wr.heap.size+1,0,none⟩ 1 1 [zd U 1,zd U a,zd U (t:Int),zd U x] rfl rfl (fun jj u hu=>by rw [Addr.add_lit,Nat.zero_add];exact HN.o jj u hu) (by simp [Value.oneCell']) (by unfold maxLen;omega) (by omega) V ?_);intro v3 w5 B H _;have I:=B5 s H V;have al:Ov w4 w5:=((HB.o.trans (y.o.mono T)).trans (bl.o.mono (by simp;omega))).trans I;have HF:=Aa (And.intro B al);clear s B H I al;go_wp2_with fail;refine ⟨⟨j+1,by go_num,by omega,?_,HF.o.2⟩,by simp [intOf];omega⟩;have h5:=HF.o.1;rw [J.o,if_pos (by first | rfl | trivial),List.length_append,CP];exact h5
    | false=>
     have HF:=Aa (And.intro (Bw bk.o y.o) (HB.o.trans (y.o.mono T)));clear s;go_wp2_with fail;refine ⟨⟨j+1,by go_num,by omega,?_,HF.o.2⟩,by simp [intOf];omega⟩;rw [J.o,if_neg (by first | decide | exact id | simp),List.append_nil];exact HF.o.1
   ·have f3:(k == 1)=false:=by simpa using hk1
    rw [if_neg hk1] at aq;have R:t < VB.length:=by rw [ct.o];omega
    have y0:=Ab y.o _ _ (av VB bv ac R);have A:Dh Z VB (k,a,(t:Int),x)=VB[t]!:=by
     unfold Dh;rw [if_neg hk1];simp [R]
    have eg:(t:Int) < (vn:Int):=aq;obtain ⟨bx,ai⟩:=nm (VB[t]!);rw [<-ai] at y0 A;have E:=aw.o;rw [A] at E;have J:=Aa E;clear A ai av ad ac aw E R
    cases bx with
    | true=>
     go_wp2_with (at_builtin;refine wpList_append_own _ rfl _ _ 53 rfl w4.heap.size 136 i0 (zh #[zd U 0,zd U 0,zd U 0,zd U 0]) 4 32 Tryz.underlying53 hi cf ce cd rfl (by decide) _ _ _ rfl s ⟨wr.heap.size+1,0,none⟩ 1 1 [zd U k,zd U a,zd U (t:Int),zd U x] rfl rfl (fun jj u hu=>by rw [Addr.add_lit,Nat.zero_add];exact HN.o jj u hu) (by simp [Value.oneCell']) (by unfold maxLen;omega) (by omega) V ?_);intro v3 w5 B H _;have I:=B5 s H V;have al:Ov w4 w5:=((HB.o.trans (y.o.mono T)).trans (bl.o.mono (by simp;omega))).trans I;have HF:=Aa (And.intro B al);clear s B H I al;go_wp2_with fail;refine ⟨⟨j+1,by go_num,by omega,?_,HF.o.2⟩,by simp [intOf];omega⟩;have h5:=HF.o.1;rw [J.o,if_pos (by first | rfl | trivial),List.length_append,CP];exact h5
    | false=>
     have HF:=Aa (And.intro (Bw bk.o y.o) (HB.o.trans (y.o.mono T)));clear s;go_wp2_with fail;refine ⟨⟨j+1,by go_num,by omega,?_,HF.o.2⟩,by simp [intOf];omega⟩;rw [J.o,if_neg (by first | decide | exact id | simp),List.append_nil];exact HF.o.1
  ·have ed:j=evs.length:=by omega
   rw [ed,List.take_length] at C;obtain ⟨fu,fr,ft,dz⟩:∃ a n c,u15=O a n c:=by
    rcases C.2 with ⟨h,_⟩ | ⟨g,cap,gd,h,_⟩
    ·exact ⟨_,_,_,h⟩
    ·exact ⟨_,_,_,h⟩
   subst dz;have HF:=Aa (And.intro (DA C d9) (am.o.trans (hB.mono am.o.size)));clear C hB;go_wp2_with fail
   go_ret2
   exact ⟨st,_,rfl,cz.o,bi.o,by rw [<-ep.o];exact HF.o.1,HF.o.2⟩
theorem DW {n K kf:Nat} {gs:List (Int × Int)} {vs:List (Bool × Lab)} {ls:List Lab} {fs:List FnD} {main:List D} {st st':ISt} (h:B2 n K kf gs vs ls fs main st) (h':B2 n K kf gs vs ls fs main st'):st=st':=by
 obtain ⟨k,e,m,l⟩:=h;obtain ⟨b,f,g,i⟩:=h';rcases Nat.lt_trichotomy k b with hk | hk | hk
 ·have:=i k hk
  rw [<-e,m] at this;cases this
 ·rw [e,f,hk]
 ·have:=l b hk
  rw [<-f,g] at this;cases this
theorem De {Q:Ev4->Prop} {r:Bool × RSt} {f:RSt->Bool × RSt} (h:∀ e∈r.2.ev,Q e) (hf:∀ u:RSt,(∀ e∈u.ev,Q e)->∀ e∈(f u).2.ev,Q e):∀ e∈(A0 r f).2.ev,Q e:=by
 unfold A0;split
 ·exact hf _ h
 ·exact h
theorem Qd (ob:Ob) (kind:Nat) (a:Int) (dp:Nat) (d) (st:RSt):(Bq ob kind a dp d st).2.ev=st.ev:=by
 unfold Bq;split <;> rfl
theorem Sm {K kf:Nat} {fs:List FnD} {F:Nat} {ins:List (List Int)} {ob:Ob} {P:Nat->D->Prop} {Q:Ev4->Prop} (hk:∀ k d,P k d->∀ a v,(Ag d=4->Q (1,a,Ae d,v))/\(Ag d=5->Q (2,a,Ap d,v))/\(Ag d=6->Q (3,a,Ap d,v)))
  (ht:∀ k d,P k d->∀ s∈Aj d,P (k - 1) s) (he:∀ k d,P k d->∀ s∈Ao d,P (k - 1) s) (hb:∀ i,∀ s∈(BV fs i).body,P kf s):∀ (g m k:Nat) (l:List D) (a:Int) (dp:Nat) (st:RSt),(∀ d∈l,P k d)->(∀ e∈st.ev,Q e)->∀ e∈(rn K kf fs F ins ob g m k l a dp st).2.ev,Q e:=by
 have t:∀ kind a dp d (st:RSt),(∀ e∈st.ev,Q e)->∀ e∈(Bq ob kind a dp d st).2.ev,Q e:=fun kind a dp d st h=>by rw [Qd];exact h
 have tl:∀ (st:RSt) (x:Ev4),(∀ e∈st.ev,Q e)->Q x->∀ e∈(st.tell x).ev,Q e:=fun st x h f e h2=>by
  rcases List.mem_append.1 h2 with h2 | h2
  ·exact h e h2
  ·rw [List.mem_singleton.1 h2];exact f
 intro g
 induction g with
 | zero=>intro m k l a dp st _ h;exact h
 | succ g ih=>
  intro m k l a dp st hl h
  match m,l with
  | 0,[]=>exact h
  | 0,d::r=>
   simp only [rn];split
   ·exact h
   ·exact De (t 1 a dp d st.step h) (fun u q=>De (ih _ _ _ _ _ _ (fun x f=>hl x (by simp [List.mem_singleton.1 f])) q) (fun y b=>ih _ _ _ _ _ _ (fun x f=>hl x (by simp [f])) b))
  | 1,[]=>exact h
  | 1,d::r=>
   have p:=hl d (by simp);simp only [rn];split
   ·exact De (ih _ _ _ _ _ (st.args K fs d) (hb _) h) (fun u q=>De (t _ _ _ _ _ q) (fun y b=>b))
   ·split
    ·split
     ·exact ih _ _ _ _ _ _ (he k d p) h
     ·exact ih _ _ _ _ _ _ (ht k d p) h
    ·split
     ·exact ih _ _ _ _ _ _ (fun x f=>by rw [List.mem_singleton.1 f];exact p) h
     ·show ∀ e∈(DR K ins d a st).ev,Q e
      unfold DR;split
      ·exact h
      ·split
       ·exact h
       ·split
        ·rename_i C
         exact tl _ _ h ((hk k d p a _).1 C)
        ·split
         ·rename_i B
          exact tl (st.setv _ _) _ h ((hk k d p a _).2.1 B)
         ·split
          ·rename_i A
           exact tl (st.setv _ _) _ h ((hk k d p a _).2.2 A)
          ·exact h
  | m+2,[]=>exact h
  | m+2,d::r=>
   have p:=hl d (by simp);simp only [rn];split
   ·exact h
   ·refine De (ih _ _ _ _ _ _ (ht k d p) h) (fun u q=>?_)
    split
    ·exact q
    ·exact De (t 2 a dp d u.step q) (fun y b=>ih _ _ _ _ _ _ (fun x f=>by rw [List.mem_singleton.1 f];exact p) b)
def okK (K vn yn on:Nat) (fs:List FnD) (k:Nat) (d:D):Prop:=∃ f,okS K vn yn on f fs k d
theorem okK.one {K vn yn on:Nat} {fs:List FnD} {k:Nat} {d:D} (h:okK K vn yn on fs k d):(∃ f,Cx K vn yn on f fs d)/\(∀ s∈Aj d,okK K vn yn on fs (k - 1) s)/\∀ s∈Ao d,okK K vn yn on fs (k - 1) s:=by
 obtain ⟨f,h⟩:=h
 cases k with
 | zero=>exact h.elim
 | succ k=>exact ⟨⟨f,h.1⟩,fun s b=>⟨f,h.2.1 s b⟩,fun s b=>⟨f,h.2.2 s b⟩⟩
section
variable {K kf:Nat} {m:Int} {vn yn on sn:Nat} {gs:List (Int × Int)} {sp:List Int} {ls ms:List Lab} {vs:List (Bool × Lab)} {fs:List FnD} {l:List D}
theorem okK.body (hX:Ey.xP K kf m vn yn on sn gs sp ls ms vs fs l) (i:Int):∀ s∈(BV fs i).body,okK K vn yn on fs kf s:=by
 unfold BV;intro s b;rw [List.getD_eq_getElem?_getD] at b;by_cases hi:i.toNat < fs.length
 ·rw [List.getElem?_eq_getElem hi] at b
  exact ⟨_,((hX.body _ hi).2.2.2.1 s b).ok⟩
 ·rw [List.getElem?_eq_none (by omega)] at b
  cases b
theorem okK.main (hX:Ey.xP K kf m vn yn on sn gs sp ls ms vs fs l):∀ s∈l,okK K vn yn on fs kf s:=fun s hs=>⟨_,(hX.main s hs).ok⟩
theorem JC (q:Nat) (L:Lev):CB false q L=low q L:=by
 unfold CB low;rw [if_neg (by decide),List.getD_eq_getElem?_getD]
theorem Kk {α:Type} (f:α->Bool) (g:α->Lev) (q:Nat) (hfg:∀ x,f x=low q (g x)) (l:List α) (i:Nat):(l.map f).getD i false=low q ((l.map g).getD i Ah):=by
 rw [List.getD_eq_getElem?_getD,List.getD_eq_getElem?_getD,List.getElem?_map,List.getElem?_map]
 cases l[i]? with
 | none=>rfl
 | some x=>exact hfg x
abbrev J3 (n q:Nat) (gs:List (Int × Int)) (ms:List Lab) (st:ISt):Ev4->Bool:=Dh (Gt n false q gs ms) (st.vs.map (CB false q))
theorem wfW {n q:Nat} {st:ISt} (hX:Ey.xP K kf m vn yn on sn gs sp ls ms vs fs l) (hv:vn=vs.length) (hi:B2 n K kf gs vs ls fs l st) (hq:q < n) (c:WK) (fl) (hc:c=⟨n,K,ls.map (Ar (Ax gs) n),ms.map (Ar (Ax gs) n),vs.map Prod.fst,vs.map (fun v=>Ar (Ax gs) n v.2),fs,fl⟩):Wf c (J3 n q gs ms st) q vn kf (okK K vn yn on fs):=by
 subst hc;refine ⟨hq,fun a u v=>?_,fun k a x v hk g=>?_,fun k d h=>?_,fun k d h s=>?_,fun k d h=>h.one.2.1,fun k d h=>h.one.2.2,okK.body hX⟩
 ·show (if (1:Int)=1 then Gt n false q gs ms else _).getD u.toNat false=_
  rw [if_pos rfl];exact Kk _ _ q (fun x=>JC q _) ms _
 ·have b:¬ k=1:=by omega
  show (if k=1 then _ else st.vs.map (CB false q)).getD x.toNat false=_;rw [if_neg b];obtain ⟨i,e⟩:=LR g;have t:=Hs hi _ i e;have p:=Kk (CB false q) id q (fun x=>JC q x) st.vs x.toNat;rw [List.map_id] at p;rw [p,t];simp [List.getD_eq_getElem?_getD,i]
 ·obtain ⟨⟨f,b⟩,-⟩:=h.one
  exact b.1
 ·obtain ⟨⟨f,b⟩,-⟩:=h.one
  have:=b.2.1 (by omega);omega
def FZ (n q:Nat) (touch:Bool) (gs:List (Int × Int)) (ls:List Lab) (ins others:List (List Int)):List (List Int):=
 (List.range ins.length).map fun i=>if CB touch q (Ar (Ax gs) n (ls.getD i ⟨[],[]⟩))=true\/others.length<=i then ins.getD i [] else others.getD i []
theorem Ph (n q:Nat) (gs) (ls:List Lab) (ins others:List (List Int)) (i:Nat) (h:low q ((ls.map (Ar (Ax gs) n)).getD i Ah)=true):ins.getD i []=(FZ n q false gs ls ins others).getD i []:=by
 unfold FZ;by_cases hi:i < ins.length
 ·have b:CB false q (Ar (Ax gs) n (ls.getD i ⟨[],[]⟩))=true:=by
   rw [JC];by_cases hl:i < ls.length
   ·simpa [List.getD_eq_getElem?_getD,hl] using h
   ·rw [List.getD_eq_getElem?_getD,List.getElem?_eq_none (by simp;omega)] at h
    cases h
  rw [List.getD_eq_getElem?_getD (l:=List.map _ _),List.getElem?_map,List.getElem?_range hi];show _=(if _ then _ else _);rw [if_pos (Or.inl b)]
 ·rw [List.getD_eq_getElem?_getD,List.getD_eq_getElem?_getD,List.getElem?_eq_none (by omega),List.getElem?_eq_none (by simp;omega)]
theorem JU {n q F:Nat} {st:ISt} {ins others:List (List Int)} (hX:Ey.xP K kf m vn yn on sn gs sp ls ms vs fs l) (hv:vn=vs.length) (hi:B2 n K kf gs vs ls fs l st) (hq:q < n) (fl) :
  Alk 2 ((Bz n K kf F ins gs ls ms vs fs l fl vn yn).ev.filter (J3 n q gs ms st)) ((Bz n K kf F (FZ n q false gs ls ins others) gs ls ms vs fs l fl vn yn).ev.filter (J3 n q gs ms st)):=by
 obtain ⟨c,b⟩:∃ c:WK,c=⟨n,K,ls.map (Ar (Ax gs) n),ms.map (Ar (Ax gs) n),vs.map Prod.fst,vs.map (fun v=>Ar (Ax gs) n v.2),fs,fl⟩:=⟨_,rfl⟩;have hW:=wfW hX hv hi hq c fl b;have i:c.n=n:=by rw [b]
 have g:c.K=K:=by rw [b]
 have f:c.fs=fs:=by rw [b]
 have e:c.ins=ls.map (Ar (Ax gs) n):=by rw [b]
 unfold Bz;rw [<-b];have h:=Ly (yn:=yn) (F:=F) hW (ins:=ins) (ins':=FZ n q false gs ls ins others) (fun k hl=>Ph n q gs ls ins others k (by rw [<-e];exact hl)) l (okK.main hX);rw [i,g,f] at h;exact h
theorem IC {n F:Nat} {ins:List (List Int)} (hX:Ey.xP K kf m vn yn on sn gs sp ls ms vs fs l) (fl):FH on vn (Bz n K kf F ins gs ls ms vs fs l fl vn yn).ev=0:=by
 have h:∀ e∈(Bz n K kf F ins gs ls ms vs fs l fl vn yn).ev,EV e=false/\C7 on vn e=false:=by
  unfold Bz Jk;rw [Ma];refine Sm (P:=okK K vn yn on fs) (fun k d h a v=>?_) (fun k d h=>h.one.2.1) (fun k d h=>h.one.2.2) (okK.body hX) _ _ _ _ _ _ _ (okK.main hX) (fun e b=>by cases b);obtain ⟨⟨f,g⟩,-⟩:=h.one;refine ⟨fun i=>?_,fun q=>?_,fun p=>?_⟩
  ·have:=g.2.2.2.2.2.2 i
   refine ⟨rfl,?_⟩;simp [C7];omega
  ·have:=g.2.1 (by omega)
   refine ⟨rfl,?_⟩;simp [C7];omega
  ·have:=g.2.1 (by omega)
   refine ⟨rfl,?_⟩;simp [C7];omega
 unfold FH;rw [if_neg,if_neg]
 ·rw [Bool.not_eq_true,List.any_eq_false]
  exact fun e b=>by rw [(h e b).2];decide
 ·rw [Bool.not_eq_true,List.any_eq_false]
  exact fun e b=>by rw [(h e b).1];decide
end
end Go.Proofs.YtfffpjkcfnekaaaGreat.Ex
