/- Who sees the same coming in sees the same happen, watched: plain. -/
import Derived.Test.YtfffpjkcfnekaaaGreatE13
set_option linter.unusedVariables false
set_option maxHeartbeats 8000000
set_option maxRecDepth 100000
namespace Go.Proofs.YtfffpjkcfnekaaaGreat.Ex
open Go.RowKit
open Go.Value renaming slice -> O, int -> zd, bool -> zg, agg -> zh, pointer -> zi, tuple -> zk
open Go.IntKind renaming i64 -> U
open Go.Obj renaming cells -> ze
open Go.Ending renaming returned -> zj
def low (q:Nat) (l:Lev):Bool:=l.r[q]?.getD false
theorem Eg {q n:Nat} (h:q < n) (a b:Lev):low q (BA a b n)=(low q a && low q b):=by
 unfold low BA;simp only [DM _ h,GF]
theorem Kl {q n:Nat} (h:q < n) (L:List Lev):∀ (vs:List Int) (p:Lev),low q (A6 n L p vs)=(low q p && vs.all (fun v=>low q (L.getD v.toNat Ah)))
 | [],p=>by simp [A6]
 | v::vs,p=>by
  show low q (A6 n L (BA p _ n) vs)=_;rw [Kl h L vs,Eg h];simp [Bool.and_assoc]
theorem EN {q n:Nat} (h:q < n) {a b:Lev} (hf:Av a b n=true) (hb:low q b=true):low q a=true:=(BL.1 hf q h).1 hb
theorem Dq {q n:Nat} (h:q < n) {a b:Lev} (hf:Av a b n=true) (ha:low q a=false):low q b=false:=by
 cases hb:low q b with
 | false=>rfl
 | true=>rw [EN h hf hb] at ha;cases ha
theorem EB {vs vs':List Int}:∀ (K:Nat) (d:D),(∀ v∈AG K d,vs.getD v.toNat 0=vs'.getD v.toNat 0)->AC vs K d=AC vs' K d
 | 0,d,_=>rfl
 | k+1,d,h=>by
  simp only [AC,AG] at h ⊢;by_cases h2:AQ d=2
  ·rw [if_pos h2] at h
   have:=h _ (List.mem_singleton.2 rfl);simp only [if_pos h2,this]
  ·rw [if_neg h2] at h
   simp only [if_neg h2];split
   ·rfl
   ·split
    ·rename_i x y he
     rw [he] at h;rw [EB k x (fun v hv=>h v (by simp [hv])),EB k y (fun v hv=>h v (by simp [hv]))]
    ·rfl
def Alk (kd:Int):List Ev4->List Ev4->Prop
 | x::a,y::b=>(x=y/\Alk kd a b)\/(x≠y/\x.1=kd/\y.1=kd/\x.2.1=y.2.1/\x.2.2.1=y.2.2.1)
 | _,_=>True
theorem Alk.nilL (kd:Int) (b):Alk kd [] b:=by cases b <;> trivial
theorem Alk.nilR (kd:Int) (a):Alk kd a []:=by cases a <;> trivial
theorem Alk.app {kd:Int} {a b:List Ev4}:∀ (c:List Ev4),Alk kd a b->Alk kd (c++a) (c++b)
 | [],h=>h
 | x::c,h=>Or.inl ⟨rfl,Alk.app c h⟩
theorem Alk.left (kd:Int) (c d):Alk kd c (c++d):=by
 have:=Alk.app c (Alk.nilL kd d)
 rwa [List.append_nil] at this
theorem Alk.right (kd:Int) (c d):Alk kd (c++d) c:=by
 have:=Alk.app c (Alk.nilR kd d)
 rwa [List.append_nil] at this
theorem Lg (r:Bool × RSt) (f h:RSt->Bool × RSt):A0 (A0 r f) h=A0 r (fun x=>A0 (f x) h):=by
 unfold A0;by_cases h1:r.1=true
 ·simp only [if_pos h1]
 ·simp only [if_neg h1]
section
variable (q:Nat) (c:WK) (seen:Ev4->Bool)
structure BF (dp:Nat) (s s':RSt):Prop where
 lv:∀ i,low q (s'.o.vs.getD i Ah)=low q (s.o.vs.getD i Ah)
 va:∀ i,low q (s.o.vs.getD i Ah)=true->s'.vars.getD i 0=s.vars.getD i 0
 ps:∀ j,j<=dp->s'.o.ps.getD j Ah=s.o.ps.getD j Ah
 tk:∀ ch,low q (c.ins.getD ch Ah)=true->s'.taken.getD ch 0=s.taken.getD ch 0
 ev:s'.ev.filter seen=s.ev.filter seen
 tl:s'.taken.length=s.taken.length
structure Lq (dp:Nat) (s t:RSt):Prop where
 lv:∀ i,low q (s.o.vs.getD i Ah)=low q (t.o.vs.getD i Ah)
 va:∀ i,low q (s.o.vs.getD i Ah)=true->s.vars.getD i 0=t.vars.getD i 0
 ps:∀ j,j<=dp->low q (s.o.ps.getD j Ah)=low q (t.o.ps.getD j Ah)
 tk:∀ ch,low q (c.ins.getD ch Ah)=true->s.taken.getD ch 0=t.taken.getD ch 0
 ev:s.ev.filter seen=t.ev.filter seen
 tl:s.taken.length=t.taken.length
structure Iv (vn dp:Nat) (s:RSt):Prop where
 known:FN c s.o
 l1:s.o.vs.length=vn
 l2:s.vars.length=vn
 l3:dp < s.o.ps.length
end
section
variable {q:Nat} {c:WK} {seen:Ev4->Bool}
theorem BF.refl (dp:Nat) (s):BF q c seen dp s s:=⟨fun _=>rfl,fun _ _=>rfl,fun _ _=>rfl,fun _ _=>rfl,rfl,rfl⟩
theorem BF.trans {dp:Nat} {s t u:RSt} (h:BF q c seen dp s t) (k:BF q c seen dp t u):BF q c seen dp s u:=
 ⟨fun i=>(k.lv i).trans (h.lv i),fun i hi=>(k.va i (by rw [h.lv];exact hi)).trans (h.va i hi),fun j hj=>(k.ps j hj).trans (h.ps j hj),fun ch hc=>(k.tk ch hc).trans (h.tk ch hc),k.ev.trans h.ev,k.tl.trans h.tl⟩
theorem BF.less {dp dp':Nat} {s t:RSt} (h:BF q c seen dp s t) (hd:dp'<=dp):BF q c seen dp' s t:=⟨h.lv,h.va,fun j hj=>h.ps j (Nat.le_trans hj hd),h.tk,h.ev,h.tl⟩
theorem Lq.less {dp dp':Nat} {s t:RSt} (h:Lq q c seen dp s t) (hd:dp'<=dp):Lq q c seen dp' s t:=⟨h.lv,h.va,fun j hj=>h.ps j (Nat.le_trans hj hd),h.tk,h.ev,h.tl⟩
theorem Lq.conf {dp:Nat} {s t s' t':RSt} (h:Lq q c seen dp s t) (h1:BF q c seen dp s s') (h2:BF q c seen dp t t'):Lq q c seen dp s' t':=
 ⟨fun i=>by rw [h1.lv,h2.lv,h.lv],fun i hi=>by
  rw [h1.lv] at hi;rw [h1.va i hi,h2.va i (by rw [<-h.lv];exact hi),h.va i hi],fun j hj=>by rw [h1.ps j hj,h2.ps j hj,h.ps j hj],fun ch hc=>by rw [h1.tk ch hc,h2.tk ch hc,h.tk ch hc],by rw [h1.ev,h2.ev,h.ev],by rw [h1.tl,h2.tl,h.tl]⟩
theorem Iv.less {vn dp dp':Nat} {s:RSt} (h:Iv c vn dp s) (hd:dp'<=dp):Iv c vn dp' s:=⟨h.known,h.l1,h.l2,Nat.lt_of_le_of_lt hd h.l3⟩
theorem CQ (s:WSt) (dp:Nat) (p) (h:dp < s.ps.length):(s.enter dp p).ps.getD (dp+1) Ah=p:=by
 unfold WSt.enter;simp only [List.getD_eq_getElem?_getD];rw [List.getElem?_append_right (by simp;omega)];simp [Nat.min_eq_left (Nat.succ_le_of_lt h)]
theorem D1 (s:WSt) (dp:Nat) (p) (h:dp < s.ps.length) (j:Nat) (hj:j<=dp):(s.enter dp p).ps.getD j Ah=s.ps.getD j Ah:=by
 unfold WSt.enter;simp only [List.getD_eq_getElem?_getD];rw [List.getElem?_append_left (by simp;omega),List.getElem?_take_of_lt (by omega)]
theorem Me (s:WSt) (dp:Nat) (p) (h:dp < s.ps.length):(s.enter dp p).ps.length=dp+2:=by
 unfold WSt.enter;simp;omega
def RSt.lay (st:RSt) (v:Int) (l:Lev) (x:Int):RSt:={ st with vars:=st.vars.set v.toNat x,o:=⟨st.o.vs.set v.toNat l,st.o.ps⟩ }
theorem Dd {l:List Int} {i j:Nat} {x:Int}:(l.set i x).getD j 0=if i=j/\i < l.length then x else l.getD j 0:=KU
theorem BF.lay {dp:Nat} (s:RSt) (v:Int) {l:Lev} (x:Int) (h1:low q (s.o.vs.getD v.toNat Ah)=false) (h2:low q l=false):BF q c seen dp s (s.lay v l x):=by
 refine ⟨fun i=>?_,fun i a=>?_,fun _ _=>rfl,fun _ _=>rfl,rfl,rfl⟩
 ·show low q ((s.o.vs.set v.toNat l).getD i Ah)=_
  rw [DE];split
  ·rename_i h
   rw [h2,<-h.1,h1]
  ·rfl
 ·show (s.vars.set v.toNat x).getD i 0=_
  rw [Dd];split
  ·rename_i h
   rw [<-h.1,h1] at a;cases a
  ·rfl
theorem Lq.lay {dp vn:Nat} {s t:RSt} (h:Lq q c seen dp s t) (hs:Iv c vn dp s) (ht:Iv c vn dp t) (v:Int) {l m:Lev} {x y:Int} (h1:low q l=low q m) (h2:low q l=true->x=y):Lq q c seen dp (s.lay v l x) (t.lay v m y):=by
 refine ⟨fun i=>?_,fun i d=>?_,h.ps,h.tk,h.ev,h.tl⟩
 ·show low q ((s.o.vs.set v.toNat l).getD i Ah)=low q ((t.o.vs.set v.toNat m).getD i Ah)
  rw [DE,DE,hs.l1,ht.l1];split
  ·exact h1
  ·exact h.lv i
 ·show (s.vars.set v.toNat x).getD i 0=(t.vars.set v.toNat y).getD i 0
  have a:low q ((s.o.vs.set v.toNat l).getD i Ah)=true:=d;rw [DE] at a;rw [Dd,Dd,hs.l2,ht.l2];rw [hs.l1] at a;by_cases hv:v.toNat=i/\v.toNat < vn
  ·rw [if_pos hv,if_pos hv]
   rw [if_pos ⟨hv.1,hv.1 ▸ hv.2⟩] at a;exact h2 a
  ·rw [if_neg hv,if_neg hv]
   rw [if_neg (fun (b:v.toNat=i/\i < vn)=>hv ⟨b.1,b.1 ▸ b.2⟩)] at a;exact h.va i a
theorem Iv.lay {vn dp:Nat} {s:RSt} (h:Iv c vn dp s) {v:Int} {l:Lev} (x:Int) (hm:c.known.getD v.toNat false=true->Av l (c.bound.getD v.toNat Ah) c.n=true):Iv c vn dp (s.lay v l x):=
 ⟨h.known.set hm,by show (s.o.vs.set _ _).length=vn;simp [h.l1],by show (s.vars.set _ _).length=vn;simp [h.l2],h.l3⟩
theorem Fg {s:WSt} {p:Lev} {v:Int} {l:Lev} (h:Cr c s p v l=true):Av p (s.vs.getD v.toNat Ah) c.n=true:=by
 unfold Cr at h;exact (Bool.and_eq_true _ _ ▸ h).1
def stp (c:WK) (kf F:Nat) (ins:List (List Int)) (g k:Nat) (d:D) (a:Int) (dp:Nat) (st:RSt):Bool × RSt:=
 A0 (Bq (obW c) 1 a dp d st) (fun st1=>rn c.K kf c.fs F ins (obW c) g 1 k [d] a dp st1)
theorem Fy (kf F:Nat) (ins) (g k:Nat) (d:D) (r) (a:Int) (dp:Nat) (st:RSt):rn c.K kf c.fs F ins (obW c) (g+1) 0 k (d::r) a dp st=if st.steps=F then (false,st.out) else A0 (stp c kf F ins g k d a dp st.step) (fun st'=>rn c.K kf c.fs F ins (obW c) g 0 k r (a+CY k d) dp st'):=by
 simp only [rn];unfold stp;rw [Lg]
theorem DP {ob:Ob} {kind:Nat} {a:Int} {dp:Nat} {d:D} {st:RSt} (h:(ob kind a dp d st.o).1=false):Bq ob kind a dp d st=(false,st.stop a (ob kind a dp d st.o).2):=by
 unfold Bq;rw [h];simp
theorem Cq {ob:Ob} {kind:Nat} {a:Int} {dp:Nat} {d:D} {st:RSt} (h:(ob kind a dp d st.o).1=true):Bq ob kind a dp d st=(true,st.held (ob kind a dp d st.o).2):=by
 unfold Bq;rw [h];simp
theorem Er (st:RSt) (f):A0 (false,st) f=(false,st):=rfl
theorem CL (st:RSt) (f):A0 (true,st) f=f st:=rfl
theorem Gv {a:Int} {dp:Nat} {d:D} {s:WSt} (h7:Ag d≠7) (h8:Ag d≠8):obW c 1 a dp d s=doX c s a d (s.ps.getD dp Ah):=by
 unfold obW;rw [if_neg (by decide),if_neg (by decide),if_neg (by rintro (h | h);exact h7 h;exact h8 h)]
theorem Ru {a:Int} {dp:Nat} {d:D} {s:WSt} (h:Ag d=7\/Ag d=8):obW c 1 a dp d s=(true,s.enter dp (withX c s (s.ps.getD dp Ah) (Am d))):=by
 unfold obW;rw [if_neg (by decide),if_neg (by decide),if_pos h]
theorem DB {a:Int} {dp:Nat} {d:D} {s:WSt}:obW c 2 a dp d s=(true,s.enter dp (withX c s (s.ps.getD (dp+1) Ah) (Am d))):=by
 unfold obW;rw [if_pos rfl]
theorem Js {a:Int} {dp:Nat} {d:D} {s:WSt}:obW c 3 a dp d s=CC c s (s.ps.getD dp Ah) (Ap d) (withX c s (s.ps.getD dp Ah) (BV c.fs (Ae d)).res):=by
 unfold obW;rw [if_neg (by decide),if_pos rfl]
theorem H9 {s:WSt} {p:Lev} {v:Int} {l:Lev} (h:Cr c s p v l=true):CC c s p v l=(true,⟨s.vs.set v.toNat l,s.ps⟩):=by
 unfold CC;rw [if_pos h]
theorem M3 {s:WSt} {p:Lev} {v:Int} {l:Lev} (h:Cr c s p v l=false):CC c s p v l=(false,s):=by
 unfold CC;rw [h];simp
theorem DC (hq:q < c.n) (s:WSt) (p) (e):low q (withX c s p e)=(low q p && (AG c.K e).all (fun v=>low q (s.vs.getD v.toNat Ah))):=Kl hq _ _ _
theorem CA (hq:q < c.n) (s:WSt) {p:Lev} (e) (hp:low q p=false):low q (withX c s p e)=false:=by
 rw [DC hq,hp];rfl
def Dg (c:WK) (s:WSt) (p:Lev) (d:D):Lev:=
 if Ag d=3 then BA (c.ins.getD (Ae d).toNat Ah) p c.n
 else if Ag d=5 then ⟨(c.bound.getD (Ap d).toNat Ah).r,(withX c s p (Am d)).w⟩
 else if Ag d=6 then ⟨(withX c s p (Am d)).r,(c.bound.getD (Ap d).toNat Ah).w⟩
 else withX c s p (Am d)
def FF (c:WK) (ins:List (List Int)) (st:RSt) (d:D):Int:=if Ag d=3 then Dj ins st (Ae d) else AC st.vars c.K (Am d)
def RSt.beside (st:RSt) (d:D) (a x:Int):RSt:=
 if Ag d=3 then st.took (Ae d) else if Ag d=5 then st.tell (2,a,Ap d,x) else if Ag d=6 then st.tell (3,a,Ap d,x) else st
theorem Jh (kf F:Nat) (ins) (g k:Nat) (d:D) (a:Int) (dp:Nat) (st:RSt) (hd:Ag d=1\/Ag d=3\/Ag d=5\/Ag d=6) :
  (∃ o',stp c kf F ins (g+1) k d a dp st=(false,st.stop a o')/\o'=st.o)\/(Cr c st.o (st.o.ps.getD dp Ah) (Ap d) (Dg c st.o (st.o.ps.getD dp Ah) d)=true/\(Ag d=3->Av (st.o.ps.getD dp Ah) (c.ins.getD (Ae d).toNat Ah) c.n=true)/\(Ag d=5\/Ag d=6->c.known.getD (Ap d).toNat false=true) /\
   stp c kf F ins (g+1) k d a dp st=(true,(st.lay (Ap d) (Dg c st.o (st.o.ps.getD dp Ah) d) (FF c ins st d)).beside d a (FF c ins st d))):=by
 have l:Ag d≠7:=by omega
 have j:Ag d≠8:=by omega
 have q:Ag d≠2:=by omega
 have r:Ag d≠4:=by omega
 have m:∀ u,rn c.K kf c.fs F ins (obW c) (g+1) 1 k [d] a dp u=(true,DR c.K ins d a u):=fun u=>by
  simp only [rn];rw [if_neg q,if_neg l,if_neg j]
 obtain ⟨b,e,p⟩:∃ b:i,f c st.o a d (st.o.ps.getD dp Ah)=(if b=true then s c st.o (st.o.ps.getD dp Ah) (Ap d) (Dg c st.o (st.o.ps.getD dp Ah) d) else (false,st.o))/\(b=true->(Ag d=3->Av (st.o.ps.getD dp Ah) (c.ins.getD (Ae d).toNat Ah) c.n=true)/\(Ag d=5\/Ag d=6->c.known.getD (Ap d).toNat false=true)):=by
  rcases hd with hd | hd | hd | hd
  ·exact ⟨true,by unfold f Dg;simp [hd],fun _=>⟨fun h=>by omega,fun h=>by omega⟩⟩
  ·exact ⟨Av (st.o.ps.getD dp Ah) (c.ins.getD (Ae d).toNat Ah) c.n,by unfold f Dg;simp [hd],fun h=>⟨fun _=>h,fun h=>by omega⟩⟩
  ·exact ⟨E3 c a d,by unfold f Dg;simp [hd],fun h=>⟨fun h=>by omega,fun _=>by unfold E3 at h;exact (i.and_eq_true _ _ ▸ h).1⟩⟩
  ·exact ⟨E3 c a d,by unfold f Dg;simp [hd],fun h=>⟨fun h=>by omega,fun _=>by unfold E3 at h;exact (i.and_eq_true _ _ ▸ h).1⟩⟩
 cases b with
 | false=>
  left;refine ⟨_,?_,rfl⟩;rw [if_neg (by decide)] at e;unfold stp;rw [DP (by rw [Gv l j,e]),Gv l j,e,Er]
 | true=>
  rw [if_pos rfl] at e;cases hm:Cr c st.o (st.o.ps.getD dp Ah) (Ap d) (Dg c st.o (st.o.ps.getD dp Ah) d) with
  | false=>
   left;refine ⟨_,?_,rfl⟩;rw [M3 hm] at e;unfold stp;rw [DP (by rw [Gv l j,e]),Gv l j,e,Er]
  | true=>
   right;refine ⟨rfl,(p rfl).1,(p rfl).2,?_⟩;rw [H9 hm] at e;unfold stp;rw [Cq (by rw [Gv l j,e]),Gv l j,e,CL,m];congr 1;unfold DR FF RSt.beside;rcases hd with hd | hd | hd | hd <;> simp [hd] <;> rfl
theorem Ji (kf F:Nat) (ins) (g k:Nat) (d:D) (a:Int) (dp:Nat) (st:RSt) (hd:Ag d=4) :
  (∃ o',stp c kf F ins (g+1) k d a dp st=(false,st.stop a o'))\/(Av (withX c st.o (st.o.ps.getD dp Ah) (Am d)) (c.outs.getD (Ae d).toNat Ah) c.n=true/\stp c kf F ins (g+1) k d a dp st=(true,st.tell (1,a,Ae d,AC st.vars c.K (Am d)))):=by
 have b:obW c 1 a dp d st.o=(Av (withX c st.o (st.o.ps.getD dp Ah) (Am d)) (c.outs.getD (Ae d).toNat Ah) c.n,st.o):=by
  rw [Gv (by omega) (by omega)];unfold doX;simp [hd]
 cases hm:Av (withX c st.o (st.o.ps.getD dp Ah) (Am d)) (c.outs.getD (Ae d).toNat Ah) c.n with
 | false=>
  left;refine ⟨(obW c 1 a dp d st.o).2,?_⟩;unfold stp;rw [DP (by rw [b,hm]),Er]
 | true=>
  right;refine ⟨rfl,?_⟩;unfold stp;rw [Cq (by rw [b,hm]),b,CL];simp only [rn];rw [if_neg (by omega),if_neg (by omega),if_neg (by omega)];unfold DR;simp [hd];rfl
def layAll (L:D->Lev) (V:D->Int) (l:List (Int × D)) (st:RSt):RSt:=l.foldl (fun s y=>s.lay y.1 (L y.2) (V y.2)) st
theorem F3 (L:D->Lev) (V:D->Int):∀ (l:List (Int × D)) (st:RSt),layAll L V l st={ st with vars:=BP st.vars (l.map (fun y=>(y.1,V y.2))),o:=⟨setLev st.o.vs (l.map (fun y=>(y.1,L y.2))),st.o.ps⟩ }
 | [],st=>rfl
 | y::l,st=>by
  show layAll L V l (st.lay y.1 (L y.2) (V y.2))=_;rw [F3 L V l];rfl
theorem BF.layAll {dp:Nat} {L:D->Lev} {V:D->Int}:∀ (l:List (Int × D)) (st:RSt),(∀ y∈l,low q (st.o.vs.getD y.1.toNat Ah)=false/\low q (L y.2)=false)->BF q c seen dp st (layAll L V l st)
 | [],st,_=>BF.refl _ _
 | y::l,st,h=>by
  have h1:BF q c seen dp st (st.lay y.1 (L y.2) (V y.2)):=BF.lay st y.1 _ (h y (by simp)).1 (h y (by simp)).2;exact h1.trans (BF.layAll l _ (fun z hz=>by rw [h1.lv];exact h z (by simp [hz])))
theorem Iv.layAll {vn dp:Nat} {L:D->Lev} {V:D->Int}:∀ (l:List (Int × D)) (st:RSt),Iv c vn dp st->(∀ y∈l,c.known.getD y.1.toNat false=true->Av (L y.2) (c.bound.getD y.1.toNat Ah) c.n=true)->Iv c vn dp (layAll L V l st)
 | [],st,h,_=>h
 | y::l,st,h,hl=>Iv.layAll l _ (h.lay _ (hl y (by simp))) (fun z hz=>hl z (by simp [hz]))
theorem Lq.layAll {vn dp:Nat} {L L':D->Lev} {V V':D->Int}:∀ (l:List (Int × D)) (s t:RSt),Lq q c seen dp s t->Iv c vn dp s->Iv c vn dp t->(∀ y∈l,c.known.getD y.1.toNat false=true->Av (L y.2) (c.bound.getD y.1.toNat Ah) c.n=true/\Av (L' y.2) (c.bound.getD y.1.toNat Ah) c.n=true)->(∀ y∈l,low q (L y.2)=low q (L' y.2)/\(low q (L y.2)=true->V y.2=V' y.2))->Lq q c seen dp (layAll L V l s) (layAll L' V' l t)
 | [],s,t,h,_,_,_,_=>h
 | y::l,s,t,h,hs,ht,hk,hl=>Lq.layAll l _ _ (h.lay hs ht y.1 (hl y (by simp)).1 (hl y (by simp)).2) (hs.lay _ (fun hh=>(hk y (by simp) hh).1)) (ht.lay _ (fun hh=>(hk y (by simp) hh).2)) (fun z hz=>hk z (by simp [hz])) (fun z hz=>hl z (by simp [hz]))
def J9 (c:WK) (d:D):List (Int × D):=(BV c.fs (Ae d)).ps.zip (Ai d)
def CS (c:WK) (p:Lev) (d:D) (st:RSt):RSt:=layAll (withX c st.o p) (AC st.vars c.K) (J9 c d) st
def Li (c:WK) (a:Int) (dp:Nat) (d:D) (st:RSt):Bool × RSt:=A0 (Bq (obW c) 3 a dp d st) (fun st'=>(true,st'.setv (Ap d) (AC st'.vars c.K (BV c.fs (Ae d)).res)))
theorem Ic (a:Int) (dp:Nat) (d:D) (st:RSt):(∃ o',Li c a dp d st=(false,st.stop a o'))\/(Cr c st.o (st.o.ps.getD dp Ah) (Ap d) (withX c st.o (st.o.ps.getD dp Ah) (BV c.fs (Ae d)).res)=true/\Li c a dp d st=(true,st.lay (Ap d) (withX c st.o (st.o.ps.getD dp Ah) (BV c.fs (Ae d)).res) (AC st.vars c.K (BV c.fs (Ae d)).res))):=by
 unfold Li;cases hm:Cr c st.o (st.o.ps.getD dp Ah) (Ap d) (withX c st.o (st.o.ps.getD dp Ah) (BV c.fs (Ae d)).res) with
 | false=>
  left;refine ⟨(obW c 3 a dp d st.o).2,?_⟩;rw [DP (by rw [Js,M3 hm]),Er]
 | true=>
  right;refine ⟨rfl,?_⟩;rw [Cq (by rw [Js,H9 hm]),Js,H9 hm,CL];rfl
theorem GD (s:WSt) (p:Lev) (d:D):C6 c s p d=(J9 c d).map (fun y=>(y.1,withX c s p y.2)):=by
 unfold C6 J9;rw [List.zip_map_right];rfl
theorem G5 (kf F:Nat) (ins) (g k:Nat) (d:D) (a:Int) (dp:Nat) (st:RSt) (hd:Ag d=2) :
  (∃ o',stp c kf F ins (g+1) k d a dp st=(false,st.stop a o'))\/((∀ y∈J9 c d,Cr c st.o (st.o.ps.getD dp Ah) y.1 (withX c st.o (st.o.ps.getD dp Ah) y.2)=true)/\stp c kf F ins (g+1) k d a dp st=A0 (rn c.K kf c.fs F ins (obW c) g 0 kf (BV c.fs (Ae d)).body (A2 kf (c.fs.take (Ae d).toNat)) dp (CS c (st.o.ps.getD dp Ah) d st)) (Li c a dp d)):=by
 have b:obW c 1 a dp d st.o=Es c st.o (st.o.ps.getD dp Ah) d:=by
  rw [Gv (by omega) (by omega)];unfold doX;simp [hd]
 cases hm:(C6 c st.o (st.o.ps.getD dp Ah) d).all (fun x=>Cr c st.o (st.o.ps.getD dp Ah) x.1 x.2) with
 | false=>
  left;refine ⟨(obW c 1 a dp d st.o).2,?_⟩;unfold stp;rw [DP (by rw [b];unfold Es;rw [hm];rfl),Er]
 | true=>
  right;constructor
  ·intro y f
   rw [GD] at hm;exact List.all_eq_true.1 hm (y.1,withX c st.o (st.o.ps.getD dp Ah) y.2) (List.mem_map.2 ⟨y,f,rfl⟩)
  ·have e:Es c st.o (st.o.ps.getD dp Ah) d=(true,⟨setLev st.o.vs (C6 c st.o (st.o.ps.getD dp Ah) d),st.o.ps⟩):=by
    unfold Es;rw [if_pos hm]
   unfold stp;rw [Cq (by rw [b,e]),b,e,CL];simp only [rn];rw [if_pos hd];have h:(st.held ⟨setLev st.o.vs (C6 c st.o (st.o.ps.getD dp Ah) d),st.o.ps⟩).args c.K c.fs d=CS c (st.o.ps.getD dp Ah) d st:=by
    unfold CS;rw [F3,GD];unfold RSt.args RSt.held J9;rw [List.zip_map_right];rfl
   rw [h];rfl
theorem Lu (kf F:Nat) (ins) (g k:Nat) (d:D) (a:Int) (dp:Nat) (st:RSt) (hd:Ag d=7\/Ag d=8):stp c kf F ins g k d a dp st=rn c.K kf c.fs F ins (obW c) g 1 k [d] a dp (st.held (st.o.enter dp (withX c st.o (st.o.ps.getD dp Ah) (Am d)))):=by
 unfold stp;rw [Cq (by rw [Ru hd]),Ru hd,CL]
structure Wf (c:WK) (seen:Ev4->Bool) (q vn kf:Nat) (P:Nat->D->Prop):Prop where
 who:q < c.n
 put:∀ a ch v,seen (1,a,ch,v)=low q (c.outs.getD ch.toNat Ah)
 tell:∀ k a x v,(k=2\/k=3)->c.known.getD x.toNat false=true->seen (k,a,x,v)=low q (c.bound.getD x.toNat Ah)
 kind:∀ k d,P k d->1<=Ag d/\Ag d<=8
 var:∀ k d,P k d->(Ag d=5\/Ag d=6)->(Ap d).toNat < vn
 then_:∀ k d,P k d->∀ s∈Aj d,P (k - 1) s
 else_:∀ k d,P k d->∀ s∈Ao d,P (k - 1) s
 body:∀ i,∀ s∈(BV c.fs i).body,P kf s
def Hi (q:Nat) (c:WK) (seen:Ev4->Bool) (vn dp:Nat) (st:RSt) (r:Bool × RSt):Prop:=r.2.ev.filter seen=st.ev.filter seen/\(r.1=true->BF q c seen dp st r.2/\Iv c vn dp r.2)
theorem Lf {vn dp:Nat} {st:RSt} {r:Bool × RSt} {f:RSt->Bool × RSt} (h:Hi q c seen vn dp st r) (hf:BF q c seen dp st r.2->Iv c vn dp r.2->Hi q c seen vn dp r.2 (f r.2)):Hi q c seen vn dp st (A0 r f):=by
 unfold A0;split
 ·rename_i g
  obtain ⟨d,e⟩:=h.2 g;have a:=hf d e;exact ⟨a.1.trans h.1,fun b=>⟨d.trans (a.2 b).1,(a.2 b).2⟩⟩
 ·exact h
theorem NT {vn dp dp':Nat} {st:RSt} {r:Bool × RSt} {f:RSt->Bool × RSt} (h:Hi q c seen vn dp st r) (hd:dp'<=dp) (hf:BF q c seen dp st r.2->Iv c vn dp r.2->Hi q c seen vn dp' r.2 (f r.2)):Hi q c seen vn dp' st (A0 r f):=by
 unfold A0;split
 ·rename_i d
  obtain ⟨a,g⟩:=h.2 d;have b:=hf a g;exact ⟨b.1.trans h.1,fun e=>⟨(a.less hd).trans (b.2 e).1,(b.2 e).2⟩⟩
 ·rename_i d
  exact ⟨h.1,fun a=>absurd a d⟩
theorem Hi.no {vn dp:Nat} {st st':RSt} (h:st'.ev=st.ev):Hi q c seen vn dp st (false,st'):=⟨by rw [h],fun h=>by cases h⟩
theorem Hi.yes {vn dp:Nat} {st st':RSt} (h:BF q c seen dp st st') (h2:Iv c vn dp st'):Hi q c seen vn dp st (true,st'):=⟨h.ev,fun _=>⟨h,h2⟩⟩
theorem Hi.less {vn dp dp':Nat} {st:RSt} {r:Bool × RSt} (h:Hi q c seen vn dp st r) (hd:dp'<=dp):Hi q c seen vn dp' st r:=⟨h.1,fun h1=>⟨(h.2 h1).1.less hd,(h.2 h1).2.less hd⟩⟩
theorem Hi.from {vn dp:Nat} {st st':RSt} {r:Bool × RSt} (h:Hi q c seen vn dp st' r) (h2:BF q c seen dp st st'):Hi q c seen vn dp st r:=⟨h.1.trans h2.ev,fun h1=>⟨h2.trans (h.2 h1).1,(h.2 h1).2⟩⟩
theorem BF.tell {dp:Nat} (st:RSt) (e:Ev4) (h:seen e=false):BF q c seen dp st (st.tell e):=⟨fun _=>rfl,fun _ _=>rfl,fun _ _=>rfl,fun _ _=>rfl,by
 show (st.ev++[e]).filter seen=_;rw [List.filter_append];simp [h],rfl⟩
theorem BF.took {dp:Nat} (st:RSt) (ch:Int) (h:low q (c.ins.getD ch.toNat Ah)=false):BF q c seen dp st (st.took ch):=⟨fun _=>rfl,fun _ _=>rfl,fun _ _=>rfl,fun x hx=>by
 show (st.taken.set _ _).getD x 0=_;rw [Dd];split
 ·rename_i hh
  rw [<-hh.1,h] at hx;cases hx
 ·rfl,rfl,by simp [RSt.took]⟩
theorem Iv.tell {vn dp:Nat} {st:RSt} (h:Iv c vn dp st) (e):Iv c vn dp (st.tell e):=⟨h.known,h.l1,h.l2,h.l3⟩
theorem Iv.took {vn dp:Nat} {st:RSt} (h:Iv c vn dp st) (e):Iv c vn dp (st.took e):=⟨h.known,h.l1,h.l2,h.l3⟩
theorem Iv.beside {vn dp:Nat} {st:RSt} (h:Iv c vn dp st) (d) (a x:Int):Iv c vn dp (st.beside d a x):=by
 unfold RSt.beside
 repeat' split
 ·exact h.took _
 ·exact h.tell _
 ·exact h.tell _
 ·exact h
theorem Iv.enter {vn dp:Nat} {st:RSt} (h:Iv c vn dp st) (p):Iv c vn (dp+1) (st.held (st.o.enter dp p)):=⟨h.known,h.l1,h.l2,by
 show dp+1 < (st.o.enter dp p).ps.length;rw [Me _ _ _ h.l3];omega⟩
theorem BF.enter {vn dp:Nat} {st:RSt} (h:Iv c vn dp st) (p):BF q c seen dp st (st.held (st.o.enter dp p)):=⟨fun _=>rfl,fun _ _=>rfl,fun j hj=>D1 _ _ _ h.l3 j hj,fun _ _=>rfl,rfl,rfl⟩
theorem BF.step {dp:Nat} (st:RSt):BF q c seen dp st st.step:=⟨fun _=>rfl,fun _ _=>rfl,fun _ _=>rfl,fun _ _=>rfl,rfl,rfl⟩
theorem Iv.step {vn dp:Nat} {st:RSt} (h:Iv c vn dp st):Iv c vn dp st.step:=⟨h.known,h.l1,h.l2,h.l3⟩
theorem NF {vn dp kf:Nat} {P:Nat->D->Prop} (W:Wf c seen q vn kf P) {st:RSt} (h:Iv c vn dp st) {v:Int} (hv:v.toNat < vn) (hk:c.known.getD v.toNat false=true) (hb:low q (c.bound.getD v.toNat Ah)=true):low q (st.o.vs.getD v.toNat Ah)=true:=
 EN W.who (h.known _ hk (by rw [h.l1];exact hv)) hb
theorem Gm {vn kf F:Nat} {ins:List (List Int)} {P:Nat->D->Prop} (W:Wf c seen q vn kf P):∀ g:Nat,
  (∀ (k:Nat) (l:List D) (a:Int) (dp:Nat) (st:RSt),(∀ s∈l,P k s)->Iv c vn dp st->low q (st.o.ps.getD dp Ah)=false->Hi q c seen vn dp st (rn c.K kf c.fs F ins (obW c) g 0 k l a dp st)) /\
  (∀ (k:Nat) (d:D) (a:Int) (dp:Nat) (st:RSt),P k d->Iv c vn (dp+1) st->low q (st.o.ps.getD (dp+1) Ah)=false->Hi q c seen vn dp st (rn c.K kf c.fs F ins (obW c) g 2 k [d] a dp st)) /\
  (∀ (k:Nat) (d:D) (a:Int) (dp:Nat) (st:RSt),P k d->Iv c vn dp st->low q (st.o.ps.getD dp Ah)=false->Hi q c seen vn dp st (stp c kf F ins g k d a dp st)):=by
 intro g
 induction g with
 | zero=>
  refine ⟨fun k l a dp st _ _ _=>Hi.no rfl,fun k d a dp st _ _ _=>Hi.no rfl,fun k d a dp st _ _ _=>?_⟩;unfold stp;cases h:(obW c 1 a dp d st.o).1 with
  | false=>rw [T h];exact Hi.no rfl
  | true=>rw [Cq h];exact Hi.no rfl
 | succ g ih=>
  obtain ⟨z,I,L⟩:=ih;refine ⟨fun k l a dp st B i b=>?_,fun k d a dp st p i b=>?_,fun k d a dp st p i b=>?_⟩
  ·cases l with
   | nil=>exact Hi.yes (f.refl _ _) i
   | cons d r=>
    rw [Fy];split
    ·exact Hi.no rfl
    ·refine Lf ((L k d a dp st.step (B d (by simp)) i.step b).from (f.step st)) (fun v j=>?_)
     exact z _ _ _ _ _ (fun s M=>B s (by simp [M])) j (by rw [v.ps dp (Nat.le_refl _)];exact b)
  ·simp only [rn]
   split
   ·exact Hi.yes (f.refl _ _) (i.less (Nat.le_succ _))
   ·have Q:=z (k - 1) (Aj d) (a+1) (dp+1) st (W.then_ k d p) i b
    refine NT Q (Nat.le_succ _) (fun v j=>?_);generalize (rn c.K kf c.fs F ins (obW c) g 0 (k - 1) (Aj d) (a+1) (dp+1) st).2=u at v j ⊢;split
    ·exact Hi.no rfl
    ·rw [Cq (by rw [DB]),DB,CL]
     have t:=(j.step).less (Nat.le_succ dp);refine (I k d a dp _ p (t.enter _) ?_).from ((f.step _).trans (f.enter t _));show low q ((WSt.enter _ _ _).ps.getD (dp+1) Ah)=false;rw [CQ _ _ _ t.l3];refine CA W.who _ _ ?_;show low q (u.o.ps.getD (dp+1) Ah)=false;rw [v.ps _ (Nat.le_refl _)];exact b
  ·obtain ⟨S,R⟩:=W.kind k d p
   by_cases h78:Ag d=7\/Ag d=8
   ·rw [Lu _ _ _ _ _ _ _ _ _ h78]
    have x:=i.enter (withX c st.o (st.o.ps.getD dp Ah) (Am d));have n:=f.enter (q:=q) (seen:=seen) i (withX c st.o (st.o.ps.getD dp Ah) (Am d));have C:low q ((st.held (st.o.enter dp (withX c st.o (st.o.ps.getD dp Ah) (Am d)))).o.ps.getD (dp+1) Ah)=false:=by
     show low q ((WSt.enter _ _ _).ps.getD (dp+1) Ah)=false;rw [CQ _ _ _ i.l3];exact CA W.who _ _ b
    generalize st.held (st.o.enter dp (withX c st.o (st.o.ps.getD dp Ah) (Am d)))=u at x n C ⊢;simp only [rn];rw [if_neg (by omega)];rcases h78 with N | h8
    ·rw [if_pos N]
     split
     ·exact ((z _ _ _ _ _ (W.else_ k d p) x C).less (Nat.le_succ _)).from n
     ·exact ((z _ _ _ _ _ (W.then_ k d p) x C).less (Nat.le_succ _)).from n
    ·rw [if_neg (by omega),if_pos h8]
     exact (I _ _ _ _ _ p x C).from n
   ·by_cases h2:Ag d=2
    ·rcases G5 (c:=c) kf F ins g k d a dp st h2 with ⟨E,e⟩ | ⟨m,e⟩
     ·rw [e];exact Hi.no rfl
     ·rw [e]
      have n:f q c seen dp st (CS c (st.o.ps.getD dp Ah) d st):=f.layAll _ _ (fun y G=>⟨Dq W.who (Fg (m y G)) b,CA W.who _ _ b⟩);have x:Iv c vn dp (CS c (st.o.ps.getD dp Ah) d st):=Iv.layAll _ _ i (fun y G=>Br (m y G));refine Lf ((z kf _ _ dp _ (W.body _) x (by rw [n.ps dp (Nat.le_refl _)];exact b)).from n) (fun v j=>?_);generalize (rn c.K kf c.fs F ins (obW c) g 0 kf (BV c.fs (Ae d)).body (A2 kf (c.fs.take (Ae d).toNat)) dp (CS c (st.o.ps.getD dp Ah) d st)).2=u at v j ⊢;have J:low q (u.o.ps.getD dp Ah)=false:=by rw [v.ps dp (Nat.le_refl _)];exact b
      rcases Ic (c:=c) a dp d u with ⟨E,e⟩ | ⟨m,e⟩
      ·rw [e];exact Hi.no rfl
      ·rw [e]
       exact Hi.yes (f.lay _ _ _ (Dq W.who (Fg m) J) (CA W.who _ _ J)) (j.lay _ (Br m))
    ·by_cases h4:Ag d=4
     ·rcases Ji (c:=c) kf F ins g k d a dp st h4 with ⟨E,e⟩ | ⟨m,e⟩
      ·rw [e];exact Hi.no rfl
      ·rw [e]
       exact Hi.yes (f.tell _ _ (by rw [W.put];exact Dq W.who m (CA W.who _ _ b))) (i.tell _)
     ·rcases Jh (c:=c) kf F ins g k d a dp st (by omega) with ⟨E,e,-⟩ | ⟨m,O,H,e⟩
      ·rw [e];exact Hi.no rfl
      ·rw [e]
       have j:=Dq W.who (Fg m) b;have w:(Ag d=5\/Ag d=6)->low q (c.bound.getD (Ap d).toNat Ah)=false:=fun A=>by
        cases hb:low q (c.bound.getD (Ap d).toNat Ah) with
        | false=>rfl
        | true=>rw [NF W i (W.var k d p A) (H A) hb] at j;cases j
       have B:low q (Dg c st.o (st.o.ps.getD dp Ah) d)=false:=by
        unfold Dg;split
        ·rw [Eg W.who,b,Bool.and_false]
        ·split
         ·rename_i h
          exact w (Or.inl h)
         ·split
          ·exact CA W.who _ _ b
          ·exact CA W.who _ _ b
       have n:f q c seen dp st (st.lay (Ap d) (Dg c st.o (st.o.ps.getD dp Ah) d) (FF c ins st d)):=f.lay _ _ _ j B;refine Hi.yes (n.trans ?_) ((i.lay _ (Br m)).beside _ _ _);unfold RSt.beside;split
       ·rename_i h
        exact f.took _ _ (Dq W.who (O h) b)
       ·split
        ·rename_i h
         exact f.tell _ _ (by rw [W.tell _ _ _ _ (Or.inl rfl) (H (Or.inl h))];exact w (Or.inl h))
        ·split
         ·rename_i h
          exact f.tell _ _ (by rw [W.tell _ _ _ _ (Or.inr rfl) (H (Or.inr h))];exact w (Or.inr h))
         ·exact f.refl _ _
def Ovr (seen:Ev4->Bool) (x y:Bool × RSt):Prop:=∀ a b,x.2.ev <+: a->y.2.ev <+: b->(x.1=false->a=x.2.ev)->(y.1=false->b=y.2.ev)->Alk 2 (a.filter seen) (b.filter seen)
def EY (q dp:Nat) (s:RSt):Prop:=∀ j,j<=dp->low q (s.o.ps.getD j Ah)=true
def Res (q:Nat) (c:WK) (seen:Ev4->Bool) (vn dp:Nat) (x y:Bool × RSt):Prop:=
 (x.1=true/\y.1=true/\Lq q c seen dp x.2 y.2/\Iv c vn dp x.2/\Iv c vn dp y.2/\EY q dp x.2)\/Ovr seen x y
theorem Ovr.ended {x y:Bool × RSt} (h:x.2.ev.filter seen=y.2.ev.filter seen) (h2:x.1=false\/y.1=false):Ovr seen x y:=by
 rintro a b ⟨f,rfl⟩ ⟨e,rfl⟩ d c;rw [List.filter_append,List.filter_append,h];rcases h2 with h2 | h2
 ·have:=d h2
  rw [List.append_right_eq_self] at this;rw [this,List.filter_nil,List.append_nil];exact Alk.left _ _ _
 ·have:=c h2
  rw [List.append_right_eq_self] at this;rw [this,List.filter_nil,List.append_nil];exact Alk.right _ _ _
theorem NS {x y:Bool × RSt} {f f':RSt->Bool × RSt} (h:Ovr seen x y) (hg:∀ u,Gr u (f u).2) (hg':∀ u,Gr u (f' u).2):Ovr seen (A0 x f) (A0 y f'):=by
 intro a b c m e n;have d:∀ {z:Bool × RSt} {f:RSt->Bool × RSt} {a:List Ev4},(∀ u,Gr u (f u).2)->(A0 z f).2.ev <+: a->((A0 z f).1=false->a=(A0 z f).2.ev)->z.2.ev <+: a/\(z.1=false->a=z.2.ev):=fun {z f a} hg c e=>by
  unfold A0 at c e;split at c
  ·rename_i g
   exact ⟨(hg _).ev.trans c,fun h=>by rw [g] at h;cases h⟩
  ·rename_i g
   rw [if_neg g] at e;exact ⟨c,e⟩
 obtain ⟨l,k⟩:=d hg c e;obtain ⟨j,i⟩:=d hg' m n;exact h a b l j k i
theorem Gc {vn dp dp':Nat} {x y:Bool × RSt} {f f':RSt->Bool × RSt} (h:Res q c seen vn dp x y) (hf:Lq q c seen dp x.2 y.2->Iv c vn dp x.2->Iv c vn dp y.2->EY q dp x.2->Res q c seen vn dp' (f x.2) (f' y.2)) (hg:∀ u,Gr u (f u).2) (hg':∀ u,Gr u (f' u).2):Res q c seen vn dp' (A0 x f) (A0 y f'):=by
 rcases h with ⟨i,g,e,d,b,a⟩ | h
 ·unfold A0
  rw [if_pos i,if_pos g];exact hf e d b a
 ·exact Or.inr (NS h hg hg')
theorem Res.less {vn dp dp':Nat} {x y:Bool × RSt} (h:Res q c seen vn dp x y) (hd:dp'<=dp):Res q c seen vn dp' x y:=by
 rcases h with ⟨i,g,f,e,d,b⟩ | h
 ·exact Or.inl ⟨i,g,f.less hd,e.less hd,d.less hd,fun j a=>b j (Nat.le_trans a hd)⟩
 ·exact Or.inr h
theorem EY.conf {dp:Nat} {s t:RSt} (h:EY q dp s) (hc:BF q c seen dp s t):EY q dp t:=fun j hj=>by rw [hc.ps j hj];exact h j hj
theorem Res.hi {vn dp:Nat} {s t:RSt} {x y:Bool × RSt} (h:Lq q c seen dp s t) (hl:EY q dp s) (h1:Hi q c seen vn dp s x) (h2:Hi q c seen vn dp t y):Res q c seen vn dp x y:=by
 cases hx:x.1 with
 | false=>exact a.inr (b.ended (by rw [h1.1,h2.1,h.ev]) (a.inl hx))
 | true=>
  cases hy:y.1 with
  | false=>exact a.inr (b.ended (by rw [h1.1,h2.1,h.ev]) (a.inr hy))
  | true=>exact a.inl ⟨hx,hy,h.conf (h1.2 hx).1 (h2.2 hy).1,(h1.2 hx).2,(h2.2 hy).2,hl.conf (h1.2 hx).1⟩
theorem Res.endL {vn dp:Nat} {s t s':RSt} {y:Bool × RSt} (h:Lq q c seen dp s t) (h1:s'.ev=s.ev) (h2:Gr t y.2):Res q c seen vn dp (false,s') y:=by
 refine Or.inr ?_;rintro a b f d e g;rw [e rfl];obtain ⟨i,rfl⟩:=h2.ev.trans d;rw [List.filter_append,<-h.ev];show Alk 2 (s'.ev.filter seen) _;rw [h1];exact Alk.left _ _ _
theorem Res.endR {vn dp:Nat} {s t t':RSt} {x:Bool × RSt} (h:Lq q c seen dp s t) (h1:t'.ev=t.ev) (h2:Gr s x.2):Res q c seen vn dp x (false,t'):=by
 refine Or.inr ?_;rintro a b d f g e;rw [e rfl];obtain ⟨i,rfl⟩:=h2.ev.trans d;rw [List.filter_append,h.ev];show Alk 2 _ (t'.ev.filter seen);rw [h1];exact Alk.right _ _ _
theorem Fb (kf F:Nat) (ins) (g k:Nat) (d:D) (a:Int) (dp:Nat) (st:RSt):Gr st (stp c kf F ins g k d a dp st).2:=CR (Gr.pass _ _ _ _ _ _) (fun u=>Gn _ _ _ _ _ _ _ _ _ _ _ _ _)
theorem GS (a:Int) (dp:Nat) (d:D) (st:RSt):Gr st (Li c a dp d st).2:=CR (Gr.pass _ _ _ _ _ _) (fun u=>Gr.setv _ _ _)
theorem Lq.withX {dp:Nat} (hq:q < c.n) {s t:RSt} (h:Lq q c seen dp s t) {p p':Lev} (hp:low q p=low q p') (e:D):low q (withX c s.o p e)=low q (withX c t.o p' e)/\(low q (Ex.withX c s.o p e)=true->AC s.vars c.K e=AC t.vars c.K e):=by
 rw [DC hq,DC hq,hp];constructor
 ·congr 2
  funext v;exact h.lv _
 ·intro a
  rw [Bool.and_eq_true,List.all_eq_true] at a;exact EB _ _ (fun v b=>h.va _ (a.2 v b))
theorem Lq.step {dp:Nat} {s t:RSt} (h:Lq q c seen dp s t):Lq q c seen dp s.step t.step:=⟨h.lv,h.va,h.ps,h.tk,h.ev,h.tl⟩
theorem Lq.tell {dp:Nat} {s t:RSt} (h:Lq q c seen dp s t) {e e':Ev4} (he:seen e=true\/seen e'=true->e=e'):Lq q c seen dp (s.tell e) (t.tell e'):=⟨h.lv,h.va,h.ps,h.tk,by
 show (s.ev++[e]).filter seen=(t.ev++[e']).filter seen;rw [List.filter_append,List.filter_append,h.ev];congr 1;by_cases h1:seen e=true\/seen e'=true
 ·rw [he h1]
 ·have h2:seen e=false:=by cases hh:seen e with | false=>rfl | true=>exact absurd (b.inl hh) h1
  have a:seen e'=false:=by cases hh:seen e' with | false=>rfl | true=>exact absurd (b.inr hh) h1
  simp [h2,a],h.tl⟩
theorem Lq.took {dp:Nat} {s t:RSt} (h:Lq q c seen dp s t) (ch:Int):Lq q c seen dp (s.took ch) (t.took ch):=⟨h.lv,h.va,h.ps,fun x hx=>by
 show (s.taken.set _ _).getD x 0=(t.taken.set _ _).getD x 0;rw [Dd,Dd,h.tl];split
 ·rename_i hh
  rw [hh.1,h.tk x hx]
 ·exact h.tk x hx,h.ev,by simp [RSt.took,h.tl]⟩
theorem Ovr.told {s t:RSt} (h:s.ev.filter seen=t.ev.filter seen) {e e':Ev4} (h1:seen e=true) (h2:seen e'=true) (hne:e≠e') (hk:e.1=2/\e'.1=2/\e.2.1=e'.2.1/\e.2.2.1=e'.2.2.1) {x y:Bool × RSt} (hx:x.2.ev=s.ev++[e]) (hy:y.2.ev=t.ev++[e']):Ovr seen x y:=by
 rintro a b ⟨d,rfl⟩ ⟨c,rfl⟩ - -;rw [hx,hy,List.filter_append,List.filter_append,List.filter_append,List.filter_append,h];rw [List.append_assoc,List.append_assoc];refine Alk.app _ ?_;rw [List.filter_cons,if_pos h1,List.filter_cons,if_pos h2];exact Or.inr ⟨hne,hk⟩
theorem Lq.enter {vn dp:Nat} {s t:RSt} (h:Lq q c seen dp s t) (hs:Iv c vn dp s) (ht:Iv c vn dp t) {p p':Lev} (hp:low q p=low q p'):Lq q c seen (dp+1) (s.held (s.o.enter dp p)) (t.held (t.o.enter dp p')):=⟨h.lv,h.va,fun j hj=>by
 show low q ((s.o.enter dp p).ps.getD j Ah)=low q ((t.o.enter dp p').ps.getD j Ah);by_cases h1:j=dp+1
 ·subst h1
  rw [CQ _ _ _ hs.l3,CQ _ _ _ ht.l3,hp]
 ·rw [D1 _ _ _ hs.l3 j (by omega),D1 _ _ _ ht.l3 j (by omega),h.ps j (by omega)],h.tk,h.ev,h.tl⟩
theorem EY.enter {vn dp:Nat} {s:RSt} (h:EY q dp s) (hs:Iv c vn dp s) {p:Lev} (hp:low q p=true):EY q (dp+1) (s.held (s.o.enter dp p)):=fun j hj=>by
 show low q ((s.o.enter dp p).ps.getD j Ah)=true;by_cases h1:j=dp+1
 ·subst h1
  rw [CQ _ _ _ hs.l3,hp]
 ·rw [D1 _ _ _ hs.l3 j (by omega)]
  exact h j (by omega)
theorem Rt {kf F:Nat} {ins:List (List Int)} {ob:Ob} {g k:Nat} {d:D} {a:Int} {dp:Nat} {u:RSt} (h:Ag d=7):rn c.K kf c.fs F ins ob (g+1) 1 k [d] a dp u=if AC u.vars c.K (Am d)=0 then rn c.K kf c.fs F ins ob g 0 (k - 1) (Ao d) (a+1+AI (k - 1) (Aj d)) (dp+1) u else rn c.K kf c.fs F ins ob g 0 (k - 1) (Aj d) (a+1) (dp+1) u:=by
 simp only [rn];rw [if_neg (by omega),if_pos h]
theorem Rs {kf F:Nat} {ins:List (List Int)} {ob:Ob} {g k:Nat} {d:D} {a:Int} {dp:Nat} {u:RSt} (h:Ag d=8):rn c.K kf c.fs F ins ob (g+1) 1 k [d] a dp u=rn c.K kf c.fs F ins ob g 2 k [d] a dp u:=by
 simp only [rn];rw [if_neg (by omega),if_neg (by omega),if_pos h]
theorem Sk {vn kf F:Nat} {ins ins':List (List Int)} {P:Nat->D->Prop} (W:Wf c seen q vn kf P) (hins:∀ ch,low q (c.ins.getD ch Ah)=true->ins.getD ch []=ins'.getD ch []):∀ g:Nat,
  (∀ (k:Nat) (l:List D) (a:Int) (dp:Nat) (s t:RSt),(∀ x∈l,P k x)->Lq q c seen dp s t->Iv c vn dp s->Iv c vn dp t->EY q dp s->Res q c seen vn dp (rn c.K kf c.fs F ins (obW c) g 0 k l a dp s) (rn c.K kf c.fs F ins' (obW c) g 0 k l a dp t)) /\
  (∀ (k:Nat) (d:D) (a:Int) (dp:Nat) (s t:RSt),P k d->Lq q c seen (dp+1) s t->Iv c vn (dp+1) s->Iv c vn (dp+1) t->EY q (dp+1) s->(∀ v∈AG c.K (Am d),low q (s.o.vs.getD v.toNat Ah)=true)->Res q c seen vn dp (rn c.K kf c.fs F ins (obW c) g 2 k [d] a dp s) (rn c.K kf c.fs F ins' (obW c) g 2 k [d] a dp t)) /\
  (∀ (k:Nat) (d:D) (a:Int) (dp:Nat) (s t:RSt),P k d->Lq q c seen dp s t->Iv c vn dp s->Iv c vn dp t->EY q dp s->Res q c seen vn dp (stp c kf F ins g k d a dp s) (stp c kf F ins' g k d a dp t)):=by
 intro g
 induction g with
 | zero=>
  refine ⟨fun k l a dp s t _ h _ _ _=>Res.endL h rfl (Gr.refl _),fun k d a dp s t _ h _ _ _ _=>(Res.endL h rfl (Gr.refl _)).less (Nat.le_succ _),fun k d a dp s t _ h _ _ _=>?_⟩;have e:∀ (ins) (u:RSt),∃ u',stp c kf F ins 0 k d a dp u=(false,u')/\u'.ev=u.ev:=fun ins u=>by
   unfold stp;cases hh:(obW c 1 a dp d u.o).1 with
   | false=>rw [DP hh];exact ⟨_,rfl,rfl⟩
   | true=>rw [Cq hh];exact ⟨_,rfl,rfl⟩
  obtain ⟨s',O,S⟩:=e ins s;rw [O];exact Res.endL h S (Fb _ _ _ _ _ _ _ _ _)
 | succ g ih=>
  obtain ⟨iA,iB,iC⟩:=ih;refine ⟨fun k l a dp s t hl h m n A=>?_,fun k d a dp s t H h m n A hV=>?_,fun k d a dp s t H h m n A=>?_⟩
  ·cases l with
   | nil=>exact I.inl ⟨rfl,rfl,h,m,n,A⟩
   | cons d r=>
    rw [Fy,Fy];by_cases h1:s.steps=F
    ·rw [if_pos h1]
     refine Res.endL h rfl ?_;rw [<-Fy];exact Gn _ _ _ _ _ _ _ _ _ _ _ _ _
    ·by_cases h2:t.steps=F
     ·rw [if_pos h2]
      refine Res.endR h rfl ?_;rw [<-Fy];exact Gn _ _ _ _ _ _ _ _ _ _ _ _ _
     ·rw [if_neg h1,if_neg h2]
      refine Gc (iC k d a dp _ _ (hl d (by simp)) h.step m.step n.step A) (fun z R Q Y=>?_) (fun u=>Gn _ _ _ _ _ _ _ _ _ _ _ _ _) (fun u=>Gn _ _ _ _ _ _ _ _ _ _ _ _ _);exact iA _ _ _ _ _ _ (fun x hx=>hl x (by simp [hx])) z R Q Y
  ·have ah:AC s.vars c.K (Am d)=AC t.vars c.K (Am d):=EB _ _ (fun v hv=>h.va _ (hV v hv))
   have gr:∀ (ins:List (List Int)) (u:RSt),Gr u ((fun st':RSt=>if st'.steps=F then (false,st'.out) else A0 (Bq (obW c) 2 a dp d st'.step) (fun ac=>rn c.K kf c.fs F ins (obW c) g 2 k [d] a dp ac)) u).2:=fun ins u=>by
    dsimp only;split
    ·exact Gr.out _
    ·exact CR ((Gr.step u).trans (Gr.pass _ _ _ _ _ _)) (fun ac=>Gn _ _ _ _ _ _ _ _ _ _ _ _ _)
   simp only [rn];rw [<-ah];split
   ·exact I.inl ⟨rfl,rfl,h.less (Nat.le_succ _),m.less (Nat.le_succ _),n.less (Nat.le_succ _),fun j hj=>A j (Nat.le_succ_of_le hj)⟩
   ·refine Gc (iA (k - 1) (Aj d) (a+1) (dp+1) s t (W.then_ k d H) h m n A) (fun z R Q Y=>?_) (gr ins) (gr ins')
    have gs:=gr ins (rn c.K kf c.fs F ins (obW c) g 0 (k - 1) (Aj d) (a+1) (dp+1) s).2;have gt:=gr ins' (rn c.K kf c.fs F ins' (obW c) g 0 (k - 1) (Aj d) (a+1) (dp+1) t).2;generalize (rn c.K kf c.fs F ins (obW c) g 0 (k - 1) (Aj d) (a+1) (dp+1) s).2=u at z R Y gs ⊢;generalize (rn c.K kf c.fs F ins' (obW c) g 0 (k - 1) (Aj d) (a+1) (dp+1) t).2=v at z Q gt ⊢;dsimp only at gs gt;by_cases h1:u.steps=F
    ·rw [if_pos h1]
     exact (Res.endL (s':=u.out) z rfl gt).less (Nat.le_succ _)
    ·by_cases h2:v.steps=F
     ·rw [if_pos h2]
      exact (Res.endR (t':=v.out) z rfl gs).less (Nat.le_succ _)
     ·rw [if_neg h1,if_neg h2]
      rw [Cq (by rw [DB]),DB,CL,Cq (by rw [DB]),DB,CL];have q1:=(z.step).less (Nat.le_succ dp);have Z:=(R.step).less (Nat.le_succ dp);have q3:=(Q.step).less (Nat.le_succ dp);have q4:EY q dp u.step:=fun j hj=>Y j (Nat.le_succ_of_le hj);have hw:=(z.step).withX W.who (z.ps (dp+1) (Nat.le_refl _)) (Am d);have O:=q1.enter Z q3 hw.1;cases hlo:low q (withX c u.step.o (u.o.ps.getD (dp+1) Ah) (Am d)) with
      | true=>
       have p:=hlo;rw [DC W.who,Bool.and_eq_true,List.all_eq_true] at p;exact iB k d a dp _ _ H O (Z.enter _) (q3.enter _) (q4.enter Z hlo) p.2
      | false=>
       have L:low q (withX c v.step.o (v.o.ps.getD (dp+1) Ah) (Am d))=false:=by rw [<-hw.1];exact hlo
       have b1:=(Gm (F:=F) (ins:=ins) W g).2.1 k d a dp _ H (Z.enter (withX c u.step.o (u.o.ps.getD (dp+1) Ah) (Am d))) (by
        show low q ((WSt.enter _ _ _).ps.getD (dp+1) Ah)=false;rw [CQ _ _ _ Z.l3];exact hlo)
       have b2:=(Gm (F:=F) (ins:=ins') W g).2.1 k d a dp _ H (q3.enter (withX c v.step.o (v.o.ps.getD (dp+1) Ah) (Am d))) (by
        show low q ((WSt.enter _ _ _).ps.getD (dp+1) Ah)=false;rw [CQ _ _ _ q3.l3];exact L)
       exact Res.hi (O.less (Nat.le_succ _)) (q4.conf (seen:=seen) (BF.enter Z _)) b1 b2
  ·obtain ⟨k1,k8⟩:=W.kind k d H
   have hp:=A dp (Nat.le_refl _);have a1:low q (t.o.ps.getD dp Ah)=true:=by rw [<-h.ps dp (Nat.le_refl _)];exact hp
   have J:=h.ps dp (Nat.le_refl _);by_cases h78:Ag d=7\/Ag d=8
   ·rw [Lu _ _ _ _ _ _ _ _ _ h78,Lu _ _ _ _ _ _ _ _ _ h78]
    have hw:=h.withX W.who J (Am d);have O:=h.enter m n hw.1;have S:=m.enter (withX c s.o (s.o.ps.getD dp Ah) (Am d));have e3:=n.enter (withX c t.o (t.o.ps.getD dp Ah) (Am d));have es:=CQ s.o dp (withX c s.o (s.o.ps.getD dp Ah) (Am d)) m.l3;have et:=CQ t.o dp (withX c t.o (t.o.ps.getD dp Ah) (Am d)) n.l3;have e4:EY q dp (s.held (s.o.enter dp (withX c s.o (s.o.ps.getD dp Ah) (Am d)))):=A.conf (seen:=seen) (BF.enter m _);cases hlo:low q (withX c s.o (s.o.ps.getD dp Ah) (Am d)) with
    | true=>
     have e5:=A.enter m hlo;have hv:=hw.2 hlo;have p:=hlo;rw [DC W.who,Bool.and_eq_true,List.all_eq_true] at p;rcases h78 with h7 | h8
     ·rw [Rt h7,Rt h7]
      show Res q c seen vn dp (if AC s.vars c.K (Am d)=0 then _ else _) (if AC t.vars c.K (Am d)=0 then _ else _);rw [<-hv];split
      ·exact (iA _ _ _ _ _ _ (W.else_ k d H) O S e3 e5).less (Nat.le_succ _)
      ·exact (iA _ _ _ _ _ _ (W.then_ k d H) O S e3 e5).less (Nat.le_succ _)
     ·rw [Rs h8,Rs h8]
      exact iB _ _ _ _ _ _ H O S e3 e5 p.2
    | false=>
     have L:low q (withX c t.o (t.o.ps.getD dp Ah) (Am d))=false:=by rw [<-hw.1];exact hlo
     refine Res.hi (O.less (Nat.le_succ _)) e4 ?_ ?_
     ·simp only [rn]
      rw [if_neg (by omega)];have X:low q ((s.held (s.o.enter dp (withX c s.o (s.o.ps.getD dp Ah) (Am d)))).o.ps.getD (dp+1) Ah)=false:=(congrArg (low q) es).trans hlo;rcases h78 with h7 | h8
      ·rw [if_pos h7]
       split
       ·exact ((Gm W g).1 _ _ _ _ _ (W.else_ k d H) S X).less (Nat.le_succ _)
       ·exact ((Gm W g).1 _ _ _ _ _ (W.then_ k d H) S X).less (Nat.le_succ _)
      ·rw [if_neg (by omega),if_pos h8]
       exact (Gm W g).2.1 _ _ _ _ _ H S X
     ·simp only [rn]
      rw [if_neg (by omega)];have X:low q ((t.held (t.o.enter dp (withX c t.o (t.o.ps.getD dp Ah) (Am d)))).o.ps.getD (dp+1) Ah)=false:=(congrArg (low q) et).trans L;rcases h78 with h7 | h8
      ·rw [if_pos h7]
       split
       ·exact ((Gm W g).1 _ _ _ _ _ (W.else_ k d H) e3 X).less (Nat.le_succ _)
       ·exact ((Gm W g).1 _ _ _ _ _ (W.then_ k d H) e3 X).less (Nat.le_succ _)
      ·rw [if_neg (by omega),if_pos h8]
       exact (Gm W g).2.1 _ _ _ _ _ H e3 X
   ·by_cases h2:Ag d=2
    ·rcases G5 (c:=c) kf F ins g k d a dp s h2 with ⟨T,G⟩ | ⟨M,G⟩
     ·rw [G];exact Res.endL h rfl (Fb _ _ _ _ _ _ _ _ _)
     ·rcases G5 (c:=c) kf F ins' g k d a dp t h2 with ⟨T,f⟩ | ⟨C,f⟩
      ·rw [f];exact Res.endR h rfl (Fb _ _ _ _ _ _ _ _ _)
      ·rw [G,f]
       have hC:Lq q c seen dp (CS c (s.o.ps.getD dp Ah) d s) (CS c (t.o.ps.getD dp Ah) d t):=Lq.layAll _ _ _ h m n (fun y U hk=>⟨Br (M y U) hk,Br (C y U) hk⟩) (fun y U=>h.withX W.who J y.2);have hI:Iv c vn dp (CS c (s.o.ps.getD dp Ah) d s):=Iv.layAll _ _ m (fun y U=>Br (M y U));have ap:Iv c vn dp (CS c (t.o.ps.getD dp Ah) d t):=Iv.layAll _ _ n (fun y U=>Br (C y U));have ao:EY q dp (CS c (s.o.ps.getD dp Ah) d s):=fun j hj=>by
        unfold CS;rw [F3];exact A j hj
       refine Gc (iA kf _ _ dp _ _ (W.body _) hC hI ap ao) (fun z R Q Y=>?_) (GS _ _ _) (GS _ _ _);generalize (rn c.K kf c.fs F ins (obW c) g 0 kf (BV c.fs (Ae d)).body (A2 kf (c.fs.take (Ae d).toNat)) dp (CS c (s.o.ps.getD dp Ah) d s)).2=u at z R Y ⊢;generalize (rn c.K kf c.fs F ins' (obW c) g 0 kf (BV c.fs (Ae d)).body (A2 kf (c.fs.take (Ae d).toNat)) dp (CS c (t.o.ps.getD dp Ah) d t)).2=v at z Q ⊢;rcases Ic (c:=c) a dp d u with ⟨T,G⟩ | ⟨M,G⟩
       ·rw [G];exact Res.endL z rfl (GS _ _ _ _)
       ·rcases Ic (c:=c) a dp d v with ⟨T,f⟩ | ⟨C,f⟩
        ·rw [f];exact Res.endR z rfl (GS _ _ _ _)
        ·rw [G,f]
         have hw:=z.withX W.who (z.ps dp (Nat.le_refl _)) (BV c.fs (Ae d)).res;exact I.inl ⟨rfl,rfl,z.lay R Q _ hw.1 hw.2,R.lay _ (Br M),Q.lay _ (Br C),Y⟩
    ·by_cases h4:Ag d=4
     ·rcases Ji (c:=c) kf F ins g k d a dp s h4 with ⟨T,G⟩ | ⟨M,G⟩
      ·rw [G];exact Res.endL h rfl (Fb _ _ _ _ _ _ _ _ _)
      ·rcases Ji (c:=c) kf F ins' g k d a dp t h4 with ⟨T,f⟩ | ⟨C,f⟩
       ·rw [f];exact Res.endR h rfl (Fb _ _ _ _ _ _ _ _ _)
       ·rw [G,f]
        refine I.inl ⟨rfl,rfl,h.tell (fun hh=>?_),m.tell _,n.tell _,A⟩;have hlo:low q (c.outs.getD (Ae d).toNat Ah)=true:=by
         rcases hh with hh | hh
         ·rwa [W.put] at hh
         ·rwa [W.put] at hh
        rw [(h.withX W.who J (Am d)).2 (EN W.who M hlo)]
     ·have V:Ag d=1\/Ag d=3\/Ag d=5\/Ag d=6:=by omega
      rcases Jh (c:=c) kf F ins g k d a dp s V with ⟨T,G,-⟩ | ⟨M,h3,h5,G⟩
      ·rw [G];exact Res.endL h rfl (Fb _ _ _ _ _ _ _ _ _)
      ·rcases Jh (c:=c) kf F ins' g k d a dp t V with ⟨T,f,-⟩ | ⟨C,a7,a6,f⟩
       ·rw [f];exact Res.endR h rfl (Fb _ _ _ _ _ _ _ _ _)
       ·rw [G,f]
        have hw:=h.withX W.who J (Am d);have i1:=m.lay (FF c ins s d) (Br M);have i2:=n.lay (FF c ins' t d) (Br C);rcases V with h1 | h1 | h1 | h1
        ·
         have b:∀ (u:RSt) (x),u.beside d a x=u:=fun u x=>by unfold RSt.beside;simp [h1]
         rw [b,b];refine I.inl ⟨rfl,rfl,h.lay m n _ ?_ ?_,i1,i2,A⟩
         ·unfold Dg;simp only [h1];exact hw.1
         ·unfold Dg FF;simp only [h1];exact hw.2
        ·
         have b:∀ (u:RSt) (x),u.beside d a x=u.took (Ae d):=fun u x=>by unfold RSt.beside;simp [h1]
         rw [b,b];refine I.inl ⟨rfl,rfl,(h.lay m n _ ?_ ?_).took _,i1.took _,i2.took _,A⟩
         ·unfold Dg;simp only [h1,if_true];rw [Eg W.who,Eg W.who,J]
         ·unfold Dg FF
          simp only [h1,if_true];intro hlo;rw [Eg W.who,Bool.and_eq_true] at hlo;unfold Dj;rw [hins _ hlo.1,h.tk _ hlo.1]
        ·
         have b:∀ (u:RSt) (x),u.beside d a x=u.tell (2,a,Ap d,x):=fun u x=>by unfold RSt.beside;simp [h1]
         rw [b,b];have B:=fun x=>W.tell 2 a (Ap d) x (I.inl rfl) (h5 (I.inl h1));have E:low q (Dg c s.o (s.o.ps.getD dp Ah) d)=low q (c.bound.getD (Ap d).toNat Ah):=by unfold Dg;simp [h1,low]
         have N:low q (Dg c t.o (t.o.ps.getD dp Ah) d)=low q (c.bound.getD (Ap d).toNat Ah):=by unfold Dg;simp [h1,low]
         by_cases hx:FF c ins s d=FF c ins' t d
         ·refine I.inl ⟨rfl,rfl,(h.lay m n _ (E.trans N.symm) (fun _=>hx)).tell (fun _=>by rw [hx]),i1.tell _,i2.tell _,A⟩
         ·cases hb:low q (c.bound.getD (Ap d).toNat Ah) with
          | true=>exact I.inr (bd.told (e:=(2,a,Ap d,FF c ins s d)) (e':=(2,a,Ap d,FF c ins' t d)) h.ev (by rw [B,hb]) (by rw [B,hb]) (fun hh=>hx (by i hh with _ hh;i hh with _ hh;i hh)) ⟨rfl,rfl,rfl,rfl⟩ rfl rfl)
          | false=>
           refine I.inl ⟨rfl,rfl,(h.lay m n _ (E.trans N.symm) (fun hh=>by rw [E,hb] at hh;cases hh)).tell (fun hh=>?_),i1.tell _,i2.tell _,A⟩;rw [B,B,hb] at hh;rcases hh with hh | hh <;> cases hh
        ·
         have b:∀ (u:RSt) (x),u.beside d a x=u.tell (3,a,Ap d,x):=fun u x=>by unfold RSt.beside;simp [h1]
         rw [b,b];have B:=fun x=>W.tell 3 a (Ap d) x (I.inr rfl) (h5 (I.inr h1));have E:Dg c s.o (s.o.ps.getD dp Ah) d=⟨(withX c s.o (s.o.ps.getD dp Ah) (Am d)).r,(c.bound.getD (Ap d).toNat Ah).w⟩:=by unfold Dg;simp [h1]
         have N:Dg c t.o (t.o.ps.getD dp Ah) d=⟨(withX c t.o (t.o.ps.getD dp Ah) (Am d)).r,(c.bound.getD (Ap d).toNat Ah).w⟩:=by unfold Dg;simp [h1]
         have hg:∀ (ins:List (List Int)) (u:RSt),FF c ins u d=AC u.vars c.K (Am d):=fun ins u=>by unfold FF;simp [h1]
         have an:=Br M (h5 (I.inr h1));refine I.inl ⟨rfl,rfl,(h.lay m n _ (by rw [E,N];exact hw.1) (fun hh=>by rw [hg,hg];rw [E] at hh;exact hw.2 hh)).tell (fun hh=>?_),i1.tell _,i2.tell _,A⟩;rw [B,B] at hh;have hb:low q (c.bound.getD (Ap d).toNat Ah)=true:=by rcases hh with hh | hh <;> exact hh
         have:=EN W.who an hb;rw [E] at this;rw [hg,hg,hw.2 this]
theorem Lq.refl (dp:Nat) (s:RSt):Lq q c seen dp s s:=⟨fun _=>rfl,fun _ _=>rfl,fun _ _=>rfl,fun _ _=>rfl,rfl,rfl⟩
theorem Ma (r:Bool × RSt):(QI r).ev=r.2.ev:=by
 unfold QI;split <;> rfl
theorem Ly {vn yn kf F:Nat} {ins ins':List (List Int)} {P:Nat->D->Prop} (W:Wf c seen q vn kf P) (hins:∀ ch,low q (c.ins.getD ch Ah)=true->ins.getD ch []=ins'.getD ch []) (l:List D) (hl:∀ x∈l,P kf x) :
  Alk 2 ((Jk c.K kf c.fs F ins (obW c) l vn yn ⟨List.replicate vn (A7 c.n),[A7 c.n]⟩).ev.filter seen) ((Jk c.K kf c.fs F ins' (obW c) l vn yn ⟨List.replicate vn (A7 c.n),[A7 c.n]⟩).ev.filter seen):=by
 unfold Jk;rw [Ma,Ma];have a:Iv c vn 0 (st0 vn yn ⟨List.replicate vn (A7 c.n),[A7 c.n]⟩):=⟨Ks c c.n rfl vn _,by simp [st0],by simp [st0],by simp [st0]⟩;have b:EY q 0 (st0 vn yn ⟨List.replicate vn (A7 c.n),[A7 c.n]⟩):=fun j d=>by
  have:j=0:=by omega
  subst this;show low q (A7 c.n)=true;simp [low,A7,W.who]
 have h:=(Sk (F:=F) W hins 6001).1 kf l (A2 kf c.fs:Nat) 0 _ _ hl (Lq.refl 0 (st0 vn yn ⟨List.replicate vn (A7 c.n),[A7 c.n]⟩)) a a b;rcases h with ⟨-,-,h,-⟩ | h
 ·rw [h.ev]
  have:=Alk.left 2 ((rn c.K kf c.fs F ins' (obW c) 6001 0 kf l (A2 kf c.fs:Nat) 0 (st0 vn yn ⟨List.replicate vn (A7 c.n),[A7 c.n]⟩)).2.ev.filter seen) []
  rwa [List.append_nil] at this
 ·exact h _ _ List.prefix_rfl List.prefix_rfl (fun _=>rfl) (fun _=>rfl)
end
def CB (touch:Bool) (who:Nat) (L:Lev):Bool:=if touch=true then !(L.w.getD who false) else L.r.getD who false
theorem MZ (m:Int) (ga gn gc sa sn sc ya yn yc oa on oc va vn vc fa fn fc ba bn bc) (who:Nat) (touch:Bool) (ra rn rc wa wn wc) (L) (w:World) (hL:A3 w (zh #[O ra rn rc,O wa wn wc]) L) (hr:who < L.r.length) (hw:who < L.w.length) (hwm:who<=100) :
  Calls Tryz.prog 136 #[zh #[zd U m,O ga gn gc,O sa sn sc,O ya yn yc,O oa on oc,O va vn vc,O fa fn fc,O ba bn bc,zd U (who:Int),zg touch],zh #[O ra rn rc,O wa wn wc]] w fun e w'=>e=zj (zg (CB touch who L))/\Ov w w':=by
 have a:Ov w ((w.alloc (ze #[zd U m,O ga gn gc,O sa sn sc,O ya yn yc,O oa on oc,O va vn vc,O fa fn fc,O ba bn bc,zd U (who:Int),zg touch] 151)).alloc (ze #[O ra rn rc,O wa wn wc] 50)):=(bA w _).alloc (by simp) _;obtain ⟨G,F,j,⟨S,N,C,f⟩,⟨R,M,B,d⟩⟩:=hL;simp only [Value.agg.injEq,Array.mk.injEq,List.cons.injEq,and_true] at j;obtain ⟨A,z⟩:=j;subst A z;injection C with v u t;injection B with s q p;obtain ⟨Q,I,y,h⟩:=f (by intro i;rw [i] at hr;simp at hr);obtain ⟨P,H,x,g⟩:=d (by intro i;rw [i] at hw;simp at hw);have o:=Ab a _ _ (h who hr);have n:=Ab a _ _ (g who hw);subst y x;subst v s;have K:(who:Int) < (rn:Int):=by omega
 have J:(who:Int) < (wn:Int):=by omega
 have l:L.r.getD who false=L.r[who]:=by simp [hr]
 have k:L.w.getD who false=L.w[who]:=by simp [hw]
 unfold CB;rw [l,k];obtain ⟨E,c⟩:=nm (L.r[who]);obtain ⟨D,b⟩:=nm (L.w[who]);rw [<-c] at o ⊢;rw [<-b] at n ⊢;clear f d h g l k c b u t q p hr hw;cases touch with
 | true=>
  go_enter Tryz.func136,Tryz.ntmps136;go_wp2_with fail;go_ret;exact ⟨by simp,a⟩
 | false=>
  go_enter Tryz.func136,Tryz.ntmps136;go_wp2_with fail;go_ret;exact ⟨by simp,a⟩
def Cd (n:Nat):Array Value:=(List.replicate n (Value.bool false)).toArray
abbrev JI (l:List Bool):List Value:=l.map Value.bool
theorem Tryz.infoBo:(Tryz.prog.info? 4).map (fun i=>(i.zero,i.size,i.bytes))=some (some (zg false),1,1):=by kernel_rfl
theorem Ry (n:Nat) (hn:n<=100) (w:World):(Instr.makeSlice 48 (zd U n) (zd U n)).run Tryz.prog w=.ok (O (some ⟨w.heap.size,0,none⟩) n n) (w.alloc (.cells (Cd n) 4)):=by
 obtain ⟨i,d,c,b,a⟩:=info_parts Tryz.infoBo;have:=run_make (P:=Tryz.prog) w 48 4 i (zg false) Tryz.underlying48 d c U U (n:Int) (n:Int) (by omega) (by omega) (by rw [a];omega) (by omega);rw [this,b];simp only [Int.toNat_natCast,Nat.mul_one];have e:madeCells (Value.bool false).cells n=Cd n:=by
  unfold Cd;apply Array.ext
  ·simp [madeCells]
  ·intro j b a
   simp [madeCells,Value.cells,Nat.mod_one]
 rw [e]
structure Gj (l:List Bool) (b:Nat) (w:World):Prop where
 row:Ad (JI l) w b
 z:∀ j,w.frozen? ⟨b,j,none⟩=false
theorem Gj.over {l:List Bool} {b:Nat} {w w':World} (h:Gj l b w) (hb:Ov w w') (hlt:b < w.heap.size):Gj l b w':=⟨h.row.over hb,fun j=>((An hb).2 _ _ hlt).trans (h.z j)⟩
theorem Gj.set {l:List Bool} {b:Nat} {w:World} (h:Gj l b w) {j:Nat} (hj:j < l.length) (x:Bool):Gj (l.set j x) b (w.setCell ⟨b,j,none⟩ (zg x)):=by
 refine ⟨?_,fun k=>(by simp [go_sem]:(w.setCell ⟨b,j,none⟩ (zg x)).frozen? ⟨b,k,none⟩=w.frozen? ⟨b,k,none⟩).trans (h.z k)⟩;have:=h.row.set (j:=j) (v:=zg x) (by simpa using hj);simpa [JI,List.map_set] using this
theorem take_set {l:List Bool} {m:List Bool} {j:Nat} {x:Bool} (hj:j < l.length) (hl:l.length=m.length) (h:l.take j=m.take j) (hx:m[j]? = some x):(l.set j x).take (j+1)=m.take (j+1):=by
 have a:j < m.length:=by omega
 rw [List.take_succ_eq_append_getElem (by simpa using hj),List.take_succ_eq_append_getElem a,List.take_set_of_le (Nat.le_refl _),h];simp only [List.getElem_set_self];rw [List.getElem?_eq_getElem a] at hx;injection hx with hx;rw [hx]
theorem IU {w:World} {v:Value} {L:Lev} (h:A3 w v L):∃ ra rc wa wc,v=zh #[O ra L.r.length rc,O wa L.w.length wc]:=by
 obtain ⟨b,a,rfl,⟨f,d,rfl,-⟩,⟨e,c,rfl,-⟩⟩:=h;exact ⟨_,_,_,_,rfl⟩
theorem FJ (n:Nat) (ga gn gc) (sa sn sc ya yn yc oa on oc va vn vc fa fn fc ba bn bc) (who:Nat) (touch:Bool) (la ln lc) (gs ls) (w:World) (hg:AA w (O ga gn gc) gs) (hl:AW w (O la ln lc) ls) (hc:∀ b∈ls,Bb (n:Int) gs b=0) (hwho:who < n) (hn:n<=6) (hl5:ls.length<=100) :
  Calls Tryz.prog 80 #[zh #[zd U (n:Int),O ga gn gc,O sa sn sc,O ya yn yc,O oa on oc,O va vn vc,O fa fn fc,O ba bn bc,zd U (who:Int),zg touch],O la ln lc] w fun e w'=>∃ b,e=zj (O (some ⟨b,0,none⟩) ls.length ls.length)/\w.heap.size<=b/\b < w'.heap.size/\Gj (ls.map (fun x=>CB touch who (Ar (Ax gs) n x))) b w'/\Ov w w':=by
 obtain ⟨M,hM⟩:=nm (ls.map (fun x=>CB touch who (Ar (Ax gs) n x)));rw [<-hM];have Z:M.length=ls.length:=by rw [hM];simp
 have C:Ov w (w.alloc (ze #[zd U (n:Int),O ga gn gc,O sa sn sc,O ya yn yc,O oa on oc,O va vn vc,O fa fn fc,O ba bn bc,zd U (who:Int),zg touch] 151)):=bA w _;have h:=Ad.newA #[zd U (n:Int),O ga gn gc,O sa sn sc,O ya yn yc,O oa on oc,O va vn vc,O fa fn fc,O ba bn bc,zd U (who:Int),zg touch] 151 w;have aw:ln=ls.length:=by obtain ⟨-,a,c,he,-⟩:=hl;injection he
 have mk:=Ry ls.length hl5;have HG:=Aa hg;have HL:=Aa hl;have HC:=Aa hc;have HM:=Aa hM;have ag:=Aa Z;have N:∃ (j:Nat) (l:List Bool),j=0/\j<=ls.length/\l.length=ls.length/\l.take j=M.take j/\Gj l (w.heap.size+1) ((w.alloc (ze #[zd U (n:Int),O ga gn gc,O sa sn sc,O ya yn yc,O oa on oc,O va vn vc,O fa fn fc,O ba bn bc,zd U (who:Int),zg touch] 151)).alloc (.cells (Cd ls.length) 4))/\Ad [zd U (n:Int),O ga gn gc,O sa sn sc,O ya yn yc,O oa on oc,O va vn vc,O fa fn fc,O ba bn bc,zd U (who:Int),zg touch] ((w.alloc (ze #[zd U (n:Int),O ga gn gc,O sa sn sc,O ya yn yc,O oa on oc,O va vn vc,O fa fn fc,O ba bn bc,zd U (who:Int),zg touch] 151)).alloc (.cells (Cd ls.length) 4)) w.heap.size/\Ov w ((w.alloc (ze #[zd U (n:Int),O ga gn gc,O sa sn sc,O ya yn yc,O oa on oc,O va vn vc,O fa fn fc,O ba bn bc,zd U (who:Int),zg touch] 151)).alloc (.cells (Cd ls.length) 4)):=by
  refine ⟨0,List.replicate ls.length false,rfl,Nat.zero_le _,by simp,by simp,⟨?_,fun j=>by simp [go_sem]⟩,h.over (bA _ _),C.alloc (by simp) _⟩;have:=Ad.newA (Cd ls.length) 4 (w.alloc (ze #[zd U (n:Int),O ga gn gc,O sa sn sc,O ya yn yc,O oa on oc,O va vn vc,O fa fn fc,O ba bn bc,zd U (who:Int),zg touch] 151));simpa [Cd,JI] using this
 have ad:=Aa N;subst aw;clear N h hg hl hc hM Z C;go_enter Tryz.func80,Tryz.ntmps80;go_wp2_with fail;go_loopw [15] (fun i wr=>∃ (j:Nat) (l:List Bool),i=zd U (j:Int)/\j<=ls.length/\l.length=ls.length/\l.take j=M.take j/\Gj l (w.heap.size+1) wr/\Ad [zd U (n:Int),O ga gn gc,O sa sn sc,O ya yn yc,O oa on oc,O va vn vc,O fa fn fc,O ba bn bc,zd U (who:Int),zg touch] wr w.heap.size/\Ov w wr/\w.heap.size+1 < wr.heap.size) (fun i _=>ls.length - (intOf i).toNat)
 case atStart=>
  obtain ⟨j,l,rfl,i1,i2,i3,i4,i5,i6⟩:=ad.o;exact ⟨0,l,rfl,i1,i2,i3,i4,i5,i6,by simp⟩
 case round=>
  clear ad;obtain ⟨j,l,rfl,hj,S,s,t,g,J,D⟩:=hrel;by_cases hjl:j < ls.length
  ·obtain ⟨av,lo,bg,ax,W⟩:=HL.o
   injection ax with e1 e2 e3;obtain ⟨lb,bf,V,B⟩:=W (by intro hz;rw [hz] at hjl;simp at hjl);obtain ⟨pr,pw,p0,p1,F,E⟩:=B j hjl;have az:=e1.trans V;subst az;obtain ⟨a1,n1,c1,rfl⟩:=Az F;obtain ⟨a2,n2,c2,rfl⟩:=Az E;obtain ⟨q0,q1⟩:=co2 J p0 p1;have bi:lb < w.heap.size:=bL p0;have I:Ov wr (wr.alloc (ze #[O a1 n1 c1,O a2 n2 c2] 39)):=bA wr _;have y:=J.trans (I.mono J.size);have KL:=Aa (MT (n:Int) (O ga gn gc) gs (O a1 n1 c1) (O a2 n2 c2) ls[j] _ (Af HG.o y) (Ak F y) (Ak E y));rw [HC.o ls[j] (List.getElem_mem hjl),if_pos rfl] at KL;obtain ⟨LV,q⟩:=nm (Ar (Ax gs) ((n:Int).toNat) ls[j]);rw [<-q] at KL;have R:LV.r.length=n:=by rw [q];simp [Ar,BI]
   have Q:LV.w.length=n:=by rw [q];simp [Ar,BI]
   have Y:M[j]? = some (CB touch who LV):=by rw [HM.o,q,List.getElem?_map,List.getElem?_eq_getElem hjl];simp
   have A:=g.over I;have a5:=Aa t;have a3:=Aa g;have HB:=Aa J;have a7:=Aa I;have ah:=Aa Y;have aj:=Aa R;have ai:=Aa Q;have a4:=Aa s;have K:=Aa S;obtain ⟨v0,v1⟩:=rc2 A;obtain ⟨u0,u1⟩:=rc2 g;clear W B p0 p1 F E e1 e2 e3 V q Y t A s S R Q J av y;go_wp2_with fail;refine (KL.o).mono ?_;rintro e L ⟨vl,rfl,G,X⟩;obtain ⟨ra,rc,wa,wc,as⟩:=IU (Gy G);subst as;have p:=Gy G;rw [aj.o,ai.o] at p ⊢;have H:Ov L (L.alloc (ze #[O ra n rc,O wa n wc] 50)):=bA L _;have u:=Ac (Ac a7.o X) H;have f:=a3.o.over u;have ae:=Aa (a5.o.over u D);have KH:=Aa (MZ (n:Int) ga gn gc sa sn sc ya yn yc oa on oc va vn vc fa fn fc ba bn bc who touch ra n rc wa n wc LV (L.alloc (ze #[O ra n rc,O wa n wc] 50)) (AK p H) (by rw [aj.o];exact hwho) (by rw [ai.o];exact hwho) (by omega));obtain ⟨t0,t1,t2,t3,t4,t5,t6,t7,t8,t9⟩:=Ch f;have ab:=Aa f;have ak:=Aa u;obtain ⟨x,hx⟩:=nm (CB touch who LV);rw [<-hx] at KH ah;clear KL G p X H u f hx v0 v1 u0 u1 g q0 q1;go_wp2_with fail;refine (KH.o).mono ?_;rintro e w2 ⟨rfl,m⟩;have P:w.heap.size+1 < (L.alloc (ze #[O ra n rc,O wa n wc] 50)).heap.size:=Nat.lt_of_lt_of_le D ak.o.size;have d:=ae.o.over m P;have k:j < l.length:=by rw [K.o];exact hjl
   have y0:CE w2 (w.heap.size+1) j (zg l[j]):=d.row j _ (by simp [k]);have y1:=d.z j;have au:w.heap.size+1 < w2.heap.size:=Nat.lt_of_lt_of_le P m.size;have af:=Aa (d.set k x);have a8:=Aa (Ac ak.o m);have ac:=Aa ((ab.o.over m).other (b':=w.heap.size+1) (j:=j) (v:=zg x) (by omega));obtain ⟨lj,T⟩:=nm (l[j]);rw [<-T] at y0;have ce:(j:Int) < (ls.length:Int):=by omega
   clear KH m d T t0 t1 t2 t3 t4 t5 t6 t7 t8 t9;go_wp2_with fail;refine ⟨⟨j+1,l.set j x,by go_num,by omega,by simpa using K.o,take_set k (K.o.trans ag.o.symm) a4.o ah.o,af.o,ac.o,(HB.o.trans (a8.o.mono HB.o.size)).setCell (by simp) _,by simpa [World.setCell] using au⟩,by simp [intOf];omega⟩
  ·have cf:j=ls.length:=by omega
   have ay:l=M:=by
    have h1:l.take j=l:=List.take_of_length_le (by omega);have h2:M.take j=M:=List.take_of_length_le (by rw [ag.o];omega);rw [<-h1,s,h2]
   have HF:=Aa (And.intro t J);rw [ay] at HF;clear s t J g;go_wp2_with fail;go_ret;exact ⟨w.heap.size+1,rfl,Nat.le_succ _,D,HF.o.1,HF.o.2⟩
def Lp (K kf n:Nat) (vn:Nat) (touch:Bool) (who:Nat) (gs:List (Int × Int)) (ls:List Lab) (vs:List (Bool × Lab)) (fs:List FnD) (l:List D) (w:World) (e:Ending) (w':World):Prop:=
 ∃ b st,e=zj (O (some ⟨b,0,none⟩) vn vn)/\w.heap.size<=b/\b < w'.heap.size/\B2 n K kf gs vs ls fs l st/\st.vs.length=vn/\Gj (st.vs.map (CB touch who)) b w'/\Ov w w'
theorem OH (K kf n:Nat) (ga gn gc sa sn sc ya yn yc oa on oc va vn vc fa fn fc ba bn bc) (who:Nat) (touch:Bool) (gs sp ls ms vs fs l) (w:World) (h:BD K kf (n:Int) ga gn gc sa sn sc ya yn yc oa on oc va vn vc fa fn fc ba bn bc gs sp ls ms vs fs l w) (hX:Ey.xP K kf (n:Int) vn yn on sn gs sp ls ms vs fs l) (hwho:who < n) :
  Calls Tryz.prog 81 #[zh #[zd U (n:Int),O ga gn gc,O sa sn sc,O ya yn yc,O oa on oc,O va vn vc,O fa fn fc,O ba bn bc,zd U (who:Int),zg touch]] w (Lp K kf n vn touch who gs ls vs fs l w):=by
 have p:Ov w (w.alloc (ze #[zd U (n:Int),O ga gn gc,O sa sn sc,O ya yn yc,O oa on oc,O va vn vc,O fa fn fc,O ba bn bc,zd U (who:Int),zg touch] 151)):=bA w _;have g:=Ad.newA #[zd U (n:Int),O ga gn gc,O sa sn sc,O ya yn yc,O oa on oc,O va vn vc,O fa fn fc,O ba bn bc,zd U (who:Int),zg touch] 151 w;have K1:=Aa (Pr K kf (n:Int) ga gn gc sa sn sc ya yn yc oa on oc va vn vc fa fn fc ba bn bc gs sp ls ms vs fs l _ (h.over p) (fun ab=>(ab=0 ↔ Ey.xP K kf (n:Int) vn yn on sn gs sp ls ms vs fs l)) (fun W hW=>Ey.scopeCheck_any K kf (n:Int) ga gn gc sa sn sc ya yn yc oa on oc va vn vc fa fn fc ba bn bc gs sp ls ms vs fs l W ((h.over p).over hW)) (fun hp=>(hp.1 rfl).ok));have HX:=Aa hX;have b6:vn<=16:=hX.ok.vars;have cw:n<=6:=by obtain ⟨n',h1,-,h2,-⟩:=Dr hX.chk;omega
 have ax:=Aa p;have bv:=Aa g;obtain ⟨a0,a1,a2,a3,a4,a5,a6,a7⟩:=rc8 g;clear h hX p g;unfold Lp;go_enter Tryz.func81,Tryz.ntmps81;go_wp2_with fail;refine (K1.o).mono ?_;rintro e b ⟨ab,hP,D,⟨bj,-⟩ | ⟨-,-,n',st,X,J,V,ka,Y,Z,bk,rfl,hV,-,E,-,N,-,F,-,-⟩⟩
 ·exact absurd (hP.2 HX.o) bj
 have bi:n=n':=by omega
 subst bi;obtain ⟨M,hM⟩:=nm (st.vs.map (CB touch who));have ak:M.length=vn:=by rw [hM];simp [N]
 have af:vn=J:=by obtain ⟨a,c,he,-⟩:=hV;injection he with e1 e2 e3;omega
 have d:Ov b (b.alloc (ze #[O X J V,O ka Y Z] 44)):=bA b _;have Q:Ov b ((b.alloc (ze #[O X J V,O ka Y Z] 44)).alloc (.cells (Cd vn) 4)):=d.alloc (by simp) _;have H:=ax.o.trans (D.mono ax.o.size);have s:=bv.o.over D;have ad:∃ (j:Nat) (l:List Bool),j=0/\j<=vn/\l.length=vn/\l.take j=M.take j/\Gj l (b.heap.size+1) ((b.alloc (ze #[O X J V,O ka Y Z] 44)).alloc (.cells (Cd vn) 4))/\Ad [zd U (n:Int),O ga gn gc,O sa sn sc,O ya yn yc,O oa on oc,O va vn vc,O fa fn fc,O ba bn bc,zd U (who:Int),zg touch] ((b.alloc (ze #[O X J V,O ka Y Z] 44)).alloc (.cells (Cd vn) 4)) w.heap.size/\Ov b ((b.alloc (ze #[O X J V,O ka Y Z] 44)).alloc (.cells (Cd vn) 4)):=by
  refine ⟨0,List.replicate vn false,rfl,Nat.zero_le _,by simp,by simp,⟨?_,fun j=>by simp [go_sem]⟩,s.over Q,Q⟩;have:=Ad.newA (Cd vn) 4 (b.alloc (ze #[O X J V,O ka Y Z] 44));simpa [Cd,JI] using this
 have ap:=Aa ad;have mk:=Ry vn (by omega);have b5:w.heap.size < b.heap.size:=by have:=D.size;simp at this;omega
 have HV:=Aa hV;have HM:=Aa hM;have as:=Aa ak;have bt:=Aa N;have au:=Aa E;have av:=Aa F;have I:=Aa H;have da:=Aa af;subst af;clear ad K1 D hV hM ak N E F H d Q s a0 a1 a2 a3 a4 a5 a6 a7 hP bk;go_wp2_with fail;go_loopw [21] (fun i wr=>∃ (j:Nat) (l:List Bool),i=zd U (j:Int)/\j<=vn/\l.length=vn/\l.take j=M.take j/\Gj l (b.heap.size+1) wr/\Ad [zd U (n:Int),O ga gn gc,O sa sn sc,O ya yn yc,O oa on oc,O va vn vc,O fa fn fc,O ba bn bc,zd U (who:Int),zg touch] wr w.heap.size/\Ov b wr/\b.heap.size+1 < wr.heap.size) (fun i _=>vn - (intOf i).toNat)
 case atStart=>
  obtain ⟨j,l,rfl,i1,i2,i3,i4,i5,i6⟩:=ap.o;exact ⟨0,l,rfl,i1,i2,i3,i4,i5,i6,by simp⟩
 case round=>
  clear ap;obtain ⟨j,l,rfl,hj,ag,y,A,L,S,P⟩:=hrel;by_cases hjl:j < vn
  ·obtain ⟨lo,b3,bl,aj⟩:=HV.o
   injection bl with e1 e2 e3;have t:j < st.vs.length:=by omega
   obtain ⟨lb,b2,ai,G⟩:=aj (by intro hz;rw [hz] at t;simp at t);obtain ⟨rv,wv,p0,p1,f⟩:=G j t;have bq:=e1.trans ai;subst bq;obtain ⟨LV,C⟩:=nm (st.vs[j]);have k:LV.r.length=n/\LV.w.length=n:=by rw [C];exact au.o _ (List.getElem_mem t)
   rw [<-C] at f;obtain ⟨ra,rc,wa,wc,ac⟩:=IU f;simp only [Value.agg.injEq,Array.mk.injEq,List.cons.injEq,and_true] at ac;obtain ⟨h1,h2⟩:=ac;subst h1 h2;rw [k.1,k.2] at f;rw [k.1] at p0;rw [k.2] at p1;obtain ⟨q0,q1⟩:=co2 S p0 p1;have B:Ov wr (wr.alloc (ze #[O ra n rc,O wa n wc] 50)):=bA wr _;have al:=S.trans (B.mono S.size);have q:=L.over B;have KH:=Aa (MZ (n:Int) ga gn gc sa sn sc ya yn yc oa on oc va vn vc fa fn fc ba bn bc who touch ra n rc wa n wc LV (wr.alloc (ze #[O ra n rc,O wa n wc] 50)) (AK f al) (by rw [k.1];exact hwho) (by rw [k.2];exact hwho) (by omega));have R:M[j]? = some (CB touch who LV):=by rw [HM.o,C,List.getElem?_map,List.getElem?_eq_getElem t];simp
   obtain ⟨x,hx⟩:=nm (CB touch who LV);rw [<-hx] at KH R;obtain ⟨t0,t1,t2,t3,t4,t5,t6,t7,t8,t9⟩:=Ch q;have aq:=Aa (A.over B P);have an:=Aa q;have HB:=Aa S;have aw:=Aa B;have bw:=Aa R;have bu:=Aa y;have T:=Aa ag;clear aj G p0 p1 e1 e2 e3 ai C R A L q y ag k S al f hx;go_wp2_with fail;refine (KH.o).mono ?_;rintro e w2 ⟨rfl,d⟩;have ae:b.heap.size+1 < (wr.alloc (ze #[O ra n rc,O wa n wc] 50)).heap.size:=Nat.lt_of_lt_of_le P aw.o.size;have m:=aq.o.over d ae;have u:j < l.length:=by rw [T.o];exact hjl
   have y0:CE w2 (b.heap.size+1) j (zg l[j]):=m.row j _ (by simp [u]);have y1:=m.z j;have bh:b.heap.size+1 < w2.heap.size:=Nat.lt_of_lt_of_le ae d.size;have ar:=Aa (m.set u x);have bz:=Aa (Ac aw.o d);have ao:=Aa ((an.o.over d).other (b':=b.heap.size+1) (j:=j) (v:=zg x) (by omega));obtain ⟨lj,ah⟩:=nm (l[j]);rw [<-ah] at y0;have cx:(j:Int) < (vn:Int):=by omega
   clear KH d m ah t0 t1 t2 t3 t4 t5 t6 t7 t8 t9;go_wp2_with fail;refine ⟨⟨j+1,l.set j x,by go_num,by omega,by simpa using T.o,take_set u (T.o.trans as.o.symm) bu.o bw.o,ar.o,ao.o,(HB.o.trans (bz.o.mono HB.o.size)).setCell (by simp) _,by simpa [World.setCell] using bh⟩,by simp [intOf];omega⟩
  ·have cy:j=vn:=by omega
   have bm:l=M:=by
    have h1:l.take j=l:=List.take_of_length_le (by omega);have h2:M.take j=M:=List.take_of_length_le (by rw [as.o];omega);rw [<-h1,y,h2]
   have HF:=Aa (And.intro A S);rw [bm] at HF;clear y A S L;go_wp2_with fail;go_ret;exact ⟨b.heap.size+1,st,rfl,by omega,P,av.o,bt.o,by rw [<-HM.o];exact HF.o.1,I.o.trans (HF.o.2.mono I.o.size)⟩
theorem En:∀ (l:List Ev4) (i:Nat) (h:i < l.length),(Bi l)[i*4]? = some (zd U l[i].1)/\(Bi l)[i*4+1]? = some (zd U l[i].2.1)/\(Bi l)[i*4+2]? = some (zd U l[i].2.2.1)/\(Bi l)[i*4+3]? = some (zd U l[i].2.2.2)
 | [],i,h=>by simp at h
 | e::r,0,h=>⟨rfl,rfl,rfl,rfl⟩
 | e::r,i+1,h=>by
  have:=En r i (by simpa using h);rw [Nat.succ_mul];simpa [Bi] using this
def Ft (w:World) (v:Value) (l:List Ev4):Prop:=∃ ao cap,v=O ao l.length cap/\l.length<=cap/\cap<=maxLen/\(l≠[]->∃ b,ao=some ⟨b,0,none⟩/\Ad (Bi l) w b)
theorem Ft.over {w w':World} {v:Value} {l:List Ev4} (h:Ft w v l) (hb:Ov w w'):Ft w' v l:=by
 obtain ⟨k,c,d,g,f,e⟩:=h;exact ⟨k,c,d,g,f,fun a=>by obtain ⟨b,j,i⟩:=e a;exact ⟨b,j,i.over hb⟩⟩
theorem Ft.of_own {w:World} {B:Nat} {v:Value} {l:List Ev4} (h:w.ownsRow B 136 4 v l.length (Bi l)):Ft w v l:=by
 rcases h.2 with ⟨c,a⟩ | ⟨g,d,i,e,m,k,c,a,o,n⟩
 ·exact ⟨none,0,by rw [c,a],by omega,by unfold maxLen;omega,fun b=>absurd (List.length_eq_zero_iff.1 a) b⟩
 ·refine ⟨_,d,e,c,a,fun _=>⟨g,rfl,fun j u f=>?_⟩⟩
  have:=h.cells (g:=g) (by rw [e];rfl) j u f
  rwa [Addr.add_lit,Nat.zero_add] at this
theorem Io (l:List Ev4) (va vb:Value) (w:World) (ha:Ft w va l) (hb:Ft w vb l) (hl:l.length<=9223372036854775807) :
  Calls Tryz.prog 68 #[va,vb] w fun e w'=>e=zj (zg true)/\Ov w w':=by
 obtain ⟨R,S,rfl,-,-,p⟩:=ha;obtain ⟨O,P,rfl,-,-,n⟩:=hb;have H:=Aa p;have G:=Aa n;clear p n;go_enter Tryz.func68,Tryz.ntmps68;go_wp2_with fail;go_loopw [5] (fun i wr=>∃ j:Nat,j<=l.length/\i=zd U j/\Ov w wr) (fun i _=>l.length - (intOf i).toNat)
 case atStart=>exact ⟨0,Nat.zero_le _,rfl,Below.refl _ _⟩
 case round=>
  obtain ⟨j,N,rfl,a⟩:=hrel;by_cases hjl:j < l.length
  ·obtain ⟨b,rfl,f⟩:=H.o (by intro q;rw [q] at hjl;simp at hjl)
   obtain ⟨Q,rfl,c⟩:=G.o (by intro q;rw [q] at hjl;simp at hjl);obtain ⟨v,u,t,s⟩:=En l j hjl;have F:=Ab a _ _ (f _ _ v);have E:=Ab a _ _ (f _ _ u);have D:=Ab a _ _ (f _ _ t);have C:=Ab a _ _ (f _ _ s);have B:=Ab a _ _ (c _ _ v);have A:=Ab a _ _ (c _ _ u);have z:=Ab a _ _ (c _ _ t);have y:=Ab a _ _ (c _ _ s);have r:(j:Int) < (l.length:Int):=by omega
   obtain ⟨L,m⟩:=nm (l[j].1);obtain ⟨K,k⟩:=nm (l[j].2.1);obtain ⟨J,h⟩:=nm (l[j].2.2.1);obtain ⟨I,g⟩:=nm (l[j].2.2.2);rw [<-m] at F B;rw [<-k] at E A;rw [<-h] at D z;rw [<-g] at C y;obtain ⟨M,d⟩:=nm l.length;rw [<-d] at r ⊢;have x:=Aa d;clear f c m k h g d v u t s;go_wp2_with fail
   go_quiet ((fail))
   go_wp2_with fail;have d:=x.o;subst d;exact ⟨⟨j+1,by omega,by go_num,below_drewN a _⟩,by simp [intOf];omega⟩
  ·go_wp2_with fail
   go_ret;exact ⟨rfl,a⟩
def EvL (w:World) (v:Value) (l:List Ev4):Prop:=
 l.length<=maxLen/\∃ ao cap,v=O ao l.length cap/\(l≠[]->∃ b off,ao=some ⟨b,off,none⟩/\∀ i (h:i < l.length),w.cell? ⟨b,off+i*4,none⟩=some (zd U l[i].1)/\w.cell? ⟨b,off+i*4+1,none⟩=some (zd U l[i].2.1)/\w.cell? ⟨b,off+i*4+2,none⟩=some (zd U l[i].2.2.1)/\w.cell? ⟨b,off+i*4+3,none⟩=some (zd U l[i].2.2.2))
theorem EvL.over {w w':World} {v:Value} {l:List Ev4} (h:EvL w v l) (hb:Ov w w'):EvL w' v l:=by
 obtain ⟨j,r,f,g,m⟩:=h;refine ⟨j,r,f,g,fun c=>?_⟩;obtain ⟨b,a,e,d⟩:=m c;refine ⟨b,a,e,fun i k=>?_⟩;obtain ⟨q,p,o,n⟩:=d i k;exact ⟨Ab hb _ _ q,Ab hb _ _ p,Ab hb _ _ o,Ab hb _ _ n⟩
theorem Ft.evL {w:World} {v:Value} {l:List Ev4} (h:Ft w v l):EvL w v l:=by
 obtain ⟨r,e,f,m,k,j⟩:=h;refine ⟨Nat.le_trans m k,r,e,f,fun c=>?_⟩;obtain ⟨b,d,a⟩:=j c;refine ⟨b,0,d,fun i g=>?_⟩;obtain ⟨q,p,o,n⟩:=En l i g;refine ⟨?_,?_,?_,?_⟩
 ·simpa using a _ _ q
 ·simpa using a _ _ p
 ·simpa using a _ _ o
 ·simpa using a _ _ n
def JN (F:FuncId) (cap:List Value) (p:Ev4->Bool) (w:World):Prop:=
 ∀ (e4:Ev4) (W:World),Ov w W->Calls Tryz.prog F (zh #[zd U e4.1,zd U e4.2.1,zd U e4.2.2.1,zd U e4.2.2.2]::cap).toArray W fun e w'=>e=zj (zg (p e4))/\Ov W w'
theorem Kw (F:FuncId) (cap:List Value) (p:Ev4->Bool) (l:List Ev4) (v:Value) (w:World) (h:EvL w v l) (hF:Hx (JN F cap p w)) (hC:∀ (args:Array Value) (w:World),(callFunc F args).run Tryz.prog w=.ok (.enter F args) w) :
  Calls Tryz.prog 195 #[v,.func (.func F) #[] cap.toArray] w fun e w'=>∃ r:Int,e=zj (zd U r)/\decide (0<=r)=l.any p/\Ov w w':=by
 obtain ⟨J,Z,C,rfl,s⟩:=h;have Q:l.length<=9223372036854775807:=J;have B:=Aa s;clear s J;go_enter Tryz.func195,Tryz.ntmps195;go_wp2_with fail;go_loopw [8] (fun i wr=>∃ k:Nat,k<=l.length/\i=zd U k/\(l.take k).any p=false/\Ov w wr) (fun i _=>l.length - (intOf i).toNat)
 case atStart=>exact ⟨0,Nat.zero_le _,rfl,rfl,Below.refl _ _⟩
 case round=>
  obtain ⟨k,Y,rfl,f,t⟩:=hrel;have x:=Aa f;have u:=Aa t;clear f;by_cases hkl:k < l.length
  ·obtain ⟨b,P,rfl,q⟩:=B.o (by rintro rfl;simp at hkl)
   obtain ⟨N,M,L,K⟩:=q k hkl;obtain ⟨H,G,E,D⟩:=co4 t N M L K;have g:p l[k]=true->l.any p=true:=fun h=>by rw [List.any_eq_true];exact ⟨l[k],List.getElem_mem hkl,h⟩
   have j:p l[k]=false->(l.take (k+1)).any p=false:=fun h=>by rw [List.take_succ_eq_append_getElem hkl,List.any_append,x.o];simp [h]
   have a:=hF.o l[k] wr t;obtain ⟨r,I⟩:=nm (p l[k]);rw [<-I] at a g j;obtain ⟨R,n⟩:=nm (l[k]);rw [<-n] at a H G E D;obtain ⟨X,W,V,T⟩:=R;dsimp only at a H G E D;have d:=Aa a;have z:=Aa g;have A:=Aa j;clear a g j I q x hF n N M L K t;cases r with
   | false=>
    go_wp2_with fail;refine (d.o).mono ?_;rintro e O ⟨rfl,c⟩;have m:=Aa (u.o.trans (c.mono u.o.size));clear c;go_wp2_with fail;exact ⟨⟨k+1,by omega,by go_num,A.o (by first | rfl | trivial),m.o⟩,by simp [intOf];omega⟩
   | true=>
    go_wp2_with fail;refine (d.o).mono ?_;rintro e O ⟨rfl,c⟩;have m:=Aa (u.o.trans (c.mono u.o.size));clear c;go_wp2_with fail;go_ret;refine ⟨(k:Int),by first | rfl | trivial,?_,m.o⟩;rw [z.o (by first | rfl | trivial)];simp
  ·have y:=x.o
   rw [List.take_of_length_le (by omega)] at y;have S:=Aa y;clear y x hF t;go_wp2_with fail;go_ret;refine ⟨-1,by first | rfl | trivial,?_,u.o⟩;rw [S.o];rfl
theorem Ep (F:FuncId) (cap:List Value) (p:Ev4->Bool) (l:List Ev4) (v:Value) (w:World) (h:EvL w v l) (hF:Hx (JN F cap p w)) (hC:∀ (args:Array Value) (w:World),(callFunc F args).run Tryz.prog w=.ok (.enter F args) w) :
  Calls Tryz.prog 135 #[v,.func (.func F) #[] cap.toArray] w fun e w'=>e=zj (zg (l.any p))/\Ov w w':=by
 have K:=Aa (Kw F cap p l v w h hF hC);obtain ⟨j,k,b,rfl,a⟩:=h;obtain ⟨q,d⟩:=nm (l.any p);rw [<-d] at K ⊢;clear a d hF;go_enter Tryz.func135,Tryz.ntmps135;go_wp2_with fail;refine (K.o).mono ?_;rintro e i ⟨r,rfl,c,f⟩;have g:=Aa c;clear c;go_wp2_with fail;go_ret;exact ⟨by rw [<-g.o];simp,f⟩
def EV (e:Ev4):Bool:=decide (e.1 < 1) || decide (3 < e.1)
def C7 (on vn:Nat) (e:Ev4):Bool:=decide (e.2.2.1 < 0) || decide ((if e.1=1 then (on:Int) else (vn:Int))<=e.2.2.1)
def FH (on vn:Nat) (l:List Ev4):Int:=if l.any EV=true then 7 else if l.any (C7 on vn)=true then 5 else 0
theorem LL (w:World):JN 132 [] EV w:=by
 rintro ⟨k,a,c,x⟩ W d;have b:Ov W (W.alloc (ze #[zd U k,zd U a,zd U c,zd U x] 136)):=bA W _;unfold EV;dsimp only;show Calls Tryz.prog 132 #[zh #[zd U k,zd U a,zd U c,zd U x]] W _;clear d;by_cases h1:k < 1
 ·go_enter Tryz.func132,Tryz.ntmps132
  go_wp2_with fail;go_ret;exact ⟨by first | (simp;done) | (simp [h1];done),b⟩
 ·by_cases h2:3 < k
  ·go_enter Tryz.func132,Tryz.ntmps132
   go_wp2_with fail;go_ret;exact ⟨by first | (simp;done) | (simp [h1,h2];done) | (simp;omega),b⟩
  ·go_enter Tryz.func132,Tryz.ntmps132
   go_wp2_with fail;go_ret;exact ⟨by first | (simp;done) | (simp [h1,h2];done) | (simp;omega),b⟩
theorem NA (m:Int) (ga gn gc sa sn sc ya yn yc oa on oc va vn vc fa fn fc ba bn bc) (k:Int) (w:World):Calls Tryz.prog 134 #[zh #[zd U m,O ga gn gc,O sa sn sc,O ya yn yc,O oa on oc,O va vn vc,O fa fn fc,O ba bn bc],zd U k] w fun e w'=>e=zj (zd U (if k=1 then (on:Int) else (vn:Int)))/\Ov w w':=by
 have a:Ov w (w.alloc (ze #[zd U m,O ga gn gc,O sa sn sc,O ya yn yc,O oa on oc,O va vn vc,O fa fn fc,O ba bn bc] 31)):=bA w _;by_cases h1:k=1
 ·subst h1
  rw [if_pos rfl];go_enter Tryz.func134,Tryz.ntmps134;go_wp2_with fail;go_ret;exact ⟨rfl,a⟩
 ·rw [if_neg h1]
  have b:(k == 1)=false:=by simpa using h1
  go_enter Tryz.func134,Tryz.ntmps134;go_wp2_with fail;go_ret;exact ⟨rfl,a⟩
abbrev Rl (W:World) (k a c x:Int) (bp:Nat) (m:Int) (ga:Option Addr) (gn gc:Nat) (sa:Option Addr) (sn sc:Nat) (ya:Option Addr) (yn yc:Nat) (oa:Option Addr) (on oc:Nat) (va:Option Addr) (vn vc:Nat) (fa:Option Addr) (fn fc:Nat) (ba:Option Addr) (bn bc:Nat) (Wz:World):Prop:=Wz.cell? ⟨W.heap.size,0,none⟩=some (zd U k)/\CE Wz W.heap.size 1 (zd U a)/\CE Wz W.heap.size 2 (zd U c)/\CE Wz W.heap.size 3 (zd U x)/\CE Wz bp 0 (zd U m)/\CE Wz bp 1 (O ga gn gc)/\CE Wz bp 2 (O sa sn sc)/\CE Wz bp 3 (O ya yn yc)/\CE Wz bp 4 (O oa on oc)/\CE Wz bp 5 (O va vn vc)/\CE Wz bp 6 (O fa fn fc)/\CE Wz bp 7 (O ba bn bc)
theorem LK (m:Int) (ga gn gc sa sn sc ya yn yc oa on oc va vn vc fa fn fc ba bn bc) (bp:Nat) (w:World) (hp:Ad [zd U m,O ga gn gc,O sa sn sc,O ya yn yc,O oa on oc,O va vn vc,O fa fn fc,O ba bn bc] w bp):JN 133 [zi (some ⟨bp,0,none⟩)] (C7 on vn) w:=by
 rintro ⟨k,a,c,x⟩ W J;have d:Ov W (W.alloc (ze #[zd U k,zd U a,zd U c,zd U x] 136)):=bA W _;have n:Ov W (W.alloc (ze #[zd U k,zd U a,zd U c,zd U x] 136)).drew:=below_drewN d 1;have g:=Ad.newA #[zd U k,zd U a,zd U c,zd U x] 136 W;have l:=(hp.over J).over d;have G:=Aa (NA m ga gn gc sa sn sc ya yn yc oa on oc va vn vc fa fn fc ba bn bc k (W.alloc (ze #[zd U k,zd U a,zd U c,zd U x] 136)).drew);unfold C7;dsimp only;show Calls Tryz.prog 133 #[zh #[zd U k,zd U a,zd U c,zd U x],zi (some ⟨bp,0,none⟩)] W _;obtain ⟨F,E,D,C⟩:=rc4 g;obtain ⟨A,z,y,v,u,t,s,p⟩:=rc8 l;have i:=Aa n;obtain ⟨N,I⟩:∃ q:Int,q=(if k=1 then (on:Int) else (vn:Int)):=⟨_,rfl⟩;rw [<-I] at G ⊢;clear J hp l g I d n;by_cases h1:c < 0
 ·have L:decide (c < 0)=true:=by simp [h1]
  have j:(decide (c < 0) || decide (N<=c))=true:=by simp [h1]
  rw [j];clear j G;go_enter Tryz.func133,Tryz.ntmps133;go_wp2_with fail;refine gS (Rl W k a c x bp m ga gn gc sa sn sc ya yn yc oa on oc va vn vc fa fn fc ba bn bc) (⟨F,E,D,C,A,z,y,v,u,t,s,p⟩) fun f=>?_;refine kT 0 ?_;refine kT 1 ?_;refine kT 2 ?_;refine kT 3 ?_;refine kU 4 ?_;refine kU 5 ?_;refine kU 6 ?_;refine kU 7 ?_;refine kU 8 ?_;refine kU 9 ?_;refine kU 10 ?_;refine kT 11 ?_;refine kT 12 ?_;refine gE ?_;go_wp2_with fail;go_ret;exact ⟨rfl,i.o⟩
 ·have L:decide (c < 0)=false:=by simp [h1]
  have j:(decide (c < 0) || decide (N<=c))=decide (N<=c):=by simp [h1]
  rw [j];obtain ⟨r,B⟩:=nm (decide (N<=c));rw [<-B];have Q:=Aa B;clear j B;go_enter Tryz.func133,Tryz.ntmps133;go_wp2_with fail;refine gS (Rl W k a c x bp m ga gn gc sa sn sc ya yn yc oa on oc va vn vc fa fn fc ba bn bc) (⟨F,E,D,C,A,z,y,v,u,t,s,p⟩) fun f=>?_;refine kT 0 ?_;refine kT 1 ?_;refine kT 2 ?_;refine kT 3 ?_;refine kT 4 ?_;refine kT 5 ?_;refine kT 6 ?_;refine kT 7 ?_;refine kT 8 ?_;refine rdA 9 rfl fun K M=>?_;go_simp;refine (G.o).mono ?_;rintro e P ⟨rfl,h⟩;have b:Ov (W.alloc (ze #[zd U k,zd U a,zd U c,zd U x] 136)) P:=(bD _).trans h;have H:=Aa (i.o.trans (h.mono i.o.size));clear h;go_simp;refine xK M (⟨Ab b _ _ F,Ab b _ _ E,Ab b _ _ D,Ab b _ _ C,Ab b _ _ A,Ab b _ _ z,Ab b _ _ y,Ab b _ _ v,Ab b _ _ u,Ab b _ _ t,Ab b _ _ s,Ab b _ _ p⟩) fun f=>?_;refine kT 10 ?_;refine kT 11 ?_;refine kT 12 ?_;refine gE ?_;go_wp2_with fail;go_ret;exact ⟨by rw [Q.o];try simp,H.o⟩
theorem GL (m:Int) (ga gn gc sa sn sc ya yn yc oa on oc va vn vc fa fn fc ba bn bc) (la ln lc) (l:List Ev4) (w:World) (h:EvL w (O la ln lc) l) :
  Calls Tryz.prog 79 #[zh #[zd U m,O ga gn gc,O sa sn sc,O ya yn yc,O oa on oc,O va vn vc,O fa fn fc,O ba bn bc],O la ln lc] w fun e w'=>e=zj (zd U (FH on vn l))/\Ov w w':=by
 have x:∀ (fn:Fn) (first cap:Array Value) (w:World),(Instr.makeFunc fn first cap).run Tryz.prog w=.ok (.func fn first cap) w:=fun _ _ _ _=>rfl;have c:Ov w (w.alloc (ze #[zd U m,O ga gn gc,O sa sn sc,O ya yn yc,O oa on oc,O va vn vc,O fa fn fc,O ba bn bc] 31)):=bA w _;have g:=Ad.newA #[zd U m,O ga gn gc,O sa sn sc,O ya yn yc,O oa on oc,O va vn vc,O fa fn fc,O ba bn bc] 31 w;have i:=Aa (Ep 132 [] EV l (O la ln lc) _ (h.over c) (Aa (LL _)) (fun q w=>by simp [go_sem]));have r:=Aa fun W (hW:Ov (w.alloc (ze #[zd U m,O ga gn gc,O sa sn sc,O ya yn yc,O oa on oc,O va vn vc,O fa fn fc,O ba bn bc] 31)) W)=>Ep 133 [zi (some ⟨w.heap.size,0,none⟩)] (C7 on vn) l (O la ln lc) W ((h.over c).over hW) (Aa (LK m ga gn gc sa sn sc ya yn yc oa on oc va vn vc fa fn fc ba bn bc w.heap.size W (g.over hW))) (fun q w=>by simp [go_sem]);unfold FH;obtain ⟨v,p⟩:=nm (l.any EV);obtain ⟨u,n⟩:=nm (l.any (C7 on vn));rw [<-p] at i ⊢;rw [<-n] at r ⊢;have k:=Aa c;clear h g p n c
 change Hx (Calls Tryz.prog 135 #[O la ln lc,.func (.func 132) #[] #[]] _ _) at i
 cases v with
 | true=>
  go_enter Tryz.func79,Tryz.ntmps79;go_wp2_with fail;refine (i.o).mono ?_;rintro e s ⟨rfl,a⟩;have b:=Aa (k.o.trans (a.mono k.o.size));clear a;go_wp2_with fail;go_ret;exact ⟨by first | rfl | simp,b.o⟩
 | false=>
  cases u with
  | true=>
   go_enter Tryz.func79,Tryz.ntmps79;go_wp2_with fail;refine (i.o).mono ?_;rintro e s ⟨rfl,a⟩;have f:=Aa (r.o s a)
   change Hx (Calls Tryz.prog 135 #[O la ln lc,.func (.func 133) #[] #[zi (some ⟨w.heap.size,0,none⟩)]] _ _) at f
   have b:=Aa (k.o.trans (a.mono k.o.size));clear a i r;go_wp2_with fail;refine (f.o).mono ?_;rintro e t ⟨rfl,d⟩;have j:=Aa (b.o.trans (d.mono b.o.size));clear d;go_wp2_with fail;go_ret;exact ⟨by first | rfl | simp,j.o⟩
  | false=>
   go_enter Tryz.func79,Tryz.ntmps79;go_wp2_with fail;refine (i.o).mono ?_;rintro e s ⟨rfl,a⟩;have f:=Aa (r.o s a)
   change Hx (Calls Tryz.prog 135 #[O la ln lc,.func (.func 133) #[] #[zi (some ⟨w.heap.size,0,none⟩)]] _ _) at f
   have b:=Aa (k.o.trans (a.mono k.o.size));clear a i r;go_wp2_with fail;refine (f.o).mono ?_;rintro e t ⟨rfl,d⟩;have j:=Aa (b.o.trans (d.mono b.o.size));clear d;go_wp2_with fail;go_ret;exact ⟨by first | rfl | simp,j.o⟩
def Rq (X:Prop) (m who:Int) (why:Int):Prop:=why=0 ↔ (X/\0<=who/\who < m)
theorem EZ (K kf:Nat) (m:Int) (ga gn gc sa sn sc ya yn yc oa on oc va vn vc fa fn fc ba bn bc) (who:Int) (gs sp ls ms vs fs l) (w:World) (h:BD K kf m ga gn gc sa sn sc ya yn yc oa on oc va vn vc fa fn fc ba bn bc gs sp ls ms vs fs l w) :
  Calls Tryz.prog 78 #[zh #[zd U m,O ga gn gc,O sa sn sc,O ya yn yc,O oa on oc,O va vn vc,O fa fn fc,O ba bn bc],zd U who] w fun e w'=>∃ why:Int,e=zj (zd U why)/\Rq (Ey.xP K kf m vn yn on sn gs sp ls ms vs fs l) m who why/\Ov w w':=by
 have a:Ov w (w.alloc (ze #[zd U m,O ga gn gc,O sa sn sc,O ya yn yc,O oa on oc,O va vn vc,O fa fn fc,O ba bn bc] 31)):=bA w _;have c:=Ad.newA #[zd U m,O ga gn gc,O sa sn sc,O ya yn yc,O oa on oc,O va vn vc,O fa fn fc,O ba bn bc] 31 w;have g:=Aa (Ey.scopeCheck_any K kf m ga gn gc sa sn sc ya yn yc oa on oc va vn vc fa fn fc ba bn bc gs sp ls ms vs fs l _ (h.over a));obtain ⟨f,u,t,s,r,q,p,n⟩:=rc8 c;have j:=Aa a;clear h c a;unfold Rq;go_enter Tryz.func78,Tryz.ntmps78;go_wp2_with fail;refine (g.o).mono ?_;rintro e v ⟨why,rfl,hw,d⟩;have y:=Ab d _ _ f;have b:=Aa (j.o.trans (d.mono j.o.size));have i:=Aa hw;clear f u t s r q p n d hw g;by_cases h0:why=0;rotate_left
 ·have x:(why == 0)=false:=by simpa using h0
  go_wp2_with fail;go_ret;exact ⟨why,rfl,⟨fun h=>absurd h h0,fun h=>absurd (i.o.2 h.1) h0⟩,b.o⟩
 subst h0;by_cases h1:who < 0
 ·go_wp2_with fail
  go_ret;exact ⟨5,rfl,⟨fun h=>absurd h (by decide),fun h=>by omega⟩,b.o⟩
 by_cases h2:who < m
 ·have k:¬ m<=who:=by omega
  go_wp2_with fail;go_ret;exact ⟨0,rfl,⟨fun _=>⟨i.o.1 (by first | rfl | trivial),by omega,h2⟩,fun _=>rfl⟩,b.o⟩
 ·have k:m<=who:=by omega
  go_wp2_with fail;go_ret;exact ⟨5,rfl,⟨fun h=>absurd h (by decide),fun h=>by omega⟩,b.o⟩
def Dh (outs vars:List Bool) (e:Ev4):Bool:=(if e.1=1 then outs else vars).getD e.2.2.1.toNat false
def Gt (n:Nat) (touch:Bool) (who:Nat) (gs:List (Int × Int)) (ms:List Lab):List Bool:=ms.map (fun x=>CB touch who (Ar (Ax gs) n x))
theorem La {p:Ev4->Bool} {l:List Ev4} {j:Nat} (hj:j < l.length):(l.take (j+1)).filter p=(l.take j).filter p++(if p l[j]=true then [l[j]] else []):=by
 rw [List.take_succ_eq_append_getElem hj,List.filter_append];congr 1;cases h:p l[j] <;> simp [h]
theorem H4 (K kf n:Nat) (ga gn gc sa sn sc ya yn yc oa on oc va vn vc fa fn fc ba bn bc) (who:Nat) (touch:Bool) (la ln lc) (evs:List Ev4) (gs sp ls ms vs fs l) (w:World) (h:BD K kf (n:Int) ga gn gc sa sn sc ya yn yc oa on oc va vn vc fa fn fc ba bn bc gs sp ls ms vs fs l w) (hE:EvL w (O la ln lc) evs) (hlen:evs.length<=100000) (hX:Ey.xP K kf (n:Int) vn yn on sn gs sp ls ms vs fs l) (hwho:who < n) (hev:FH on vn evs=0) :
  Calls Tryz.prog 27 #[zh #[zd U (n:Int),O ga gn gc,O sa sn sc,O ya yn yc,O oa on oc,O va vn vc,O fa fn fc,O ba bn bc],zd U (who:Int),zg touch,O la ln lc] w fun e w'=>∃ st v,e=zj (zk #[v,zd U 0])/\B2 n K kf gs vs ls fs l st/\st.vs.length=vn/\w'.ownsRow w.heap.size 136 4 v (evs.filter (Dh (Gt n touch who gs ms) (st.vs.map (CB touch who)))).length (Bi (evs.filter (Dh (Gt n touch who gs ms) (st.vs.map (CB touch who)))))/\Ov w w':=by
 have ad:Ov w (w.alloc (ze #[zd U (n:Int),O ga gn gc,O sa sn sc,O ya yn yc,O oa on oc,O va vn vc,O fa fn fc,O ba bn bc] 31)):=bA w _;have Y:=Ad.newA #[zd U (n:Int),O ga gn gc,O sa sn sc,O ya yn yc,O oa on oc,O va vn vc,O fa fn fc,O ba bn bc] 31 w;have K1:=Aa (EZ K kf (n:Int) ga gn gc sa sn sc ya yn yc oa on oc va vn vc fa fn fc ba bn bc (who:Int) gs sp ls ms vs fs l _ (h.over ad));have K2:=Aa fun W (hW:Ov w W)=>GL (n:Int) ga gn gc sa sn sc ya yn yc oa on oc va vn vc fa fn fc ba bn bc la ln lc evs W (hE.over hW);rw [hev] at K2;have bd:on=ms.length:=by obtain ⟨-,a,c,he,-⟩:=h.outs;injection he
 have aq:∀ b∈ms,Bb (n:Int) gs b=0:=fun b hb=>hX.labs.1 b (List.mem_append_right _ hb);have dp:n<=6:=by obtain ⟨n',h1,-,h2,-⟩:=Dr hX.chk;omega
 have ff:on<=5:=hX.ok.outs;have KC:=Aa fun W (hW:Ov w W)=>FJ n ga gn gc sa sn sc ya yn yc oa on oc va vn vc fa fn fc ba bn bc who touch oa on oc gs ms W (Af h.grants hW) (h.outs.over hW) aq hwho dp (by omega);have KV:=Aa fun W (hW:Ov w W)=>OH K kf n ga gn gc sa sn sc ya yn yc oa on oc va vn vc fa fn fc ba bn bc who touch gs sp ls ms vs fs l W (h.over hW) hX hwho;have aa:∀ x∈evs,C7 on vn x=false:=by
  intro x hx;unfold FH at hev;split at hev
  ·omega
  ·split at hev
   ·omega
   ·rename_i h2
    have:=List.any_eq_false.1 (by simpa using h2:evs.any (C7 on vn)=false) x hx;simpa using this
 have bz:ln=evs.length:=by obtain ⟨-,a,c,he,-⟩:=hE;injection he
 have HX:=Aa hX;have HE:=Aa hE;have bq:=Aa aa;have cq:=Aa ad;have ec:=Aa Y;have ee:=Aa bd;obtain ⟨i0,hi,bu,bt,bs⟩:=info_parts Tryz.infoE;obtain ⟨Q,aj⟩:=nm (Gt n touch who gs ms);rw [<-aj];have ax:Q.length=on:=by rw [aj,bd];simp [Gt]
 have ed:=Aa aj;have cl:=Aa ax;obtain ⟨a0,a1,a2,a3,a4,a5,a6,a7⟩:=rc8 Y;subst bz;clear h hE hX hev Y aq aa bd aj ax ad;go_enter Tryz.func27,Tryz.ntmps27;go_wp2_with fail;refine (K1.o).mono ?_;rintro e w1 ⟨di,rfl,an,bk⟩;have h0:di=0:=an.2 ⟨HX.o,by omega,by omega⟩;subst h0;have bp:=cq.o.trans (bk.mono cq.o.size);have cg:=Aa (K2.o w1 bp);have I:=ec.o.over bk;have ea:=Aa I;have cp:=Aa bp;obtain ⟨b0,b1,b2,b3,b4,b5,b6,b7⟩:=rc8 I;clear K1 K2 an bk bp I a0 a1 a2 a3 a4 a5 a6 a7;go_wp2_with fail;refine (cg.o).mono ?_;rintro e A ⟨rfl,bj⟩;have bm:=cp.o.trans (bj.mono cp.o.size);have H:=ea.o.over bj;have bf:Ov A (A.alloc (ze #[zd U (n:Int),O ga gn gc,O sa sn sc,O ya yn yc,O oa on oc,O va vn vc,O fa fn fc,O ba bn bc,zd U (who:Int),zg touch] 151)):=bA A _;have G:=H.over bf;have F:=Ad.newA #[zd U (n:Int),O ga gn gc,O sa sn sc,O ya yn yc,O oa on oc,O va vn vc,O fa fn fc,O ba bn bc,zd U (who:Int),zg touch] 151 A;have gj:=Aa F;have gk:=Aa G;have am:=Aa (bm.trans (bf.mono bm.size));obtain ⟨c0,c1,c2,c3,c4,c5,c6,c7⟩:=rc8 H;obtain ⟨d0,d1,d2,d3,d4,d5,d6,d7⟩:=rc8 G;obtain ⟨v0,v1,v2,v3,v4,v5,v6,v7,v8,v9⟩:=Ch F;have bg:Ov (A.alloc (ze #[zd U (n:Int),O ga gn gc,O sa sn sc,O ya yn yc,O oa on oc,O va vn vc,O fa fn fc,O ba bn bc,zd U (who:Int),zg touch] 151)) (A.alloc (ze #[zd U (n:Int),O ga gn gc,O sa sn sc,O ya yn yc,O oa on oc,O va vn vc,O fa fn fc,O ba bn bc,zd U (who:Int),zg touch] 151)).drew:=(bD _);have cf:=Aa (KC.o (A.alloc (ze #[zd U (n:Int),O ga gn gc,O sa sn sc,O ya yn yc,O oa on oc,O va vn vc,O fa fn fc,O ba bn bc,zd U (who:Int),zg touch] 151)).drew (am.o.trans (bg.mono am.o.size)));have ef:=Aa bg;clear cg KC bj bm H G bf F bg b0 b1 b2 b3 b4 b5 b6 b7;go_wp2_with fail;clear c0 c1 c2 c3 c4 c5 c6 c7;refine gS (fun B=>CE B w.heap.size 0 (zd U (n:Int))/\CE B w.heap.size 1 (O ga gn gc)/\CE B w.heap.size 2 (O sa sn sc)/\CE B w.heap.size 3 (O ya yn yc)/\CE B w.heap.size 4 (O oa on oc)/\CE B w.heap.size 5 (O va vn vc)/\CE B w.heap.size 6 (O fa fn fc)/\CE B w.heap.size 7 (O ba bn bc)/\CE B A.heap.size 0 (zd U (n:Int))/\CE B A.heap.size 1 (O ga gn gc)/\CE B A.heap.size 2 (O sa sn sc)/\CE B A.heap.size 3 (O ya yn yc)/\CE B A.heap.size 4 (O oa on oc)/\CE B A.heap.size 5 (O va vn vc)/\CE B A.heap.size 6 (O fa fn fc)/\CE B A.heap.size 7 (O ba bn bc)/\CE B A.heap.size 8 (zd U (who:Int))/\CE B A.heap.size 9 (zg touch)) (⟨d0,d1,d2,d3,d4,d5,d6,d7,v0,v1,v2,v3,v4,v5,v6,v7,v8,v9⟩) fun M=>?_;refine kT 0 ?_;refine kT 1 ?_;refine kT 2 ?_;refine kT 4 ?_;refine rdA 3 rfl fun K hK=>?_;go_simp;refine (cf.o).mono ?_;rintro e w3 ⟨bo,rfl,es,au,V,av⟩;have d:Ov (A.alloc (ze #[zd U (n:Int),O ga gn gc,O sa sn sc,O ya yn yc,O oa on oc,O va vn vc,O fa fn fc,O ba bn bc,zd U (who:Int),zg touch] 151)) w3:=ef.o.trans av;have bl:=am.o.trans (d.mono am.o.size);have ce:=Aa (KV.o w3 bl);rw [<-ee.o];have ck:=Aa V;have co:=Aa bl;clear av V bl KV;go_simp;refine xK hK (⟨Ab d _ _ d0,Ab d _ _ d1,Ab d _ _ d2,Ab d _ _ d3,Ab d _ _ d4,Ab d _ _ d5,Ab d _ _ d6,Ab d _ _ d7,Ab d _ _ v0,Ab d _ _ v1,Ab d _ _ v2,Ab d _ _ v3,Ab d _ _ v4,Ab d _ _ v5,Ab d _ _ v6,Ab d _ _ v7,Ab d _ _ v8,Ab d _ _ v9⟩) fun M=>?_;refine rdA 5 rfl fun K hK=>?_;go_simp;refine (ce.o).mono ?_;rintro e S ⟨bv,st,rfl,er,cb,ar,ap,T,ac⟩;have f:Ov (A.alloc (ze #[zd U (n:Int),O ga gn gc,O sa sn sc,O ya yn yc,O oa on oc,O va vn vc,O fa fn fc,O ba bn bc,zd U (who:Int),zg touch] 151)) S:=d.trans (ac.mono d.size);have cj:=Aa T;have a8:=Aa (ck.o.over ac au);have af:=Aa (co.o.trans (ac.mono co.o.size));have cc:bo < S.heap.size:=Nat.lt_of_lt_of_le au ac.size;have cm:=Aa ar;have az:=Aa ap;clear T ac ar ap;go_simp;refine xK hK (⟨Ab f _ _ d0,Ab f _ _ d1,Ab f _ _ d2,Ab f _ _ d3,Ab f _ _ d4,Ab f _ _ d5,Ab f _ _ d6,Ab f _ _ d7,Ab f _ _ v0,Ab f _ _ v1,Ab f _ _ v2,Ab f _ _ v3,Ab f _ _ v4,Ab f _ _ v5,Ab f _ _ v6,Ab f _ _ v7,Ab f _ _ v8,Ab f _ _ v9⟩) fun M=>?_;refine kT 6 ?_;refine kT 7 ?_;refine gE ?_;clear d0 d1 d2 d3 d4 d5 d6 d7 v0 v1 v2 v3 v4 v5 v6 v7 v8 v9 d f cf ce M;obtain ⟨X,ai⟩:=nm (st.vs.map (CB touch who));have aw:X.length=vn:=by rw [ai];simpa using az.o
 have d9:=Aa ai;have ch:=Aa aw;rw [<-ai] at cj;rw [show (ms.map fun x=>CB touch who (Ar (Ax gs) n x))=Q from ed.o.symm] at a8;clear ai aw ck;have dn:w.heap.size<=S.heap.size:=af.o.size;have ci:Hx (S.ownsRow S.heap.size 136 4 (O none 0 0) ((evs.take 0).filter (Dh Q X)).length (Bi ((evs.take 0).filter (Dh Q X)))):=World.ownsRow_nil _ _ _ _;go_wp2_with fail;go_loopw [15,43] (fun v i wr=>∃ j:Nat,i=zd U (j:Int)/\j<=evs.length/\wr.ownsRow S.heap.size 136 4 v ((evs.take j).filter (Dh Q X)).length (Bi ((evs.take j).filter (Dh Q X)))/\Ov S wr) (fun _ i _=>evs.length - (intOf i).toNat)
 case atStart=>exact ⟨0,rfl,Nat.zero_le _,ci.o,Below.refl _ _⟩
 case round=>
  clear ci;obtain ⟨j,rfl,hj,y,hB⟩:=hrel;have a9:=Aa y;have HB:=Aa hB;by_cases hjl:j < evs.length
  ·obtain ⟨-,ao,ev,dq,b8⟩:=HE.o
   injection dq with e1 e2 e3;obtain ⟨eb,eu,b9,as⟩:=b8 (by intro hz;rw [hz] at hjl;simp at hjl);obtain ⟨p0,p1,p2,p3⟩:=as j hjl;have dy:=e1.trans b9;subst dy;have cd:=af.o.trans (hB.mono af.o.size);obtain ⟨q0,q1,q2,q3⟩:=co4 cd p0 p1 p2 p3;have be:=La (p:=Dh Q X) hjl;have ag:=bq.o evs[j] (List.getElem_mem hjl);have fh:((evs.take j).filter (Dh Q X)).length<=100000:=Nat.le_trans (List.length_filter_le _ _) (by rw [List.length_take];omega);obtain ⟨e4,ca⟩:=nm (evs[j]);rw [<-ca] at q0 q1 q2 q3 be ag;obtain ⟨k,a,c,x⟩:=e4;dsimp only at q0 q1 q2 q3;unfold C7 at ag;simp only [Bool.or_eq_false_iff,decide_eq_false_iff_not,Int.not_lt,Int.not_le] at ag;obtain ⟨dv,ah⟩:=ag;obtain ⟨q,dt⟩:=Int.eq_ofNat_of_zero_le dv;subst dt;have V:=a8.o.over hB cc;have T:=cj.o.over hB cb;have al:=Aa be;have bi:Ov wr (wr.alloc (ze #[zd U k,zd U a,zd U (q:Int),zd U x] 136)):=bA wr _;have Z:=Bw y bi;have N:S.heap.size<=wr.heap.size:=hB.size;have r:=Aa bi;have HN:Hx (Ad [zd U k,zd U a,zd U (q:Int),zd U x] ((wr.alloc (ze #[zd U k,zd U a,zd U (q:Int),zd U x] 136)).alloc (ze #[zd U k,zd U a,zd U (q:Int),zd U x] 136)) (wr.heap.size+1)):=by
    have:=Ad.newA #[zd U k,zd U a,zd U (q:Int),zd U x] 136 (wr.alloc (ze #[zd U k,zd U a,zd U (q:Int),zd U x] 136));show Ad _ _ _;simpa using this
   have bh:Ov (wr.alloc (ze #[zd U k,zd U a,zd U (q:Int),zd U x] 136)) ((wr.alloc (ze #[zd U k,zd U a,zd U (q:Int),zd U x] 136)).alloc (ze #[zd U k,zd U a,zd U (q:Int),zd U x] 136)):=bA _ _;have m:=Bw Z bh;have bb:=Aa bh;have P:S.heap.size<=((wr.alloc (ze #[zd U k,zd U a,zd U (q:Int),zd U x] 136)).alloc (ze #[zd U k,zd U a,zd U (q:Int),zd U x] 136)).heap.size:=by simp;omega
   have ak:∀ (L:List Bool) (b:Nat),Gj L b wr->q < L.length->CE wr b q (zg L[q]!):=fun L b hr bw=>by
    have:=hr.row q (zg L[q]) (by simp [bw]);simpa [bw] using this
   clear b8 as p0 p1 p2 p3 e1 e2 e3 b9 ca be y Z bi bh cd hB;by_cases hk1:k=1
   ·subst hk1
    rw [if_pos rfl] at ah;have J:q < Q.length:=by rw [cl.o];omega
    have y0:=Ab r.o _ _ (ak Q bo V J);have s:Dh Q X (1,a,(q:Int),x)=Q[q]!:=by
     unfold Dh;rw [if_pos rfl];simp [J]
    have du:(q:Int) < (on:Int):=ah;obtain ⟨bx,ab⟩:=nm (Q[q]!);rw [<-ab] at y0 s;have z:=al.o;rw [s] at z;have E:=Aa z;clear s ab ak V T al z J;cases bx with
    | true=>
     go_wp2_with (at_builtin;refine wpList_append_own _ rfl _ _ 53 rfl S.heap.size 136 i0 (zh #[zd U 0,zd U 0,zd U 0,zd U 0]) 4 32 Tryz.underlying53 hi bu bt bs rfl (by decide) _ _ _ rfl m ⟨wr.heap.size+1,0,none⟩ 1 1 [zd U 1,zd U a,zd U (q:Int),zd U x] rfl rfl (fun jj u hu=>by rw [Addr.add_lit,Nat.zero_add];exact HN.o jj u hu) (by simp [Value.oneCell']) (by unfold maxLen;omega) (by omega) P ?_);intro v3 w5 t C _;have D:=B5 m C P;have ae:Ov S w5:=((HB.o.trans (r.o.mono N)).trans (bb.o.mono (by simp;omega))).trans D;have R:=Aa (And.intro t ae);clear m t C D ae;go_wp2_with fail;refine ⟨⟨j+1,by go_num,by omega,?_,R.o.2⟩,by simp [intOf];omega⟩;have h5:=R.o.1;rw [E.o,if_pos (by first | rfl | trivial),List.length_append,CP];exact h5
    | false=>
     have R:=Aa (And.intro (Bw a9.o r.o) (HB.o.trans (r.o.mono N)));clear m;go_wp2_with fail;refine ⟨⟨j+1,by go_num,by omega,?_,R.o.2⟩,by simp [intOf];omega⟩;rw [E.o,if_neg (by first | decide | exact id | simp),List.append_nil];exact R.o.1
   ·have fg:(k == 1)=false:=by simpa using hk1
    rw [if_neg hk1] at ah;have J:q < X.length:=by rw [ch.o];omega
    have y0:=Ab r.o _ _ (ak X bv T J);have s:Dh Q X (k,a,(q:Int),x)=X[q]!:=by
     unfold Dh;rw [if_neg hk1];simp [J]
    have du:(q:Int) < (vn:Int):=ah;obtain ⟨bx,ab⟩:=nm (X[q]!);rw [<-ab] at y0 s;have z:=al.o;rw [s] at z;have E:=Aa z;clear s ab ak V T al z J;cases bx with
    | true=>
     go_wp2_with (at_builtin;refine wpList_append_own _ rfl _ _ 53 rfl S.heap.size 136 i0 (zh #[zd U 0,zd U 0,zd U 0,zd U 0]) 4 32 Tryz.underlying53 hi bu bt bs rfl (by decide) _ _ _ rfl m ⟨wr.heap.size+1,0,none⟩ 1 1 [zd U k,zd U a,zd U (q:Int),zd U x] rfl rfl (fun jj u hu=>by rw [Addr.add_lit,Nat.zero_add];exact HN.o jj u hu) (by simp [Value.oneCell']) (by unfold maxLen;omega) (by omega) P ?_);intro v3 w5 t C _;have D:=B5 m C P;have ae:Ov S w5:=((HB.o.trans (r.o.mono N)).trans (bb.o.mono (by simp;omega))).trans D;have R:=Aa (And.intro t ae);clear m t C D ae;go_wp2_with fail;refine ⟨⟨j+1,by go_num,by omega,?_,R.o.2⟩,by simp [intOf];omega⟩;have h5:=R.o.1;rw [E.o,if_pos (by first | rfl | trivial),List.length_append,CP];exact h5
    | false=>
     have R:=Aa (And.intro (Bw a9.o r.o) (HB.o.trans (r.o.mono N)));clear m;go_wp2_with fail;refine ⟨⟨j+1,by go_num,by omega,?_,R.o.2⟩,by simp [intOf];omega⟩;rw [E.o,if_neg (by first | decide | exact id | simp),List.append_nil];exact R.o.1
  ·have dr:j=evs.length:=by omega
   rw [dr,List.take_length] at y;obtain ⟨e9,e7,e8,dl⟩:∃ a n c,u15=O a n c:=by
    rcases y.2 with ⟨h,_⟩ | ⟨g,fp,fo,h,_⟩
    ·exact ⟨_,_,_,h⟩
    ·exact ⟨_,_,_,h⟩
   subst dl;have R:=Aa (And.intro (DA y dn) (af.o.trans (hB.mono af.o.size)));clear y hB;go_wp2_with fail
   go_ret2
   exact ⟨st,_,rfl,cm.o,az.o,by rw [<-d9.o];exact R.o.1,R.o.2⟩
theorem DW {n K kf:Nat} {gs:List (Int × Int)} {vs:List (Bool × Lab)} {ls:List Lab} {fs:List FnD} {main:List D} {st st':ISt} (h:B2 n K kf gs vs ls fs main st) (h':B2 n K kf gs vs ls fs main st'):st=st':=by
 obtain ⟨k,e,m,l⟩:=h;obtain ⟨a,b,c,d⟩:=h';rcases Nat.lt_trichotomy k a with hk | hk | hk
 ·have:=d k hk
  rw [<-e,m] at this;cases this
 ·rw [e,b,hk]
 ·have:=l a hk
  rw [<-b,c] at this;cases this
theorem De {Q:Ev4->Prop} {r:Bool × RSt} {f:RSt->Bool × RSt} (h:∀ e∈r.2.ev,Q e) (hf:∀ u:RSt,(∀ e∈u.ev,Q e)->∀ e∈(f u).2.ev,Q e):∀ e∈(A0 r f).2.ev,Q e:=by
 unfold A0;split
 ·exact hf _ h
 ·exact h
theorem Qd (ob:Ob) (kind:Nat) (a:Int) (dp:Nat) (d) (st:RSt):(Bq ob kind a dp d st).2.ev=st.ev:=by
 unfold Bq;split <;> rfl
theorem Sm {K kf:Nat} {fs:List FnD} {F:Nat} {ins:List (List Int)} {ob:Ob} {P:Nat->D->Prop} {Q:Ev4->Prop} (hk:∀ k d,P k d->∀ a v,(Ag d=4->Q (1,a,Ae d,v))/\(Ag d=5->Q (2,a,Ap d,v))/\(Ag d=6->Q (3,a,Ap d,v)))
  (ht:∀ k d,P k d->∀ s∈Aj d,P (k - 1) s) (he:∀ k d,P k d->∀ s∈Ao d,P (k - 1) s) (hb:∀ i,∀ s∈(BV fs i).body,P kf s):∀ (g m k:Nat) (l:List D) (a:Int) (dp:Nat) (st:RSt),(∀ d∈l,P k d)->(∀ e∈st.ev,Q e)->∀ e∈(rn K kf fs F ins ob g m k l a dp st).2.ev,Q e:=by
 have p:∀ kind a dp d (st:RSt),(∀ e∈st.ev,Q e)->∀ e∈(Bq ob kind a dp d st).2.ev,Q e:=fun kind a dp d st h=>by rw [Qd];exact h
 have o:∀ (st:RSt) (x:Ev4),(∀ e∈st.ev,Q e)->Q x->∀ e∈(st.tell x).ev,Q e:=fun st x h c e h2=>by
  rcases List.mem_append.1 h2 with h2 | h2
  ·exact h e h2
  ·rw [List.mem_singleton.1 h2];exact c
 intro g
 induction g with
 | zero=>intro m k l a dp st _ h;exact h
 | succ g ih=>
  intro m k l a dp st n h
  match m,l with
  | 0,[]=>exact h
  | 0,d::r=>
   simp only [rn];split
   ·exact h
   ·exact De (p 1 a dp d st.step h) (fun u j=>De (ih _ _ _ _ _ _ (fun x c=>n x (by simp [List.mem_singleton.1 c])) j) (fun q b=>ih _ _ _ _ _ _ (fun x c=>n x (by simp [c])) b))
  | 1,[]=>exact h
  | 1,d::r=>
   have f:=n d (by simp);simp only [rn];split
   ·exact De (ih _ _ _ _ _ (st.args K fs d) (hb _) h) (fun u j=>De (p _ _ _ _ _ j) (fun q b=>b))
   ·split
    ·split
     ·exact ih _ _ _ _ _ _ (he k d f) h
     ·exact ih _ _ _ _ _ _ (ht k d f) h
    ·split
     ·exact ih _ _ _ _ _ _ (fun x c=>by rw [List.mem_singleton.1 c];exact f) h
     ·show ∀ e∈(DR K ins d a st).ev,Q e
      unfold DR;split
      ·exact h
      ·split
       ·exact h
       ·split
        ·rename_i y
         exact o _ _ h ((hk k d f a _).1 y)
        ·split
         ·rename_i w
          exact o (st.setv _ _) _ h ((hk k d f a _).2.1 w)
         ·split
          ·rename_i t
           exact o (st.setv _ _) _ h ((hk k d f a _).2.2 t)
          ·exact h
  | m+2,[]=>exact h
  | m+2,d::r=>
   have f:=n d (by simp);simp only [rn];split
   ·exact h
   ·refine De (ih _ _ _ _ _ _ (ht k d f) h) (fun u j=>?_)
    split
    ·exact j
    ·exact De (p 2 a dp d u.step j) (fun q b=>ih _ _ _ _ _ _ (fun x c=>by rw [List.mem_singleton.1 c];exact f) b)
def okK (K vn yn on:Nat) (fs:List FnD) (k:Nat) (d:D):Prop:=∃ f,okS K vn yn on f fs k d
theorem okK.one {K vn yn on:Nat} {fs:List FnD} {k:Nat} {d:D} (h:okK K vn yn on fs k d):(∃ f,Cx K vn yn on f fs d)/\(∀ s∈Aj d,okK K vn yn on fs (k - 1) s)/\∀ s∈Ao d,okK K vn yn on fs (k - 1) s:=by
 obtain ⟨f,h⟩:=h;cases k with
 | zero=>exact h.elim
 | succ k=>exact ⟨⟨f,h.1⟩,fun s a=>⟨f,h.2.1 s a⟩,fun s a=>⟨f,h.2.2 s a⟩⟩
section
variable {K kf:Nat} {m:Int} {vn yn on sn:Nat} {gs:List (Int × Int)} {sp:List Int} {ls ms:List Lab} {vs:List (Bool × Lab)} {fs:List FnD} {l:List D}
theorem okK.body (hX:Ey.xP K kf m vn yn on sn gs sp ls ms vs fs l) (i:Int):∀ s∈(BV fs i).body,okK K vn yn on fs kf s:=by
 unfold BV;intro s a;rw [List.getD_eq_getElem?_getD] at a;by_cases hi:i.toNat < fs.length
 ·rw [List.getElem?_eq_getElem hi] at a
  exact ⟨_,((hX.body _ hi).2.2.2.1 s a).ok⟩
 ·rw [List.getElem?_eq_none (by omega)] at a
  cases a
theorem okK.main (hX:Ey.xP K kf m vn yn on sn gs sp ls ms vs fs l):∀ s∈l,okK K vn yn on fs kf s:=fun s hs=>⟨_,(hX.main s hs).ok⟩
theorem JC (q:Nat) (L:Lev):CB false q L=low q L:=by
 unfold CB low;rw [if_neg (by decide),List.getD_eq_getElem?_getD]
theorem Kk {α:Type} (f:α->Bool) (g:α->Lev) (q:Nat) (hfg:∀ x,f x=low q (g x)) (l:List α) (i:Nat):(l.map f).getD i false=low q ((l.map g).getD i Ah):=by
 rw [List.getD_eq_getElem?_getD,List.getD_eq_getElem?_getD,List.getElem?_map,List.getElem?_map];cases l[i]? with
 | none=>rfl
 | some x=>exact hfg x
abbrev J3 (n q:Nat) (gs:List (Int × Int)) (ms:List Lab) (st:ISt):Ev4->Bool:=Dh (Gt n false q gs ms) (st.vs.map (CB false q))
theorem wfW {n q:Nat} {st:ISt} (hX:Ey.xP K kf m vn yn on sn gs sp ls ms vs fs l) (hv:vn=vs.length) (hi:B2 n K kf gs vs ls fs l st) (hq:q < n) (c:WK) (fl) (hc:c=⟨n,K,ls.map (Ar (Ax gs) n),ms.map (Ar (Ax gs) n),vs.map Prod.fst,vs.map (fun v=>Ar (Ax gs) n v.2),fs,fl⟩):Wf c (J3 n q gs ms st) q vn kf (okK K vn yn on fs):=by
 subst hc;refine ⟨hq,fun a r v=>?_,fun k a x v s g=>?_,fun k d h=>?_,fun k d h o=>?_,fun k d h=>h.one.2.1,fun k d h=>h.one.2.2,okK.body hX⟩
 ·show (if (1:Int)=1 then Gt n false q gs ms else _).getD r.toNat false=_
  rw [if_pos rfl];exact Kk _ _ q (fun x=>JC q _) ms _
 ·have b:¬ k=1:=by omega
  show (if k=1 then _ else st.vs.map (CB false q)).getD x.toNat false=_;rw [if_neg b];obtain ⟨i,e⟩:=LR g;have p:=Hs hi _ i e;have j:=Kk (CB false q) id q (fun x=>JC q x) st.vs x.toNat;rw [List.map_id] at j;rw [j,p];simp [List.getD_eq_getElem?_getD,i]
 ·obtain ⟨⟨f,b⟩,-⟩:=h.one
  exact b.1
 ·obtain ⟨⟨f,b⟩,-⟩:=h.one
  have:=b.2.1 (by omega);omega
def FZ (n q:Nat) (touch:Bool) (gs:List (Int × Int)) (ls:List Lab) (ins others:List (List Int)):List (List Int):=
 (List.range ins.length).map fun i=>if CB touch q (Ar (Ax gs) n (ls.getD i ⟨[],[]⟩))=true\/others.length<=i then ins.getD i [] else others.getD i []
theorem Ph (n q:Nat) (gs) (ls:List Lab) (ins others:List (List Int)) (i:Nat) (h:low q ((ls.map (Ar (Ax gs) n)).getD i Ah)=true):ins.getD i []=(FZ n q false gs ls ins others).getD i []:=by
 unfold FZ;by_cases hi:i < ins.length
 ·have a:CB false q (Ar (Ax gs) n (ls.getD i ⟨[],[]⟩))=true:=by
   rw [JC];by_cases hl:i < ls.length
   ·simpa [List.getD_eq_getElem?_getD,hl] using h
   ·rw [List.getD_eq_getElem?_getD,List.getElem?_eq_none (by simp;omega)] at h
    cases h
  rw [List.getD_eq_getElem?_getD (l:=List.map _ _),List.getElem?_map,List.getElem?_range hi];show _=(if _ then _ else _);rw [if_pos (Or.inl a)]
 ·rw [List.getD_eq_getElem?_getD,List.getD_eq_getElem?_getD,List.getElem?_eq_none (by omega),List.getElem?_eq_none (by simp;omega)]
theorem JU {n q F:Nat} {st:ISt} {ins others:List (List Int)} (hX:Ey.xP K kf m vn yn on sn gs sp ls ms vs fs l) (hv:vn=vs.length) (hi:B2 n K kf gs vs ls fs l st) (hq:q < n) (fl) :
  Alk 2 ((Bz n K kf F ins gs ls ms vs fs l fl vn yn).ev.filter (J3 n q gs ms st)) ((Bz n K kf F (FZ n q false gs ls ins others) gs ls ms vs fs l fl vn yn).ev.filter (J3 n q gs ms st)):=by
 obtain ⟨c,a⟩:∃ c:p,c=⟨n,K,ls.map (d (b gs) n),ms.map (d (b gs) n),vs.map e.fst,vs.map (fun v=>d (b gs) n v.2),fs,fl⟩:=⟨_,rfl⟩;have hW:=wfW hX hv hi hq c fl a;have k:c.n=n:=by rw [a]
 have j:c.K=K:=by rw [a]
 have i:c.fs=fs:=by rw [a]
 have g:c.ins=ls.map (d (b gs) n):=by rw [a]
 unfold Bz;rw [<-a];have h:=Ly (yn:=yn) (F:=F) hW (ins:=ins) (ins':=FZ n q false gs ls ins others) (fun o f=>Ph n q gs ls ins others o (by rw [<-g];exact f)) l (okK.main hX);rw [k,j,i] at h;exact h
theorem IC {n F:Nat} {ins:List (List Int)} (hX:Ey.xP K kf m vn yn on sn gs sp ls ms vs fs l) (fl):FH on vn (Bz n K kf F ins gs ls ms vs fs l fl vn yn).ev=0:=by
 have h:∀ e∈(Bz n K kf F ins gs ls ms vs fs l fl vn yn).ev,EV e=false/\C7 on vn e=false:=by
  unfold Bz Jk;rw [Ma];refine Sm (P:=okK K vn yn on fs) (fun k d h a v=>?_) (fun k d h=>h.one.2.1) (fun k d h=>h.one.2.2) (okK.body hX) _ _ _ _ _ _ _ (okK.main hX) (fun e b=>by cases b);obtain ⟨⟨f,c⟩,-⟩:=h.one;refine ⟨fun g=>?_,fun j=>?_,fun i=>?_⟩
  ·have:=c.2.2.2.2.2.2 g
   refine ⟨rfl,?_⟩;simp [C7];omega
  ·have:=c.2.1 (by omega)
   refine ⟨rfl,?_⟩;simp [C7];omega
  ·have:=c.2.1 (by omega)
   refine ⟨rfl,?_⟩;simp [C7];omega
 unfold FH;rw [if_neg,if_neg]
 ·rw [Bool.not_eq_true,List.any_eq_false]
  exact fun e b=>by rw [(h e b).2];decide
 ·rw [Bool.not_eq_true,List.any_eq_false]
  exact fun e b=>by rw [(h e b).1];decide
end
end Go.Proofs.YtfffpjkcfnekaaaGreat.Ex
