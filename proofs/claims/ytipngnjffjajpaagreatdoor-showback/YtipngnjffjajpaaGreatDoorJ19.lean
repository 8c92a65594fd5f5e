/- Trees that are the same; tokens alone say what is read. -/
import Derived.Test.YtipngnjffjajpaaGreatDoorJ15
import Derived.Shelf.Strconv.Itoa4
set_option linter.unusedVariables false
set_option maxHeartbeats 8000000
set_option maxRecDepth 100000
namespace Go.Proofs.YtipngnjffjajpaaGreatDoor.Tx
open Go.RowKit
open Go.Value renaming int -> I, slice -> zc, bool -> zd, pointer -> zf, agg -> zg, tuple -> zi
open Go.IntKind renaming i64 -> O
open Go.Obj renaming cells -> ze
open Go.Ending renaming returned -> zh
def all2 {α:Type} (f:α->α->Bool):List α->List α->Bool
 | [],[]=>true
 | a::l,b::m=>f a b && all2 f l m
 | _,_=>false
def seK (at_:Bool):Nat->D->D->Bool
 | 0,_,_=>true
 | k+1,a,b=>decide (gI 0 a=gI 0 b) && decide (gI 2 a=gI 2 b) && decide (gZ 3 a=gZ 3 b) && (!at_ || decide (gI 1 a=gI 1 b)) && all2 (seK at_ k) (gL 4 a) (gL 4 b)
def ssK (at_:Bool) (ke:Nat):Nat->D->D->Bool
 | 0,_,_=>true
 | k+1,a,b=>decide (gI 0 a=gI 0 b) && (!at_ || decide (gI 1 a=gI 1 b)) && decide (gZ 2 a=gZ 2 b) && decide (gZ 3 a=gZ 3 b) && seK at_ ke (gD 4 a) (gD 4 b) && all2 (seK at_ ke) (gL 5 a) (gL 5 b) && all2 (ssK at_ ke k) (gL 6 a) (gL 6 b) && all2 (ssK at_ ke k) (gL 7 a) (gL 7 b)
def sxS (a b:D):Bool:=decide (asS a=asS b)
def spD (at_:Bool) (a b:D):Bool:=(!at_ || decide (gI 0 a=gI 0 b)) && decide (gZ 1 a=gZ 1 b) && decide (gB 2 a=gB 2 b) && all2 sxS (gL 3 a) (gL 3 b)
def sdK (at_:Bool) (ke kc:Nat) (a b:D):Bool:=decide (gI 0 a=gI 0 b) && (!at_ || decide (gI 1 a=gI 1 b)) && decide (gZ 2 a=gZ 2 b) && decide (gZ 3 a=gZ 3 b) && decide (gB 4 a=gB 4 b) && all2 (spD at_) (gL 5 a) (gL 5 b) && all2 sxS (gL 6 a) (gL 6 b) && all2 (ssK at_ ke kc) (gL 7 a) (gL 7 b) && seK at_ ke (gD 8 a) (gD 8 b)
def stK (at_:Bool) (ke kc:Nat) (ds l ds' l':List D):Bool:=all2 (sdK at_ ke kc) ds ds' && all2 (ssK at_ ke kc) l l'
theorem Cd {α:Type} {f:α->α->Bool} (h:∀ a,f a a=true):∀ l,all2 f l l=true
 | []=>rfl
 | a::l=>by simp [all2,h a,Cd h l]
theorem Fl (at_:Bool):∀ (k:Nat) (a:D),seK at_ k a a=true
 | 0,a=>rfl
 | k+1,a=>by simp [seK,Cd (Fl at_ k)]
theorem Gv (at_:Bool) (ke:Nat):∀ (k:Nat) (a:D),ssK at_ ke k a a=true
 | 0,a=>rfl
 | k+1,a=>by simp [ssK,Fl,Cd (Fl at_ ke),Cd (Gv at_ ke k)]
theorem Ni (at_:Bool) (ke kc:Nat) (a:D):sdK at_ ke kc a a=true:=by
 have b:∀ a,sxS a a=true:=fun a=>by simp [sxS]
 have c:∀ a,spD at_ a a=true:=fun a=>by simp [spD,Cd b]
 simp [sdK,Fl,Cd b,Cd c,Cd (Gv at_ ke kc)]
theorem M3 (at_:Bool) (ke kc:Nat) (ds l:List D):stK at_ ke kc ds l ds l=true:=by
 simp [stK,Cd (Ni at_ ke kc),Cd (Gv at_ ke kc)]
def L2 {α:Type} (P:α->α->Prop):List α->List α->Prop
 | [],[]=>True
 | a::l,b::m=>P a b/\L2 P l m
 | _,_=>False
theorem L2.snoc {α:Type} {P:α->α->Prop}:∀ {l m:List α} {a b:α},L2 P l m->P a b->L2 P (l++[a]) (m++[b])
 | [],[],a,b,_,h=>⟨h,trivial⟩
 | x::l,y::m,a,b,h,hp=>⟨h.1,L2.snoc h.2 hp⟩
 | [],y::m,a,b,h,_=>h.elim
 | x::l,[],a,b,h,_=>h.elim
theorem L2.all2 {α:Type} {P:α->α->Prop} {f:α->α->Bool} (hf:∀ a b,P a b->f a b=true):∀ {l m:List α},L2 P l m->all2 f l m=true
 | [],[],_=>rfl
 | x::l,y::m,h=>by simp [Tx.all2,hf _ _ h.1,L2.all2 hf h.2]
 | [],y::m,h=>h.elim
 | x::l,[],h=>h.elim
def EA (a b:D):Prop:=∀ k,seK false k a b=true
def CA (a b:D):Prop:=∀ ke k,ssK false ke k a b=true
def PA (a b:D):Prop:=spD false a b=true
def DA (a b:D):Prop:=∀ ke kc,sdK false ke kc a b=true
section
variable {α:Type} {f:α->α->Bool}
theorem B8:∀ {l m:List α},all2 f l m=true->l.length=m.length
 | [],[],_=>rfl
 | a::l,b::m,h=>by simp [all2] at h;simp [B8 h.2]
 | [],_::_,h=>by cases h
 | _::_,[],h=>by cases h
theorem EU {β:Type} {F:β->α->β} (hF:∀ a b,f a b=true->∀ s,F s a=F s b):∀ {l m:List α},all2 f l m=true->∀ s,l.foldl F s=m.foldl F s
 | [],[],_,s=>rfl
 | a::l,b::m,h,s=>by simp [all2] at h;rw [List.foldl_cons,List.foldl_cons,hF a b h.1,EU hF h.2]
 | [],_::_,h,s=>by cases h
 | _::_,[],h,s=>by cases h
theorem CL {p:α->Bool} (hp:∀ a b,f a b=true->p a=p b):∀ {l m:List α},all2 f l m=true->l.all p=m.all p
 | [],[],_=>rfl
 | a::l,b::m,h=>by simp [all2] at h;rw [List.all_cons,List.all_cons,hp a b h.1,CL hp h.2]
 | [],_::_,h=>by cases h
 | _::_,[],h=>by cases h
theorem FG {p:α->Bool} (hp:∀ a b,f a b=true->p a=p b):∀ {l m:List α},all2 f l m=true->l.any p=m.any p
 | [],[],_=>rfl
 | a::l,b::m,h=>by simp [all2] at h;rw [List.any_cons,List.any_cons,hp a b h.1,FG hp h.2]
 | [],_::_,h=>by cases h
 | _::_,[],h=>by cases h
theorem FE {l m:List α} (h:all2 f l m=true):l.isEmpty=m.isEmpty:=by
 cases l <;> cases m <;> first | rfl | cases h
end
theorem Nq:∀ (k:Nat) {a b:D},seK false k a b=true->∀ L,plK k a L=plK k b L
 | 0,a,b,_,L=>rfl
 | k+1,a,b,h,L=>by
  simp [seK] at h;simp only [plK];exact EU (fun a b hab s=>by rw [Nq k hab]) h.2 _
theorem GN {k:Nat} {a b:D} (h:seK false k a b=true):Bn k a=Bn k b:=by unfold Bn;rw [Nq k h]
theorem IX:∀ (k:Nat) {a b:D},seK false k a b=true->efK k a=efK k b
 | 0,a,b,_=>rfl
 | k+1,a,b,h=>by
  simp [seK] at h;obtain ⟨⟨⟨h1,h2⟩,h3⟩,h4⟩:=h;simp only [efK];unfold gI gZ at *;rw [h1,h2,h3,B8 h4,CL (fun a b hab=>IX k hab) h4]
theorem LV {k:Nat} (hk:1<=k) {a b:D} (h:seK false k a b=true):Dd a=Dd b:=by
 obtain ⟨k,rfl⟩:∃ q,k=q+1:=⟨k - 1,by omega⟩;simp [seK] at h;obtain ⟨⟨⟨i,g⟩,f⟩,c⟩:=h;unfold Dd gI gZ at *;rw [i,g,f,FE c]
theorem FJ {ke k:Nat} {a b:D} (h:ssK false ke (k+1) a b=true):gI 0 a=gI 0 b/\gZ 2 a=gZ 2 b/\gZ 3 a=gZ 3 b/\seK false ke (gD 4 a) (gD 4 b)=true/\all2 (seK false ke) (gL 5 a) (gL 5 b)=true/\all2 (ssK false ke k) (gL 6 a) (gL 6 b)=true/\all2 (ssK false ke k) (gL 7 a) (gL 7 b)=true:=by
 simp [ssK] at h;obtain ⟨⟨⟨⟨⟨⟨n,l⟩,j⟩,i⟩,g⟩,f⟩,c⟩:=h;exact ⟨n,l,j,i,g,f,c⟩
theorem NJ {ke k:Nat} {a b:D} (h:ssK false ke (k+1) a b=true):B7 ke a=B7 ke b:=by
 obtain ⟨-,-,-,g,f,-,-⟩:=FJ h;unfold B7;rw [B8 f,GN g,FG (fun a b c=>GN c) f]
theorem Ij (ke:Nat):∀ (k:Nat) {l m:List D},all2 (ssK false ke k) l m=true->∀ deep left,slK ke k l deep left=slK ke k m deep left
 | 0,l,m,_,deep,left=>rfl
 | k+1,l,m,h,deep,left=>by
  simp only [slK];rw [EU (fun a b hab s=>?_) h];obtain ⟨-,-,-,-,-,h6,h7⟩:=FJ hab;unfold slF;rw [NJ hab];simp only [Ij ke k h6,Ij ke k h7]
theorem Ky {f:D->D->Bool} {p:D->Bool} (hp:∀ a b,f a b=true->p a=p b) {l m:List D} (h:all2 f l m=true) (q:Bool):lfS l q p=lfS m q p:=by
 unfold lfS;rw [FE h,CL hp h]
theorem Im (ke:Nat) (hke:1<=ke):∀ (k:Nat) {a b:D},ssK false ke k a b=true->sfK ke k a=sfK ke k b
 | 0,a,b,_=>rfl
 | k+1,a,b,h=>by
  obtain ⟨h1,h2,h3,h4,h5,h6,h7⟩:=FJ h;simp only [sfK];rw [h1,h2,h3,IX ke h4,LV hke h4,Ky (fun a b hab=>IX ke hab) h5,Ky (fun a b hab=>Im ke hke k hab) h6,Ky (fun a b hab=>Im ke hke k hab) h7]
theorem EM {ke kc:Nat} {a b:D} (h:sdK false ke kc a b=true):gI 0 a=gI 0 b/\gZ 2 a=gZ 2 b/\gZ 3 a=gZ 3 b/\gB 4 a=gB 4 b/\all2 (spD false) (gL 5 a) (gL 5 b)=true/\all2 sxS (gL 6 a) (gL 6 b)=true/\all2 (ssK false ke kc) (gL 7 a) (gL 7 b)=true/\seK false ke (gD 8 a) (gD 8 b)=true:=by
 simp [sdK] at h;obtain ⟨⟨⟨⟨⟨⟨⟨r,n⟩,l⟩,j⟩,i⟩,g⟩,f⟩,c⟩:=h;exact ⟨r,n,l,j,i,g,f,c⟩
theorem Hk {a b:D} (h:spD false a b=true):gZ 1 a=gZ 1 b/\gB 2 a=gB 2 b/\all2 sxS (gL 3 a) (gL 3 b)=true:=by
 simp [spD] at h;exact ⟨h.1.1,h.1.2,h.2⟩
theorem PO {a b:D} (h:sxS a b=true):nmS (asS a)=nmS (asS b):=by
 simp [sxS] at h;rw [h]
theorem O6 {a b:D} (h:spD false a b=true):Da a=Da b:=by
 obtain ⟨g,i,f⟩:=Hk h;unfold Da;rw [g,CL (fun a b c=>PO c) f]
theorem Ph {ke kc:Nat} {a b:D} (h:sdK false ke kc a b=true):Eb a=Eb b:=by
 obtain ⟨j,n,l,i,f,-⟩:=EM h;have g:gL 5 a≠[] ↔ gL 5 b≠[]:=by
  have:=B8 f;constructor
  ·intro h e;rw [e] at this;exact h (List.eq_nil_of_length_eq_zero this)
  ·intro h e;rw [e] at this;exact h (List.eq_nil_of_length_eq_zero this.symm)
 unfold Eb;simp only [g,j,i,CL (fun a b c=>O6 c) f]
theorem Qq {ke kc:Nat} (hke:1<=ke) {a b:D} (h:sdK false ke kc a b=true):dfK ke kc a=dfK ke kc b:=by
 obtain ⟨n,l,j,u,r,i,g,f⟩:=EM h;unfold dfK Ec;rw [Ph h,n,l,j,CL (fun a b c=>PO c) i,FE i,CL (fun a b c=>Im ke hke kc c) g,FE g,IX ke f,LV hke f]
theorem NK {ke kc:Nat} {a b:D} (h:sdK false ke kc a b=true):BH ke a=BH ke b:=by
 obtain ⟨u,r,n,l,f,i,j,g⟩:=EM h;unfold BH;rw [B8 f,B8 i,GN g,FG (fun a b c=>by rw [B8 (Hk c).2.2]) f]
theorem NL {ke kc:Nat} {ds l ds' l':List D} (h1:all2 (sdK false ke kc) ds ds'=true) (h2:all2 (ssK false ke kc) l l'=true):C7 ke kc ds l=C7 ke kc ds' l':=by
 have n:=B8 h1;have j:ds.any (BH ke)=ds'.any (BH ke):=FG (fun a b c=>NK c) h1;have f:∀ a b,sdK false ke kc a b=true->∀ left,slK ke kc (gL 7 a) 1 left=slK ke kc (gL 7 b) 1 left:=fun a b c left=>by
  obtain ⟨-,-,-,-,-,-,g,-⟩:=EM c;rw [Ij ke kc g]
 have i:ds.foldl (fun left d=>slK ke kc (gL 7 d) 1 left) 50=ds'.foldl (fun left d=>slK ke kc (gL 7 d) 1 left) 50:=EU (F:=fun left d=>slK ke kc (gL 7 d) 1 left) f h1 50;unfold C7;rw [n,j,i,Ij ke kc h2]
theorem QG {ke kc:Nat} (hke:1<=ke) {ds l ds' l':List D} (h:stK false ke kc ds l ds' l'=true):ckT ke kc ds l=ckT ke kc ds' l':=by
 simp [stK] at h;obtain ⟨g,f⟩:=h;have j:ds.all (dfK ke kc)=ds'.all (dfK ke kc):=CL (fun a b c=>Qq hke c) g;have i:l.all (sfK ke kc)=l'.all (sfK ke kc):=CL (fun a b c=>Im ke hke kc c) f;unfold ckT;rw [NL g f,j,i]
def AY (x:List UInt8):List (List UInt8)->List UInt8
 | []=>[]
 | [a]=>a
 | a::b::l=>a++x++AY x (b::l)
def Cu (k:Int):List UInt8:=
 if k=3 then [32,43,32] else if k=4 then [32,45,32] else if k=5 then [32,42,32] else if k=6 then [32,60,32] else [32,61,61,32]
def exT:Nat->D->List UInt8
 | 0,_=>[]
 | k+1,d=>if gI 0 d=1 then Lib.itoa (gI 2 d) else if gI 0 d=2 then gZ 3 d else [40]++AY (Cu (gI 0 d)) ((gL 4 d).map (exT k))++[41]
def inT (deep:Nat):List UInt8:=(List.replicate deep [32,32]).flatten
def cmT (ke:Nat):Nat->Nat->D->List UInt8
 | 0,_,_=>[]
 | k+1,deep,d=>
  let i:=inT deep
  let e:=exT ke (gD 4 d)
  let body:=fun l:List D=>(l.map (cmT ke k (deep+1))).flatten
  if gI 0 d=1 then i++gZ 2 d++[32,61,32]++e++[59,10]
  else if gI 0 d=2 then i++gZ 2 d++[32,61,32]++gZ 3 d++[40]++AY [44,32] ((gL 5 d).map (exT ke))++[41,59,10]
  else if gI 0 d=3 then i++[103,101,116,32]++gZ 2 d++[32]++gZ 3 d++[59,10]
  else if gI 0 d=4 then i++[112,117,116,32]++gZ 3 d++[32]++e++[59,10]
  else if gI 0 d=5 then i++[114,101,118,101,97,108,32]++gZ 2 d++[32]++e++[59,10]
  else if gI 0 d=6 then i++[116,114,117,115,116,32]++gZ 2 d++[32]++e++[59,10]
  else (if gI 0 d=7 then i++[105,102,32] else i++[119,104,105,108,101,32])++e++[32,123,10]++body (gL 6 d)
   ++ (if gL 7 d=[] then [] else i++[125,32,101,108,115,101,32,123,10]++body (gL 7 d))++i++[125,10]
def Bt (ke k deep:Nat) (l:List D):List UInt8:=(l.map (cmT ke k deep)).flatten
def poT (d:D):List UInt8:=gZ 1 d++(if gB 2 d=true then [33] else [58])++(if gL 3 d=[] then [] else [32]++AY [44,32] ((gL 3 d).map asS))
def laT (d:D):List UInt8:=if gB 4 d=true then [32,123]++AY [59,32] ((gL 5 d).map poT)++[125] else []
def wdT (k:Int):List UInt8:=
 if k=1 then [97,99,116,111,114,32] else if k=2 then [103,114,97,110,116,32] else if k=3 then [115,112,101,97,107,32] else if k=4 then [105,110,32] else if k=5 then [111,117,116,32] else if k=6 then [118,97,114,32] else [102,117,110,99,32]
def deT (ke kc:Nat) (d:D):List UInt8:=
 if gI 0 d=7 then wdT 7++gZ 2 d++[40]++AY [44,32] ((gL 6 d).map asS)++[41,32,123,10]++Bt ke kc 1 (gL 7 d)++[32,32,114,101,116,117,114,110,32]++exT ke (gD 8 d)++[59,10,125,10]
 else wdT (gI 0 d)++gZ 2 d++(if gI 0 d=2 then [32]++gZ 3 d else [])++laT d++[59,10]
def trT (ke kc:Nat) (ds l:List D):List UInt8:=(ds.map (deT ke kc)).flatten++[109,97,105,110,32,123,10]++Bt ke kc 1 l++[125,10]
def spT (c:UInt8):Bool:=c == 32 || c == 10
abbrev KT:=Nat × List UInt8
def Tz:List KT->List UInt8->Prop
 | [],m=>m.all spT=true
 | (k,x)::ks,m=>∃ b r,m=b++(x++r)/\b.all spT=true/\te (x++r)=0/\tk (x++r)=(k,x.length)/\Tz ks r
def kkT (q:KT):Int × ByteArray:=((q.1:Int),⟨q.2.toArray⟩)
theorem Mc {c:UInt8} (h:spT c=true):¬ c.toNat=35/\Cw c=true:=by
 simp only [spT,Bool.or_eq_true,beq_iff_eq] at h;rcases h with rfl | rfl <;> decide
theorem Gy:∀ (b r:List UInt8),b.all spT=true->BU false (b++r)=b.length+BU false r
 | [],r,_=>by simp
 | c::b,r,h=>by
  simp only [List.all_cons,Bool.and_eq_true] at h;obtain ⟨h1,h2⟩:=Mc h.1;rw [List.cons_append];simp only [BU,h1,h2,if_true,if_false,Gy b r h.2,List.length_cons];omega
theorem M7 {m:List UInt8} (h:te m=0):BU false m=0:=by
 cases m with
 | nil=>rfl
 | cons c m=>
  have a:¬ (tk (c::m)).1=0:=fun g=>by simp [te,g] at h
  have b:¬ c.toNat=35:=fun h=>by
   obtain rfl:c=35:=UInt8.toNat_inj.1 h;exact a rfl
  have f:¬ Cw c=true:=fun h=>by
   simp only [Cw,decide_eq_true_eq] at h;rcases h with h | h | h
   ·obtain rfl:c=32:=UInt8.toNat_inj.1 h
    exact a rfl
   ·obtain rfl:c=9:=UInt8.toNat_inj.1 h
    exact a rfl
   ·obtain rfl:c=10:=UInt8.toNat_inj.1 h
    exact a rfl
  simp [BU,b,f]
theorem MV {m:List UInt8} (h:te m=0):0 < (tk m).2:=by
 cases m with
 | nil=>simp [te,tk] at h
 | cons c m=>
  by_cases hL:isL c=true
  ·simp [tk,hL,isN]
  have a:isL c=false:=by simpa using hL
  by_cases hD:isD c=true
  ·simp [tk,a,hD]
  have b:isD c=false:=by simpa using hD
  by_cases hE:((c::m).take 2 == [61,61])=true
  ·have e:tk (c::m)=(3,2):=by simp only [tk,a,b,hE];rfl
   rw [e];decide
  have f:((c::m).take 2 == [61,61])=false:=by simpa using hE
  by_cases hS:isS c=true
  ·have e:tk (c::m)=(3,1):=by simp only [tk,a,b,f,hS];rfl
   rw [e];decide
  ·have g:isS c=false:=by simpa using hS
   have e:tk (c::m)=(0,0):=by simp only [tk,a,b,f,g];rfl
   simp [te,e] at h
theorem LD (s:ByteArray):∀ (ks:List KT) (f i:Nat),Tz ks (s.data.toList.drop i)->i<=s.size->ks.length < f->∃ ts,Bi s f false i=.inl ts/\ts.map MU=ks.map kkT
 | [],f,i,h,hi,hf=>by
  obtain ⟨f',rfl⟩:∃ f',f=f' + 1:=⟨f - 1,by omega⟩;refine ⟨[],?_,rfl⟩;have e:s.data.toList.length=s.size:=rfl;have hs:AJ false s.data.toList i=s.size:=by
   have:=Gy _ [] h;rw [List.append_nil,List.length_drop] at this;unfold AJ;rw [this,e];simp [BU];omega
  simp only [Bi];rw [if_neg (by omega)]
 | (k,x)::ks,f,i,⟨b,r,hm,hb,ht,hk,hr⟩,hi,hf=>by
  obtain ⟨f',rfl⟩:∃ f',f=f' + 1:=⟨f - 1,by omega⟩;have e:s.data.toList.length=s.size:=rfl;have a:=congrArg List.length hm;rw [List.length_drop,List.length_append,List.length_append] at a;have l:=MV ht;rw [hk] at l;dsimp only at l;have g:AJ false s.data.toList i=i+b.length:=by
   unfold AJ;rw [hm,Gy _ _ hb,M7 ht,Nat.add_zero]
  have c:s.data.toList.drop (i+b.length)=x++r:=by rw [<-List.drop_drop,hm,List.drop_left]
  have u:AE s (i+b.length)=0:=by rw [FI,c,ht]
  have n:Ay s (i+b.length)=(k,i+b.length+x.length):=by rw [Ef,c,hk]
  have j:s.data.toList.drop (i+b.length+x.length)=r:=by rw [<-List.drop_drop,c,List.drop_left]
  obtain ⟨ts,y,v⟩:=LD s ks f' (i+b.length+x.length) (by rw [j];exact hr) (by omega) (by simp only [List.length_cons] at hf;omega);refine ⟨Fe s (i+b.length)::ts,?_,?_⟩
  ·simp only [Bi,g,u,n]
   rw [if_pos (by omega),if_pos trivial,y]
  ·rw [List.map_cons,List.map_cons,v]
   congr 1;unfold MU Fe kkT;rw [n];simp only [Prod.mk.injEq,true_and];apply ByteArray.ext;apply Array.toList_inj.1;rw [Lib.extract_data,c];simp
theorem MR:∀ {ks:List KT} {m:List UInt8},Tz ks m->ks.length<=m.length
 | [],m,_=>Nat.zero_le _
 | (k,x)::ks,m,⟨b,r,hm,hb,ht,hk,hr⟩=>by
  have:=MR hr;have hp:=MV ht;rw [hk] at hp;dsimp only at hp;rw [hm];simp only [List.length_cons,List.length_append];omega
theorem J3 {x:List UInt8} {ks:List KT} (h:Tz ks x):AZ ⟨x.toArray⟩=0/\(An ⟨x.toArray⟩).map MU=ks.map kkT:=by
 have i:=MR h;have a:(⟨x.toArray⟩:ByteArray).size=x.length:=by show x.toArray.size=_;simp
 obtain ⟨c,g,f⟩:=LD ⟨x.toArray⟩ ks (x.length+1) 0 (by simpa using h) (Nat.zero_le _) (by omega);have b:B6 ⟨x.toArray⟩=.inl c:=by unfold B6;rw [a];exact g
 exact ⟨by simp [AZ,b],by simp [An,b,f]⟩
theorem PN {rs:List KT} {c:UInt8} {r:List UInt8} (hc:spT c=true) (h:Tz rs r):Tz rs (c::r):=by
 cases rs with
 | nil=>show (c::r).all spT=true;rw [List.all_cons,hc];exact h
 | cons q rs=>
  obtain ⟨k,x⟩:=q;obtain ⟨b,a,f,g,i⟩:=h;exact ⟨c::b,a,by rw [f];rfl,by rw [List.all_cons,hc,g];rfl,i⟩
theorem Gq {rs:List KT} {k:Nat} {x r:List UInt8} (ht:te (x++r)=0) (hk:tk (x++r)=(k,x.length)) (h:Tz rs r):Tz ((k,x)::rs) (x++r):=⟨[],r,rfl,rfl,ht,hk,h⟩
def nN (r:List UInt8):Prop:=r.takeWhile isN=[]
theorem AR {c:UInt8} {r:List UInt8} (h:isN c=false):nN (c::r):=by unfold nN;rw [List.takeWhile_cons,h];rfl
theorem Mb {x r:List UInt8} (h:x.takeWhile isN=x) (hr:nN r):(x++r).takeWhile isN=x:=by
 induction x with
 | nil=>exact hr
 | cons c x ih=>
  rw [List.takeWhile_cons] at h;split at h
  ·rename_i a
   simp only [List.cons.injEq,true_and] at h;rw [List.cons_append,List.takeWhile_cons,if_pos a,ih h]
  ·cases h
theorem J7 {x r:List UInt8} (h:∀ c∈x,isD c=true) (hr:nN r):(x++r).takeWhile isD=x:=by
 induction x with
 | nil=>
  cases r with
  | nil=>rfl
  | cons c r=>
   unfold nN at hr;rw [List.takeWhile_cons] at hr;split at hr
   ·cases hr
   ·rename_i a
    have:isD c=false:=by
     cases hd:isD c with
     | false=>rfl
     | true=>exact absurd (by simp [isN,hd]) a
    rw [List.nil_append,List.takeWhile_cons,this];rfl
 | cons c x ih=>rw [List.cons_append,List.takeWhile_cons,if_pos (h c (by simp)),ih fun d hd=>h d (by simp [hd])]
def wdB (x:List UInt8):Bool:=(match x with | c::_=>isL c | []=>false) && decide (x.length<=12) && x.all isN
theorem MW {x:List UInt8} (h:x.all isN=true):x.takeWhile isN=x:=by
 induction x with
 | nil=>rfl
 | cons c x ih=>simp only [List.all_cons,Bool.and_eq_true] at h;rw [List.takeWhile_cons,if_pos h.1,ih h.2]
theorem LC {rs:List KT} {x r:List UInt8} (hw:wdB x=true) (hr:nN r) (h:Tz rs r):Tz ((1,x)::rs) (x++r):=by
 simp only [wdB,Bool.and_eq_true,decide_eq_true_eq] at hw
 cases x with
 | nil=>simp at hw
 | cons c x=>
  have e:=Mb (MW hw.2) hr;have a:tk (c::x++r)=(1,(c::x).length):=by
   rw [List.cons_append] at e ⊢;simp only [tk];rw [if_pos hw.1.1,e]
  refine Gq ?_ a h;unfold te;rw [a];have:=hw.1.2;simp only [List.length_cons] at this ⊢;rw [if_neg (by omega),if_neg (by omega),if_neg (by omega)]
theorem II {x:List UInt8} (h:nmS x=true):wdB x=true/\EZ.contains x=false:=by
 simp only [nmS,Bool.and_eq_true] at h;obtain ⟨v,b,r,i⟩:=(CU _ _ _).1 h.1;have e:(⟨x.toArray⟩:ByteArray).data.toList=x:=by simp
 rw [e] at b r i;refine ⟨?_,by simpa using h.2⟩;have a:(tk x).1=1:=by omega
 cases x with
 | nil=>simp [tk] at a
 | cons c x=>
  have g:isL c=true:=by
   cases g:isL c with
   | true=>rfl
   | false=>
    exfalso;simp only [tk,g] at a;split at a
    ·simp at *
    ·split at a
     ·simp at a
     ·split at a
      ·simp at a
      ·split at a <;> simp at a
  have n:tk (c::x)=(1,((c::x).takeWhile isN).length):=by simp [tk,g]
  rw [n] at i;have j:=G8 i;have f:(c::x).all isN=true:=by rw [<-j];exact List.all_takeWhile
  unfold te at b;rw [n,j] at b;simp only [wdB,g,f,Bool.true_and,Bool.and_true,decide_eq_true_eq];split at b
  ·cases b
  ·split at b
   ·cases b
   ·rename_i u l
    simp only [true_and,not_or,Nat.not_lt] at l;exact l.1
theorem Oy {rs:List KT} {x r:List UInt8} (hx:nmS x=true) (hr:nN r) (h:Tz rs r):Tz ((1,x)::rs) (x++r):=LC (II hx).1 hr h
theorem Ox {rs:List KT} {c:UInt8} {r:List UInt8} (h1:isL c=false) (h2:isD c=false) (h3:(c == 61)=false) (h4:isS c=true) (h:Tz rs r):Tz ((3,[c])::rs) (c::r):=by
 have a:((c::r).take 2 == [61,61])=false:=by
  simp only [List.take_succ_cons,List.cons_beq_cons,h3,Bool.false_and]
 have e:tk ([c]++r)=(3,1):=by
  show tk (c::r)=_;simp only [tk,h1,h2,a,h4];rfl
 exact Gq (x:=[c]) (by unfold te;rw [e];rfl) e h
theorem QO {rs:List KT} {r:List UInt8} (h:Tz rs (32::r)):Tz ((3,[61])::rs) (61::32::r):=by
 have e:tk ([61]++(32::r))=(3,1):=rfl;exact Gq (x:=[61]) (by unfold te;rw [e];rfl) e h
theorem Oz {rs:List KT} {r:List UInt8} (h:Tz rs r):Tz ((3,[61,61])::rs) (61::61::r):=by
 have e:tk ([61,61]++r)=(3,2):=rfl;exact Gq (x:=[61,61]) (by unfold te;rw [e];rfl) e h
def Bh (x:List KT):List (List KT)->List KT
 | []=>[]
 | [a]=>a
 | a::b::l=>a++x++Bh x (b::l)
def sg (c:UInt8):KT:=(3,[c])
def sgK (k:Int):KT:=if k=3 then sg 43 else if k=4 then sg 45 else if k=5 then sg 42 else if k=6 then sg 60 else (3,[61,61])
def nuK (n:Int):List KT:=if n < 0 then [sg 45,(2,Lib.decDigits n.natAbs)] else [(2,Lib.decDigits n.toNat)]
def exK:Nat->D->List KT
 | 0,_=>[]
 | k+1,d=>if gI 0 d=1 then nuK (gI 2 d) else if gI 0 d=2 then [(1,gZ 3 d)] else [sg 40]++Bh [sgK (gI 0 d)] ((gL 4 d).map (exK k))++[sg 41]
def w_ (x:List UInt8):KT:=(1,x)
def cmK (ke:Nat):Nat->D->List KT
 | 0,_=>[]
 | k+1,d=>
  let e:=exK ke (gD 4 d)
  let body:=fun l:List D=>(l.map (cmK ke k)).flatten
  if gI 0 d=1 then [w_ (gZ 2 d),sg 61]++e++[sg 59]
  else if gI 0 d=2 then [w_ (gZ 2 d),sg 61,w_ (gZ 3 d),sg 40]++Bh [sg 44] ((gL 5 d).map (exK ke))++[sg 41,sg 59]
  else if gI 0 d=3 then [w_ [103,101,116],w_ (gZ 2 d),w_ (gZ 3 d),sg 59]
  else if gI 0 d=4 then [w_ [112,117,116],w_ (gZ 3 d)]++e++[sg 59]
  else if gI 0 d=5 then [w_ [114,101,118,101,97,108],w_ (gZ 2 d)]++e++[sg 59]
  else if gI 0 d=6 then [w_ [116,114,117,115,116],w_ (gZ 2 d)]++e++[sg 59]
  else [if gI 0 d=7 then w_ [105,102] else w_ [119,104,105,108,101]]++e++[sg 123]++body (gL 6 d)
   ++ (if gL 7 d=[] then [] else [sg 125,w_ [101,108,115,101],sg 123]++body (gL 7 d))++[sg 125]
def B3 (ke k:Nat) (l:List D):List KT:=(l.map (cmK ke k)).flatten
def Hb (d:D):List KT:=[w_ (gZ 1 d),if gB 2 d=true then sg 33 else sg 58]++Bh [sg 44] ((gL 3 d).map (fun x=>[w_ (asS x)]))
def laK (d:D):List KT:=if gB 4 d=true then [sg 123]++Bh [sg 59] ((gL 5 d).map Hb)++[sg 125] else []
def wdK (k:Int):KT:=
 if k=1 then w_ [97,99,116,111,114] else if k=2 then w_ [103,114,97,110,116] else if k=3 then w_ [115,112,101,97,107] else if k=4 then w_ [105,110] else if k=5 then w_ [111,117,116] else if k=6 then w_ [118,97,114] else w_ [102,117,110,99]
def deK (ke kc:Nat) (d:D):List KT:=
 if gI 0 d=7 then [wdK 7,w_ (gZ 2 d),sg 40]++Bh [sg 44] ((gL 6 d).map (fun x=>[w_ (asS x)]))++[sg 41,sg 123]++B3 ke kc (gL 7 d)++[w_ [114,101,116,117,114,110]]++exK ke (gD 8 d)++[sg 59,sg 125]
 else [wdK (gI 0 d),w_ (gZ 2 d)]++(if gI 0 d=2 then [w_ (gZ 3 d)] else [])++laK d++[sg 59]
def trK (ke kc:Nat) (ds l:List D):List KT:=(ds.map (deK ke kc)).flatten++[w_ [109,97,105,110],sg 123]++B3 ke kc l++[sg 125]
def SgT (x:List UInt8) (ks:List KT) (q:List UInt8->Prop):Prop:=∀ r rs,q r->Tz rs r->Tz (ks++rs) (x++r)
def Ck (_:List UInt8):Prop:=True
theorem Em:SgT [] [] Ck:=fun r rs _ h=>h
theorem SgT.of {x:List UInt8} {ks:List KT} {q:List UInt8->Prop} (h:SgT x ks Ck):SgT x ks q:=fun r rs _ hz=>h r rs trivial hz
theorem SgT.app {x y:List UInt8} {ks js:List KT} {p q:List UInt8->Prop} (h1:SgT x ks p) (h2:SgT y js q) (hp:∀ r,q r->p (y++r)):SgT (x++y) (ks++js) q:=fun r rs hq hz=>by
 rw [List.append_assoc,List.append_assoc];exact h1 _ _ (hp r hq) (h2 r rs hq hz)
theorem Br {c:UInt8} (h1:isL c=false) (h2:isD c=false) (h3:(c == 61)=false) (h4:isS c=true):SgT [c] [sg c] Ck:=fun r rs _ hz=>Ox h1 h2 h3 h4 hz
theorem Ce {c:UInt8} (hc:spT c=true):SgT [c] [] Ck:=fun r rs _ hz=>PN hc hz
theorem QU:SgT [61,32] [sg 61] Ck:=fun r rs _ hz=>QO (PN rfl hz)
theorem OX:SgT [61,61] [(3,[61,61])] Ck:=fun r rs _ hz=>Oz hz
theorem Cl {x:List UInt8} (hx:nmS x=true):SgT x [w_ x] nN:=fun r rs hq hz=>Oy hx hq hz
theorem Il {x:List UInt8} (hx:wdB x=true):SgT x [w_ x] nN:=fun r rs hq hz=>LC hx hq hz
theorem CH {x:List UInt8} (hx:wdB x=true):SgT (x++[32]) [w_ x] Ck:=by
 have:=(Il hx).app (Ce (c:=32) rfl) (fun r _=>AR rfl)
 rwa [List.append_nil] at this
theorem GW:∀ (n:Nat),∀ c∈Lib.decDigits n,isD c=true:=by
 intro n
 induction n using Nat.strongRecOn with
 | ind n ih=>
  intro c hc;rw [Lib.decDigits] at hc;split at hc
  ·simp only [List.mem_singleton] at hc
   subst hc;simp only [isD,decide_eq_true_eq];rw [UInt8.toNat_ofNat_of_lt' (by show _ < 256;omega)];omega
  ·rw [List.mem_append] at hc
   rcases hc with hc | hc
   ·exact ih (n / 10) (by omega) c hc
   ·simp only [List.mem_singleton] at hc
    subst hc;simp only [isD,decide_eq_true_eq];rw [UInt8.toNat_ofNat_of_lt' (by show _ < 256;omega)];omega
theorem N8 (n:Nat):Lib.decDigits n≠[]:=by
 rw [Lib.decDigits];split <;> simp
theorem N9:∀ (n:Nat),1<=n->(Lib.decDigits n)[0]?≠some 48:=by
 intro n
 induction n using Nat.strongRecOn with
 | ind n ih=>
  intro f;rw [Lib.decDigits];split
  ·simp only [List.getElem?_cons_zero,ne_eq,Option.some.injEq]
   intro h;have:=congrArg UInt8.toNat h;rw [UInt8.toNat_ofNat_of_lt' (by show _ < 256;omega)] at this;have e:(48:UInt8).toNat=48:=rfl;omega
  ·have c:=ih (n / 10) (by omega) (by omega)
   have b:=N8 (n / 10);generalize Lib.decDigits (n / 10)=l at c b
   cases l with
   | nil=>exact absurd rfl b
   | cons a l=>simpa using c
theorem IZ:∀ (k n:Nat),n < 10 ^ (k+1)->(Lib.decDigits n).length<=k+1
 | 0,n,h=>by rw [Lib.decDigits,dif_pos (by omega)];simp
 | k+1,n,h=>by
  rw [Lib.decDigits];split
  ·simp
  ·have:=IZ k (n / 10) (by rw [Nat.pow_succ] at h;omega)
   simp only [List.length_append,List.length_cons,List.length_nil];omega
theorem GG:∀ (n:Nat),CF (Lib.decDigits n)=n:=by
 intro n
 induction n using Nat.strongRecOn with
 | ind n ih=>
  rw [Lib.decDigits];split
  ·simp only [CF,List.foldl_cons,List.foldl_nil]
   rw [UInt8.toNat_ofNat_of_lt' (by show _ < 256;omega)];omega
  ·have:=ih (n / 10) (by omega)
   unfold CF at this ⊢;rw [List.foldl_append,this];simp only [List.foldl_cons,List.foldl_nil];rw [UInt8.toNat_ofNat_of_lt' (by show _ < 256;omega)];omega
theorem Ng {n:Nat} (hn:n<=9999999):SgT (Lib.decDigits n) [(2,Lib.decDigits n)] nN:=fun r rs hq hz=>by
 have hd:=GW n;have hh:=N9 n;have h1:n=0->Lib.decDigits n=[48]:=fun h=>by subst h;rw [Lib.decDigits];rfl
 have hl:=IZ 6 n (by omega);have hne:=N8 n;generalize Lib.decDigits n=x at hd hh hl hne h1;have ht:=J7 hd hq
 cases x with
 | nil=>exact absurd rfl hne
 | cons c x=>
  have hc:=hd c (by simp);have hcl:isL c=false:=by
   simp only [isD,decide_eq_true_eq] at hc;simp only [isL,decide_eq_false_iff_not];omega
  have f:tk (c::x++r)=(2,(c::x).length):=by
   rw [List.cons_append] at ht ⊢;simp only [tk];rw [if_neg (by simp [hcl]),if_pos hc,ht]
  refine Gq ?_ f hz;unfold te;rw [f];simp only [List.length_cons] at hl ⊢;rw [if_neg (by omega),if_neg (by omega),if_neg];rintro ⟨-,b,a⟩;rw [List.cons_append,List.getElem?_cons_zero] at a;rcases Nat.eq_zero_or_pos n with h0 | h0
  ·have:=h1 h0
   rw [List.cons.injEq] at this;rw [this.2] at b;simp at b
  ·exact hh h0 (by simpa using a)
theorem P2 {n:Int} (h1:-9999999<=n) (h2:n<=9999999):SgT (Lib.itoa n) (nuK n) nN:=by
 unfold Lib.itoa nuK;split
 ·exact (Br (c:=45) rfl rfl rfl rfl).app (Ng (n:=n.natAbs) (by omega)) fun _ _=>trivial
 ·exact Ng (by omega)
theorem Nd {k:Int}:SgT (Cu k) [sgK k] Ck:=by
 have h:∀ {c:UInt8},SgT [c] [sg c] Ck->SgT [32,c,32] [sg c] Ck:=fun h=>(Ce (c:=32) rfl).app (h.app (Ce (c:=32) rfl) fun _ _=>trivial) fun _ _=>trivial;unfold Cu sgK;split
 ·exact h (Br rfl rfl rfl rfl)
 split
 ·exact h (Br rfl rfl rfl rfl)
 split
 ·exact h (Br rfl rfl rfl rfl)
 split
 ·exact h (Br rfl rfl rfl rfl)
 ·exact (Ce (c:=32) rfl).app (OX.app (Ce (c:=32) rfl) fun _ _=>trivial) fun _ _=>trivial
theorem Fh {α:Type} {x:List UInt8} {ks:List KT} {f:α->List UInt8} {g:α->List KT} (hx:SgT x ks Ck) (hn:∀ r,nN (x++r)):∀ (l:List α),(∀ a∈l,SgT (f a) (g a) nN)->SgT (AY x (l.map f)) (Bh ks (l.map g)) nN
 | [],_=>Em.of
 | [a],h=>h a (by simp)
 | a::b::l,h=>by
  have h1:=h a (by simp);have h2:=Fh hx hn (b::l) fun c hc=>h c (List.mem_cons_of_mem _ hc);exact SgT.app (SgT.app h1 hx fun r _=>hn r) h2 fun _ _=>trivial
theorem CE {k:Nat} {d:D} (h:efK (k+1) d=true):1<=gI 0 d/\gI 0 d<=7/\(if gI 0 d=1 then -9999999 else 0)<=gI 2 d/\gI 2 d<=(if gI 0 d=1 then 9999999 else 0)/\nfS (gZ 3 d) (decide (gI 0 d=2))=true/\(gL 4 d).length=(if gI 0 d<=2 then 0 else 2)/\∀ a∈gL 4 d,efK k a=true:=by
 simp only [efK,Bool.and_eq_true,decide_eq_true_eq,List.all_eq_true] at h;obtain ⟨⟨⟨⟨⟨⟨l,j⟩,i⟩,g⟩,f⟩,c⟩,b⟩:=h;exact ⟨l,j,i,g,f,c,b⟩
theorem Fi:∀ {k:Nat} {d:D},efK k d=true->SgT (exT k d) (exK k d) nN
 | 0,d,h=>by cases h
 | k+1,d,h=>by
  obtain ⟨h1,h2,h3,h4,h5,h6,h7⟩:=CE h;unfold exT exK;by_cases k1:gI 0 d=1
  ·rw [if_pos k1,if_pos k1]
   rw [if_pos k1] at h3 h4;exact P2 h3 h4
  rw [if_neg k1,if_neg k1];by_cases k2:gI 0 d=2
  ·rw [if_pos k2,if_pos k2]
   simp only [nfS,k2,decide_true,if_true] at h5;exact Cl h5
  rw [if_neg k2,if_neg k2];have hs:∀ r,nN (Cu (gI 0 d)++r):=fun r=>by
   unfold Cu;split
   ·exact AR rfl
   split
   ·exact AR rfl
   split
   ·exact AR rfl
   split
   ·exact AR rfl
   ·exact AR rfl
  have hg:=Fh (Nd (k:=gI 0 d)) hs (gL 4 d) fun a ha=>Fi (h7 a ha);exact SgT.app (SgT.app (Br (c:=40) rfl rfl rfl rfl) hg fun _ _=>trivial) (Br (c:=41) rfl rfl rfl rfl).of fun r _=>AR rfl
theorem Cb {ke k:Nat} {s:D} (h:sfK ke (k+1) s=true):hOk (gI 0 s)=true/\nfS (gZ 2 s) (Lb (gI 0 s))=true/\nfS (gZ 3 s) (Ld (gI 0 s))=true/\(if Hh (gI 0 s)=true then efK ke (gD 4 s) else Dd (gD 4 s))=true/\lfS (gL 5 s) (JM (gI 0 s)) (efK ke)=true/\lfS (gL 6 s) (Lc (gI 0 s)) (sfK ke k)=true/\lfS (gL 7 s) (JL (gI 0 s)) (sfK ke k)=true:=by
 simp only [sfK,Bool.and_eq_true] at h;obtain ⟨⟨⟨⟨⟨⟨j,i⟩,g⟩,f⟩,c⟩,b⟩,a⟩:=h;exact ⟨j,i,g,f,c,b,a⟩
theorem PP:∀ (deep:Nat),SgT (inT deep) [] Ck
 | 0=>Em
 | n+1=>by
  have e:inT (n+1)=[32]++([32]++inT n):=by simp [inT,List.replicate_succ]
  rw [e];exact (Ce (c:=32) rfl).app ((Ce (c:=32) rfl).app (PP n) fun _ _=>trivial) fun _ _=>trivial
theorem EK {α:Type} {f:α->List UInt8} {g:α->List KT}:∀ {l:List α},(∀ a∈l,SgT (f a) (g a) Ck)->SgT (l.map f).flatten (l.map g).flatten Ck
 | [],_=>Em
 | a::l,h=>by
  rw [List.map_cons,List.map_cons,List.flatten_cons,List.flatten_cons];exact (h a (by simp)).app (EK fun b hb=>h b (List.mem_cons_of_mem _ hb)) fun _ _=>trivial
theorem DV:SgT [59,10] [sg 59] Ck:=(Br (c:=59) rfl rfl rfl rfl).app (Ce (c:=10) rfl) fun _ _=>trivial
theorem Fg:SgT [32,123,10] [sg 123] Ck:=(Ce (c:=32) rfl).app ((Br (c:=123) rfl rfl rfl rfl).app (Ce (c:=10) rfl) fun _ _=>trivial) fun _ _=>trivial
theorem Fj:SgT [125,10] [sg 125] Ck:=(Br (c:=125) rfl rfl rfl rfl).app (Ce (c:=10) rfl) fun _ _=>trivial
theorem OY:SgT [125,32,101,108,115,101,32,123,10] [sg 125,w_ [101,108,115,101],sg 123] Ck:=
 (Br (c:=125) rfl rfl rfl rfl).app ((Ce (c:=32) rfl).app ((Il (x:=[101,108,115,101]) rfl).app Fg fun r _=>AR rfl) fun _ _=>trivial) fun _ _=>trivial
theorem Nf:SgT [32,61,32] [sg 61] Ck:=(Ce (c:=32) rfl).app QU fun _ _=>trivial
theorem Jk:SgT [44,32] [sg 44] Ck:=(Br (c:=44) rfl rfl rfl rfl).app (Ce (c:=32) rfl) fun _ _=>trivial
theorem OW:SgT [59,32] [sg 59] Ck:=(Br (c:=59) rfl rfl rfl rfl).app (Ce (c:=32) rfl) fun _ _=>trivial
theorem OZ {ke:Nat} {l:List D} (h:∀ a∈l,efK ke a=true):SgT (AY [44,32] (l.map (exT ke))) (Bh [sg 44] (l.map (exK ke))) nN:=Fh Jk (fun _=>AR rfl) l fun a ha=>Fi (h a ha)
theorem Jj {l:List D} (h:∀ a∈l,nmS (asS a)=true):SgT (AY [44,32] (l.map asS)) (Bh [sg 44] (l.map fun x=>[w_ (asS x)])) nN:=Fh Jk (fun _=>AR rfl) l fun a ha=>Cl (h a ha)
theorem SgT.cast {x x':List UInt8} {ks ks':List KT} {q:List UInt8->Prop} (h:SgT x ks q) (hx:x'=x) (hk:ks'=ks):SgT x' ks' q:=by rw [hx,hk];exact h
theorem Dj {k:Int} (h:hOk k=true):k=1\/k=2\/k=3\/k=4\/k=5\/k=6\/k=7\/k=8:=by
 simp only [hOk,Bool.and_eq_true,decide_eq_true_eq] at h;omega
theorem LI {ke:Nat}:∀ {k:Nat} {d:D} (deep:Nat),sfK ke k d=true->SgT (cmT ke k deep d) (cmK ke k d) Ck
 | 0,d,deep,h=>by cases h
 | k+1,d,deep,h=>by
  obtain ⟨h1,h2,h3,h4,h5,h6,h7⟩:=Cb h;have hI:=PP deep;have htr:∀ {q:List UInt8->Prop} {y:List UInt8},∀ r,q r->Ck (y++r):=fun _ _=>trivial;unfold cmT cmK;dsimp only;rcases Dj h1 with e | e | e | e | e | e | e | e;all_goals rw [e] at h2 h3 h4 h5 h6 h7 ⊢
  ·have hn:=Cl (x:=gZ 2 d) h2
   have he:=Fi (k:=ke) (d:=gD 4 d) h4;exact SgT.app (SgT.app (SgT.app (SgT.app hI hn htr) Nf (fun r _=>AR rfl)) he htr) DV (fun r _=>AR rfl)
  ·have hn:=Cl (x:=gZ 2 d) h2
   have ho:=Cl (x:=gZ 3 d) h3;have ha:=OZ (ke:=ke) (l:=gL 5 d) fun a ha=>by
    simp only [lfS,Bool.and_eq_true,List.all_eq_true] at h5;exact h5.2 a ha
   exact SgT.app (SgT.app (SgT.app (SgT.app (SgT.app (SgT.app hI hn htr) Nf (fun r _=>AR rfl)) ho htr) (Br (c:=40) rfl rfl rfl rfl) (fun r _=>AR rfl)) ha htr) ((Br (c:=41) rfl rfl rfl rfl).app DV htr) (fun r _=>AR rfl)
  ·have hn:=Cl (x:=gZ 2 d) h2
   have ho:=Cl (x:=gZ 3 d) h3;exact SgT.app (SgT.app (SgT.app (SgT.app (SgT.app hI (CH (x:=[103,101,116]) rfl) htr) hn htr) (Ce (c:=32) rfl) (fun r _=>AR rfl)) ho htr) DV (fun r _=>AR rfl)
  ·have ho:=Cl (x:=gZ 3 d) h3
   have he:=Fi (k:=ke) (d:=gD 4 d) h4;exact SgT.app (SgT.app (SgT.app (SgT.app (SgT.app hI (CH (x:=[112,117,116]) rfl) htr) ho htr) (Ce (c:=32) rfl) (fun r _=>AR rfl)) he htr) DV (fun r _=>AR rfl)
  ·have hn:=Cl (x:=gZ 2 d) h2
   have he:=Fi (k:=ke) (d:=gD 4 d) h4;exact SgT.app (SgT.app (SgT.app (SgT.app (SgT.app hI (CH (x:=[114,101,118,101,97,108]) rfl) htr) hn htr) (Ce (c:=32) rfl) (fun r _=>AR rfl)) he htr) DV (fun r _=>AR rfl)
  ·have hn:=Cl (x:=gZ 2 d) h2
   have he:=Fi (k:=ke) (d:=gD 4 d) h4;exact SgT.app (SgT.app (SgT.app (SgT.app (SgT.app hI (CH (x:=[116,114,117,115,116]) rfl) htr) hn htr) (Ce (c:=32) rfl) (fun r _=>AR rfl)) he htr) DV (fun r _=>AR rfl)
  ·have he:=Fi (k:=ke) (d:=gD 4 d) h4
   have ht:=EK (f:=cmT ke k (deep+1)) (g:=cmK ke k) (l:=gL 6 d) fun a ha=>LI (deep+1) (by
    simp only [lfS,Bool.and_eq_true,List.all_eq_true] at h6;exact h6.2 a ha)
   have hE:SgT (if gL 7 d=[] then [] else inT deep++[125,32,101,108,115,101,32,123,10]++((gL 7 d).map (cmT ke k (deep+1))).flatten) (if gL 7 d=[] then [] else [sg 125,w_ [101,108,115,101],sg 123]++((gL 7 d).map (cmK ke k)).flatten) Ck:=by
    split
    ·exact Em
    ·exact (hI.app OY htr).app (EK fun a ha=>LI (deep+1) (by
      simp only [lfS,Bool.and_eq_true,List.all_eq_true] at h7;exact h7.2 a ha)) htr
   exact SgT.cast (SgT.app (SgT.app (SgT.app (SgT.app (SgT.app (SgT.app (SgT.app hI (CH (x:=[105,102]) rfl) htr) he htr) Fg (fun r _=>AR rfl)) ht htr) hE htr) hI htr) Fj htr) (by simp) (by simp)
  ·have he:=Fi (k:=ke) (d:=gD 4 d) h4
   have ht:=EK (f:=cmT ke k (deep+1)) (g:=cmK ke k) (l:=gL 6 d) fun a ha=>LI (deep+1) (by
    simp only [lfS,Bool.and_eq_true,List.all_eq_true] at h6;exact h6.2 a ha)
   have b:gL 7 d=[]:=by
    simp only [lfS,Bool.and_eq_true] at h7;have:=h7.1;simpa [JL] using this
   rw [b];exact SgT.cast (SgT.app (SgT.app (SgT.app (SgT.app (SgT.app (SgT.app (SgT.app hI (CH (x:=[119,104,105,108,101]) rfl) htr) he htr) Fg (fun r _=>AR rfl)) ht htr) Em htr) hI htr) Fj htr) (by simp) (by simp)
theorem Nh {ke k:Nat} {l:List D} (deep:Nat) (h:∀ a∈l,sfK ke k a=true):SgT (Bt ke k deep l) (B3 ke k l) Ck:=EK fun a ha=>LI deep (h a ha)
theorem Dq {p:D} (h:Da p=true):nmS (gZ 1 p)=true/\∀ a∈gL 3 p,nmS (asS a)=true:=by
 simpa only [Da,Bool.and_eq_true,List.all_eq_true] using h
theorem QS {d:D} (h:Da d=true):SgT (poT d) (Hb d) nN:=by
 obtain ⟨i,g⟩:=Dq h;unfold poT Hb;have b:SgT (if gB 2 d=true then [33] else [58]) [if gB 2 d=true then sg 33 else sg 58] Ck:=by
  split
  ·exact Br rfl rfl rfl rfl
  ·exact Br rfl rfl rfl rfl
 have f:∀ r,nN ((if gB 2 d=true then [33] else [58])++r):=fun r=>by
  split <;> exact AR rfl
 have a:=SgT.app (Cl i) b fun r _=>f r;by_cases h0:gL 3 d=[]
 ·rw [if_pos h0,h0,List.append_nil]
  exact (SgT.app a (Em.of (q:=nN)) fun _ _=>trivial).cast (by simp) (by simp [Bh])
 ·rw [if_neg h0]
  exact (SgT.app a (SgT.app (Ce (c:=32) rfl) (Jj g) fun _ _=>trivial) fun _ _=>trivial).cast (by simp) (by simp)
theorem Bw {d:D} (h:Eb d=true):(gB 4 d=true->(gI 0 d=4\/gI 0 d=5\/gI 0 d=6)/\∀ p∈gL 5 d,Da p=true)/\(gB 4 d=false->gL 5 d=[]/\¬ (gI 0 d=4\/gI 0 d=5)):=by
 unfold Eb at h;split at h
 ·cases h
 rename_i c;split at h
 ·rename_i a
  simp only [Bool.and_eq_true,List.all_eq_true] at h;exact ⟨fun _=>⟨by omega,h.2⟩,fun e=>by rw [e] at h;exact absurd h.1 (by simp)⟩
 rename_i a;have b:gB 4 d=false->gL 5 d=[]:=fun e=>Classical.byContradiction fun f=>c ⟨e,f⟩;split at h
 ·rename_i g
  simp only [List.all_eq_true] at h;exact ⟨fun _=>⟨by omega,h⟩,fun e=>⟨b e,a⟩⟩
 ·exact ⟨fun e=>absurd h (by rw [e];simp),fun e=>⟨b e,a⟩⟩
theorem QT {d:D} (h:Eb d=true):SgT (laT d) (laK d) Ck:=by
 unfold laT laK;split
 ·rename_i f
  have b:=((Bw h).1 f).2;exact SgT.app (SgT.app ((Ce (c:=32) rfl).app (Br (c:=123) rfl rfl rfl rfl) fun _ _=>trivial) (Fh OW (fun _=>AR rfl) _ fun p a=>QS (b p a)) fun _ _=>trivial) (Br (c:=125) rfl rfl rfl rfl) fun r _=>AR rfl
 ·exact Em
theorem CX {ke kc:Nat} {d:D} (h:dfK ke kc d=true):1<=gI 0 d/\gI 0 d<=7/\nmS (gZ 2 d)=true/\nfS (gZ 3 d) (decide (gI 0 d=2))=true/\Eb d=true/\Ec ke kc d=true:=by
 simp only [dfK,Bool.and_eq_true,decide_eq_true_eq] at h;obtain ⟨⟨⟨⟨⟨i,g⟩,f⟩,c⟩,b⟩,a⟩:=h;exact ⟨i,g,f,c,b,a⟩
theorem Nc (k:Int):SgT (wdT k) [wdK k] Ck:=by
 unfold wdT wdK;split
 ·exact CH (x:=[97,99,116,111,114]) rfl
 split
 ·exact CH (x:=[103,114,97,110,116]) rfl
 split
 ·exact CH (x:=[115,112,101,97,107]) rfl
 split
 ·exact CH (x:=[105,110]) rfl
 split
 ·exact CH (x:=[111,117,116]) rfl
 split
 ·exact CH (x:=[118,97,114]) rfl
 ·exact CH (x:=[102,117,110,99]) rfl
theorem Q9 {d:D} (r:List UInt8):nN (laT d++([59,10]++r)):=by
 unfold laT;split <;> exact AR rfl
theorem QV {ke kc:Nat} {d:D} (h:dfK ke kc d=true):SgT (deT ke kc d) (deK ke kc d) Ck:=by
 obtain ⟨F,E,A,n,l,b⟩:=CX h;have a:∀ {q:List UInt8->Prop} {y:List UInt8},∀ r,q r->Ck (y++r):=fun _ _=>trivial;have f:=Cl A;unfold deT deK;by_cases k7:gI 0 d=7
 ·rw [if_pos k7,if_pos k7]
  simp only [Ec,k7,if_true,Bool.and_eq_true,List.all_eq_true] at b;have v:SgT [41,32,123,10] [sg 41,sg 123] Ck:=(Br (c:=41) rfl rfl rfl rfl).app Fg a;have u:SgT [32,32,114,101,116,117,114,110,32] [w_ [114,101,116,117,114,110]] Ck:=(Ce (c:=32) rfl).app ((Ce (c:=32) rfl).app (CH (x:=[114,101,116,117,114,110]) rfl) a) a;have i:SgT [59,10,125,10] [sg 59,sg 125] Ck:=DV.app Fj a;exact SgT.app (SgT.app (SgT.app (SgT.app (SgT.app (SgT.app (SgT.app (SgT.app (Nc 7) f a) (Br (c:=40) rfl rfl rfl rfl) (fun r _=>AR rfl)) (Jj b.1.1) a) v (fun r _=>AR rfl)) (Nh 1 b.1.2) a) u a) (Fi b.2) a) i (fun r _=>AR rfl)
 ·rw [if_neg k7,if_neg k7]
  by_cases k2:gI 0 d=2
  ·rw [if_pos k2,if_pos k2]
   simp only [nfS,k2,decide_true,if_true] at n;have j:gB 4 d=false:=by
    cases hg:gB 4 d with
    | false=>rfl
    | true=>have:=((Bw l).1 hg).1;omega
   have C:laT d=[]:=by unfold laT;rw [if_neg (by simp [j])]
   have B:laK d=[]:=by unfold laK;rw [if_neg (by simp [j])]
   rw [C,B];exact SgT.app (SgT.app (SgT.app (SgT.app (Nc _) f a) (SgT.app (Ce (c:=32) rfl) (Cl n) a) (fun r _=>AR rfl)) Em.of fun r hr=>hr) DV (fun r _=>AR rfl)
  ·rw [if_neg k2,if_neg k2]
   have g:=SgT.app (QT l) DV a;have:=SgT.app (SgT.app (Nc (gI 0 d)) f a) g (fun r _=>by rw [List.append_assoc];exact Q9 r);exact this.cast (by simp) (by simp)
theorem QR {ke kc:Nat} {ds l:List D} (h1:∀ d∈ds,dfK ke kc d=true) (h2:∀ s∈l,sfK ke kc s=true):Tz (trK ke kc ds l) (trT ke kc ds l):=by
 have a:∀ {q:List UInt8->Prop} {y:List UInt8},∀ r,q r->Ck (y++r):=fun _ _=>trivial;have b:SgT [109,97,105,110,32,123,10] [w_ [109,97,105,110],sg 123] Ck:=(Il (x:=[109,97,105,110]) rfl).app Fg fun r _=>AR rfl;have:=SgT.app (SgT.app (SgT.app (EK fun d c=>QV (h1 d c)) b a) (Nh (l:=l) 1 h2) a) Fj a [] [] trivial rfl
 rwa [List.append_nil,List.append_nil] at this
def At (ts:List Tok) (n:Nat) (ks:List KT):Prop:=(ts.drop n).map MU=ks.map kkT
section
variable {ts:List Tok} {n:Nat}
theorem At.cons {k:Nat} {x:List UInt8} {ks:List KT} (h:At ts n ((k,x)::ks)):(Ag ts n).kind=k/\(Ag ts n).text=⟨x.toArray⟩/\At ts (n+1) ks/\n < ts.length:=by
 unfold At at h;have hl:n < ts.length:=by
  rcases Nat.lt_or_ge n ts.length with hl | hl
  ·exact hl
  ·rw [List.drop_of_length_le hl] at h
   cases h
 rw [List.drop_eq_getElem_cons hl,List.map_cons,List.map_cons,List.cons.injEq] at h;have e:Ag ts n=ts[n]:=by unfold Ag;rw [List.getElem?_eq_getElem hl]
 rw [e];have a:=h.1;simp only [MU,kkT,Prod.mk.injEq] at a;exact ⟨a.1,a.2,h.2,hl⟩
theorem At.is {k:Nat} {x l:List UInt8} {ks:List KT} (h:At ts n ((k,x)::ks)):isT ts n l=(x == l):=by unfold isT;rw [h.cons.2.1]
theorem At.nm {k:Nat} {x:List UInt8} {ks:List KT} (h:At ts n ((k,x)::ks)):AN (Ag ts n)=(((k:Int) == 1) && !EZ.contains x):=by unfold AN Cy;rw [h.cons.1,h.cons.2.1]
theorem At.end (h:At ts n []):ts.length<=n:=by
 unfold At at h;simpa using h
theorem At.next {q:KT} {ks:List KT} (h:At ts n (q::ks)):At ts (n+1) ks:=by obtain ⟨k,x⟩:=q;exact h.cons.2.2.1
theorem At.few {ks:List KT} (h:At ts n ks):ks.length<=ts.length:=by
 have:=congrArg List.length h;rw [List.length_map,List.length_map,List.length_drop] at this;omega
def CC {α:Type} (r:Res α) (P:α->Prop) (ts:List Tok) (rs:List KT):Prop:=∃ a m,r=.inl (a,m)/\P a/\At ts m rs
theorem CC.bind {α β:Type} {r:Res α} {P:α->Prop} {Q:β->Prop} {rs rs':List KT} {f:α->Nat->Res β} (h:CC r P ts rs) (hf:∀ a m,P a->At ts m rs->CC (f a m) Q ts rs'):CC (Ar r f) Q ts rs':=by
 obtain ⟨a,m,rfl,b,c⟩:=h;exact hf a m b c
theorem CC.inl {α:Type} {P:α->Prop} {a:α} {m:Nat} {rs:List KT} (hp:P a) (ha:At ts m rs):CC (.inl (a,m)) P ts rs:=⟨a,m,rfl,hp,ha⟩
theorem Bd {k:Nat} {x:List UInt8} {rs:List KT} (h:At ts n ((k,x)::rs)):CC (Aq ts x n) (fun _=>True) ts rs:=by
 unfold Aq;rw [h.is,if_pos (by simp)];exact .inl trivial h.next
theorem F4 {x l:List UInt8} (hx:nmS x=true) (hl:nmS l=false):(x == l)=false:=by
 cases h:x == l with
 | false=>rfl
 | true=>rw [beq_iff_eq] at h;rw [h,hl] at hx;cases hx
theorem At.isn {x:List UInt8} {rs:List KT} (hx:nmS x=true) (h:At ts n (w_ x::rs)):AN (Ag ts n)=true:=by rw [h.nm,(II hx).2];rfl
theorem BC {x:List UInt8} {rs:List KT} (hx:nmS x=true) (h:At ts n (w_ x::rs)):CC (AD ts n) (fun y=>y.data.toList=x) ts rs:=by
 unfold AD;rw [if_pos (h.isn hx)];exact .inl (by rw [h.cons.2.1]) h.next
theorem At.isw {k:Nat} {x l:List UInt8} {rs:List KT} (h:At ts n ((k,x)::rs)) (hx:(x == l)=true):isT ts n l=true:=by rw [h.is,hx]
theorem At.no {k:Nat} {x l:List UInt8} {rs:List KT} (h:At ts n ((k,x)::rs)) (hx:(x == l)=false):isT ts n l=false:=by rw [h.is,hx]
theorem ER {α β:Type} {P:α->β->Prop} {C:β->Prop} {c:UInt8} {one:Nat->Res α} {g:β->List KT} {rs:List KT} (hrs:∀ m,At ts m rs->isT ts m [c]=false)
  (h1:∀ (b:β) (m:Nat) (js:List KT),C b->(∃ ls,js=sg c::ls)\/js=rs->At ts m (g b++js)->CC (one m) (fun a=>P a b) ts js)
  (L:List α->List β->Prop) (hL:∀ acc bs a b,L acc bs->P a b->L (acc++[a]) (bs++[b])) :
  ∀ (l:List β) (f:Nat) (acc:List α) (bs:List β) (m:Nat),(∀ b∈l,C b)->l≠[]->l.length<=f->L acc bs->At ts m (Bh [sg c] (l.map g)++rs)->CC (BW ts [c] one f true acc m) (fun r=>L r (bs++l)) ts rs
 | [],f,acc,bs,m,hC,hne,_,_,_=>absurd rfl hne
 | [b],f,acc,bs,m,hC,_,hf,hacc,hat=>by
  obtain ⟨f',rfl⟩:∃ f',f=f' + 1:=⟨f - 1,by simp at hf;omega⟩;unfold BW;rw [if_pos rfl];refine (h1 b m rs (hC b (by simp)) (Or.inr rfl) hat).bind fun a m1 hp h=>?_;rw [if_neg (by rw [hrs m1 h];simp)];exact .inl (hL _ _ _ _ hacc hp) h
 | b::b2::l,f,acc,bs,m,hC,_,hf,hacc,hat=>by
  obtain ⟨f',rfl⟩:∃ f',f=f' + 1:=⟨f - 1,by simp at hf;omega⟩;unfold BW;rw [if_pos rfl];have hat':At ts m (g b++(sg c::(Bh [sg c] ((b2::l).map g)++rs))):=by
   have e:Bh [sg c] ((b::b2::l).map g)++rs=g b++(sg c::(Bh [sg c] ((b2::l).map g)++rs)):=by simp [Bh]
   rw [<-e];exact hat
  refine (h1 b m _ (hC b (by simp)) (Or.inl ⟨_,rfl⟩) hat').bind fun a m1 hp h=>?_;rw [if_pos (h.isw (by simp))];have:=ER hrs h1 L hL (b2::l) f' (acc++[a]) (bs++[b]) (m1+1) (fun c i=>hC c (List.mem_cons_of_mem _ i)) (by simp) (by simp at hf ⊢;omega) (hL _ _ _ _ hacc hp) h.next
  rwa [List.append_assoc] at this
end
theorem EA.of {d:D} {kd a n:Int} {x:ByteArray} {ds:List D} (h0:gI 0 d=kd) (h2:gI 2 d=n) (h3:gZ 3 d=x.data.toList) (h4:L2 EA (gL 4 d) ds):EA d (eD kd a n x ds):=fun k=>by
 cases k with
 | zero=>rfl
 | succ k=>
  have:=L2.all2 (f:=seK false k) (fun a b h=>h k) h4;simp [seK,gEe,h0,h2,h3,this]
def dpK:Nat->D->Prop
 | 0,_=>False
 | k+1,d=>∀ a∈gL 4 d,dpK k a
theorem IY:∀ {k m:Nat} {d:D},k<=m->dpK k d->dpK m d
 | 0,m,d,_,h=>h.elim
 | k+1,m,d,hm,h=>by
  obtain ⟨q,rfl⟩:∃ q,m=q+1:=⟨m - 1,by omega⟩;exact fun a ha=>IY (by omega) (h a ha)
theorem ES {α:Type} (F:Int->α->Int) (hF:∀ l a,l < 0->F l a=l):∀ (m:List α) (l:Int),l < 0->m.foldl F l < 0
 | [],l,h=>h
 | a::m,l,h=>by rw [List.foldl_cons,hF l a h];exact ES F hF m l h
theorem N6:∀ {k:Nat} {d:D} {L:Int},efK k d=true->0<=L->0<=plK k d L->dpK L.toNat d
 | 0,d,L,h,_,_=>by cases h
 | k+1,d,L,h,hL,hp=>by
  obtain ⟨-,-,-,-,-,-,h7⟩:=CE h;simp only [plK] at hp;have key:∀ (m:List D) (l:Int),(∀ a∈m,efK k a=true)->l<=L - 1->0<=m.foldl (fun l a=>if l < 0 then l else plK k a l) l->∀ a∈m,dpK (L - 1).toNat a:=by
   intro m
   induction m with
   | nil=>intro l _ _ _ a ha;cases ha
   | cons b m ih=>
    intro l i x g a ha;rw [List.foldl_cons] at g;have n:¬ l < 0:=fun f=>by
     rw [if_pos f] at g;have:=ES (fun l a=>if l < 0 then l else plK k a l) (fun l a h=>by rw [if_pos h]) m l f;omega
    rw [if_neg n] at g;have y:=Kr k b l (by omega);have v:0<=plK k b l:=by
     rcases Int.lt_or_le (plK k b l) 0 with h2 | h2
     ·have:=ES (fun l a=>if l < 0 then l else plK k a l) (fun l a h=>by rw [if_pos h]) m _ h2
      omega
     ·exact h2
    rcases List.mem_cons.1 ha with rfl | ha
    ·have:=N6 (i _ (by simp)) (by omega) v
     exact IY (by omega) this
    ·exact ih _ (fun c r=>i c (List.mem_cons_of_mem _ r)) (by omega) g a ha
  have u:1<=L:=by
   rcases Int.lt_or_le (L - 1) 0 with h2 | h2
   ·have:=ES (fun l a=>if l < 0 then l else plK k a l) (fun l a h=>by rw [if_pos h]) (gL 4 d) _ h2
    omega
   ·omega
  obtain ⟨q,j⟩:∃ q:Nat,L.toNat=q+1:=⟨L.toNat - 1,by omega⟩;rw [j];have:=key (gL 4 d) (L - 1) h7 (by omega) hp;rw [show (L - 1).toNat=q by omega] at this;exact this
theorem MS {α:Type} {l:List α} (h:l.length=2):∃ a b,l=[a,b]:=by
 match l,h with
 | [a,b],_=>exact ⟨a,b,rfl⟩
theorem Q5 {k:Int} (h1:3<=k) (h2:k<=7):∃ x,sgK k=(3,x)/\A0 x=k:=by
 unfold sgK;obtain rfl | rfl | rfl | rfl | rfl:k=3\/k=4\/k=5\/k=6\/k=7:=by omega
 all_goals exact ⟨_,rfl,rfl⟩
theorem QB {n:Nat} (h:1<=n):(Lib.decDigits n == [48])=false:=by
 cases e:Lib.decDigits n == [48] with
 | false=>rfl
 | true=>
  rw [beq_iff_eq] at e;have:=GG n;rw [e] at this;have a:CF [48]=0:=rfl;omega
section
variable {ts:List Tok} (en:Nat)
theorem Lf:∀ {k f deep n:Nat} {d:D} {q:Nat} {rs:List KT},efK k d=true->dpK q d->q<=f->deep+q<=60->At ts n (exK k d++rs)->CC (pE ts en f deep n) (EA d) ts rs
 | 0,f,deep,n,d,q,rs,h,_,_,_,_=>by cases h
 | k+1,0,deep,n,d,q,rs,h,hq,hf,_,_=>by
  obtain rfl:q=0:=by omega
  exact hq.elim
 | k+1,f+1,deep,n,d,0,rs,h,hq,hf,hd,hat=>hq.elim
 | k+1,f+1,deep,n,d,q+1,rs,h,hq,hf,hd,hat=>by
  obtain ⟨Q,P,J,I,G,u,F⟩:=CE h;unfold exK at hat;unfold pE;by_cases k1:gI 0 d=1
  ·rw [if_pos k1] at hat J I
   rw [if_pos (by omega)] at u;have v:gZ 3 d=[]:=by simpa [nfS,k1] using G
   have l:gL 4 d=[]:=List.eq_nil_of_length_eq_zero u;unfold nuK at hat;split at hat
   ·rename_i H
    have M:=hat.cons.1;have j:=hat.next;rw [if_neg (by rw [M];decide),if_pos (hat.isw (by decide)),if_neg (by rw [j.is,QB (by omega)];simp),if_pos (by rw [j.cons.1];rfl)];refine .inl (EA.of k1 ?_ v (by rw [l];trivial)) j.next;rw [j.cons.2.1];show _=-((CF (Lib.decDigits _):Nat):Int);rw [GG];omega
   ·rw [if_pos (by rw [hat.cons.1];rfl)]
    refine .inl (EA.of k1 ?_ v (by rw [l];trivial)) hat.next;rw [hat.cons.2.1];show _=((CF (Lib.decDigits _):Nat):Int);rw [GG];omega
  rw [if_neg k1] at hat J I;by_cases k2:gI 0 d=2
  ·rw [if_pos k2] at hat
   rw [if_pos (by omega)] at u;have B:nmS (gZ 3 d)=true:=by simpa [nfS,k2] using G
   have l:gL 4 d=[]:=List.eq_nil_of_length_eq_zero u;have i:At ts n (w_ (gZ 3 d)::rs):=hat;rw [if_neg (by rw [i.cons.1];decide),if_neg (by rw [i.no (F4 B (by decide))];simp),if_pos (i.isn B)];exact .inl (EA.of k2 (by omega) (by rw [i.cons.2.1]) (by rw [l];trivial)) i.next
  ·rw [if_neg k2] at hat
   rw [if_neg (by omega)] at u;have B:gZ 3 d=[]:=by simpa [nfS,k2] using G
   obtain ⟨a,b,r⟩:=MS u;obtain ⟨x,E,C⟩:=Q5 (k:=gI 0 d) (by omega) (by omega);rw [r] at hat F;replace hq:∀ c∈gL 4 d,dpK q c:=hq;rw [r] at hq;have g:At ts n (sg 40::(exK k a++((3,x)::(exK k b++(sg 41::rs))))):=by
    have e:[sg 40]++Bh [sgK (gI 0 d)] ([a,b].map (exK k))++[sg 41]++rs=sg 40::(exK k a++((3,x)::(exK k b++(sg 41::rs)))):=by simp [Bh,E]
    rw [<-e];exact hat
   rw [if_neg (by rw [g.cons.1];decide),if_neg (by rw [g.no (by decide)];simp),if_neg (by rw [g.nm];simp),if_pos ⟨by omega,g.isw (by decide)⟩];obtain ⟨S,n1,O,p1,A⟩:=Lf (deep:=deep+1) (f:=f) (F a (by simp)) (hq a (by simp)) (by omega) (by omega) g.next;rw [O];dsimp only;have L:A0 (Ag ts n1).text.data.toList=gI 0 d:=by rw [A.cons.2.1];exact C
   rw [L,if_neg (by omega)];obtain ⟨R,n2,N,K,y⟩:=Lf (deep:=deep+1) (f:=f) (F b (by simp)) (hq b (by simp)) (by omega) (by omega) A.next;rw [N];dsimp only;rw [if_pos (y.isw (by decide))];exact .inl (EA.of rfl (by omega) B (by rw [r];exact ⟨p1,K,trivial⟩)) y.next
theorem Ev {k n:Nat} {d:D} {rs:List KT} (h:efK k d=true) (hl:Bn k d=false) (hat:At ts n (exK k d++rs)):CC (pX ts en n) (EA d) ts rs:=by
 unfold Bn at hl;have a:=N6 (L:=15) h (by omega) (by simpa using hl);exact Lf en h a (by decide) (by decide) hat
end
end Go.Proofs.YtipngnjffjajpaaGreatDoor.Tx
