/- Contracts of library functions that the program calls, laid over its translation. -/
import Derived.Test.YtipngnjffjajpaaGreatDoorProg
import Derived.Shelf.Strings.Builder1
import Derived.Shelf.Small.Strs
import Derived.Shelf.Strings.BuilderF
import Derived.Shelf.Strings.BuilderK
import Derived.Shelf.Strconv.Atoi
import Derived.Shelf.Strconv.Itoa0
import Derived.Shelf.Strconv.Itoa1
import Derived.Shelf.LaysM
import Derived.Shelf.Strconv.Itoa2
import Derived.Shelf.Strconv.Itoa3
import Derived.Shelf.Strconv.Clone
import Derived.Shelf.Strings.Search1
import Derived.Shelf.Strings.Prefix
import Derived.Test.YtipngnjffjajpaaGreatDoorK31
set_option linter.unusedVariables false
set_option maxHeartbeats 8000000
set_option maxRecDepth 100000
namespace Go.Proofs
open Go.Shelf
def Tryz.laysM171_ren:Go.Shelf.Ren:=⟨fun | 171=>164 | 243=>173 | 246=>178 | 283=>185 | 284=>186 | 285=>187 | 286=>188 | 129=>192 | 317=>191 | 318=>193 | 319=>194 | 320=>195 | 337=>198 | 338=>199 | n=>n,fun | 3=>3 | 9=>9 | 2=>2 | 4=>4 | 171=>189 | 0=>0 | 53=>190 | 37=>75 | 5=>5 | 173=>193 | 212=>203 | 51=>204 | 20=>20 | 213=>205 | 46=>197 | 232=>213 | 233=>214 | n=>n,fun | 17=>3 | 18=>4 | 19=>5 | n=>n⟩
theorem Tryz.laysM171:Go.Proofs.LaysM.n171 Tryz.prog Tryz.laysM171_ren:={
 mixed:=by kernel_rfl
 f129:=Tryz.func192.trans (congrArg some (by kernel_rfl))
 f171:=Tryz.func164.trans (congrArg some (by kernel_rfl))
 f243:=Tryz.func173.trans (congrArg some (by kernel_rfl))
 f246:=Tryz.func178.trans (congrArg some (by kernel_rfl))
 f283:=Tryz.func185.trans (congrArg some (by kernel_rfl))
 f284:=Tryz.func186.trans (congrArg some (by kernel_rfl))
 f285:=Tryz.func187.trans (congrArg some (by kernel_rfl))
 f286:=Tryz.func188.trans (congrArg some (by kernel_rfl))
 f317:=Tryz.func191.trans (congrArg some (by kernel_rfl))
 f318:=Tryz.func193.trans (congrArg some (by kernel_rfl))
 f319:=Tryz.func194.trans (congrArg some (by kernel_rfl))
 f320:=Tryz.func195.trans (congrArg some (by kernel_rfl))
 f337:=Tryz.func198.trans (congrArg some (by kernel_rfl))
 f338:=Tryz.func199.trans (congrArg some (by kernel_rfl))
 t0:=Tryz.underlying0
 a0:=Tryz.isAgg0
 z0:=Tryz.sizeOf0
 v0:=Tryz.zeroValue0
 t2:=Tryz.underlying2
 a2:=Tryz.isAgg2
 z2:=Tryz.sizeOf2
 v2:=Tryz.zeroValue2
 t3:=Tryz.underlying3
 a3:=Tryz.isAgg3
 z3:=Tryz.sizeOf3
 v3:=Tryz.zeroValue3
 t4:=Tryz.underlying4
 a4:=Tryz.isAgg4
 z4:=Tryz.sizeOf4
 v4:=Tryz.zeroValue4
 t5:=Tryz.underlying5
 a5:=Tryz.isAgg5
 z5:=Tryz.sizeOf5
 v5:=Tryz.zeroValue5
 t9:=Tryz.underlying9
 a9:=Tryz.isAgg9
 z9:=Tryz.sizeOf9
 v9:=Tryz.zeroValue9
 t20:=Tryz.underlying20
 a20:=Tryz.isAgg20
 z20:=Tryz.sizeOf20
 v20:=Tryz.zeroValue20
 t37:=Tryz.underlying75
 a37:=Tryz.isAgg75
 z37:=Tryz.sizeOf75
 v37:=Tryz.zeroValue75
 t46:=Tryz.underlying197
 a46:=Tryz.isAgg197
 z46:=Tryz.sizeOf197
 v46:=Tryz.zeroValue197
 t51:=Tryz.underlying204
 a51:=Tryz.isAgg204
 z51:=Tryz.sizeOf204
 v51:=Tryz.zeroValue204
 t53:=Tryz.underlying190
 a53:=Tryz.isAgg190
 z53:=Tryz.sizeOf190
 v53:=Tryz.zeroValue190
 t171:=Tryz.underlying189
 a171:=Tryz.isAgg189
 z171:=Tryz.sizeOf189
 v171:=Tryz.zeroValue189
 t173:=Tryz.underlying193
 a173:=Tryz.isAgg193
 z173:=Tryz.sizeOf193
 v173:=Tryz.zeroValue193
 t212:=Tryz.underlying203
 a212:=Tryz.isAgg203
 z212:=Tryz.sizeOf203
 v212:=Tryz.zeroValue203
 t213:=Tryz.underlying205
 a213:=Tryz.isAgg205
 z213:=Tryz.sizeOf205
 t232:=Tryz.underlying213
 a232:=Tryz.isAgg213
 z232:=Tryz.sizeOf213
 v232:=Tryz.zeroValue213
 t233:=Tryz.underlying214
 a233:=Tryz.isAgg214
 z233:=Tryz.sizeOf214
 v233:=Tryz.zeroValue214
 g17:=by kernel_rfl
 g18:=by kernel_rfl
 g19:=by kernel_rfl
 i0:=by kernel_rfl
 i2:=by kernel_rfl
 i3:=by kernel_rfl
 i4:=by kernel_rfl
 i5:=by kernel_rfl
 i9:=by kernel_rfl
 i20:=by kernel_rfl
 i37:=by kernel_rfl
 i46:=by kernel_rfl
 i51:=by kernel_rfl
 i53:=by kernel_rfl
 i171:=by kernel_rfl
 i173:=by kernel_rfl
 i212:=by kernel_rfl
 i232:=by kernel_rfl
 i233:=by kernel_rfl
 m17:=by kernel_rfl
 m18:=by kernel_rfl
 m19:=by kernel_rfl }
open Go.Value renaming int -> O, slice -> zd, bool -> ze, agg -> zf, pointer -> zh, tuple -> zj
open Go.IntKind renaming i64 -> zc
open Go.Obj renaming cells -> zg
open Go.Ending renaming returned -> zi
open Go.RowKit Go.Sort Go.Lib in
theorem Tryz.strconv_Itoa (n:Int) (h0:-9223372036854775808<=n) (h1:n<=9223372036854775807) (w:World) (htab:Lib.TabIs Tryz.prog w "internal/strconv.uint64pow10" .u64 Lib.pow10Tab) :
  Calls Tryz.prog 164 #[O zc n] w fun e w'=>e=zi (.string ⟨(Lib.itoa n).toArray⟩)/\∃ k os,w'=grow (w.drewN k) os:=Any.strconv_Itoa Tryz.laysM171 n h0 h1 w htab
end Go.Proofs
namespace Go.Proofs.YtipngnjffjajpaaGreatDoor.Tx
open Go.RowKit
open Go.Value renaming int -> O, slice -> zd, bool -> ze, agg -> zf, pointer -> zh, tuple -> zj
open Go.IntKind renaming i64 -> zc
open Go.Obj renaming cells -> zg
open Go.Ending renaming returned -> zi
def spT (c:UInt8):Bool:=c == 32 || c == 10
abbrev KT:=Nat × List UInt8
def Tz:List KT->List UInt8->Prop
 | [],m=>m.all spT=true
 | (k,x)::ks,m=>∃ b r,m=b++(x++r)/\b.all spT=true/\te (x++r)=0/\tk (x++r)=(k,x.length)/\Tz ks r
theorem Qy {rs:List KT} {c:UInt8} {r:List UInt8} (hc:spT c=true) (h:Tz rs r):Tz rs (c::r):=by
 cases rs with
 | nil=>show (c::r).all spT=true;rw [List.all_cons,hc];exact h
 | cons q rs=>
  obtain ⟨k,x⟩:=q;obtain ⟨b,a,f,g,i⟩:=h;exact ⟨c::b,a,by rw [f];rfl,by rw [List.all_cons,hc,g];rfl,i⟩
theorem GN {rs:List KT} {k:Nat} {x r:List UInt8} (ht:te (x++r)=0) (hk:tk (x++r)=(k,x.length)) (h:Tz rs r):Tz ((k,x)::rs) (x++r):=⟨[],r,rfl,rfl,ht,hk,h⟩
def nN (r:List UInt8):Prop:=r.takeWhile isN=[]
theorem Bq {c:UInt8} {r:List UInt8} (h:isN c=false):nN (c::r):=by unfold nN;rw [List.takeWhile_cons,h];rfl
theorem ME {x r:List UInt8} (h:x.takeWhile isN=x) (hr:nN r):(x++r).takeWhile isN=x:=by
 induction x with
 | nil=>exact hr
 | cons c x ih=>
  rw [List.takeWhile_cons] at h;split at h
  ·rename_i a
   simp only [List.cons.injEq,true_and] at h;rw [List.cons_append,List.takeWhile_cons,if_pos a,ih h]
  ·cases h
theorem Le {x r:List UInt8} (h:∀ c∈x,isD c=true) (hr:nN r):(x++r).takeWhile isD=x:=by
 induction x with
 | nil=>
  cases r with
  | nil=>rfl
  | cons c r=>
   unfold nN at hr;rw [List.takeWhile_cons] at hr;split at hr
   ·cases hr
   ·rename_i a
    have:isD c=false:=by
     cases hd:isD c with
     | false=>rfl
     | true=>exact absurd (by simp [isN,hd]) a
    rw [List.nil_append,List.takeWhile_cons,this];rfl
 | cons c x ih=>rw [List.cons_append,List.takeWhile_cons,if_pos (h c (by simp)),ih fun d hd=>h d (by simp [hd])]
def wdB (x:List UInt8):Bool:=(match x with | c::_=>isL c | []=>false) && decide (x.length<=12) && x.all isN
theorem NF {x:List UInt8} (h:x.all isN=true):x.takeWhile isN=x:=by
 induction x with
 | nil=>rfl
 | cons c x ih=>simp only [List.all_cons,Bool.and_eq_true] at h;rw [List.takeWhile_cons,if_pos h.1,ih h.2]
theorem L6 {rs:List KT} {x r:List UInt8} (hw:wdB x=true) (hr:nN r) (h:Tz rs r):Tz ((1,x)::rs) (x++r):=by
 simp only [wdB,Bool.and_eq_true,decide_eq_true_eq] at hw
 cases x with
 | nil=>simp at hw
 | cons c x=>
  have e:=ME (NF hw.2) hr;have a:tk (c::x++r)=(1,(c::x).length):=by
   rw [List.cons_append] at e ⊢;simp only [tk];rw [if_pos hw.1.1,e]
  refine GN ?_ a h;unfold te;rw [a];have:=hw.1.2;simp only [List.length_cons] at this ⊢;rw [if_neg (by omega),if_neg (by omega),if_neg (by omega)]
theorem Mq {x:List UInt8} (h:nmS x=true):wdB x=true/\GM.contains x=false:=by
 simp only [nmS,Bool.and_eq_true] at h;obtain ⟨v,b,r,i⟩:=(Dc _ _ _).1 h.1;have e:(⟨x.toArray⟩:ByteArray).data.toList=x:=by simp
 rw [e] at b r i;refine ⟨?_,by simpa using h.2⟩;have a:(tk x).1=1:=by omega
 cases x with
 | nil=>simp [tk] at a
 | cons c x=>
  have g:isL c=true:=by
   cases g:isL c with
   | true=>rfl
   | false=>
    exfalso;simp only [tk,g] at a;split at a
    ·simp at *
    ·split at a
     ·simp at a
     ·split at a
      ·simp at a
      ·split at a <;> simp at a
  have n:tk (c::x)=(1,((c::x).takeWhile isN).length):=by simp [tk,g]
  rw [n] at i;have j:=H7 i;have f:(c::x).all isN=true:=by rw [<-j];exact List.all_takeWhile
  unfold te at b;rw [n,j] at b;simp only [wdB,g,f,Bool.true_and,Bool.and_true,decide_eq_true_eq];split at b
  ·cases b
  ·split at b
   ·cases b
   ·rename_i u l
    simp only [true_and,not_or,Nat.not_lt] at l;exact l.1
theorem Pp {rs:List KT} {x r:List UInt8} (hx:nmS x=true) (hr:nN r) (h:Tz rs r):Tz ((1,x)::rs) (x++r):=L6 (Mq hx).1 hr h
theorem Po {rs:List KT} {c:UInt8} {r:List UInt8} (h1:isL c=false) (h2:isD c=false) (h3:(c == 61)=false) (h4:isS c=true) (h:Tz rs r):Tz ((3,[c])::rs) (c::r):=by
 have a:((c::r).take 2 == [61,61])=false:=by
  simp only [List.take_succ_cons,List.cons_beq_cons,h3,Bool.false_and]
 have e:tk ([c]++r)=(3,1):=by
  show tk (c::r)=_;simp only [tk,h1,h2,a,h4];rfl
 exact GN (x:=[c]) (by unfold te;rw [e];rfl) e h
theorem RJ {rs:List KT} {r:List UInt8} (h:Tz rs (32::r)):Tz ((3,[61])::rs) (61::32::r):=by
 have e:tk ([61]++(32::r))=(3,1):=rfl;exact GN (x:=[61]) (by unfold te;rw [e];rfl) e h
theorem Pq {rs:List KT} {r:List UInt8} (h:Tz rs r):Tz ((3,[61,61])::rs) (61::61::r):=by
 have e:tk ([61,61]++r)=(3,2):=rfl;exact GN (x:=[61,61]) (by unfold te;rw [e];rfl) e h
def Km (x:List KT):List (List KT)->List KT
 | []=>[]
 | [a]=>a
 | a::b::l=>a++x++Km x (b::l)
def sg (c:UInt8):KT:=(3,[c])
def sgK (k:Int):KT:=if k=3 then sg 43 else if k=4 then sg 45 else if k=5 then sg 42 else if k=6 then sg 60 else (3,[61,61])
def nuK (n:Int):List KT:=if n < 0 then [sg 45,(2,Lib.decDigits n.natAbs)] else [(2,Lib.decDigits n.toNat)]
def exK:Nat->D->List KT
 | 0,_=>[]
 | k+1,d=>if gI 0 d=1 then nuK (gI 2 d) else if gI 0 d=2 then [(1,gZ 3 d)] else [sg 40]++Km [sgK (gI 0 d)] ((gL 4 d).map (exK k))++[sg 41]
def w_ (x:List UInt8):KT:=(1,x)
def cmK (ke:Nat):Nat->D->List KT
 | 0,_=>[]
 | k+1,d=>
  let e:=exK ke (gD 4 d)
  let body:=fun l:List D=>(l.map (cmK ke k)).flatten
  if gI 0 d=1 then [w_ (gZ 2 d),sg 61]++e++[sg 59]
  else if gI 0 d=2 then [w_ (gZ 2 d),sg 61,w_ (gZ 3 d),sg 40]++Km [sg 44] ((gL 5 d).map (exK ke))++[sg 41,sg 59]
  else if gI 0 d=3 then [w_ [103,101,116],w_ (gZ 2 d),w_ (gZ 3 d),sg 59]
  else if gI 0 d=4 then [w_ [112,117,116],w_ (gZ 3 d)]++e++[sg 59]
  else if gI 0 d=5 then [w_ [114,101,118,101,97,108],w_ (gZ 2 d)]++e++[sg 59]
  else if gI 0 d=6 then [w_ [116,114,117,115,116],w_ (gZ 2 d)]++e++[sg 59]
  else [if gI 0 d=7 then w_ [105,102] else w_ [119,104,105,108,101]]++e++[sg 123]++body (gL 6 d)
   ++ (if gL 7 d=[] then [] else [sg 125,w_ [101,108,115,101],sg 123]++body (gL 7 d))++[sg 125]
def SgT (x:List UInt8) (ks:List KT) (q:List UInt8->Prop):Prop:=∀ r rs,q r->Tz rs r->Tz (ks++rs) (x++r)
def DK (_:List UInt8):Prop:=True
theorem G1:SgT [] [] DK:=fun r rs _ h=>h
theorem SgT.of {x:List UInt8} {ks:List KT} {q:List UInt8->Prop} (h:SgT x ks DK):SgT x ks q:=fun r rs _ hz=>h r rs trivial hz
theorem SgT.app {x y:List UInt8} {ks js:List KT} {p q:List UInt8->Prop} (h1:SgT x ks p) (h2:SgT y js q) (hp:∀ r,q r->p (y++r)):SgT (x++y) (ks++js) q:=fun r rs hq hz=>by
 rw [List.append_assoc,List.append_assoc];exact h1 _ _ (hp r hq) (h2 r rs hq hz)
theorem Cg {c:UInt8} (h1:isL c=false) (h2:isD c=false) (h3:(c == 61)=false) (h4:isS c=true):SgT [c] [sg c] DK:=fun r rs _ hz=>Po h1 h2 h3 h4 hz
theorem C3 {c:UInt8} (hc:spT c=true):SgT [c] [] DK:=fun r rs _ hz=>Qy hc hz
theorem RO:SgT [61,32] [sg 61] DK:=fun r rs _ hz=>RJ (Qy rfl hz)
theorem PJ:SgT [61,61] [(3,[61,61])] DK:=fun r rs _ hz=>Pq hz
theorem Dr {x:List UInt8} (hx:nmS x=true):SgT x [w_ x] nN:=fun r rs hq hz=>Pp hx hq hz
theorem Mc {x:List UInt8} (hx:wdB x=true):SgT x [w_ x] nN:=fun r rs hq hz=>L6 hx hq hz
theorem F5 {x:List UInt8} (hx:wdB x=true):SgT (x++[32]) [w_ x] DK:=by
 have:=(Mc hx).app (C3 (c:=32) rfl) (fun r _=>Bq rfl)
 rwa [List.append_nil] at this
theorem LN:∀ (n:Nat),∀ c∈Lib.decDigits n,isD c=true:=by
 intro n
 induction n using Nat.strongRecOn with
 | ind n ih=>
  intro c hc;rw [Lib.decDigits] at hc;split at hc
  ·simp only [List.mem_singleton] at hc
   subst hc;simp only [isD,decide_eq_true_eq];rw [UInt8.toNat_ofNat_of_lt' (by show _ < 256;omega)];omega
  ·rw [List.mem_append] at hc
   rcases hc with hc | hc
   ·exact ih (n / 10) (by omega) c hc
   ·simp only [List.mem_singleton] at hc
    subst hc;simp only [isD,decide_eq_true_eq];rw [UInt8.toNat_ofNat_of_lt' (by show _ < 256;omega)];omega
theorem O4 (n:Nat):Lib.decDigits n≠[]:=by
 rw [Lib.decDigits];split <;> simp
theorem O5:∀ (n:Nat),1<=n->(Lib.decDigits n)[0]?≠some 48:=by
 intro n
 induction n using Nat.strongRecOn with
 | ind n ih=>
  intro f;rw [Lib.decDigits];split
  ·simp only [List.getElem?_cons_zero,ne_eq,Option.some.injEq]
   intro h;have:=congrArg UInt8.toNat h;rw [UInt8.toNat_ofNat_of_lt' (by show _ < 256;omega)] at this;have e:(48:UInt8).toNat=48:=rfl;omega
  ·have c:=ih (n / 10) (by omega) (by omega)
   have b:=O4 (n / 10);generalize Lib.decDigits (n / 10)=l at c b
   cases l with
   | nil=>exact absurd rfl b
   | cons a l=>simpa using c
theorem Jr:∀ (k n:Nat),n < 10 ^ (k+1)->(Lib.decDigits n).length<=k+1
 | 0,n,h=>by rw [Lib.decDigits,dif_pos (by omega)];simp
 | k+1,n,h=>by
  rw [Lib.decDigits];split
  ·simp
  ·have:=Jr k (n / 10) (by rw [Nat.pow_succ] at h;omega)
   simp only [List.length_append,List.length_cons,List.length_nil];omega
theorem NZ {n:Nat} (hn:n<=9999999):SgT (Lib.decDigits n) [(2,Lib.decDigits n)] nN:=fun r rs hq hz=>by
 have hd:=LN n;have hh:=O5 n;have h1:n=0->Lib.decDigits n=[48]:=fun h=>by subst h;rw [Lib.decDigits];rfl
 have hl:=Jr 6 n (by omega);have hne:=O4 n;generalize Lib.decDigits n=x at hd hh hl hne h1;have ht:=Le hd hq
 cases x with
 | nil=>exact absurd rfl hne
 | cons c x=>
  have hc:=hd c (by simp);have hcl:isL c=false:=by
   simp only [isD,decide_eq_true_eq] at hc;simp only [isL,decide_eq_false_iff_not];omega
  have f:tk (c::x++r)=(2,(c::x).length):=by
   rw [List.cons_append] at ht ⊢;simp only [tk];rw [if_neg (by simp [hcl]),if_pos hc,ht]
  refine GN ?_ f hz;unfold te;rw [f];simp only [List.length_cons] at hl ⊢;rw [if_neg (by omega),if_neg (by omega),if_neg];rintro ⟨-,b,a⟩;rw [List.cons_append,List.getElem?_cons_zero] at a;rcases Nat.eq_zero_or_pos n with h0 | h0
  ·have:=h1 h0
   rw [List.cons.injEq] at this;rw [this.2] at b;simp at b
  ·exact hh h0 (by simpa using a)
theorem QP {n:Int} (h1:-9999999<=n) (h2:n<=9999999):SgT (Lib.itoa n) (nuK n) nN:=by
 unfold Lib.itoa nuK;split
 ·exact (Cg (c:=45) rfl rfl rfl rfl).app (NZ (n:=n.natAbs) (by omega)) fun _ _=>trivial
 ·exact NZ (by omega)
theorem NX {k:Int}:SgT (BP k) [sgK k] DK:=by
 have h:∀ {c:UInt8},SgT [c] [sg c] DK->SgT [32,c,32] [sg c] DK:=fun h=>(C3 (c:=32) rfl).app (h.app (C3 (c:=32) rfl) fun _ _=>trivial) fun _ _=>trivial;unfold BP sgK;split
 ·exact h (Cg rfl rfl rfl rfl)
 split
 ·exact h (Cg rfl rfl rfl rfl)
 split
 ·exact h (Cg rfl rfl rfl rfl)
 split
 ·exact h (Cg rfl rfl rfl rfl)
 ·exact (C3 (c:=32) rfl).app (PJ.app (C3 (c:=32) rfl) fun _ _=>trivial) fun _ _=>trivial
theorem IU {α:Type} {x:List UInt8} {ks:List KT} {f:α->List UInt8} {g:α->List KT} (hx:SgT x ks DK) (hn:∀ r,nN (x++r)):∀ (l:List α),(∀ a∈l,SgT (f a) (g a) nN)->SgT (AB x (l.map f)) (Km ks (l.map g)) nN
 | [],_=>G1.of
 | [a],h=>h a (by simp)
 | a::b::l,h=>by
  have h1:=h a (by simp);have h2:=IU hx hn (b::l) fun c hc=>h c (List.mem_cons_of_mem _ hc);exact SgT.app (SgT.app h1 hx fun r _=>hn r) h2 fun _ _=>trivial
theorem Dz {k:Nat} {d:D} (h:efK (k+1) d=true):1<=gI 0 d/\gI 0 d<=7/\(if gI 0 d=1 then -9999999 else 0)<=gI 2 d/\gI 2 d<=(if gI 0 d=1 then 9999999 else 0)/\nfS (gZ 3 d) (decide (gI 0 d=2))=true/\(gL 4 d).length=(if gI 0 d<=2 then 0 else 2)/\∀ a∈gL 4 d,efK k a=true:=by
 simp only [efK,Bool.and_eq_true,decide_eq_true_eq,List.all_eq_true] at h;obtain ⟨⟨⟨⟨⟨⟨l,j⟩,i⟩,g⟩,f⟩,c⟩,b⟩:=h;exact ⟨l,j,i,g,f,c,b⟩
theorem Gp:∀ {k:Nat} {d:D},efK k d=true->SgT (exT k d) (exK k d) nN
 | 0,d,h=>by cases h
 | k+1,d,h=>by
  obtain ⟨h1,h2,h3,h4,h5,h6,h7⟩:=Dz h;unfold exT exK;by_cases k1:gI 0 d=1
  ·rw [if_pos k1,if_pos k1]
   rw [if_pos k1] at h3 h4;exact QP h3 h4
  rw [if_neg k1,if_neg k1];by_cases k2:gI 0 d=2
  ·rw [if_pos k2,if_pos k2]
   simp only [nfS,k2,decide_true,if_true] at h5;exact Dr h5
  rw [if_neg k2,if_neg k2];have hs:∀ r,nN (BP (gI 0 d)++r):=fun r=>by
   unfold BP;split
   ·exact Bq rfl
   split
   ·exact Bq rfl
   split
   ·exact Bq rfl
   split
   ·exact Bq rfl
   ·exact Bq rfl
  have hg:=IU (NX (k:=gI 0 d)) hs (gL 4 d) fun a ha=>Gp (h7 a ha);exact SgT.app (SgT.app (Cg (c:=40) rfl rfl rfl rfl) hg fun _ _=>trivial) (Cg (c:=41) rfl rfl rfl rfl).of fun r _=>Bq rfl
theorem NA {k:Nat} {w:World} {ao:Option Addr} {c:Nat} {ds:List D} (hc:LS 5 (ZE w k) w (zd ao ds.length c) ds) (h:ds.length=2):∃ (d0 d1:D) (b off:Nat) (x0 x1 x2:Int) (x3:ByteArray) (x4:Option Addr) (x5 x6:Nat) (y0 y1 y2:Int) (y3:ByteArray) (y4:Option Addr) (y5 y6:Nat),ds=[d0,d1]/\ao=some ⟨b,off,none⟩/\Eo [O zc x0,O zc x1,O zc x2,.string x3,zd x4 x5 x6,O zc y0,O zc y1,O zc y2,.string y3,zd y4 y5 y6] w b off/\ZE w k [O zc x0,O zc x1,O zc x2,.string x3,zd x4 x5 x6] d0/\ZE w k [O zc y0,O zc y1,O zc y2,.string y3,zd y4 y5 y6] d1:=by
 match ds,h with
 | [d0,d1],_=>
  obtain ⟨b,off,v,B,y,g,l⟩:=hc.at (j:=0) (by simp);obtain ⟨C,r,n,A,x,f,i⟩:=hc.at (j:=1) (by simp);rw [v] at n;simp at n;obtain ⟨rfl,rfl⟩:=n;obtain ⟨x0,x1,x2,x3,x4,x5,x6,rfl⟩:=l.cells;obtain ⟨y0,y1,y2,y3,y4,y5,y6,rfl⟩:=i.cells;refine ⟨d0,d1,b,off,x0,x1,x2,x3,x4,x5,x6,y0,y1,y2,y3,y4,y5,y6,rfl,v,fun j u a=>?_,l,i⟩
  match j,a with
  | 0,a=>exact g 0 u a
  | 1,a=>exact g 1 u a
  | 2,a=>exact g 2 u a
  | 3,a=>exact g 3 u a
  | 4,a=>exact g 4 u a
  | 5,a=>exact f 0 u a
  | 6,a=>exact f 1 u a
  | 7,a=>exact f 2 u a
  | 8,a=>exact f 3 u a
  | 9,a=>exact f 4 u a
  | j+10,a=>simp at a
theorem Jm (a n:Int) (x:ByteArray) (b off c:Nat) (x0 x1 x2:Int) (x3:ByteArray) (x4:Option Addr) (x5 x6:Nat) (y0 y1 y2:Int) (y3:ByteArray) (y4:Option Addr) (y5 y6:Nat) (p q:ByteArray) (w:World) (HR:Hx (Eo [O zc x0,O zc x1,O zc x2,.string x3,zd x4 x5 x6,O zc y0,O zc y1,O zc y2,.string y3,zd y4 y5 y6] w b off)) (K1:Hx (∀ X,Ov w X->Ro 47 #[zf #[O zc x0,O zc x1,O zc x2,.string x3,zd x4 x5 x6]] X (.string p))) (K2:Hx (∀ X,Ov w X->Ro 47 #[zf #[O zc y0,O zc y1,O zc y2,.string y3,zd y4 y5 y6]] X (.string q))) (hp:p.size<=1000000) (hq:q.size<=1000000) :
  Ro 47 #[zf #[O zc 3,O zc a,O zc n,.string x,zd (some ⟨b,off,none⟩) 2 c]] w (.string (⟨#[40]⟩++p++⟨#[32]⟩++⟨#[43]⟩++⟨#[32]⟩++q++⟨#[41]⟩)):=by
 obtain ⟨fin,g⟩:=nm ((⟨#[40]⟩:ByteArray)++p++⟨#[32]⟩++⟨#[43]⟩++⟨#[32]⟩++q++⟨#[41]⟩);rw [<-g];have B:=Aa g;obtain ⟨V,r⟩:=nm ((w.alloc (zg #[O zc 3,O zc a,O zc n,.string x,zd (some ⟨b,off,none⟩) 2 c] 49)).alloc (zg #[.string ⟨#[]⟩,.string ⟨#[]⟩,.string ⟨#[]⟩,.string ⟨#[43]⟩,.string ⟨#[45]⟩,.string ⟨#[42]⟩,.string ⟨#[60]⟩,.string ⟨#[61,61]⟩] 9));have i:Hx (Ov w V):=by show Ov _ _;rw [r];exact Ab (bA _ _) (bA _ _)
 have y:=rc5 (Ad.over (A5 w [O zc 3,O zc a,O zc n,.string x,zd (some ⟨b,off,none⟩) 2 c] 49) (bA _ (zg #[.string ⟨#[]⟩,.string ⟨#[]⟩,.string ⟨#[]⟩,.string ⟨#[43]⟩,.string ⟨#[45]⟩,.string ⟨#[42]⟩,.string ⟨#[60]⟩,.string ⟨#[61,61]⟩] 9)));rw [<-r] at y;obtain ⟨T,S,R,Q,P,N,M,L,J,I⟩:=HR.o.ten i.o;have s1:¬ 9223372036854775807 < 1+p.size:=by omega
 have H:¬ 9223372036854775807 < 1+p.size+1:=by omega
 have G:¬ 9223372036854775807 < 1+p.size+1+1:=by omega
 have F:¬ 9223372036854775807 < 1+p.size+1+1+1:=by omega
 have E:¬ 9223372036854775807 < 1+p.size+1+1+1+q.size:=by omega
 have C:¬ 9223372036854775807 < 1+p.size+1+1+1+q.size+1:=by omega
 clear g HR;go_enter Tryz.func47,Tryz.ntmps47;go_wp2_with fail;rw [<-r];clear r;refine Go.Proofs.YtipngnjffjajpaaGreatDoor.gS (fun A=>Below V.heap.size V A) (Below.refl _ _).drew fun f=>?_;generalize V.drew=W at f ⊢;refine kO 0 ?_;refine kO 1 ?_;refine kO 2 ?_;refine kO 3 ?_;refine kO 7 ?_;refine kO 10 ?_;refine kO 11 ?_;refine kO 12 ?_;refine kO 13 ?_;refine rdA 4 rfl fun K l=>?_;go_simp;refine mo (K1.o _ (Ab i.o f)) fun Y j=>?_;have v:=Aa (Ab f j);clear j f K1;go_simp;refine xK l (v.o) fun f=>?_;clear l K;refine kO 5 ?_;refine kO 6 ?_;refine kO 8 ?_;refine kO 9 ?_;refine rdA 14 rfl fun K l=>?_;go_simp;refine mo (K2.o _ (Ab i.o f)) fun U j=>?_;have u:=Aa (Ab f j);clear j f K2;go_simp;refine xK l (u.o) fun f=>?_;clear l K;refine kO 15 ?_;refine kO 16 ?_;refine kO 17 ?_;refine gE ?_;go_wp2_with fail;go_ret;exact ⟨by rw [B.o];rfl,Ab i.o f⟩
theorem Jl (a n:Int) (x:ByteArray) (b off c:Nat) (x0 x1 x2:Int) (x3:ByteArray) (x4:Option Addr) (x5 x6:Nat) (y0 y1 y2:Int) (y3:ByteArray) (y4:Option Addr) (y5 y6:Nat) (p q:ByteArray) (w:World) (HR:Hx (Eo [O zc x0,O zc x1,O zc x2,.string x3,zd x4 x5 x6,O zc y0,O zc y1,O zc y2,.string y3,zd y4 y5 y6] w b off)) (K1:Hx (∀ X,Ov w X->Ro 47 #[zf #[O zc x0,O zc x1,O zc x2,.string x3,zd x4 x5 x6]] X (.string p))) (K2:Hx (∀ X,Ov w X->Ro 47 #[zf #[O zc y0,O zc y1,O zc y2,.string y3,zd y4 y5 y6]] X (.string q))) (hp:p.size<=1000000) (hq:q.size<=1000000) :
  Ro 47 #[zf #[O zc 4,O zc a,O zc n,.string x,zd (some ⟨b,off,none⟩) 2 c]] w (.string (⟨#[40]⟩++p++⟨#[32]⟩++⟨#[45]⟩++⟨#[32]⟩++q++⟨#[41]⟩)):=by
 obtain ⟨fin,g⟩:=nm ((⟨#[40]⟩:ByteArray)++p++⟨#[32]⟩++⟨#[45]⟩++⟨#[32]⟩++q++⟨#[41]⟩);rw [<-g];have B:=Aa g;obtain ⟨V,r⟩:=nm ((w.alloc (zg #[O zc 4,O zc a,O zc n,.string x,zd (some ⟨b,off,none⟩) 2 c] 49)).alloc (zg #[.string ⟨#[]⟩,.string ⟨#[]⟩,.string ⟨#[]⟩,.string ⟨#[43]⟩,.string ⟨#[45]⟩,.string ⟨#[42]⟩,.string ⟨#[60]⟩,.string ⟨#[61,61]⟩] 9));have i:Hx (Ov w V):=by show Ov _ _;rw [r];exact Ab (bA _ _) (bA _ _)
 have y:=rc5 (Ad.over (A5 w [O zc 4,O zc a,O zc n,.string x,zd (some ⟨b,off,none⟩) 2 c] 49) (bA _ (zg #[.string ⟨#[]⟩,.string ⟨#[]⟩,.string ⟨#[]⟩,.string ⟨#[43]⟩,.string ⟨#[45]⟩,.string ⟨#[42]⟩,.string ⟨#[60]⟩,.string ⟨#[61,61]⟩] 9)));rw [<-r] at y;obtain ⟨T,S,R,Q,P,N,M,L,J,I⟩:=HR.o.ten i.o;have s1:¬ 9223372036854775807 < 1+p.size:=by omega
 have H:¬ 9223372036854775807 < 1+p.size+1:=by omega
 have G:¬ 9223372036854775807 < 1+p.size+1+1:=by omega
 have F:¬ 9223372036854775807 < 1+p.size+1+1+1:=by omega
 have E:¬ 9223372036854775807 < 1+p.size+1+1+1+q.size:=by omega
 have C:¬ 9223372036854775807 < 1+p.size+1+1+1+q.size+1:=by omega
 clear g HR;go_enter Tryz.func47,Tryz.ntmps47;go_wp2_with fail;rw [<-r];clear r;refine Go.Proofs.YtipngnjffjajpaaGreatDoor.gS (fun A=>Below V.heap.size V A) (Below.refl _ _).drew fun f=>?_;generalize V.drew=W at f ⊢;refine kO 0 ?_;refine kO 1 ?_;refine kO 2 ?_;refine kO 3 ?_;refine kO 7 ?_;refine kO 10 ?_;refine kO 11 ?_;refine kO 12 ?_;refine kO 13 ?_;refine rdA 4 rfl fun K l=>?_;go_simp;refine mo (K1.o _ (Ab i.o f)) fun Y j=>?_;have v:=Aa (Ab f j);clear j f K1;go_simp;refine xK l (v.o) fun f=>?_;clear l K;refine kO 5 ?_;refine kO 6 ?_;refine kO 8 ?_;refine kO 9 ?_;refine rdA 14 rfl fun K l=>?_;go_simp;refine mo (K2.o _ (Ab i.o f)) fun U j=>?_;have u:=Aa (Ab f j);clear j f K2;go_simp;refine xK l (u.o) fun f=>?_;clear l K;refine kO 15 ?_;refine kO 16 ?_;refine kO 17 ?_;refine gE ?_;go_wp2_with fail;go_ret;exact ⟨by rw [B.o];rfl,Ab i.o f⟩
theorem Jk (a n:Int) (x:ByteArray) (b off c:Nat) (x0 x1 x2:Int) (x3:ByteArray) (x4:Option Addr) (x5 x6:Nat) (y0 y1 y2:Int) (y3:ByteArray) (y4:Option Addr) (y5 y6:Nat) (p q:ByteArray) (w:World) (HR:Hx (Eo [O zc x0,O zc x1,O zc x2,.string x3,zd x4 x5 x6,O zc y0,O zc y1,O zc y2,.string y3,zd y4 y5 y6] w b off)) (K1:Hx (∀ X,Ov w X->Ro 47 #[zf #[O zc x0,O zc x1,O zc x2,.string x3,zd x4 x5 x6]] X (.string p))) (K2:Hx (∀ X,Ov w X->Ro 47 #[zf #[O zc y0,O zc y1,O zc y2,.string y3,zd y4 y5 y6]] X (.string q))) (hp:p.size<=1000000) (hq:q.size<=1000000) :
  Ro 47 #[zf #[O zc 5,O zc a,O zc n,.string x,zd (some ⟨b,off,none⟩) 2 c]] w (.string (⟨#[40]⟩++p++⟨#[32]⟩++⟨#[42]⟩++⟨#[32]⟩++q++⟨#[41]⟩)):=by
 obtain ⟨fin,g⟩:=nm ((⟨#[40]⟩:ByteArray)++p++⟨#[32]⟩++⟨#[42]⟩++⟨#[32]⟩++q++⟨#[41]⟩);rw [<-g];have B:=Aa g;obtain ⟨V,r⟩:=nm ((w.alloc (zg #[O zc 5,O zc a,O zc n,.string x,zd (some ⟨b,off,none⟩) 2 c] 49)).alloc (zg #[.string ⟨#[]⟩,.string ⟨#[]⟩,.string ⟨#[]⟩,.string ⟨#[43]⟩,.string ⟨#[45]⟩,.string ⟨#[42]⟩,.string ⟨#[60]⟩,.string ⟨#[61,61]⟩] 9));have i:Hx (Ov w V):=by show Ov _ _;rw [r];exact Ab (bA _ _) (bA _ _)
 have y:=rc5 (Ad.over (A5 w [O zc 5,O zc a,O zc n,.string x,zd (some ⟨b,off,none⟩) 2 c] 49) (bA _ (zg #[.string ⟨#[]⟩,.string ⟨#[]⟩,.string ⟨#[]⟩,.string ⟨#[43]⟩,.string ⟨#[45]⟩,.string ⟨#[42]⟩,.string ⟨#[60]⟩,.string ⟨#[61,61]⟩] 9)));rw [<-r] at y;obtain ⟨T,S,R,Q,P,N,M,L,J,I⟩:=HR.o.ten i.o;have s1:¬ 9223372036854775807 < 1+p.size:=by omega
 have H:¬ 9223372036854775807 < 1+p.size+1:=by omega
 have G:¬ 9223372036854775807 < 1+p.size+1+1:=by omega
 have F:¬ 9223372036854775807 < 1+p.size+1+1+1:=by omega
 have E:¬ 9223372036854775807 < 1+p.size+1+1+1+q.size:=by omega
 have C:¬ 9223372036854775807 < 1+p.size+1+1+1+q.size+1:=by omega
 clear g HR;go_enter Tryz.func47,Tryz.ntmps47;go_wp2_with fail;rw [<-r];clear r;refine Go.Proofs.YtipngnjffjajpaaGreatDoor.gS (fun A=>Below V.heap.size V A) (Below.refl _ _).drew fun f=>?_;generalize V.drew=W at f ⊢;refine kO 0 ?_;refine kO 1 ?_;refine kO 2 ?_;refine kO 3 ?_;refine kO 7 ?_;refine kO 10 ?_;refine kO 11 ?_;refine kO 12 ?_;refine kO 13 ?_;refine rdA 4 rfl fun K l=>?_;go_simp;refine mo (K1.o _ (Ab i.o f)) fun Y j=>?_;have v:=Aa (Ab f j);clear j f K1;go_simp;refine xK l (v.o) fun f=>?_;clear l K;refine kO 5 ?_;refine kO 6 ?_;refine kO 8 ?_;refine kO 9 ?_;refine rdA 14 rfl fun K l=>?_;go_simp;refine mo (K2.o _ (Ab i.o f)) fun U j=>?_;have u:=Aa (Ab f j);clear j f K2;go_simp;refine xK l (u.o) fun f=>?_;clear l K;refine kO 15 ?_;refine kO 16 ?_;refine kO 17 ?_;refine gE ?_;go_wp2_with fail;go_ret;exact ⟨by rw [B.o];rfl,Ab i.o f⟩
theorem Jj (a n:Int) (x:ByteArray) (b off c:Nat) (x0 x1 x2:Int) (x3:ByteArray) (x4:Option Addr) (x5 x6:Nat) (y0 y1 y2:Int) (y3:ByteArray) (y4:Option Addr) (y5 y6:Nat) (p q:ByteArray) (w:World) (HR:Hx (Eo [O zc x0,O zc x1,O zc x2,.string x3,zd x4 x5 x6,O zc y0,O zc y1,O zc y2,.string y3,zd y4 y5 y6] w b off)) (K1:Hx (∀ X,Ov w X->Ro 47 #[zf #[O zc x0,O zc x1,O zc x2,.string x3,zd x4 x5 x6]] X (.string p))) (K2:Hx (∀ X,Ov w X->Ro 47 #[zf #[O zc y0,O zc y1,O zc y2,.string y3,zd y4 y5 y6]] X (.string q))) (hp:p.size<=1000000) (hq:q.size<=1000000) :
  Ro 47 #[zf #[O zc 6,O zc a,O zc n,.string x,zd (some ⟨b,off,none⟩) 2 c]] w (.string (⟨#[40]⟩++p++⟨#[32]⟩++⟨#[60]⟩++⟨#[32]⟩++q++⟨#[41]⟩)):=by
 obtain ⟨fin,g⟩:=nm ((⟨#[40]⟩:ByteArray)++p++⟨#[32]⟩++⟨#[60]⟩++⟨#[32]⟩++q++⟨#[41]⟩);rw [<-g];have B:=Aa g;obtain ⟨V,r⟩:=nm ((w.alloc (zg #[O zc 6,O zc a,O zc n,.string x,zd (some ⟨b,off,none⟩) 2 c] 49)).alloc (zg #[.string ⟨#[]⟩,.string ⟨#[]⟩,.string ⟨#[]⟩,.string ⟨#[43]⟩,.string ⟨#[45]⟩,.string ⟨#[42]⟩,.string ⟨#[60]⟩,.string ⟨#[61,61]⟩] 9));have i:Hx (Ov w V):=by show Ov _ _;rw [r];exact Ab (bA _ _) (bA _ _)
 have y:=rc5 (Ad.over (A5 w [O zc 6,O zc a,O zc n,.string x,zd (some ⟨b,off,none⟩) 2 c] 49) (bA _ (zg #[.string ⟨#[]⟩,.string ⟨#[]⟩,.string ⟨#[]⟩,.string ⟨#[43]⟩,.string ⟨#[45]⟩,.string ⟨#[42]⟩,.string ⟨#[60]⟩,.string ⟨#[61,61]⟩] 9)));rw [<-r] at y;obtain ⟨T,S,R,Q,P,N,M,L,J,I⟩:=HR.o.ten i.o;have s1:¬ 9223372036854775807 < 1+p.size:=by omega
 have H:¬ 9223372036854775807 < 1+p.size+1:=by omega
 have G:¬ 9223372036854775807 < 1+p.size+1+1:=by omega
 have F:¬ 9223372036854775807 < 1+p.size+1+1+1:=by omega
 have E:¬ 9223372036854775807 < 1+p.size+1+1+1+q.size:=by omega
 have C:¬ 9223372036854775807 < 1+p.size+1+1+1+q.size+1:=by omega
 clear g HR;go_enter Tryz.func47,Tryz.ntmps47;go_wp2_with fail;rw [<-r];clear r;refine Go.Proofs.YtipngnjffjajpaaGreatDoor.gS (fun A=>Below V.heap.size V A) (Below.refl _ _).drew fun f=>?_;generalize V.drew=W at f ⊢;refine kO 0 ?_;refine kO 1 ?_;refine kO 2 ?_;refine kO 3 ?_;refine kO 7 ?_;refine kO 10 ?_;refine kO 11 ?_;refine kO 12 ?_;refine kO 13 ?_;refine rdA 4 rfl fun K l=>?_;go_simp;refine mo (K1.o _ (Ab i.o f)) fun Y j=>?_;have v:=Aa (Ab f j);clear j f K1;go_simp;refine xK l (v.o) fun f=>?_;clear l K;refine kO 5 ?_;refine kO 6 ?_;refine kO 8 ?_;refine kO 9 ?_;refine rdA 14 rfl fun K l=>?_;go_simp;refine mo (K2.o _ (Ab i.o f)) fun U j=>?_;have u:=Aa (Ab f j);clear j f K2;go_simp;refine xK l (u.o) fun f=>?_;clear l K;refine kO 15 ?_;refine kO 16 ?_;refine kO 17 ?_;refine gE ?_;go_wp2_with fail;go_ret;exact ⟨by rw [B.o];rfl,Ab i.o f⟩
theorem Ji (a n:Int) (x:ByteArray) (b off c:Nat) (x0 x1 x2:Int) (x3:ByteArray) (x4:Option Addr) (x5 x6:Nat) (y0 y1 y2:Int) (y3:ByteArray) (y4:Option Addr) (y5 y6:Nat) (p q:ByteArray) (w:World) (HR:Hx (Eo [O zc x0,O zc x1,O zc x2,.string x3,zd x4 x5 x6,O zc y0,O zc y1,O zc y2,.string y3,zd y4 y5 y6] w b off)) (K1:Hx (∀ X,Ov w X->Ro 47 #[zf #[O zc x0,O zc x1,O zc x2,.string x3,zd x4 x5 x6]] X (.string p))) (K2:Hx (∀ X,Ov w X->Ro 47 #[zf #[O zc y0,O zc y1,O zc y2,.string y3,zd y4 y5 y6]] X (.string q))) (hp:p.size<=1000000) (hq:q.size<=1000000) :
  Ro 47 #[zf #[O zc 7,O zc a,O zc n,.string x,zd (some ⟨b,off,none⟩) 2 c]] w (.string (⟨#[40]⟩++p++⟨#[32]⟩++⟨#[61,61]⟩++⟨#[32]⟩++q++⟨#[41]⟩)):=by
 obtain ⟨fin,g⟩:=nm ((⟨#[40]⟩:ByteArray)++p++⟨#[32]⟩++⟨#[61,61]⟩++⟨#[32]⟩++q++⟨#[41]⟩);rw [<-g];have B:=Aa g;obtain ⟨V,r⟩:=nm ((w.alloc (zg #[O zc 7,O zc a,O zc n,.string x,zd (some ⟨b,off,none⟩) 2 c] 49)).alloc (zg #[.string ⟨#[]⟩,.string ⟨#[]⟩,.string ⟨#[]⟩,.string ⟨#[43]⟩,.string ⟨#[45]⟩,.string ⟨#[42]⟩,.string ⟨#[60]⟩,.string ⟨#[61,61]⟩] 9));have i:Hx (Ov w V):=by show Ov _ _;rw [r];exact Ab (bA _ _) (bA _ _)
 have y:=rc5 (Ad.over (A5 w [O zc 7,O zc a,O zc n,.string x,zd (some ⟨b,off,none⟩) 2 c] 49) (bA _ (zg #[.string ⟨#[]⟩,.string ⟨#[]⟩,.string ⟨#[]⟩,.string ⟨#[43]⟩,.string ⟨#[45]⟩,.string ⟨#[42]⟩,.string ⟨#[60]⟩,.string ⟨#[61,61]⟩] 9)));rw [<-r] at y;obtain ⟨T,S,R,Q,P,N,M,L,J,I⟩:=HR.o.ten i.o;have s1:¬ 9223372036854775807 < 1+p.size:=by omega
 have H:¬ 9223372036854775807 < 1+p.size+1:=by omega
 have G:¬ 9223372036854775807 < 1+p.size+1+2:=by omega
 have F:¬ 9223372036854775807 < 1+p.size+1+2+1:=by omega
 have E:¬ 9223372036854775807 < 1+p.size+1+2+1+q.size:=by omega
 have C:¬ 9223372036854775807 < 1+p.size+1+2+1+q.size+1:=by omega
 clear g HR;go_enter Tryz.func47,Tryz.ntmps47;go_wp2_with fail;rw [<-r];clear r;refine Go.Proofs.YtipngnjffjajpaaGreatDoor.gS (fun A=>Below V.heap.size V A) (Below.refl _ _).drew fun f=>?_;generalize V.drew=W at f ⊢;refine kO 0 ?_;refine kO 1 ?_;refine kO 2 ?_;refine kO 3 ?_;refine kO 7 ?_;refine kO 10 ?_;refine kO 11 ?_;refine kO 12 ?_;refine kO 13 ?_;refine rdA 4 rfl fun K l=>?_;go_simp;refine mo (K1.o _ (Ab i.o f)) fun Y j=>?_;have v:=Aa (Ab f j);clear j f K1;go_simp;refine xK l (v.o) fun f=>?_;clear l K;refine kO 5 ?_;refine kO 6 ?_;refine kO 8 ?_;refine kO 9 ?_;refine rdA 14 rfl fun K l=>?_;go_simp;refine mo (K2.o _ (Ab i.o f)) fun U j=>?_;have u:=Aa (Ab f j);clear j f K2;go_simp;refine xK l (u.o) fun f=>?_;clear l K;refine kO 15 ?_;refine kO 16 ?_;refine kO 17 ?_;refine gE ?_;go_wp2_with fail;go_ret;exact ⟨by rw [B.o];rfl,Ab i.o f⟩
theorem GK (x:ByteArray):(⟨x.data.toList.toArray⟩:ByteArray)=x:=by cases x;simp
theorem A8 (l:List UInt8):(⟨l.toArray⟩:ByteArray).size=l.length:=by show l.toArray.size=_;simp
theorem Oo (p q:List UInt8):((⟨#[40]⟩:ByteArray)++⟨p.toArray⟩++⟨#[32]⟩++⟨#[43]⟩++⟨#[32]⟩++⟨q.toArray⟩++⟨#[41]⟩)=⟨([40]++AB (BP 3) [p,q]++[41]).toArray⟩:=by
 apply ByteArray.ext;simp [AB,BP]
theorem Om (p q:List UInt8):((⟨#[40]⟩:ByteArray)++⟨p.toArray⟩++⟨#[32]⟩++⟨#[45]⟩++⟨#[32]⟩++⟨q.toArray⟩++⟨#[41]⟩)=⟨([40]++AB (BP 4) [p,q]++[41]).toArray⟩:=by
 apply ByteArray.ext;simp [AB,BP]
theorem Ol (p q:List UInt8):((⟨#[40]⟩:ByteArray)++⟨p.toArray⟩++⟨#[32]⟩++⟨#[42]⟩++⟨#[32]⟩++⟨q.toArray⟩++⟨#[41]⟩)=⟨([40]++AB (BP 5) [p,q]++[41]).toArray⟩:=by
 apply ByteArray.ext;simp [AB,BP]
theorem Ok (p q:List UInt8):((⟨#[40]⟩:ByteArray)++⟨p.toArray⟩++⟨#[32]⟩++⟨#[60]⟩++⟨#[32]⟩++⟨q.toArray⟩++⟨#[41]⟩)=⟨([40]++AB (BP 6) [p,q]++[41]).toArray⟩:=by
 apply ByteArray.ext;simp [AB,BP]
theorem Oj (p q:List UInt8):((⟨#[40]⟩:ByteArray)++⟨p.toArray⟩++⟨#[32]⟩++⟨#[61,61]⟩++⟨#[32]⟩++⟨q.toArray⟩++⟨#[41]⟩)=⟨([40]++AB (BP 7) [p,q]++[41]).toArray⟩:=by
 apply ByteArray.ext;simp [AB,BP]
theorem Jn (a n:Int) (x:ByteArray) (ao:Option Addr) (m c:Nat) (T:ByteArray) (w:World) (KD:Hx (∀ X,Ro 88 #[O zc n] X (.string T))):Ro 47 #[zf #[O zc 1,O zc a,O zc n,.string x,zd ao m c]] w (.string T):=by
 go_enter Tryz.func47,Tryz.ntmps47;go_wp2_with fail;refine mo (KD.o _) fun g b=>?_;have f:=Aa (Ab (bA w (zg #[O zc 1,O zc a,O zc n,.string x,zd ao m c] 49)) b);clear b;go_wp2_with fail;go_ret;exact ⟨rfl,f.o⟩
theorem Ik (a n:Int) (x:ByteArray) (ao:Option Addr) (m c:Nat) (w:World):Ro 47 #[zf #[O zc 2,O zc a,O zc n,.string x,zd ao m c]] w (.string x):=by
 go_enter Tryz.func47,Tryz.ntmps47;go_wp2_with fail;go_ret;exact ⟨rfl,bA w (zg #[O zc 2,O zc a,O zc n,.string x,zd ao m c] 49)⟩
theorem DJ:∀ (k:Nat) (cs:List Value) (d:D) (w:World),ZE w k cs d->efK k d=true->(exT k d).length<=1000000->Ro 47 #[.agg cs.toArray] w (.string ⟨(exT k d).toArray⟩)
 | 0,cs,d,w,h,_,_=>h.elim
 | k+1,cs,d,w,h,hf,hl=>by
  obtain ⟨kd,a,n,x,ao,c,ds,rfl,rfl,hx,hc⟩:=h;obtain ⟨h1,h2,h3,h4,h5,h6,h7⟩:=Dz hf;simp only [gEe] at h1 h2 h3 h4 h5 h6 h7;have hT:exT (k+1) (eD kd a n x ds)=if kd=1 then Lib.itoa n else if kd=2 then x.data.toList else [40]++AB (BP kd) (ds.map (exT k))++[41]:=by simp only [exT,gEe]
  rw [hT] at hl ⊢;by_cases k1:kd=1
  ·subst k1
   rw [if_pos rfl] at h3 h4 ⊢;exact Jn a n x ao ds.length c _ w fun X=>O2 n (by omega) (by omega) X
  rw [if_neg k1] at hl ⊢;by_cases k2:kd=2
  ·subst k2
   rw [if_pos rfl,GK];exact Ik a n x ao ds.length c w
  rw [if_neg k2] at hl ⊢;rw [if_neg (by omega)] at h6;obtain ⟨G,F,b,f,x0,x1,E,C,B,A,y,v,u,r,l,j,i,g,rfl,rfl,hr,L,K⟩:=NA hc h6;have P:=h7 G (by simp);have N:=h7 F (by simp);simp only [List.map_cons,List.map_nil] at hl ⊢;have M:(exT k G).length+(exT k F).length<=1000000:=by
   simp only [AB,List.length_append,List.length_cons,List.length_nil] at hl;omega
  have I:Hx (∀ X,Ov w X->Ro 47 #[zf #[O zc x0,O zc x1,O zc E,.string C,zd B A y]] X (.string ⟨(exT k G).toArray⟩)):=fun X J=>DJ k _ G X (L.over J) P (by omega);have H:Hx (∀ X,Ov w X->Ro 47 #[zf #[O zc v,O zc u,O zc r,.string l,zd j i g]] X (.string ⟨(exT k F).toArray⟩)):=fun X J=>DJ k _ F X (K.over J) N (by omega);have s1:=A8 (exT k G);have Q:=A8 (exT k F);obtain rfl | rfl | rfl | rfl | rfl:kd=3\/kd=4\/kd=5\/kd=6\/kd=7:=by omega
  ·rw [<-Oo]
   exact Jm a n x b f c x0 x1 E C B A y v u r l j i g _ _ w hr I H (by omega) (by omega)
  ·rw [<-Om]
   exact Jl a n x b f c x0 x1 E C B A y v u r l j i g _ _ w hr I H (by omega) (by omega)
  ·rw [<-Ol]
   exact Jk a n x b f c x0 x1 E C B A y v u r l j i g _ _ w hr I H (by omega) (by omega)
  ·rw [<-Ok]
   exact Jj a n x b f c x0 x1 E C B A y v u r l j i g _ _ w hr I H (by omega) (by omega)
  ·rw [<-Oj]
   exact Ji a n x b f c x0 x1 E C B A y v u r l j i g _ _ w hr I H (by omega) (by omega)
end Go.Proofs.YtipngnjffjajpaaGreatDoor.Tx
