/- Contracts of library functions that the program calls, laid over its translation. -/
import Derived.Test.YtipngnjffjajpaaGreatDoorProg
import Derived.Shelf.Strings.Builder1
import Derived.Shelf.Small.Strs
import Derived.Shelf.Strings.BuilderF
import Derived.Shelf.Strings.BuilderK
import Derived.Shelf.Strconv.Atoi
import Derived.Shelf.Strconv.Itoa0
import Derived.Shelf.Strconv.Itoa1
import Derived.Shelf.LaysM
import Derived.Shelf.Strconv.Itoa2
import Derived.Shelf.Strconv.Itoa3
import Derived.Shelf.Strconv.Clone
import Derived.Shelf.Strings.Search1
import Derived.Shelf.Strings.Prefix
import Derived.Test.YtipngnjffjajpaaGreatDoorJ33
import Derived.Test.YtipngnjffjajpaaGreatDoorJ31
import Derived.Lib.SmallJoins
import Derived.Lib.AppendIntMem
set_option linter.unusedVariables false
set_option maxHeartbeats 8000000
set_option maxRecDepth 100000
namespace Go.Proofs
open Go.Shelf
def Tryz.laysM171_ren:Go.Shelf.Ren:=⟨fun | 171=>164 | 243=>173 | 246=>178 | 283=>185 | 284=>186 | 285=>187 | 286=>188 | 129=>192 | 317=>191 | 318=>193 | 319=>194 | 320=>195 | 337=>198 | 338=>199 | n=>n,fun | 3=>3 | 9=>9 | 2=>2 | 4=>4 | 171=>189 | 0=>0 | 53=>190 | 37=>75 | 5=>5 | 173=>193 | 212=>203 | 51=>204 | 20=>20 | 213=>205 | 46=>197 | 232=>213 | 233=>214 | n=>n,fun | 17=>3 | 18=>4 | 19=>5 | n=>n⟩
theorem Tryz.laysM171:Go.Proofs.LaysM.n171 Tryz.prog Tryz.laysM171_ren:={
 mixed:=by kernel_rfl
 f129:=Tryz.func192.trans (congrArg some (by kernel_rfl))
 f171:=Tryz.func164.trans (congrArg some (by kernel_rfl))
 f243:=Tryz.func173.trans (congrArg some (by kernel_rfl))
 f246:=Tryz.func178.trans (congrArg some (by kernel_rfl))
 f283:=Tryz.func185.trans (congrArg some (by kernel_rfl))
 f284:=Tryz.func186.trans (congrArg some (by kernel_rfl))
 f285:=Tryz.func187.trans (congrArg some (by kernel_rfl))
 f286:=Tryz.func188.trans (congrArg some (by kernel_rfl))
 f317:=Tryz.func191.trans (congrArg some (by kernel_rfl))
 f318:=Tryz.func193.trans (congrArg some (by kernel_rfl))
 f319:=Tryz.func194.trans (congrArg some (by kernel_rfl))
 f320:=Tryz.func195.trans (congrArg some (by kernel_rfl))
 f337:=Tryz.func198.trans (congrArg some (by kernel_rfl))
 f338:=Tryz.func199.trans (congrArg some (by kernel_rfl))
 t0:=Tryz.underlying0
 a0:=Tryz.isAgg0
 z0:=Tryz.sizeOf0
 v0:=Tryz.zeroValue0
 t2:=Tryz.underlying2
 a2:=Tryz.isAgg2
 z2:=Tryz.sizeOf2
 v2:=Tryz.zeroValue2
 t3:=Tryz.underlying3
 a3:=Tryz.isAgg3
 z3:=Tryz.sizeOf3
 v3:=Tryz.zeroValue3
 t4:=Tryz.underlying4
 a4:=Tryz.isAgg4
 z4:=Tryz.sizeOf4
 v4:=Tryz.zeroValue4
 t5:=Tryz.underlying5
 a5:=Tryz.isAgg5
 z5:=Tryz.sizeOf5
 v5:=Tryz.zeroValue5
 t9:=Tryz.underlying9
 a9:=Tryz.isAgg9
 z9:=Tryz.sizeOf9
 v9:=Tryz.zeroValue9
 t20:=Tryz.underlying20
 a20:=Tryz.isAgg20
 z20:=Tryz.sizeOf20
 v20:=Tryz.zeroValue20
 t37:=Tryz.underlying75
 a37:=Tryz.isAgg75
 z37:=Tryz.sizeOf75
 v37:=Tryz.zeroValue75
 t46:=Tryz.underlying197
 a46:=Tryz.isAgg197
 z46:=Tryz.sizeOf197
 v46:=Tryz.zeroValue197
 t51:=Tryz.underlying204
 a51:=Tryz.isAgg204
 z51:=Tryz.sizeOf204
 v51:=Tryz.zeroValue204
 t53:=Tryz.underlying190
 a53:=Tryz.isAgg190
 z53:=Tryz.sizeOf190
 v53:=Tryz.zeroValue190
 t171:=Tryz.underlying189
 a171:=Tryz.isAgg189
 z171:=Tryz.sizeOf189
 v171:=Tryz.zeroValue189
 t173:=Tryz.underlying193
 a173:=Tryz.isAgg193
 z173:=Tryz.sizeOf193
 v173:=Tryz.zeroValue193
 t212:=Tryz.underlying203
 a212:=Tryz.isAgg203
 z212:=Tryz.sizeOf203
 v212:=Tryz.zeroValue203
 t213:=Tryz.underlying205
 a213:=Tryz.isAgg205
 z213:=Tryz.sizeOf205
 t232:=Tryz.underlying213
 a232:=Tryz.isAgg213
 z232:=Tryz.sizeOf213
 v232:=Tryz.zeroValue213
 t233:=Tryz.underlying214
 a233:=Tryz.isAgg214
 z233:=Tryz.sizeOf214
 v233:=Tryz.zeroValue214
 g17:=by kernel_rfl
 g18:=by kernel_rfl
 g19:=by kernel_rfl
 i0:=by kernel_rfl
 i2:=by kernel_rfl
 i3:=by kernel_rfl
 i4:=by kernel_rfl
 i5:=by kernel_rfl
 i9:=by kernel_rfl
 i20:=by kernel_rfl
 i37:=by kernel_rfl
 i46:=by kernel_rfl
 i51:=by kernel_rfl
 i53:=by kernel_rfl
 i171:=by kernel_rfl
 i173:=by kernel_rfl
 i212:=by kernel_rfl
 i232:=by kernel_rfl
 i233:=by kernel_rfl
 m17:=by kernel_rfl
 m18:=by kernel_rfl
 m19:=by kernel_rfl }
open Go.Value renaming int -> I, slice -> zc, bool -> zd, pointer -> zf, agg -> zg, tuple -> zi
open Go.IntKind renaming i64 -> O
open Go.Obj renaming cells -> ze
open Go.Ending renaming returned -> zh
open Go.RowKit Go.Sort Go.Lib in
theorem Tryz.strconv_Itoa (n:Int) (h0:-9223372036854775808<=n) (h1:n<=9223372036854775807) (w:World) (htab:Lib.TabIs Tryz.prog w "internal/strconv.uint64pow10" .u64 Lib.pow10Tab) :
  Calls Tryz.prog 164 #[I O n] w fun e w'=>e=zh (.string ⟨(Lib.itoa n).toArray⟩)/\∃ k os,w'=grow (w.drewN k) os:=Any.strconv_Itoa Tryz.laysM171 n h0 h1 w htab
end Go.Proofs
namespace Go.Proofs.YtipngnjffjajpaaGreatDoor.Tx
open Go.RowKit
open Go.Value renaming int -> I, slice -> zc, bool -> zd, pointer -> zf, agg -> zg, tuple -> zi
open Go.IntKind renaming i64 -> O
open Go.Obj renaming cells -> ze
open Go.Ending renaming returned -> zh
theorem PL (x:ByteArray):(⟨x.data.toList.toArray⟩:ByteArray)=x:=by cases x;simp
theorem CK (l:List UInt8):(⟨l.toArray⟩:ByteArray).size=l.length:=by show l.toArray.size=_;simp
abbrev HT (w:World):Prop:=Lib.TabIs Tryz.prog w "internal/strconv.uint64pow10" .u64 Lib.pow10Tab
theorem Qj:∃ g,Tryz.prog.globalNamed "internal/strconv.uint64pow10" = some g:=Option.isSome_iff_exists.1 (by kernel_rfl)
theorem HT.up {B:Nat} {w w':World} (h:HT w) (hb:Below B w w') (hB:w.heap.size<=B):HT w':=by
 obtain ⟨g,a⟩:=Qj;exact Joins.tab_stays a h hb hB
theorem HT.over {w w':World} (h:HT w) (hb:Ov w w'):HT w':=h.up hb (Nat.le_refl _)
theorem Qf (n:Int) (h0:-9223372036854775808<=n) (h1:n<=9223372036854775807) (w:World) (h:HT w):Ro 164 #[I O n] w (.string ⟨(Lib.itoa n).toArray⟩):=
 (Tryz.strconv_Itoa n h0 h1 w h).mono fun e w' hh=>⟨hh.1,by obtain ⟨-,k,os,rfl⟩:=hh;exact Lib.below_grow _ w (Nat.le_refl _) k os⟩
theorem Kv (k:Int) (w:World):Ro 165 #[I O k] w (.string ⟨(Cu k).toArray⟩):=by
 by_cases k3:k=3
 ·subst k3
  go_enter Tryz.func165,Tryz.ntmps165;go_wp2_with fail;go_ret;exact ⟨rfl,Below.refl _ _⟩
 by_cases k4:k=4
 ·subst k4
  go_enter Tryz.func165,Tryz.ntmps165;go_wp2_with fail;go_ret;exact ⟨rfl,Below.refl _ _⟩
 by_cases k5:k=5
 ·subst k5
  go_enter Tryz.func165,Tryz.ntmps165;go_wp2_with fail;go_ret;exact ⟨rfl,Below.refl _ _⟩
 by_cases k6:k=6
 ·subst k6
  go_enter Tryz.func165,Tryz.ntmps165;go_wp2_with fail;go_ret;exact ⟨rfl,Below.refl _ _⟩
 have e:Cu k=[32,61,61,32]:=by unfold Cu;rw [if_neg k3,if_neg k4,if_neg k5,if_neg k6]
 rw [e];go_enter Tryz.func165,Tryz.ntmps165;go_wp2_with fail;go_ret;exact ⟨rfl,Below.refl _ _⟩
theorem NH (x:ByteArray) (w:World):Ro 163 #[.string x] w (.string x):=by
 go_enter Tryz.func163,Tryz.ntmps163;go_wp2_with fail;go_ret;exact ⟨rfl,Below.refl _ _⟩
theorem LX (ns:List ByteArray) (ao:Option Addr) (nn cap:Nat) (w:World) (hnn:nn=ns.length) (hc:LS 1 ZN w (zc ao nn cap) ns) (hn:nn<=100) (hf:∀ x∈ns,x.size<=700):Ro 148 #[zc ao nn cap] w (.string ⟨(AY [44,32] (ns.map (fun y=>y.data.toList))).toArray⟩):=by
 obtain ⟨fin,a⟩:=nm (⟨(AY [44,32] (ns.map (fun y=>y.data.toList))).toArray⟩:ByteArray);rw [<-a];have f:Hx (Ro 162 #[zc ao nn cap,.string ⟨#[44,32]⟩,.func (.func 163) #[] #[]] w (.string fin)):=by
  rw [a];exact Ls 163 (fun b w=>by simp [go_sem]) (fun x=>x) ns ⟨#[44,32]⟩ ao nn cap w hnn hc hn hf (by decide) (by decide) fun x _ X _=>NH x X
 clear a hnn hc hf;go_enter Tryz.func148,Tryz.ntmps148;go_wp2_with fail;refine f.o.mono ?_;rintro e g ⟨rfl,c⟩;go_wp2_with fail;go_ret;exact ⟨rfl,c⟩
theorem ML (a n:Int) (x:ByteArray) (ao:Option Addr) (m c:Nat) (T:ByteArray) (w:World) (KD:Hx (∀ X,Ov w X->Ro 164 #[I O n] X (.string T))):Ro 149 #[zg #[I O 1,I O a,I O n,.string x,zc ao m c]] w (.string T):=by
 go_enter Tryz.func149,Tryz.ntmps149;go_wp2_with fail;refine (KD.o _ (bA w (ze #[I O 1,I O a,I O n,.string x,zc ao m c] 49))).mono ?_;rintro e g ⟨rfl,b⟩;have f:=Aa (Ac (bA w (ze #[I O 1,I O a,I O n,.string x,zc ao m c] 49)) b);clear b;go_wp2_with fail;go_ret;exact ⟨rfl,f.o⟩
theorem Ll (a n:Int) (x:ByteArray) (ao:Option Addr) (m c:Nat) (w:World):Ro 149 #[zg #[I O 2,I O a,I O n,.string x,zc ao m c]] w (.string x):=by
 go_enter Tryz.func149,Tryz.ntmps149;go_wp2_with fail;go_ret;exact ⟨rfl,bA w (ze #[I O 2,I O a,I O n,.string x,zc ao m c] 49)⟩
theorem N2 (kd a n:Int) (x:ByteArray) (ao:Option Addr) (m c:Nat) (sg T:ByteArray) (w:World) (k1:¬ kd=1) (k2:¬ kd=2) (KO:Hx (∀ X,Ro 165 #[I O kd] X (.string sg))) (KB:Hx (∀ X,Ov w X->Ro 150 #[zc ao m c,.string sg,.func (.func 149) #[] #[]] X (.string T))) (hT:T.size<=1000000) :
  Ro 149 #[zg #[I O kd,I O a,I O n,.string x,zc ao m c]] w (.string (⟨#[40]⟩++T++⟨#[41]⟩)):=by
 obtain ⟨fin,f⟩:=nm ((⟨#[40]⟩:ByteArray)++T++⟨#[41]⟩);rw [<-f];have F:=Aa f;obtain ⟨V,l⟩:=nm (w.alloc (ze #[I O kd,I O a,I O n,.string x,zc ao m c] 49));have j:Hx (Ov w V):=by show Ov _ _;rw [l];exact bA _ _
 obtain ⟨C,B,A,y,v⟩:=rc5 (Ax w [I O kd,I O a,I O n,.string x,zc ao m c] 49);rw [<-l] at C B A y v;have s1:¬ 9223372036854775807 < 1+T.size:=by omega
 have G:¬ 9223372036854775807 < 1+T.size+1:=by omega
 clear f;go_enter Tryz.func149,Tryz.ntmps149;go_wp2_with fail;rw [<-l];clear l;refine Go.Proofs.YtipngnjffjajpaaGreatDoor.gS (fun E=>Below V.heap.size V E) (Below.refl _ _).drew fun b=>?_;generalize V.drew=W at b ⊢;refine kO 0 ?_;refine kO 1 ?_;refine kO 2 ?_;refine kO 3 ?_;refine rdA 4 rfl fun K i=>?_;go_simp;refine (KO.o _).mono ?_;rintro e J ⟨rfl,g⟩;have u:=Aa (Ac b g);clear g b KO;go_simp;refine xK i (u.o) fun b=>?_;clear i K;refine rdA 5 rfl fun K i=>?_;go_simp;refine (KB.o _ (Ac j.o b)).mono ?_;rintro e H ⟨rfl,g⟩;have r:=Aa (Ac b g);clear g b KB;go_simp;refine xK i (r.o) fun b=>?_;clear i K;refine kO 6 ?_;refine kO 7 ?_;refine kO 8 ?_;refine gE ?_;go_wp2_with fail;go_ret;exact ⟨by rw [F.o];rfl,Ac j.o b⟩
theorem NA (T:List UInt8):((⟨#[40]⟩:ByteArray)++⟨T.toArray⟩++⟨#[41]⟩)=⟨([40]++T++[41]).toArray⟩:=by
 apply ByteArray.ext;simp
theorem H5 (x a:List UInt8):∀ (l:List (List UInt8)),a∈l->a.length<=(AY x l).length
 | [],h=>by cases h
 | [b],h=>by simp only [List.mem_singleton] at h;subst h;exact Nat.le_refl _
 | b::c::l,h=>by
  simp only [AY,List.length_append];rcases List.mem_cons.1 h with rfl | h
  ·omega
  ·have:=H5 x a (c::l) h
   omega
theorem Gl:∀ (k:Nat) (cs:List Value) (d:D) (w:World),HT w->ZE w k cs d->efK k d=true->(exT k d).length<=700->Ro 149 #[.agg cs.toArray] w (.string ⟨(exT k d).toArray⟩)
 | 0,cs,d,w,_,h,_,_=>h.elim
 | k+1,cs,d,w,ht,h,hf,hl=>by
  obtain ⟨kd,a,n,x,ao,c,ds,rfl,rfl,hx,hc⟩:=h;obtain ⟨h1,h2,h3,h4,h5,h6,h7⟩:=CE hf;simp only [gEe] at h1 h2 h3 h4 h5 h6 h7;have hT:exT (k+1) (eD kd a n x ds)=if kd=1 then Lib.itoa n else if kd=2 then x.data.toList else [40]++AY (Cu kd) (ds.map (exT k))++[41]:=by simp only [exT,gEe]
  rw [hT] at hl ⊢;by_cases k1:kd=1
  ·subst k1
   rw [if_pos rfl] at h3 h4 ⊢;exact ML a n x ao ds.length c _ w fun X g=>Qf n (by omega) (by omega) X (ht.over g)
  rw [if_neg k1] at hl ⊢;by_cases k2:kd=2
  ·subst k2
   rw [if_pos rfl,PL];exact Ll a n x ao ds.length c w
  rw [if_neg k2] at hl ⊢;rw [if_neg (by omega)] at h6;have i:(AY (Cu kd) (ds.map (exT k))).length<=700:=by
   simp only [List.length_append,List.length_cons,List.length_nil] at hl;omega
  have f:∀ d∈ds,(exT k d).length<=700:=fun d f=>Nat.le_trans (H5 _ _ _ (List.mem_map_of_mem f)) i;rw [<-NA];refine N2 kd a n x ao ds.length c ⟨(Cu kd).toArray⟩ _ w k1 k2 (fun X=>Kv kd X) (fun X g=>?_) (by rw [CK];omega);have v:(Cu kd).toArray.size=(Cu kd).length:=by simp
  have r:0 < (Cu kd).length/\(Cu kd).length<=8:=by
   refine ⟨?_,Nat.le_trans (Hm kd) (by decide)⟩;unfold Cu;split
   ·decide
   split
   ·decide
   split
   ·decide
   split <;> decide
  have:=GZ (k:=k) 149 (fun j w=>by simp [go_sem]) (fun d=>⟨(exT k d).toArray⟩) ds ⟨(Cu kd).toArray⟩ ao ds.length c X rfl (C2 g hc) (by omega) (fun d b=>by rw [CK];exact f d b) (by show 0 < (Cu kd).toArray.size;omega) (by show (Cu kd).toArray.size<=8;omega) (fun d b cs Y u l=>Gl k cs d Y ((ht.over g).over u) l (h7 d b) (f d b));simpa using this
theorem Ir (a:Int) (o:ByteArray) (wr:Bool) (an:Option Addr) (c:Nat) (w:World) (ho:o.size<=700):Ro 147 #[zg #[I O a,.string o,zd wr,zc an 0 c]] w (.string (o++(bif wr then ⟨#[33]⟩ else ⟨#[58]⟩))):=by
 have s1:¬ 9223372036854775807 < o.size+1:=by omega
 cases wr
 ·go_enter Tryz.func147,Tryz.ntmps147
  go_wp2_with fail;go_ret;exact ⟨rfl,bA w (ze #[I O a,.string o,zd false,zc an 0 c] 53)⟩
 ·go_enter Tryz.func147,Tryz.ntmps147
  go_wp2_with fail;go_ret;exact ⟨rfl,bA w (ze #[I O a,.string o,zd true,zc an 0 c] 53)⟩
theorem Iq (a:Int) (o:ByteArray) (wr:Bool) (an:Option Addr) (m c:Nat) (T:ByteArray) (w:World) (ho:o.size<=700) (hm:0 < m) (hT:T.size<=10000) (KN:Hx (∀ X,Ov w X->Ro 148 #[zc an m c] X (.string T))):Ro 147 #[zg #[I O a,.string o,zd wr,zc an m c]] w (.string (o++(bif wr then ⟨#[33]⟩ else ⟨#[58]⟩)++⟨#[32]⟩++T)):=by
 have s1:¬ 9223372036854775807 < o.size+1:=by omega
 have n:¬ 9223372036854775807 < o.size+1+1:=by omega
 have l:¬ 9223372036854775807 < o.size+1+1+T.size:=by omega
 have j:¬ (m:Int)=0:=by omega
 have i:¬ m=0:=by omega
 clear hm;cases wr
 ·skip
  go_enter Tryz.func147,Tryz.ntmps147;go_wp2_with fail;refine (KN.o _ (bA w (ze #[I O a,.string o,zd false,zc an m c] 53))).mono ?_;rintro e g ⟨rfl,b⟩;have f:=Aa (Ac (bA w (ze #[I O a,.string o,zd false,zc an m c] 53)) b);clear b KN;go_wp2_with fail;go_ret;exact ⟨rfl,f.o⟩
 ·skip
  go_enter Tryz.func147,Tryz.ntmps147;go_wp2_with fail;refine (KN.o _ (bA w (ze #[I O a,.string o,zd true,zc an m c] 53))).mono ?_;rintro e g ⟨rfl,b⟩;have f:=Aa (Ac (bA w (ze #[I O a,.string o,zd true,zc an m c] 53)) b);clear b KN;go_wp2_with fail;go_ret;exact ⟨rfl,f.o⟩
theorem Ml (cs:List Value) (d:D) (w:World) (h:ZP w cs d) (hf:Da d=true) (h6:(gL 3 d).length<=6):Ro 147 #[.agg cs.toArray] w (.string ⟨(poT d).toArray⟩):=by
 obtain ⟨a,o,wr,l,j,b,rfl,rfl,F,A⟩:=h;obtain ⟨r,n⟩:=Dq hf;have c:(poT (Dv a o wr b)).length<=100:=Iu hf h6;simp only [gPp,List.length_map] at r n h6;have v:o.size<=12:=Dr r;have g:∀ x∈b,x.size<=700:=fun x u=>by
  have:=Dr (n (dS x) (List.mem_map_of_mem u));rw [G2] at this;exact Nat.le_trans this (by decide)
 have f:(b.map dS).map asS=b.map (fun y=>y.data.toList):=by rw [List.map_map];rfl
 have E:poT (Dv a o wr b)=o.data.toList++(if wr=true then [33] else [58])++(if b=[] then [] else [32]++AY [44,32] (b.map (fun y=>y.data.toList))):=by
  unfold poT;simp only [gPp,f,List.map_eq_nil_iff]
 rw [E] at c ⊢;by_cases h0:b=[]
 ·subst h0
  have:=Ir a o wr l j w (by omega);have e:(o++(bif wr then ⟨#[33]⟩ else ⟨#[58]⟩):ByteArray)=⟨(o.data.toList++(if wr=true then ([33]:List UInt8) else [58])++(if ([]:List ByteArray)=[] then ([]:List UInt8) else [32]++AY [44,32] (([]:List ByteArray).map (fun y:ByteArray=>y.data.toList)))).toArray⟩:=by
   apply ByteArray.ext;apply Array.toList_inj.1;cases wr <;> simp
  rw [<-e];exact this
 ·rw [if_neg h0] at c ⊢
  have i:0 < b.length:=List.length_pos_iff.2 h0;have C:(AY [44,32] (b.map (fun y=>y.data.toList))).length<=100:=by
   simp only [List.length_append] at c;omega
  have:=Iq a o wr l b.length j ⟨(AY [44,32] (b.map (fun y=>y.data.toList))).toArray⟩ w (by omega) i (by rw [CK];omega) fun X B=>LX b l b.length j X rfl (Ds B A) (by omega) g;have e:(o++(bif wr then ⟨#[33]⟩ else ⟨#[58]⟩)++⟨#[32]⟩++⟨(AY [44,32] (b.map (fun y=>y.data.toList))).toArray⟩:ByteArray)=⟨(o.data.toList++(if wr=true then ([33]:List UInt8) else [58])++([32]++AY [44,32] (b.map (fun y:ByteArray=>y.data.toList)))).toArray⟩:=by
   apply ByteArray.ext;apply Array.toList_inj.1;cases wr <;> simp
  rw [<-e];exact this
theorem JF (kd a:Int) (x y:ByteArray) (aL:Option Addr) (nL cL:Nat) (aP:Option Addr) (nP cP:Nat) (aB:Option Addr) (nB cB:Nat) (e0 e1 e2:Int) (e3:ByteArray) (q:Option Addr) (q1 q2:Nat) (w:World):Ro 122 #[zg #[I O kd,I O a,.string x,.string y,zd false,zc aL nL cL,zc aP nP cP,zc aB nB cB,I O e0,I O e1,I O e2,.string e3,zc q q1 q2]] w (.string ⟨#[]⟩):=by
 go_enter Tryz.func122,Tryz.ntmps122;go_wp2_with fail;go_ret;exact ⟨rfl,bA w (ze #[I O kd,I O a,.string x,.string y,zd false,zc aL nL cL,zc aP nP cP,zc aB nB cB,I O e0,I O e1,I O e2,.string e3,zc q q1 q2] 51)⟩
theorem JE (kd a:Int) (x y:ByteArray) (aL:Option Addr) (nL cL:Nat) (aP:Option Addr) (nP cP:Nat) (aB:Option Addr) (nB cB:Nat) (e0 e1 e2:Int) (e3:ByteArray) (q:Option Addr) (q1 q2:Nat) (T:ByteArray) (w:World) (hT:T.size<=10000) (KP:Hx (∀ X,Ov w X->Ro 146 #[zc aL nL cL,.string ⟨#[59,32]⟩,.func (.func 147) #[] #[]] X (.string T))):Ro 122 #[zg #[I O kd,I O a,.string x,.string y,zd true,zc aL nL cL,zc aP nP cP,zc aB nB cB,I O e0,I O e1,I O e2,.string e3,zc q q1 q2]] w (.string (⟨#[32,123]⟩++T++⟨#[125]⟩)):=by
 have s1:¬ 9223372036854775807 < 2+T.size:=by omega
 have g:¬ 9223372036854775807 < 2+T.size+1:=by omega
 go_enter Tryz.func122,Tryz.ntmps122;go_wp2_with fail;refine (KP.o _ (bA w (ze #[I O kd,I O a,.string x,.string y,zd true,zc aL nL cL,zc aP nP cP,zc aB nB cB,I O e0,I O e1,I O e2,.string e3,zc q q1 q2] 51))).mono ?_;rintro e f ⟨rfl,b⟩;have c:=Aa (Ac (bA w (ze #[I O kd,I O a,.string x,.string y,zd true,zc aL nL cL,zc aP nP cP,zc aB nB cB,I O e0,I O e1,I O e2,.string e3,zc q q1 q2] 51)) b);clear b KP;go_wp2_with fail;go_ret;exact ⟨rfl,c.o⟩
theorem NP (kd a:Int) (x y:ByteArray) (gv:Bool) (aL:Option Addr) (cL:Nat) (lb:List D) (aP:Option Addr) (cP:Nat) (nP:Nat) (aB:Option Addr) (nB cB:Nat) (e0 e1 e2:Int) (e3:ByteArray) (q:Option Addr) (q1 q2:Nat) (d:D) (w:World) (h4:gB 4 d=gv) (h5:gL 5 d=lb) (hf:Eb d=true) (hn:lb.length<=4) (h6:∀ p∈lb,(gL 3 p).length<=6) (hc:LS 4 (ZP w) w (zc aL lb.length cL) lb):Ro 122 #[zg #[I O kd,I O a,.string x,.string y,zd gv,zc aL lb.length cL,zc aP nP cP,zc aB nB cB,I O e0,I O e1,I O e2,.string e3,zc q q1 q2]] w (.string ⟨(laT d).toArray⟩):=by
 have b:(laT d).length<=420:=IP hf (by rw [h5];exact hn) (by rw [h5];exact h6);unfold laT at b ⊢;rw [h4,h5] at b;rw [h4,h5]
 cases gv with
 | false=>exact JF kd a x y aL lb.length cL aP nP cP aB nB cB e0 e1 e2 e3 q q1 q2 w
 | true=>
  have f:=((Bw hf).1 h4).2;rw [h5] at f;rw [if_pos rfl] at b ⊢;have l:(AY [59,32] (lb.map poT)).length<=420:=by
   simp only [List.length_append] at b;omega
  have:=JE kd a x y aL lb.length cL aP nP cP aB nB cB e0 e1 e2 e3 q q1 q2 ⟨(AY [59,32] (lb.map poT)).toArray⟩ w (by rw [CK];omega) fun X j=>by
   have:=Lt 147 (fun g w=>by simp [go_sem]) (fun d=>⟨(poT d).toArray⟩) lb ⟨#[59,32]⟩ aL lb.length cL X rfl (DP j hc) (by omega) (fun p c=>by rw [CK];exact Nat.le_trans (Iu (f p c) (h6 p c)) (by decide)) (by decide) (by decide) (fun p c n Y r i=>Ml n p Y i (f p c) (h6 p c));simpa using this
  have e:(⟨#[32,123]⟩++⟨(AY [59,32] (lb.map poT)).toArray⟩++⟨#[125]⟩:ByteArray)=⟨([32,123]++AY [59,32] (lb.map poT)++[125]).toArray⟩:=by
   apply ByteArray.ext;simp
  rw [<-e];exact this
def AH (B b:Nat) (deep:Int) (l:List UInt8) (w:World) (e:Ending) (w':World):Prop:=e=zh (zi #[])/\Bb B b deep (Lib.byteCells l) w'/\Below B w w'/\Az w w'
def Ly (g:Nat) (xs:List ByteArray) (w:World):Prop:=w.heap[g]? = some (.cells (xs.map Value.string).toArray 9 (0,0))
theorem Ly.keep {g:Nat} {xs:List ByteArray} {w w':World} (h:Ly g xs w) (k:Az w w'):Ly g xs w':=k g _ 9 _ h (by decide) (by decide)
theorem Ly.cell {g:Nat} {xs:List ByteArray} {w:World} (h:Ly g xs w) {j:Nat} {x:ByteArray} (hx:xs[j]? = some x):w.cell? ⟨g,j,none⟩=some (.string x):=by
 rw [Lib.cell_of_heap h];simp [hx]
theorem NV (n:Nat):inT (n+1)=inT n++[32,32]:=by
 unfold inT;rw [List.replicate_succ',List.flatten_append];rfl
def F7 (xs:List ByteArray):Nat:=(xs.map ByteArray.size).sum
theorem JO (xs:List ByteArray):((xs.map (fun y=>y.data.toList)).flatten).length=F7 xs:=by
 induction xs with
 | nil=>rfl
 | cons x xs ih=>
  have e:x.data.toList.length=x.size:=rfl;simp only [F7] at ih;simp only [F7,List.map_cons,List.flatten_cons,List.length_append,List.sum_cons];omega
theorem MY (xs:List ByteArray) (j:Nat):((xs.take j).map (fun y=>y.data.toList)).flatten.length<=F7 xs:=by
 rw [<-JO];have e:xs=xs.take j++xs.drop j:=(List.take_append_drop j xs).symm;have h:(xs.map (fun y:ByteArray=>y.data.toList)).flatten=((xs.take j).map (fun y=>y.data.toList)).flatten++((xs.drop j).map (fun y=>y.data.toList)).flatten:=by
  conv=>lhs;rw [e]
  rw [List.map_append,List.flatten_append]
 rw [h,List.length_append];omega
theorem OE {xs:List ByteArray} {x:ByteArray} (h:x∈xs):x.size<=F7 xs:=by
 induction xs with
 | nil=>cases h
 | cons y xs ih=>
  simp only [F7,List.map_cons,List.sum_cons];rcases List.mem_cons.1 h with rfl | h
  ·omega
  ·have:=ih h
   simp only [F7] at this;omega
theorem Qd (B b g dn nn:Nat) (l:List UInt8) (xs:List ByteArray) (w:World) (hnn:nn=xs.length) (hn:nn<=10) (hd:dn<=10) (hl:l.length<=1000000) (hx:F7 xs<=1000000) (hP:Bb B b dn (Lib.byteCells l) w) (hBw:B<=w.heap.size) (hR:Ly g xs w) :
  Calls Tryz.prog 86 #[zf (some ⟨b,0,none⟩),zc (some ⟨g,0,none⟩) nn nn] w (AH B b dn (l++(inT dn++(xs.map (fun y=>y.data.toList)).flatten++[10])) w):=by
 obtain ⟨fin,r⟩:=nm (l++(inT dn++(xs.map (fun y=>y.data.toList)).flatten++[10]));rw [<-r];have Y:=Aa r;have V:=Aa hnn;have X:=Aa hP;have W:=Aa hR;have P:=Aa hBw;have U:=Aa hx;have T:=hP.cells.1;clear r hnn hP hR hBw hx;go_enter Tryz.func86,Tryz.ntmps86;go_wp2_with fail;go_loopw [10] (fun i wr=>∃ (j:Nat),j<=dn/\i=I O j/\Hx (Bb B b dn (Lib.byteCells (l++inT j)) wr/\Below B w wr/\Az w wr)) (fun i _=>dn - (intOf i).toNat)
 case atStart=>exact ⟨0,Nat.zero_le _,rfl,by show _/\_;exact ⟨by simpa [inT] using X.o,Below.refl _ _,Az.refl _⟩⟩
 case round=>
  obtain ⟨j,hj,rfl,H⟩:=hrel;by_cases hjl:j < dn
  ·have M:(j:Int) < (dn:Int):=by omega
   have a:(Lib.byteCells (l++inT j)).length<=100000000:=by rw [Lib.byteCells_length,List.length_append,Gj];omega
   have C:=Aa (QY B b dn _ ⟨#[32,32]⟩ wr H.o.1 a (by decide) (Nat.le_trans P.o H.o.2.1.size));clear a T;go_wp2_with fail;refine C.o.mono ?_;rintro e v ⟨rfl,u,f,c⟩;rw [Lib.strCells_eq,<-Lib.byteCells_append,List.append_assoc] at u;have R:Hx (Bb B b dn (Lib.byteCells (l++inT (j+1))) v/\Below B w v/\Az w v):=⟨Or.inr (by rw [NV];exact u),H.o.2.1.trans f,H.o.2.2.trans c⟩;clear u f c C H;go_wp2_with fail;exact ⟨⟨j+1,by omega,by go_num,R⟩,by simp [intOf];omega⟩
  ·have M:¬ (j:Int) < (dn:Int):=by omega
   obtain rfl:j=dn:=by omega
   clear T hjl;go_wp2_with fail;go_loopw [19] (fun i wr=>∃ (q:Nat),q<=nn/\i=I O q/\Hx (Bb B b j (Lib.byteCells (l++(inT j++((xs.take q).map (fun y=>y.data.toList)).flatten))) wr/\Below B w wr/\Az w wr)) (fun i _=>nn - (intOf i).toNat)
   case atStart=>exact ⟨0,Nat.zero_le _,rfl,by show _/\_;exact ⟨by simpa using H.o.1,H.o.2⟩⟩
   case round=>
    obtain ⟨q,hq,rfl,E⟩:=hrel;by_cases hql:q < nn
    ·have L:(q:Int) < (nn:Int):=by omega
     have A:q < xs.length:=by have:=V.o;omega
     have S:=(W.o.keep E.o.2.2).cell (List.getElem?_eq_getElem A);have J:=OE (List.getElem_mem A);have F:((xs.take (q+1)).map (fun y=>y.data.toList)).flatten=((xs.take q).map (fun y=>y.data.toList)).flatten++xs[q].data.toList:=by
      rw [Df xs q A,List.map_append,List.flatten_append];simp
     generalize xs[q]=x at S J F;have N:=U.o;have a:(Lib.byteCells (l++(inT j++((xs.take q).map (fun y=>y.data.toList)).flatten))).length<=100000000:=by
      have:=MY xs q;rw [Lib.byteCells_length,List.length_append,List.length_append,Gj];omega
     have C:=Aa (QY B b j _ x wr E.o.1 a (by omega) (Nat.le_trans P.o E.o.2.1.size));have HT:=Aa F;clear a J N F A;go_wp2_with fail;refine C.o.mono ?_;rintro e v ⟨rfl,u,f,c⟩;rw [Lib.strCells_eq,<-Lib.byteCells_append,List.append_assoc,List.append_assoc,<-HT.o] at u;have Q:Hx (Bb B b j (Lib.byteCells (l++(inT j++((xs.take (q+1)).map (fun y=>y.data.toList)).flatten))) v/\Below B w v/\Az w v):=⟨Or.inr u,E.o.2.1.trans f,E.o.2.2.trans c⟩;clear u f c C E S HT;go_wp2_with fail;exact ⟨⟨q+1,by omega,by go_num,Q⟩,by simp [intOf];omega⟩
    ·have L:¬ (q:Int) < (nn:Int):=by omega
     have n:xs.take q=xs:=List.take_of_length_le (by have:=V.o;omega);have G:=E.o;rw [n] at G;have N:=U.o;have a:(Lib.byteCells (l++(inT j++(xs.map (fun y=>y.data.toList)).flatten))).length<=100000000:=by
      rw [Lib.byteCells_length,List.length_append,List.length_append,Gj,JO];omega
     have C:=Aa (QZ B b j _ 10 wr G.1 a (Nat.le_trans P.o G.2.1.size));replace G:=Aa G;clear a N n E;go_wp2_with fail;refine C.o.mono ?_;rintro e v ⟨rfl,u,f,c⟩;have K:Lib.byteCells (l++(inT j++(xs.map (fun y=>y.data.toList)).flatten))++[Value.int .u8 10]=Lib.byteCells fin:=by
      rw [Y.o];simp only [Lib.byteCells_append,List.append_assoc];rfl
     rw [K] at u;have Z:Hx (AH B b j fin w (zh (zi #[])) v):=⟨rfl,Or.inr u,G.o.2.1.trans f,G.o.2.2.trans c⟩;clear u f c C K;go_wp2_with fail;go_end0;exact Z.o
theorem AH.trans {B b:Nat} {dn:Int} {l:List UInt8} {w w1 w2:World} (hb:Below B w w1) (hk:Az w w1) {e:Ending} (h:AH B b dn l w1 e w2):AH B b dn l w e w2:=⟨h.1,h.2.1,hb.trans h.2.2.1,hk.trans h.2.2.2⟩
theorem A5 {B:Nat} {w w':World} (h:Ov w w') (hB:B<=w.heap.size):Below B w w':=h.mono hB
theorem Bc {g:Nat} {cs:Array Value} {T:TypeId} {w w':World} (h:w.heap[g]? = some (.cells cs T (0,0))) (k:Az w w') (h1:T≠79) (h2:T≠5) (i:Nat):w'.cell? ⟨g,i,none⟩=w.cell? ⟨g,i,none⟩:=by
 rw [Lib.cell_of_heap h,Lib.cell_of_heap (k g cs T _ h h1 h2)]
theorem AW (x:ByteArray) (l:List ByteArray):F7 (x::l)=x.size+F7 l:=rfl
theorem A4:F7 []=0:=rfl
theorem Nl (xs:List ByteArray) (w:World):Ly w.heap.size xs (w.alloc (.cells (xs.map Value.string).toArray 9)):=heap_alloc_new w _
theorem A7 (B b dn:Nat) (l:List UInt8) (xs:List ByteArray) (w:World) (hn:xs.length<=10) (hd:dn<=10) (hl:l.length<=1000000) (hx:F7 xs<=1000000) (hP:Bb B b dn (Lib.byteCells l) w) (hBw:B<=w.heap.size) :
  Calls Tryz.prog 86 #[zf (some ⟨b,0,none⟩),zc (some ⟨w.heap.size,0,none⟩) xs.length xs.length] (w.alloc (.cells (xs.map Value.string).toArray 9)) (AH B b dn (l++(inT dn++(xs.map (fun y=>y.data.toList)).flatten++[10])) w):=
 (Qd B b w.heap.size dn _ l xs _ rfl hn hd hl hx (hP.alloc _) (by simp;omega) (Nl xs w)).mono fun e w' h=>h.trans ((Below.refl B w).alloc hBw _) (Az.alloc w _)
theorem OP (B b dn:Nat) (l:List UInt8) (a:Int) (x y:ByteArray) (e0 e1 e2:Int) (e3:ByteArray) (q:Option Addr) (q1 q2:Nat) (aA:Option Addr) (nA cA:Nat) (aT:Option Addr) (nT cT:Nat) (aE:Option Addr) (nE cE:Nat) (w:World) (hP:Bb B b dn (Lib.byteCells l) w) (hBw:B<=w.heap.size) (hd:dn<=10) (hl:l.length<=1000000) (hxs:x.size<=10000) (hys:y.size<=10000) :
  Calls Tryz.prog 124 #[zf (some ⟨b,0,none⟩),zg #[I O 3,I O a,.string x,.string y,I O e0,I O e1,I O e2,.string e3,zc q q1 q2,zc aA nA cA,zc aT nT cT,zc aE nE cE]] w (AH B b dn (l++(inT dn++(([⟨#[103,101,116,32]⟩,x,⟨#[32]⟩,y,⟨#[59]⟩]:List ByteArray).map (fun y=>y.data.toList)).flatten++[10])) w):=by
 obtain ⟨V,i⟩:=nm (w.alloc (ze #[I O 3,I O a,.string x,.string y,I O e0,I O e1,I O e2,.string e3,zc q q1 q2,zc aA nA cA,zc aT nT cT,zc aE nE cE] 55));have c:Hx (Ov w V):=by show Ov _ _;rw [i];exact bA _ _
 have n:V.heap[w.heap.size]? = some (ze #[I O 3,I O a,.string x,.string y,I O e0,I O e1,I O e2,.string e3,zc q q1 q2,zc aA nA cA,zc aT nT cT,zc aE nE cE] 55 (0,0)):=by rw [i];exact heap_alloc_new w _
 obtain ⟨X,W,T,S,R,Q,P,N,M,L,E,C⟩:=AU (Ax w [I O 3,I O a,.string x,.string y,I O e0,I O e1,I O e2,.string e3,zc q q1 q2,zc aA nA cA,zc aT nT cT,zc aE nE cE] 55);have j:B<=V.heap.size:=Nat.le_trans hBw c.o.size;have g:V.heap.size=w.heap.size+1:=by rw [i];simp
 have f:=A7 B b dn l [⟨#[103,101,116,32]⟩,x,⟨#[32]⟩,y,⟨#[59]⟩] V (by simp) hd hl (by have J:(⟨#[103,101,116,32]⟩:ByteArray).size=4:=rfl;have H:(⟨#[32]⟩:ByteArray).size=1:=rfl;have G:(⟨#[59]⟩:ByteArray).size=1:=rfl;simp only [AW,A4];omega) (hP.over c.o) j;rw [g] at f;obtain ⟨U,r⟩:=nm (V.alloc (ze #[.string ⟨#[103,101,116,32]⟩,.string x,.string ⟨#[32]⟩,.string y,.string ⟨#[59]⟩] 9));have A:Hx (Calls Tryz.prog 86 #[zf (some ⟨b,0,none⟩),zc (some ⟨w.heap.size+1,0,none⟩) 5 5] U (AH B b dn (l++(inT dn++(([⟨#[103,101,116,32]⟩,x,⟨#[32]⟩,y,⟨#[59]⟩]:List ByteArray).map (fun y=>y.data.toList)).flatten++[10])) V)):=by rw [r];exact f
 have v:=Aa (And.intro (A5 c.o hBw) (Az.over c.o));clear n j hP f g;go_enter Tryz.func124,Tryz.ntmps124;go_wp2_with fail;rw [<-i,<-r];clear i r;refine A.o.mono ?_;rintro e K u;have F:=Aa (u.trans v.o.1 v.o.2);obtain rfl:=u.1;clear u A v;go_wp2_with fail;go_end0;exact F.o
end Go.Proofs.YtipngnjffjajpaaGreatDoor.Tx
