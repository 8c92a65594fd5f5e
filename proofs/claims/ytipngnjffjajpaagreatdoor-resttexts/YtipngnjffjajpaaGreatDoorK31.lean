/- The document's answer: digits. -/
import Derived.Test.YtipngnjffjajpaaGreatDoorK30
import Derived.Laws.BytesString
import Derived.Lib.ItoaMem
import Derived.Lib.ItoaLen
import Derived.Test.YtipngnjffjajpaaGreatDoorShelf
import Derived.Lib.MakeNoZero
import Derived.Laws.MakeOwn
set_option linter.unusedVariables false
set_option maxHeartbeats 8000000
set_option maxRecDepth 100000
namespace Go.Proofs.YtipngnjffjajpaaGreatDoor.Tx
open Go.RowKit
open Go.Value renaming int -> O, slice -> zd, bool -> ze, agg -> zf, pointer -> zh, tuple -> zj
open Go.IntKind renaming i64 -> zc
open Go.Obj renaming cells -> zg
open Go.Ending renaming returned -> zi
theorem FY (n:Nat) (hn:n<=9223372036854775807):(⟨(Lib.decDigits n).toArray⟩:ByteArray).size<=21:=by
 have:=Lib.itoa_length_le (n:Int) (by omega) (by omega);rw [Lib.itoa_nonneg] at this;simpa [ByteArray.size] using this
theorem Jw (x y:List UInt8):(⟨x.toArray⟩:ByteArray)++⟨y.toArray⟩=⟨(x++y).toArray⟩:=by
 apply ByteArray.ext;simp
theorem O3 (n:Nat) (h:n < 10) (w:World):Ro 88 #[O zc (n:Int)] w (.string ⟨(Lib.decDigits n).toArray⟩):=by
 rw [Lib.decDigits_one h];have c:¬ (n:Int) < 0:=by omega
 have b:(n:Int) < 10:=by omega
 have a:(convert 75 9 (zd (some ⟨w.heap.size,0,none⟩) 1 1)).run Tryz.prog (w.alloc (zg #[O .u8 (48+(n:Int))] 5))=.ok (.string ⟨#[UInt8.ofNat (48+n)]⟩) (w.alloc (zg #[O .u8 (48+(n:Int))] 5)):=by
  rw [run_convert_bytes_string _ 75 9 5 _ _ _ Tryz.underlying75 Tryz.underlying5 Tryz.underlying9,run_bytesToString _ _ _ _ [48+(n:Int)] (by simp [go_sem,loadCells,loadCellsFrom])];have e:(48+(n:Int)).toNat=48+n:=by omega
  simp only [List.foldl_cons,List.foldl_nil,e];rfl
 go_enter Tryz.func88,Tryz.ntmps88;go_wp2_with fail;go_ret;exact ⟨rfl,bA _ _⟩
theorem FX:∀ (n:Nat) (hn:n<=9223372036854775807) (w:World),Ro 88 #[O zc (n:Int)] w (.string ⟨(Lib.decDigits n).toArray⟩):=by
 intro n
 induction n using Nat.strongRecOn with
 | ind n ih=>
  intro hn w;by_cases h:n < 10
  ·exact O3 n h w
  ·have r:Lib.decDigits n=Lib.decDigits (n / 10)++Lib.decDigits (n % 10):=by
    rw [Lib.decDigits_one (Nat.mod_lt _ (by omega))];rw [Lib.decDigits,dif_neg h]
   obtain ⟨a,i⟩:=nm (⟨(Lib.decDigits (n / 10)).toArray⟩:ByteArray);obtain ⟨b,g⟩:=nm (⟨(Lib.decDigits (n % 10)).toArray⟩:ByteArray);have v:((n / 10:Nat):Int)=(n:Int) / 10:=by omega
   have u:((n % 10:Nat):Int)=(n:Int) % 10:=by omega
   have A:Hx (∀ X,Ro 88 #[O zc ((n:Int) / 10)] X (.string a)):=fun X=>by
    have:=ih (n / 10) (by omega) (by omega) X;rw [<-i,v] at this;exact this
   have y:Hx (∀ X,Ro 88 #[O zc ((n:Int) % 10)] X (.string b)):=fun X=>by
    have:=ih (n % 10) (by omega) (by omega) X;rw [<-g,u] at this;exact this
   have B:Hx ((⟨(Lib.decDigits n).toArray⟩:ByteArray)=a++b):=by show _=_;rw [r,i,g,Jw]
   have I:¬ (n:Int) < 0:=by omega
   have H:¬ (n:Int) < 10:=by omega
   have G:a.size<=21:=by rw [i];exact FY _ (by omega)
   have F:b.size<=21:=by rw [g];exact FY _ (by omega)
   have x:¬ 9223372036854775807 < a.size+b.size:=by omega
   clear ih r i g v u;go_enter Tryz.func88,Tryz.ntmps88;go_wp2_with fail;refine mo (A.o _) fun E f=>?_;have l:=Aa f;clear f;go_wp2_with fail;refine mo (y.o _) fun C c=>?_;have j:=Aa (Ab l.o c);clear c;go_wp2_with fail;go_ret;exact ⟨by rw [B.o];rfl,j.o⟩
theorem O2 (n:Int) (h0:-9223372036854775807<=n) (h1:n<=9223372036854775807) (w:World):Ro 88 #[O zc n] w (.string ⟨(Lib.itoa n).toArray⟩):=by
 by_cases hz:n < 0
 ·have r:Lib.itoa n=45::Lib.decDigits n.natAbs:=by unfold Lib.itoa;rw [if_pos hz]
  rw [r];by_cases h10:-10 < n
  ·obtain ⟨a,f⟩:=nm (⟨(Lib.decDigits n.natAbs).toArray⟩:ByteArray)
   have u:Hx (∀ X,Ro 88 #[O zc (-n)] X (.string a)):=fun X=>by
    have:=FX n.natAbs (by omega) X;rw [<-f,show ((n.natAbs:Nat):Int)=-n by omega] at this;exact this
   have v:Hx ((⟨(45::Lib.decDigits n.natAbs).toArray⟩:ByteArray)=⟨#[45]⟩++a):=by show _=_;rw [f];exact (Jw [45] _).symm
   have J:a.size<=21:=by rw [f];exact FY _ (by omega)
   have I:¬ 9223372036854775807 < (⟨#[45]⟩:ByteArray).size+a.size:=by show ¬ _ < 1+a.size;omega
   have i:¬ 9223372036854775807 < 1+a.size:=by omega
   clear r f;go_enter Tryz.func88,Tryz.ntmps88;go_wp2_with fail;refine mo (u.o _) fun H c=>?_;have g:=Aa c;clear c;go_wp2_with fail;go_ret;exact ⟨by rw [v.o];rfl,g.o⟩
  ·obtain ⟨a,f⟩:=nm (⟨(Lib.decDigits (n.natAbs / 10)).toArray⟩:ByteArray)
   obtain ⟨b,l⟩:=nm (⟨(Lib.decDigits (n.natAbs % 10)).toArray⟩:ByteArray);have F:n=-((n.natAbs:Nat):Int):=by omega
   have q1:-n.tdiv 10=((n.natAbs / 10:Nat):Int):=by
    have e:n.tdiv 10=-(((n.natAbs:Nat):Int).tdiv 10):=(congrArg (fun x:Int=>x.tdiv 10) F).trans (Int.neg_tdiv _ _);rw [e,Int.tdiv_eq_ediv_of_nonneg (by omega)];omega
   have E:-n.tmod 10=((n.natAbs % 10:Nat):Int):=by
    have e:=Int.tmod_def n 10;have N:=q1;omega
   have C:wrap64 (-n.tdiv 10)=((n.natAbs / 10:Nat):Int):=by rw [q1];unfold wrap64;omega
   have B:wrap64 (-n.tmod 10)=((n.natAbs % 10:Nat):Int):=by rw [E];unfold wrap64;omega
   have u:Hx (∀ X,Ro 88 #[O zc (wrap64 (-n.tdiv 10))] X (.string a)):=fun X=>by rw [C,f];exact FX _ (by omega) X
   have K:Hx (∀ X,Ro 88 #[O zc (wrap64 (-n.tmod 10))] X (.string b)):=fun X=>by rw [B,l];exact FX _ (by omega) X
   have G:Lib.decDigits n.natAbs=Lib.decDigits (n.natAbs / 10)++Lib.decDigits (n.natAbs % 10):=by
    rw [Lib.decDigits_one (Nat.mod_lt _ (by omega)),Lib.decDigits,dif_neg (by omega)]
   have v:Hx ((⟨(45::Lib.decDigits n.natAbs).toArray⟩:ByteArray)=⟨#[45]⟩++a++b):=by show _=_;rw [G,f,l];have e:=Jw [45] (Lib.decDigits (n.natAbs / 10));rw [show (⟨#[45]⟩:ByteArray)=⟨[45].toArray⟩ from rfl,e,Jw];rfl
   have J:a.size<=21:=by rw [f];exact FY _ (by omega)
   have M:b.size<=21:=by rw [l];exact FY _ (by omega)
   have i:¬ 9223372036854775807 < 1+a.size:=by omega
   have A:¬ 9223372036854775807 < 1+a.size+b.size:=by omega
   clear r f l G q1 E C B F;go_enter Tryz.func88,Tryz.ntmps88;go_wp2_with fail;refine mo (u.o _) fun H c=>?_;have g:=Aa c;clear c;go_wp2_with fail;refine mo (K.o _) fun L j=>?_;have y:=Aa (Ab g.o j);clear j;go_wp2_with fail;go_ret;exact ⟨by rw [v.o];rfl,y.o⟩
 ·obtain ⟨m,rfl⟩:∃ m:Nat,n=(m:Int):=⟨n.toNat,by omega⟩
  rw [Lib.itoa_nonneg];exact FX m (by omega) w
def Jt (s:ByteArray) (i:Nat) (x:ByteArray):ByteArray:=(if 0 < i then s++⟨#[44,32]⟩ else s)++x
def Hj:ByteArray->Nat->List ByteArray->ByteArray
 | s,_,[]=>s
 | s,i,x::l=>Hj (Jt s i x) (i+1) l
theorem Nl (s:ByteArray) (i:Nat) (x:ByteArray):(Jt s i x).size<=s.size+2+x.size:=by
 unfold Jt;split
 ·rw [ByteArray.size_append,ByteArray.size_append];exact Nat.le_refl _
 ·rw [ByteArray.size_append];omega
theorem O9 (M:Nat) (ns:List ByteArray) (ao:Option Addr) (cap:Nat) (w:World) (h:LS 1 ZN w (zd ao ns.length cap) ns) (hM:∀ x∈ns,x.size<=M) (hs:ns.length*(M+2)<=1000000000):Ro 45 #[zd ao ns.length cap] w (.string (Hj ⟨#[]⟩ 0 ns)):=by
 obtain ⟨fin,c⟩:=nm (Hj ⟨#[]⟩ 0 ns);rw [<-c];have R:=Aa c;have S:=Aa h;have Q:=h.max;have P:=Aa hM;obtain ⟨u,g⟩:=nm ns.length;rw [<-g] at Q ⊢;have H:=Aa g;have N:=Aa hs;clear c h hM g hs;go_enter Tryz.func45,Tryz.ntmps45;go_wp2_with fail;go_loopw [3,4] (fun s i wr=>∃ (j:Nat) (x:ByteArray),j<=u/\i=O zc j/\s=.string x/\Hj x j (ns.drop j)=fin/\x.size<=j*(M+2)/\wr=w) (fun _ i _=>u - (intOf i).toNat)
 case atStart=>exact ⟨0,⟨#[]⟩,Nat.zero_le _,rfl,rfl,R.o.symm,Nat.zero_le _,rfl⟩
 case round=>
  obtain ⟨j,s,V,rfl,rfl,f,v,rfl⟩:=hrel;by_cases hjl:j < u
  ·have a:j < ns.length:=by have:=H.o;omega
   have C:(j:Int) < (u:Int):=by omega
   obtain ⟨b,r,rfl,Y,-,l,hr⟩:=S.o.at a;rw [List.drop_eq_getElem_cons a,Hj] at f;have F:=P.o ns[j] (List.getElem_mem _);have B:(j+1)*(M+2)<=1000000000:=by have X:=N.o;have W:(j+1)*(M+2)<=ns.length*(M+2):=Nat.mul_le_mul_right _ a;omega
   generalize ns[j]=x at f hr F;rw [hr.1] at l;have L:wr.cell? ⟨b,r+j,none⟩=some (.string x):=by have:=l 0 _ rfl;simpa using this
   have E:=Nl s j x;have J:(j+1)*(M+2)=j*(M+2)+M+2:=by rw [Nat.add_mul];omega
   have n:=Aa f;have A:Hx ((Jt s j x).size<=(j+1)*(M+2)):=by show _<=_;omega
   have s1:¬ 9223372036854775807 < s.size+2:=by omega
   have U:¬ 9223372036854775807 < s.size+2+x.size:=by omega
   have T:¬ 9223372036854775807 < s.size+x.size:=by omega
   clear l hr f E J B v F a;by_cases hj0:j=0
   ·subst hj0
    have y:Jt s 0 x=s++x:=rfl;rw [y] at A n;have K:wr.cell? ⟨b,r,none⟩=some (.string x):=by simpa using L
    clear y;go_wp2_with fail;exact ⟨⟨1,_,by omega,by go_num,rfl,n.o,A.o,by trivial⟩,by simp [intOf];omega⟩
   ·have I:(0:Int) < (j:Int):=by omega
    have y:Jt s j x=s++⟨#[44,32]⟩++x:=by unfold Jt;rw [if_pos (by omega)]
    rw [y] at A n;clear y hj0;go_wp2_with fail;exact ⟨⟨j+1,_,by omega,by go_num,rfl,n.o,A.o,by trivial⟩,by simp [intOf];omega⟩
  ·have C:¬ (j:Int) < (u:Int):=by omega
   have G:ns.drop j=[]:=List.drop_eq_nil_of_le (by have:=H.o;omega);rw [G] at f;have n:Hx (s=fin):=f;clear f G v;go_wp2_with fail;go_ret;exact ⟨by rw [<-n.o];rfl,Below.refl _ _⟩
theorem Fv (x a:List UInt8) (l:List (List UInt8)):AB x (a::l)=a++(l.map (fun y=>x++y)).flatten:=by
 induction l generalizing a with
 | nil=>simp [AB]
 | cons b l ih=>rw [AB,ih b];simp
theorem IP (s:ByteArray) (i:Nat) (x:List UInt8):(Jt s i ⟨x.toArray⟩).data.toList=s.data.toList++(if 0 < i then [44,32] else [])++x:=by
 unfold Jt;split
 ·simp [ByteArray.data_append]
 ·simp [ByteArray.data_append]
theorem Nj (s:ByteArray) (i:Nat) (l:List (List UInt8)):(Hj s (i+1) (l.map (fun y=>(⟨y.toArray⟩:ByteArray)))).data.toList=s.data.toList++(l.map (fun y=>[44,32]++y)).flatten:=by
 induction l generalizing s i with
 | nil=>simp [Hj]
 | cons a l ih=>
  rw [List.map_cons,Hj,ih,IP,if_pos (Nat.succ_pos _)];simp
theorem Nk (l:List (List UInt8)):Hj ⟨#[]⟩ 0 (l.map (fun y=>(⟨y.toArray⟩:ByteArray)))=⟨(AB [44,32] l).toArray⟩:=by
 have h:(Hj ⟨#[]⟩ 0 (l.map (fun y=>(⟨y.toArray⟩:ByteArray)))).data.toList=AB [44,32] l:=by
  cases l with
  | nil=>rfl
  | cons a l=>rw [List.map_cons,Hj,Nj,IP,Fv];simp
 rw [<-h]
theorem BH {w:World} {b:Nat} {o:Obj} (h:w.heap[b]? = some o):b < w.heap.size:=(Array.getElem?_eq_some_iff.1 h).1
theorem Ra (B b n:Nat) (w:World) (hB:B<=b) (hb:w.heap[b]? = some (zg #[zh (some ⟨b,0,none⟩),zd none 0 0] 77 (0,0))) (hBw:B<=w.heap.size) (hn:n<=1000000) :
  Calls Tryz.prog 177 #[zh (some ⟨b,0,none⟩),O zc (n:Int)] w fun e w'=>e=zi (zj #[])/\Lib.BuilderAt 77 5 B b (zh (some ⟨b,0,none⟩)) [] w'/\Below B w w':=by
 obtain ⟨cs,f,-,g⟩:=Lib.run_makeNoZero (P:=Tryz.prog) w.drew #[3] 75 5 Tryz.underlying75 n (by omega);have i:=BH hb;have hw:IntKind.i64.wrap (IntKind.i64.wrap 0+(n:Int))=n:=by rw [IntKind.wrap_i64,IntKind.wrap_i64];omega
 have x:(callFunc 184 #[O zc (IntKind.i64.wrap (IntKind.i64.wrap 0+(n:Int)))]).run Tryz.prog w.drew=.ok (.value (zd (some ⟨w.drew.heap.size,0,none⟩) n cs.size)) (w.drew.drew.drew.alloc (.cells cs 5)):=by
  rw [hw,run_callFunc_extern Tryz.func184 (by kernel_rfl) (by kernel_rfl) (by kernel_rfl) (e:=Extern.BytealgMakeNoZero.makeNoZero #[3] #[75]) (by kernel_rfl),f];rfl
 have k1:w.drew.cell? ⟨b,1,none⟩=some (zd none 0 0):=by rw [Lib.cell_of_heap (show w.drew.heap[b]? = _ from hb)];rfl
 have j:(w.alloc (.cells cs 5)).heap[b]? = some (zg #[zh (some ⟨b,0,none⟩),zd none 0 0] 77 (0,0)):=(Lib.alloc_old w _ b i).trans hb;have k2:(w.alloc (.cells cs 5)).cell? ⟨b,1,none⟩=some (zd none 0 0):=by rw [Lib.cell_of_heap j];rfl
 have F:(w.alloc (.cells cs 5)).frozen? ⟨b,1,none⟩=false:=Lib.frozen_of_heap j 1;obtain ⟨c,A,y⟩:∃ c,Tryz.prog.info? 5=some c/\c.size=1:=by
  obtain ⟨c,C,u,r,l⟩:=info_parts Tryz.info5;exact ⟨c,C,by first | exact u | exact r | exact l⟩
 have v:∀ W:World,(Builtin.copy_ #[75,75] 3 #[zd (some ⟨w.heap.size,0,none⟩) 0 cs.size,zd none 0 0]).run Tryz.prog W=.ok (goInt 0) W:=fun W=>
  run_copy_none W 75 75 3 5 _ _ 0 cs.size 0 0 Tryz.underlying75 (by kernel_rfl) rfl
 have a:=Lib.grown_fresh (T:=77) (e:=5) (cs:=cs) hB hb hBw (g (by unfold maxLen;omega)) (by decide);rw [World.setCell_alloc_past _ _ _ _ i] at a;have E:=Aa a;clear hw a;go_enter Tryz.func177,Tryz.ntmps177
 go_wp2
 go_region;all_goals (go_wp2;go_end0;exact ⟨rfl,E.o⟩)
theorem Qt (b:Nat) (v:Value) (w:World) (hb:w.heap[b]? = some (zg #[zh none,v] 77 (0,0))) :
  Calls Tryz.prog 121 #[zh (some ⟨b,0,none⟩)] w fun e w'=>e=zi (zj #[])/\w'=w.setCell ⟨b,0,none⟩ (zh (some ⟨b,0,none⟩)):=by
 obtain ⟨j,f,c⟩:=Option.map_eq_some_iff.1 Tryz.size48;have r:w.cell? ⟨b,0,none⟩=some (zh none):=by rw [Lib.cell_of_heap hb];rfl
 have n:w.frozen? ⟨b,0,none⟩=false:=Lib.frozen_of_heap hb 0;have a:w.shape? b=some (77,2):=by simp [World.shape?,hb]
 have i:=Lib.run_to_unsafe w ⟨b,0,none⟩ Tryz.underlying74 Tryz.underlying158 f (by rw [c];decide) a (Nat.zero_lt_succ 1);have l:=Tryz.run39;have g:=Lib.run_from_unsafe w ⟨b,0,none⟩ Tryz.underlying158 Tryz.underlying74 f a Tryz.lies48;clear hb c f a;go_enter Tryz.func121,Tryz.ntmps121
 go_wp2
 go_end0;exact ⟨rfl,rfl⟩
theorem RG (B b n:Nat) (w:World) (hB:B<=b) (hb:w.heap[b]? = some (zg #[zh none,zd none 0 0] 77 (0,0))) (hBw:B<=w.heap.size) (hn:n<=1000000) :
  Calls Tryz.prog 172 #[zh (some ⟨b,0,none⟩),O zc (n:Int)] w fun e w'=>e=zi (zj #[])/\Lib.BuilderAt 77 5 B b (zh (some ⟨b,0,none⟩)) [] w'/\Below B w w':=by
 have j:=Aa (Qt b _ w hb);obtain ⟨f,c⟩:=nm (w.setCell ⟨b,0,none⟩ (zh (some ⟨b,0,none⟩)));have g:f.heap[b]? = some (zg #[zh (some ⟨b,0,none⟩),zd none 0 0] 77 (0,0)):=by rw [c];simp [World.setCell,Array.getElem?_modify,hb]
 have a:Below B w f:=by rw [c];exact (Below.refl B w).setCell (p:=⟨b,0,none⟩) hB _
 rw [<-c] at j;have l:=Aa a;have A:=Aa hBw;have k1:f.drew.cell? ⟨b,1,none⟩=some (zd none 0 0):=by rw [Lib.cell_of_heap (show f.drew.heap[b]? = _ from g)];rfl
 have x:=Aa (Ra B b n f.drew hB g (Nat.le_trans hBw a.size) hn);have v:Hx (Lib.BuilderAt 77 5 B b (zh (some ⟨b,0,none⟩)) [] f.drew/\Below B w f.drew):=⟨⟨hB,_,g,World.ownsRow_nil _ _ _ _,by simp [Value.ownBlock]⟩,a.drew⟩;clear c g a hBw hb;by_cases hn0:(0:Int) < (n:Int)
 ·go_enter Tryz.func172,Tryz.ntmps172
  go_wp2_with fail;refine j.o.mono ?_;rintro e r ⟨rfl,rfl⟩;go_wp2_with fail;go_region;all_goals (
   go_wp2_with fail;refine x.o.mono ?_;rintro e y ⟨rfl,u,i⟩;go_wp2_with fail;go_end0;exact ⟨rfl,u,l.o.drew.trans i⟩)
 ·go_enter Tryz.func172,Tryz.ntmps172
  go_wp2_with fail;refine j.o.mono ?_;rintro e r ⟨rfl,rfl⟩;go_wp2_with fail;go_region;all_goals (go_wp2_with fail;go_end0;exact ⟨rfl,v.o⟩)
theorem M6 (ao:Option Addr) (c:Nat) (sep:ByteArray) (w:World):Ro 161 #[zd ao 0 c,.string sep] w (.string ⟨#[]⟩):=by
 go_enter Tryz.func161,Tryz.ntmps161;go_wp2_with fail;go_ret;exact ⟨rfl,Below.refl _ _⟩
theorem OI (b o c:Nat) (x sep:ByteArray) (w:World) (hc:w.cell? ⟨b,o,none⟩=some (.string x)):Ro 161 #[zd (some ⟨b,o,none⟩) 1 c,.string sep] w (.string x):=by
 go_enter Tryz.func161,Tryz.ntmps161;go_wp2_with fail;go_ret;exact ⟨rfl,Below.refl _ _⟩
theorem M7 (bk o c:Nat) (x0:ByteArray) (r:List ByteArray) (sep:ByteArray) (w:World) (nn:Nat) (hnn:nn=(x0::r).length) (hcells:∀ (j:Nat) x,(x0::r)[j]? = some x->w.cell? ⟨bk,o+j,none⟩=some (.string x)) (h2:2<=nn) (hn:nn<=100) (hc:nn<=c) (hx:∀ x∈x0::r,x.size<=700) (hs0:0 < sep.size) (hs:sep.size<=8) :
  Ro 161 #[zd (some ⟨bk,o,none⟩) nn c,.string sep] w (.string ⟨(AB sep.data.toList ((x0::r).map (fun y=>y.data.toList))).toArray⟩):=by
 obtain ⟨fin,b⟩:=nm (AB sep.data.toList ((x0::r).map (fun y=>y.data.toList)));rw [<-b];rw [List.map_cons,Fv] at b;have HF:=Aa b;have HN:=Aa hnn;have HC:=Aa hcells;have HX:=Aa hx;have F:bk < w.heap.size:=World.block_lt_of_cell? w _ (hcells 0 x0 rfl);have Q:=Aa F;have C:r.length=nn - 1:=by rw [hnn];simp
 have HR:=Aa C;obtain ⟨M,hM⟩:∃ M:Nat,M=sep.size*(nn - 1):=⟨_,rfl⟩;have a7:M<=800:=by rw [hM];exact Nat.le_trans (Nat.mul_le_mul hs (show nn - 1<=100 by omega)) (by decide)
 have a:((nn:Int) - 1)=((nn - 1:Nat):Int):=by omega
 have X:wrap64 ((sep.size:Int)*((nn:Int) - 1))=(M:Int):=by
  have e:(sep.size:Int)*((nn - 1:Nat):Int)=((sep.size*(nn - 1):Nat):Int):=IntWalk.up_mul rfl rfl;rw [a,e,<-hM];exact IntWalk.wrap64_in _ ⟨by omega,by omega⟩
 have a6:¬ (9223372036854775807 / ((nn:Int) - 1)<=(sep.size:Int)):=by
  have e:(9223372036854775807:Int) / ((nn - 1:Nat):Int)=((9223372036854775807 / (nn - 1):Nat):Int):=IntWalk.up_div (x:=9223372036854775807) rfl rfl;rw [a,e];have hq:9223372036854775807 / 100<=9223372036854775807 / (nn - 1):=Nat.div_le_div_left (by omega) (by omega);generalize 9223372036854775807 / (nn - 1)=q at hq ⊢;omega
 have a3:¬ (nn:Int)=0:=by omega
 have a2:¬ (nn:Int)=1:=by omega
 have a5:(0:Int) < (sep.size:Int):=by omega
 clear b hnn hcells hx F C hM a;go_enter Tryz.func161,Tryz.ntmps161;go_wp2_with fail
 go_loop [5,41] (fun n i=>∃ (k N:Nat),k<=nn/\i=O zc k/\n=O zc N/\N<=800+k*700) (fun _ i=>nn - (intOf i).toNat)
 case atStart=>exact ⟨0,M,Nat.zero_le _,rfl,rfl,by omega⟩
 case round=>
  obtain ⟨k,N,hk,rfl,rfl,hN⟩:=hrel;by_cases hkn:k < nn
  ·have u:k < (x0::r).length:=by have:=HN.o;omega
   have aa:=HC.o k _ (List.getElem?_eq_getElem u);have W:=HX.o _ (List.getElem_mem u);generalize (x0::r)[k]=x at aa W;have Y:(k:Int) < (nn:Int):=by omega
   have hg:¬ (9223372036854775807:Int) - (N:Int) < (x.size:Int):=by omega
   clear u;go_wp2_with fail;exact ⟨⟨k+1,N+x.size,by omega,by go_num,by go_num,by omega⟩,by simp [intOf];omega⟩
  ·have Y:¬ (k:Int) < (nn:Int):=by omega
   have A:Below w.heap.size w (w.alloc (zg #[zh none,zd none 0 0] 77)):=(Below.refl _ w).alloc (Nat.le_refl _) _;have K:(w.alloc (zg #[zh none,zd none 0 0] 77)).heap[w.heap.size]? = some (zg #[zh none,zd none 0 0] 77 (0,0)):=heap_alloc_new w _;have KG:=Aa (RG w.heap.size w.heap.size N _ (Nat.le_refl _) K A.size (by omega));have S:=Aa A;clear K A;go_wp2_with fail;refine KG.o.mono ?_;rintro e T ⟨rfl,h1,J⟩;have g:Hx (Below w.heap.size w T):=S.o.trans J;have H1:Hx (Lib.IsBuilder 77 5 w.heap.size w.heap.size [] T):=Or.inr h1;have c0:T.cell? ⟨bk,o,none⟩=some (.string x0):=by
    have:=HC.o 0 x0 rfl;rw [g.o.cell (p:=⟨bk,o,none⟩) Q.o];exact this
   have a0:=HX.o x0 (by simp);have KW:=Aa (EV w.heap.size w.heap.size [] x0 T H1.o (by simp) (by omega) g.o.size);clear h1 J KG S;go_wp2_with fail;refine KW.o.mono ?_;rintro e w2 ⟨rfl,B,I,-⟩;rw [List.nil_append,Lib.strCells_eq] at B;have ak:Hx (Below w.heap.size w w2):=g.o.trans I;have H2:Hx (Lib.IsBuilder 77 5 w.heap.size w.heap.size (Lib.byteCells x0.data.toList) w2):=Or.inr B;clear B I KW c0 H1 g;go_wp2_with fail;go_loopw [65] (fun i wr=>∃ (j:Nat) (z:List UInt8),j<=nn - 1/\i=O zc j/\z++((r.drop j).map (fun y=>sep.data.toList++y.data.toList)).flatten=fin/\z.length<=700+j*708/\Hx (Lib.IsBuilder 77 5 w.heap.size w.heap.size (Lib.byteCells z) wr)/\Hx (Below w.heap.size w wr)) (fun i _=>nn - 1 - (intOf i).toNat)
   case atStart=>
    refine ⟨0,x0.data.toList,Nat.zero_le _,rfl,?_,?_,H2,ak⟩
    ·rw [List.drop_zero,HF.o,List.map_map];rfl
    ·have e:x0.data.toList.length=x0.size:=rfl
     omega
   case round=>
    obtain ⟨j,z,hj,rfl,l,az,L,P⟩:=hrel;by_cases hjr:j < nn - 1
    ·have f:j < r.length:=by have:=HR.o;omega
     have v:=HC.o (j+1) _ (by rw [List.getElem?_cons_succ];exact List.getElem?_eq_getElem f);have V:=HX.o r[j] (by simp);rw [List.drop_eq_getElem_cons f,List.map_cons,List.flatten_cons] at l;generalize r[j]=y at v V l;have d0:wr.cell? ⟨bk,o+1+j,none⟩=some (.string y):=by
      rw [P.o.cell (p:=⟨bk,o+1+j,none⟩) Q.o,show o+1+j=o+(j+1) by omega];exact v
     have Z:(j:Int) < (nn:Int) - 1:=by omega
     have E:(j:Int) < ((nn - 1:Nat):Int):=by omega
     have ab:(Lib.byteCells z).length=z.length:=Lib.byteCells_length z;have U:=Aa (EV w.heap.size w.heap.size (Lib.byteCells z) sep wr L.o (by omega) (by omega) P.o.size);have af:=Aa l;clear v l f L;go_wp2_with fail;refine U.o.mono ?_;rintro e w3 ⟨rfl,h3,H,-⟩;have R:Hx (Below w.heap.size w w3):=P.o.trans H;have a4:(Lib.byteCells z++Lib.strCells sep).length=z.length+sep.size:=by rw [List.length_append,ab,Lib.strCells_length]
     have K2:=Aa (EV w.heap.size w.heap.size (Lib.byteCells z++Lib.strCells sep) y w3 (Or.inr h3) (by omega) (by omega) R.o.size);clear h3 H U;go_wp2_with fail;refine K2.o.mono ?_;rintro e w4 ⟨rfl,h4,G,-⟩;rw [Lib.strCells_eq,Lib.strCells_eq,<-Lib.byteCells_append,<-Lib.byteCells_append] at h4;have aj:Hx (Below w.heap.size w w4):=R.o.trans G;have H4:Hx (Lib.IsBuilder 77 5 w.heap.size w.heap.size (Lib.byteCells (z++sep.data.toList++y.data.toList)) w4):=Or.inr h4;clear h4 G K2 d0;go_wp2_with fail;refine ⟨⟨j+1,z++sep.data.toList++y.data.toList,by omega,by go_num,?_,?_,H4,aj⟩,by simp [intOf];omega⟩
     ·rw [<-af.o];simp
     ·have e1:sep.data.toList.length=sep.size:=rfl
      have e2:y.data.toList.length=y.size:=rfl;simp only [List.length_append];omega
    ·have hd:r.drop j=[]:=List.drop_eq_nil_of_le (by have:=HR.o;omega)
     rw [hd,List.map_nil,List.flatten_nil,List.append_nil] at l;have Z:¬ (j:Int) < (nn:Int) - 1:=by omega
     have E:¬ (j:Int) < ((nn - 1:Nat):Int):=by omega
     rw [l] at L;have U:=Aa (Tryz.Builder_String_any w.heap.size w.heap.size fin wr L.o P.o.size);clear l hd L;go_wp2_with fail;refine mo U.o fun w5 ac=>?_;have ai:Hx (Below w.heap.size w w5):=P.o.trans ac;go_wp2_with fail;go_ret;exact ⟨rfl,ai.o⟩
theorem LA (xs:List ByteArray) (sep:ByteArray) (ao:Option Addr) (nn cap:Nat) (w:World) (hnn:nn=xs.length) (h:LS 1 ZN w (zd ao nn cap) xs) (hn:nn<=100) (hc:nn<=cap) (hx:∀ x∈xs,x.size<=700) (hs0:0 < sep.size) (hs:sep.size<=8) :
  Ro 161 #[zd ao nn cap,.string sep] w (.string ⟨(AB sep.data.toList (xs.map (fun y=>y.data.toList))).toArray⟩):=by
 subst hnn
 match xs,h,hn,hc,hx with
 | [],_,_,_,_=>exact M6 ao cap sep w
 | [x],h,_,_,_=>
  obtain ⟨b,c,e,v,-,a,hr⟩:=h.at (j:=0) (by simp);rw [hr.1] at a;have n:w.cell? ⟨b,c,none⟩=some (.string x):=by have:=a 0 _ rfl;simpa using this
  rw [e];exact OI b c cap x sep w n
 | x::y::r,h,hn,hc,hx=>
  obtain ⟨b,c,e,-⟩:=h.at (j:=0) (by simp);rw [e] at h ⊢;refine M7 b c cap x (y::r) sep w _ rfl (fun j u f=>?_) (by simp) hn hc hx hs0 hs;have i:j < (x::y::r).length:=(List.getElem?_eq_some_iff.1 f).1;obtain ⟨A,g,l,v,-,a,hr⟩:=h.at (j:=j) i;simp only [Option.some.injEq,Addr.mk.injEq] at l;obtain ⟨rfl,rfl,-⟩:=l;rw [hr.1] at a;have:=a 0 _ rfl;rw [List.getElem?_eq_getElem i] at f;simp only [Option.some.injEq] at f;rw [f] at this;simpa using this
theorem QB:(Tryz.prog.info? 9).map (fun i=>(i.zero,i.size,i.bytes))=some (some (.string ⟨#[]⟩),1,16):=by kernel_rfl
def Gw (ys:List ByteArray) (m:Nat):Array Value:=(ys.map Value.string++List.replicate m (Value.string ⟨#[]⟩)).toArray
theorem OA (n:Nat) (hn:n<=1000) (w:World):(Instr.makeSlice 46 (O zc n) (O zc n)).run Tryz.prog w=.ok (zd (some ⟨w.heap.size,0,none⟩) n n) (w.alloc (.cells (Gw [] n) 9)):=by
 obtain ⟨i,f,c,b,a⟩:=info_parts QB;have:=run_make (P:=Tryz.prog) w 46 9 i (.string ⟨#[]⟩) Tryz.underlying46 f c zc zc (n:Int) (n:Int) (by omega) (by omega) (by rw [a];omega) (by omega);rw [this,b];simp only [Int.toNat_natCast,Nat.mul_one];have e:madeCells (Value.string ⟨#[]⟩).cells n=Gw [] n:=by
  unfold Gw;apply Array.ext
  ·simp [madeCells]
  ·intro j b a
   simp [madeCells,Value.cells,Nat.mod_one]
 rw [e]
def C0 (g:Nat) (ys:List ByteArray) (m:Nat) (W:World):Prop:=W.heap[g]? = some (.cells (Gw ys m) 9 (0,0))
theorem C0.over {g m:Nat} {ys:List ByteArray} {W W':World} (h:C0 g ys m W) (hb:Ov W W'):C0 g ys m W':=by
 unfold C0;rw [hb.block g (BH h)];exact h
theorem C0.frozen {g m:Nat} {ys:List ByteArray} {W:World} (h:C0 g ys m W) (j:Nat):W.frozen? ⟨g,j,none⟩=false:=Lib.frozen_of_heap h j
theorem C0.next {g m:Nat} {ys:List ByteArray} {W:World} (h:C0 g ys (m+1) W):W.cell? ⟨g,ys.length,none⟩=some (.string ⟨#[]⟩):=by
 rw [Lib.cell_of_heap h];simp [Gw]
theorem C0.put {g m:Nat} {ys:List ByteArray} {W:World} (h:C0 g ys (m+1) W) (y:ByteArray):C0 g (ys++[y]) m (W.setCell ⟨g,ys.length,none⟩ (.string y)):=by
 unfold C0 at h ⊢;have e:(Gw ys (m+1)).setIfInBounds ys.length (.string y)=Gw (ys++[y]) m:=by
  unfold Gw;apply Array.ext';simp [List.replicate_succ,List.set_append_right]
 simp [World.setCell,Array.getElem?_modify,h,e]
theorem C0.ls {g:Nat} {ys:List ByteArray} {W:World} (h:C0 g ys 0 W) (hn:ys.length<=100) (hy:∀ y∈ys,y.size<=700):LS 1 ZN W (zd (some ⟨g,0,none⟩) ys.length ys.length) ys:=by
 refine ⟨by unfold maxLen;omega,some ⟨g,0,none⟩,ys.length,rfl,fun f=>⟨g,0,rfl,Fz0.new h,fun i a c=>⟨[.string a],rfl,fun j u b=>?_,rfl,?_⟩⟩⟩
 ·match j,b with
  | 0,b=>
   simp only [List.getElem?_cons_zero,Option.some.injEq] at b;rw [<-b,show 0+i*1+0=i by omega,Lib.cell_of_heap h];simp [Gw,c]
  | j+1,b=>simp at b
 ·have:=hy a (List.mem_of_getElem? c)
  unfold maxLen;omega
theorem C8 {α:Type} (l:List α) (j:Nat) (h:j < l.length):l.take (j+1)=l.take j++[l[j]]:=by
 rw [List.take_add_one,List.getElem?_eq_getElem h];rfl
theorem LT  (F:FuncId) (hC:∀ (args:Array Value) (w:World),(callFunc F args).run Tryz.prog w=.ok (.enter F args) w) (f:ByteArray->ByteArray) (l:List ByteArray) (sep:ByteArray) (ao:Option Addr) (nn cap:Nat) (w:World) (hnn:nn=l.length) (hc:LS 1 (ZN) w (zd ao nn cap) l) (hn:nn<=100) (hf:∀ d∈l,(f d).size<=700) (hs0:0 < sep.size) (hs:sep.size<=8) (KF:Hx (∀ x∈l,∀ X,Ov w X->Ro F #[.string x] X (.string (f x)))) :
  Ro 162 #[zd ao nn cap,.string sep,.func (.func F) #[] #[]] w (.string ⟨(AB sep.data.toList (l.map (fun d=>(f d).data.toList))).toArray⟩):=by
 have HC:=Aa hc;have P:=Aa hf;obtain ⟨fin,B⟩:=nm (⟨(AB sep.data.toList (l.map (fun d=>(f d).data.toList))).toArray⟩:ByteArray);rw [<-B];have Q:=Aa B;have HN:=Aa hnn;have Z:=OA nn (by omega);obtain ⟨V,T⟩:=nm (w.alloc (.cells (Gw [] nn) 9));obtain ⟨g,S⟩:=nm w.heap.size;have HG:=Aa S;have ah:Hx (Below w.heap.size w V):=by show Below _ _ _;rw [T];exact bA _ _
 have ad:Hx (C0 g [] nn V):=by show C0 _ _ _ _;rw [T,S];exact heap_alloc_new w _
 clear hc hf B hnn;go_enter Tryz.func162,Tryz.ntmps162;go_wp2_with fail;rw [<-T,<-S];clear T S Z;go_loopw [15] (fun i wr=>∃ (j:Nat),j<=nn/\i=O zc j/\Hx (C0 g ((l.take j).map f) (nn - j) wr)/\Hx (Below w.heap.size w wr)) (fun i _=>nn - (intOf i).toNat)
 case atStart=>exact ⟨0,Nat.zero_le _,rfl,ad,ah⟩
 case round=>
  obtain ⟨j,hj,rfl,W,R⟩:=hrel;by_cases hjl:j < nn
  ·have a:j < l.length:=by have:=HN.o;omega
   obtain ⟨b,Y,rfl,cs,aa,J,hr⟩:=HC.o.at a;have u:=List.getElem_mem a;have n:(l.take (j+1)).map f=(l.take j).map f++[f l[j]]:=by rw [C8 l j a,List.map_append];rfl
   have H:((l.take j).map f).length=j:=by simp;omega
   obtain ⟨U,M⟩:=nm l[j];rw [<-M] at hr u n;obtain ⟨y,G⟩:=nm (f U);rw [<-G] at n;have hB:=R.o;rw [hr.1] at J;have KC:Hx (∀ X,Ov w X->Ro F #[.string U] X (.string y)):=fun X hX=>by rw [G];exact KF.o U u X hX
   have d0:wr.cell? ⟨b,Y+j,none⟩=some (.string U):=by have:=ce1 hB (J 0 _ rfl);simpa using this
   obtain ⟨pre,r⟩:=nm ((l.take j).map f);rw [<-r] at n H;have N:Hx (C0 g pre (nn - (j+1)+1) wr):=by have:=W.o;rw [<-r,show nn - j=nn - (j+1)+1 by omega] at this;exact this
   have HT:=Aa n;have HL:=Aa H;have ab:(j:Int) < (nn:Int):=by omega
   clear J aa hr hB a G M u W n r H;go_wp2_with fail;refine mo (KC.o _ R.o) fun E c=>?_;have L:Hx (Below w.heap.size w E):=Ab R.o c;have C:=Aa (N.o.over c);have k1:E.cell? ⟨g,j,none⟩=some (.string ⟨#[]⟩):=by have:=C.o.next;rw [HL.o] at this;exact this
   have g1:E.frozen? ⟨g,j,none⟩=false:=C.o.frozen j;have ae:Hx (C0 g ((l.take (j+1)).map f) (nn - (j+1)) (E.setCell ⟨g,j,none⟩ (.string y))):=by
    have:=C.o.put y;rw [HL.o] at this;rw [HT.o];exact this
   have ai:Hx (Below w.heap.size w (E.setCell ⟨g,j,none⟩ (.string y))):=L.o.setCell (p:=⟨g,j,none⟩) (Nat.le_of_eq HG.o.symm) _;clear c KC C HT HL R N d0;go_wp2_with fail;exact ⟨⟨j+1,by omega,by go_num,ae,ai⟩,by simp [intOf];omega⟩
  ·have ab:¬ (j:Int) < (nn:Int):=by omega
   have A:(l.take j).map f=l.map f:=by rw [List.take_of_length_le (by have:=HN.o;omega)]
   have hr:=W.o;rw [A,show nn - j=0 by omega] at hr;have v:nn=(l.map f).length:=by rw [List.length_map];exact HN.o
   have I:=hr.ls (by omega) (fun y G=>by obtain ⟨d,hd,rfl⟩:=List.mem_map.1 G;exact P.o d hd);rw [<-v] at I;have K:=LA (l.map f) sep _ nn nn wr v I hn (Nat.le_refl _) (fun y G=>by obtain ⟨d,hd,rfl⟩:=List.mem_map.1 G;exact P.o d hd) hs0 hs;rw [List.map_map] at K;have KJ:Hx (Ro 161 #[zd (some ⟨g,0,none⟩) nn nn,.string sep] wr (.string fin)):=by rw [Q.o];exact K
   clear A hr v I K W;go_wp2_with fail;refine mo KJ.o fun E c=>?_;have L:Hx (Below w.heap.size w E):=Ab R.o c;clear c KJ;go_wp2_with fail;go_ret;exact ⟨rfl,L.o⟩
theorem Hm {k:Nat} (F:FuncId) (hC:∀ (args:Array Value) (w:World),(callFunc F args).run Tryz.prog w=.ok (.enter F args) w) (f:D->ByteArray) (l:List D) (sep:ByteArray) (ao:Option Addr) (nn cap:Nat) (w:World) (hnn:nn=l.length) (hc:LS 5 (ZE w k) w (zd ao nn cap) l) (hn:nn<=100) (hf:∀ d∈l,(f d).size<=700) (hs0:0 < sep.size) (hs:sep.size<=8) (KF:Hx (∀ d∈l,∀ cs X,Ov w X->ZE X k cs d->Ro F #[.agg cs.toArray] X (.string (f d)))) :
  Ro 150 #[zd ao nn cap,.string sep,.func (.func F) #[] #[]] w (.string ⟨(AB sep.data.toList (l.map (fun d=>(f d).data.toList))).toArray⟩):=by
 have HC:=Aa hc;have N:=Aa hf;obtain ⟨fin,A⟩:=nm (⟨(AB sep.data.toList (l.map (fun d=>(f d).data.toList))).toArray⟩:ByteArray);rw [<-A];have P:=Aa A;have HN:=Aa hnn;have U:=OA nn (by omega);obtain ⟨V,S⟩:=nm (w.alloc (.cells (Gw [] nn) 9));obtain ⟨g,R⟩:=nm w.heap.size;have HG:=Aa R;have ai:Hx (Below w.heap.size w V):=by show Below _ _ _;rw [S];exact bA _ _
 have ae:Hx (C0 g [] nn V):=by show C0 _ _ _ _;rw [S,R];exact heap_alloc_new w _
 clear hc hf A hnn;go_enter Tryz.func150,Tryz.ntmps150;go_wp2_with fail;rw [<-S,<-R];clear S R U;go_loopw [15] (fun i wr=>∃ (j:Nat),j<=nn/\i=O zc j/\Hx (C0 g ((l.take j).map f) (nn - j) wr)/\Hx (Below w.heap.size w wr)) (fun i _=>nn - (intOf i).toNat)
 case atStart=>exact ⟨0,Nat.zero_le _,rfl,ae,ai⟩
 case round=>
  obtain ⟨j,hj,rfl,T,Q⟩:=hrel;by_cases hjl:j < nn
  ·have a:j < l.length:=by have:=HN.o;omega
   obtain ⟨b,ap,rfl,cs,W,I,hr⟩:=HC.o.at a;have u:=List.getElem_mem a;have n:(l.take (j+1)).map f=(l.take j).map f++[f l[j]]:=by rw [C8 l j a,List.map_append];rfl
   have G:((l.take j).map f).length=j:=by simp;omega
   obtain ⟨dj,L⟩:=nm l[j];rw [<-L] at hr u n;obtain ⟨y,E⟩:=nm (f dj);rw [<-E] at n;have hB:=Q.o;obtain ⟨c0,c1,c2,c3,ad,ab,ac,rfl⟩:=hr.cells;have KC:Hx (∀ X,Ov w X->Ro F #[zf #[O zc c0,O zc c1,O zc c2,.string c3,zd ad ab ac]] X (.string y)):=fun X hX=>by rw [E];exact KF.o dj u _ X hX (hr.over hX)
   have d0:=CK hB I rfl;have dA:=CJ hB I;obtain ⟨pre,r⟩:=nm ((l.take j).map f);rw [<-r] at n G;have M:Hx (C0 g pre (nn - (j+1)+1) wr):=by have:=T.o;rw [<-r,show nn - j=nn - (j+1)+1 by omega] at this;exact this
   have HT:=Aa n;have HL:=Aa G;have Y:(j:Int) < (nn:Int):=by omega
   clear I W hr hB a E L u T n r G;go_wp2_with fail;refine mo (KC.o _ (Ab Q.o (bA _ _))) fun C c=>?_;have K:Hx (Below w.heap.size w C):=Ab Q.o (Ab (bA _ _) c);have B:=Aa (M.o.over (Ab (bA _ _) c));have k1:C.cell? ⟨g,j,none⟩=some (.string ⟨#[]⟩):=by have:=B.o.next;rw [HL.o] at this;exact this
   have g1:C.frozen? ⟨g,j,none⟩=false:=B.o.frozen j;have af:Hx (C0 g ((l.take (j+1)).map f) (nn - (j+1)) (C.setCell ⟨g,j,none⟩ (.string y))):=by
    have:=B.o.put y;rw [HL.o] at this;rw [HT.o];exact this
   have aj:Hx (Below w.heap.size w (C.setCell ⟨g,j,none⟩ (.string y))):=K.o.setCell (p:=⟨g,j,none⟩) (Nat.le_of_eq HG.o.symm) _;clear c KC B HT HL Q M d0 dA;go_wp2_with fail;exact ⟨⟨j+1,by omega,by go_num,af,aj⟩,by simp [intOf];omega⟩
  ·have Y:¬ (j:Int) < (nn:Int):=by omega
   have x:(l.take j).map f=l.map f:=by rw [List.take_of_length_le (by have:=HN.o;omega)]
   have hr:=T.o;rw [x,show nn - j=0 by omega] at hr;have v:nn=(l.map f).length:=by rw [List.length_map];exact HN.o
   have H:=hr.ls (by omega) (fun y E=>by obtain ⟨d,Z,rfl⟩:=List.mem_map.1 E;exact N.o d Z);rw [<-v] at H;have J:=LA (l.map f) sep _ nn nn wr v H hn (Nat.le_refl _) (fun y E=>by obtain ⟨d,Z,rfl⟩:=List.mem_map.1 E;exact N.o d Z) hs0 hs;rw [List.map_map] at J;have KJ:Hx (Ro 161 #[zd (some ⟨g,0,none⟩) nn nn,.string sep] wr (.string fin)):=by rw [P.o];exact J
   clear x hr v H J T;go_wp2_with fail;refine mo KJ.o fun C c=>?_;have K:Hx (Below w.heap.size w C):=Ab Q.o c;clear c KJ;go_wp2_with fail;go_ret;exact ⟨rfl,K.o⟩
theorem LU  (F:FuncId) (hC:∀ (args:Array Value) (w:World),(callFunc F args).run Tryz.prog w=.ok (.enter F args) w) (f:D->ByteArray) (l:List D) (sep:ByteArray) (ao:Option Addr) (nn cap:Nat) (w:World) (hnn:nn=l.length) (hc:LS 4 (ZP w) w (zd ao nn cap) l) (hn:nn<=100) (hf:∀ d∈l,(f d).size<=700) (hs0:0 < sep.size) (hs:sep.size<=8) (KF:Hx (∀ d∈l,∀ cs X,Ov w X->ZP X cs d->Ro F #[.agg cs.toArray] X (.string (f d)))) :
  Ro 146 #[zd ao nn cap,.string sep,.func (.func F) #[] #[]] w (.string ⟨(AB sep.data.toList (l.map (fun d=>(f d).data.toList))).toArray⟩):=by
 have HC:=Aa hc;have N:=Aa hf;obtain ⟨fin,A⟩:=nm (⟨(AB sep.data.toList (l.map (fun d=>(f d).data.toList))).toArray⟩:ByteArray);rw [<-A];have P:=Aa A;have HN:=Aa hnn;have U:=OA nn (by omega);obtain ⟨V,S⟩:=nm (w.alloc (.cells (Gw [] nn) 9));obtain ⟨g,R⟩:=nm w.heap.size;have HG:=Aa R;have ai:Hx (Below w.heap.size w V):=by show Below _ _ _;rw [S];exact bA _ _
 have ae:Hx (C0 g [] nn V):=by show C0 _ _ _ _;rw [S,R];exact heap_alloc_new w _
 clear hc hf A hnn;go_enter Tryz.func146,Tryz.ntmps146;go_wp2_with fail;rw [<-S,<-R];clear S R U;go_loopw [15] (fun i wr=>∃ (j:Nat),j<=nn/\i=O zc j/\Hx (C0 g ((l.take j).map f) (nn - j) wr)/\Hx (Below w.heap.size w wr)) (fun i _=>nn - (intOf i).toNat)
 case atStart=>exact ⟨0,Nat.zero_le _,rfl,ae,ai⟩
 case round=>
  obtain ⟨j,hj,rfl,T,Q⟩:=hrel;by_cases hjl:j < nn
  ·have a:j < l.length:=by have:=HN.o;omega
   obtain ⟨b,ap,rfl,cs,W,I,hr⟩:=HC.o.at a;have u:=List.getElem_mem a;have n:(l.take (j+1)).map f=(l.take j).map f++[f l[j]]:=by rw [C8 l j a,List.map_append];rfl
   have G:((l.take j).map f).length=j:=by simp;omega
   obtain ⟨dj,L⟩:=nm l[j];rw [<-L] at hr u n;obtain ⟨y,E⟩:=nm (f dj);rw [<-E] at n;have hB:=Q.o;obtain ⟨c0,c1,c2,ad,ab,ac,rfl⟩:=hr.cells;have KC:Hx (∀ X,Ov w X->Ro F #[zf #[O zc c0,.string c1,ze c2,zd ad ab ac]] X (.string y)):=fun X hX=>by rw [E];exact KF.o dj u _ X hX (hr.over hX)
   have d0:=CK hB I rfl;have dA:=CJ hB I;obtain ⟨pre,r⟩:=nm ((l.take j).map f);rw [<-r] at n G;have M:Hx (C0 g pre (nn - (j+1)+1) wr):=by have:=T.o;rw [<-r,show nn - j=nn - (j+1)+1 by omega] at this;exact this
   have HT:=Aa n;have HL:=Aa G;have Y:(j:Int) < (nn:Int):=by omega
   clear I W hr hB a E L u T n r G;go_wp2_with fail;refine mo (KC.o _ (Ab Q.o (bA _ _))) fun C c=>?_;have K:Hx (Below w.heap.size w C):=Ab Q.o (Ab (bA _ _) c);have B:=Aa (M.o.over (Ab (bA _ _) c));have k1:C.cell? ⟨g,j,none⟩=some (.string ⟨#[]⟩):=by have:=B.o.next;rw [HL.o] at this;exact this
   have g1:C.frozen? ⟨g,j,none⟩=false:=B.o.frozen j;have af:Hx (C0 g ((l.take (j+1)).map f) (nn - (j+1)) (C.setCell ⟨g,j,none⟩ (.string y))):=by
    have:=B.o.put y;rw [HL.o] at this;rw [HT.o];exact this
   have aj:Hx (Below w.heap.size w (C.setCell ⟨g,j,none⟩ (.string y))):=K.o.setCell (p:=⟨g,j,none⟩) (Nat.le_of_eq HG.o.symm) _;clear c KC B HT HL Q M d0 dA;go_wp2_with fail;exact ⟨⟨j+1,by omega,by go_num,af,aj⟩,by simp [intOf];omega⟩
  ·have Y:¬ (j:Int) < (nn:Int):=by omega
   have x:(l.take j).map f=l.map f:=by rw [List.take_of_length_le (by have:=HN.o;omega)]
   have hr:=T.o;rw [x,show nn - j=0 by omega] at hr;have v:nn=(l.map f).length:=by rw [List.length_map];exact HN.o
   have H:=hr.ls (by omega) (fun y E=>by obtain ⟨d,Z,rfl⟩:=List.mem_map.1 E;exact N.o d Z);rw [<-v] at H;have J:=LA (l.map f) sep _ nn nn wr v H hn (Nat.le_refl _) (fun y E=>by obtain ⟨d,Z,rfl⟩:=List.mem_map.1 E;exact N.o d Z) hs0 hs;rw [List.map_map] at J;have KJ:Hx (Ro 161 #[zd (some ⟨g,0,none⟩) nn nn,.string sep] wr (.string fin)):=by rw [P.o];exact J
   clear x hr v H J T;go_wp2_with fail;refine mo KJ.o fun C c=>?_;have K:Hx (Below w.heap.size w C):=Ab Q.o c;clear c KJ;go_wp2_with fail;go_ret;exact ⟨rfl,K.o⟩
end Go.Proofs.YtipngnjffjajpaaGreatDoor.Tx
