/- The document's answer: a label's text. -/
import Derived.Test.YtipngnjffjajpaaGreatDoorK35
set_option linter.unusedVariables false
set_option maxHeartbeats 8000000
set_option maxRecDepth 100000
namespace Go.Proofs.YtipngnjffjajpaaGreatDoor.Tx
open Go.RowKit
open Go.Value renaming int -> O, slice -> zd, bool -> ze, agg -> zf, pointer -> zh, tuple -> zj
open Go.IntKind renaming i64 -> zc
open Go.Obj renaming cells -> zg
open Go.Ending renaming returned -> zi
theorem Hi (ns:List ByteArray) (ao:Option Addr) (nn cap:Nat) (w:World) (hnn:nn=ns.length) (h:LS 1 ZN w (zd ao nn cap) ns) (hM:∀ x∈ns,x.size<=1000) (hn:nn<=1000):Ro 45 #[zd ao nn cap] w (.string ⟨(AB [44,32] (ns.map (fun y=>y.data.toList))).toArray⟩):=by
 subst hnn;have e:=Nk (ns.map (fun y=>y.data.toList));have a:(ns.map (fun y=>y.data.toList)).map (fun y=>(⟨y.toArray⟩:ByteArray))=ns:=by
  rw [List.map_map]
  conv=>rhs;rw [<-List.map_id ns]
  exact List.map_congr_left fun x _=>GK x
 rw [a] at e;rw [<-e];exact O9 1000 ns ao cap w h hM (Nat.le_trans (Nat.mul_le_mul_right _ hn) (by decide))
theorem QT (a:Int) (o:ByteArray) (wr:Bool) (ns:List ByteArray):poT (DD a o wr ns)=o.data.toList++(if wr=true then [33] else [58])++(if ns=[] then [] else [32]++AB [44,32] (ns.map (fun y=>y.data.toList))):=by
 have b:(ns.map dS).map asS=ns.map (fun y=>y.data.toList):=by rw [List.map_map];rfl
 unfold poT;simp only [gPp,b,List.map_eq_nil_iff]
def laR (lb:List D) (j:Nat):List UInt8:=if j=0 then AB [59,32] (lb.map poT) else ((lb.drop j).map (fun p=>[59,32]++poT p)).flatten
theorem OE (lb:List D) (j:Nat) (h:j < lb.length):laR lb j=(if j=0 then [] else [59,32])++poT lb[j]++laR lb (j+1):=by
 unfold laR;rw [if_neg (show ¬ j+1=0 by omega)];by_cases h0:j=0
 ·subst h0
  rw [if_pos rfl,if_pos rfl]
  cases lb with
  | nil=>simp at h
  | cons p lb=>rw [List.map_cons,Fv,List.map_map];rfl
 ·rw [if_neg h0,if_neg h0,List.drop_eq_getElem_cons h,List.map_cons,List.flatten_cons]
theorem P6 (lb:List D) (j:Nat) (h:lb.length<=j):laR lb j=[]:=by
 unfold laR;split
 ·rename_i a
  have:lb=[]:=List.eq_nil_of_length_eq_zero (by omega);rw [this];rfl
 ·rw [List.drop_eq_nil_of_le h];rfl
theorem Bj (x y:ByteArray):(x++y).data.toList=x.data.toList++y.data.toList:=by simp
theorem Kd (lb:List D) (ao:Option Addr) (nn cap:Nat) (w:World) (hnn:nn=lb.length) (hc:LS 4 (ZP w) w (zd ao nn cap) lb) (hn:nn<=4) (hp:∀ p∈lb,DC p=true/\(gL 3 p).length<=6):Ro 48 #[zd ao nn cap] w (.string ⟨([123]++AB [59,32] (lb.map poT)++[125]).toArray⟩):=by
 obtain ⟨fin,r⟩:=nm ([123]++AB [59,32] (lb.map poT));rw [<-r];have J:fin.length<=1000:=by
  have l2:=Cd [59,32] 100 (lb.map poT) fun y hy=>by
   obtain ⟨b,u,rfl⟩:=List.mem_map.1 hy;exact E8 (hp b u).1 (hp b u).2
  rw [List.length_map] at l2;have hm:lb.length*(100+2)<=4*(100+2):=Nat.mul_le_mul_right _ (by omega);rw [r];simp only [List.length_append,List.length_cons,List.length_nil] at l2 ⊢;omega
 have HF:=Aa r;have HC:=Aa hc;have ar:=Aa hp;have HN:=Aa hnn;have M:=Aa J;clear r hc hp hnn J;go_enter Tryz.func48,Tryz.ntmps48;go_wp2_with fail;go_loopw [3,4] (fun s i wr=>∃ (j:Nat) (x:ByteArray),j<=nn/\i=O zc j/\s=.string x/\x.data.toList++laR lb j=fin/\Ov w wr) (fun _ i _=>nn - (intOf i).toNat)
 case atStart=>exact ⟨0,⟨#[123]⟩,Nat.zero_le _,rfl,rfl,by rw [HF.o];rfl,Below.refl _ _⟩
 case round=>
  obtain ⟨j,s,hj,rfl,rfl,A,K⟩:=hrel;by_cases hjl:j < nn
  ·have n:j < lb.length:=by have:=HN.o;omega
   have ak:(j:Int) < (nn:Int):=by omega
   obtain ⟨b,E,rfl,cs,aj,F,hr⟩:=HC.o.at n;have f:=ar.o _ (List.getElem_mem n);rw [OE lb j n] at A;generalize lb[j]=pj at hr f A;obtain ⟨a,o,N,an,cn,G,rfl,rfl,ho,W⟩:=hr;have B:=E8 f.1 f.2;rw [QT] at A B;have V:wr.cell? ⟨b,E+j*4,none⟩=_:=ce1 K (F 0 _ rfl);have U:=ce1 K (F 1 _ rfl);have S:=ce1 K (F 2 _ rfl);have L:=ce1 K (F 3 _ rfl);have ai:s.size<=1000:=by
    have:=congrArg List.length A;rw [List.length_append] at this;have e:s.data.toList.length=s.size:=rfl;have:=M.o;omega
   have az:o.size<=100:=by
    have e:o.data.toList.length=o.size:=rfl;simp only [List.length_append] at B;omega
   have h2:=(Fr f.1).2;have h6:=f.2;simp only [gPp,List.length_map] at h2 h6;have I:∀ x∈G,x.size<=1000:=fun x hx=>by
    have:=CP (h2 (dS x) (List.mem_map_of_mem hx));rw [Gg] at this;exact Nat.le_trans this (by decide)
   obtain ⟨T,hT⟩:=nm (⟨(AB [44,32] (G.map (fun y=>y.data.toList))).toArray⟩:ByteArray);have H:Hx (∀ X,Ov w X->Ro 45 #[zd an G.length cn] X (.string T)):=fun X hX=>by rw [hT];exact Hi G an G.length cn X rfl (Bu hX W) I (by omega)
   have Z:T.data.toList=AB [44,32] (G.map (fun y=>y.data.toList)):=by rw [hT]
   rw [<-Z] at A B;have C:¬ G=[]->T.size<=100:=fun h0=>by
    rw [if_neg h0] at B;have e:T.data.toList.length=T.size:=rfl;simp only [List.length_append] at B;omega
   have Y:G=[] ↔ G.length=0:=by rw [List.length_eq_zero_iff]
   simp only [Y] at A C;generalize G.length=m at H L A C;have g:=Aa A;have v:=Aa K;clear F aj K n A B f hT Z W I h2 h6 ho Y;by_cases hj0:j=0
   ·subst hj0
    have ad:wr.cell? ⟨b,E,none⟩=some (O zc a):=by simpa using V
    have ac:wr.cell? ⟨b,E+1,none⟩=some (.string o):=by simpa using U
    have ab:wr.cell? ⟨b,E+2,none⟩=some (ze N):=by simpa using S
    have aa:wr.cell? ⟨b,E+3,none⟩=some (zd an m cn):=by simpa using L
    clear V U S L;have V:=ad;have U:=ac;have S:=ab;have L:=aa;clear ad ac ab aa;rcases Bool.eq_false_or_eq_true N with rfl | rfl
    ·by_cases hm0:m=0
     ·subst hm0
      have s1:¬ 9223372036854775807 < s.size+o.size:=by omega
      have P:¬ 9223372036854775807 < s.size+o.size+1:=by omega
      have c:Hx ((s++o++⟨#[33]⟩:ByteArray).data.toList++laR lb (0+1)=fin):=by
       show _=_;rw [<-g.o];simp only [Bj];simp
      clear g;go_wp2_with fail;exact ⟨⟨1,_,by omega,by go_num,rfl,c.o,v.o⟩,by simp [intOf];omega⟩
     ·have Q:(0:Int) < (m:Int):=by omega
      have R:=C hm0;have s1:¬ 9223372036854775807 < s.size+o.size:=by omega
      have P:¬ 9223372036854775807 < s.size+o.size+1:=by omega
      have s8:¬ 9223372036854775807 < 1+T.size:=by omega
      have s9:¬ 9223372036854775807 < s.size+o.size+1+(1+T.size):=by omega
      have c:Hx ((s++o++⟨#[33]⟩++(⟨#[32]⟩++T):ByteArray).data.toList++laR lb (0+1)=fin):=by
       show _=_;rw [<-g.o];simp only [Bj,hm0];simp
      clear g;go_wp2_with fail;refine mo (H.o _ v.o) fun w1 u=>?_;have l:=Aa (Ab v.o u);clear u H V U S L;go_wp2_with fail;exact ⟨⟨1,_,by omega,by go_num,rfl,c.o,l.o⟩,by simp [intOf];omega⟩
    ·by_cases hm0:m=0
     ·subst hm0
      have s1:¬ 9223372036854775807 < s.size+o.size:=by omega
      have P:¬ 9223372036854775807 < s.size+o.size+1:=by omega
      have c:Hx ((s++o++⟨#[58]⟩:ByteArray).data.toList++laR lb (0+1)=fin):=by
       show _=_;rw [<-g.o];simp only [Bj];simp
      clear g;go_wp2_with fail;exact ⟨⟨1,_,by omega,by go_num,rfl,c.o,v.o⟩,by simp [intOf];omega⟩
     ·have Q:(0:Int) < (m:Int):=by omega
      have R:=C hm0;have s1:¬ 9223372036854775807 < s.size+o.size:=by omega
      have P:¬ 9223372036854775807 < s.size+o.size+1:=by omega
      have s8:¬ 9223372036854775807 < 1+T.size:=by omega
      have s9:¬ 9223372036854775807 < s.size+o.size+1+(1+T.size):=by omega
      have c:Hx ((s++o++⟨#[58]⟩++(⟨#[32]⟩++T):ByteArray).data.toList++laR lb (0+1)=fin):=by
       show _=_;rw [<-g.o];simp only [Bj,hm0];simp
      clear g;go_wp2_with fail;refine mo (H.o _ v.o) fun w1 u=>?_;have l:=Aa (Ab v.o u);clear u H V U S L;go_wp2_with fail;exact ⟨⟨1,_,by omega,by go_num,rfl,c.o,l.o⟩,by simp [intOf];omega⟩
   ·have a1:(0:Int) < (j:Int):=by omega
    rcases Bool.eq_false_or_eq_true N with rfl | rfl
    ·by_cases hm0:m=0
     ·subst hm0
      have s1:¬ 9223372036854775807 < s.size+2:=by omega
      have P:¬ 9223372036854775807 < s.size+2+o.size:=by omega
      have s3:¬ 9223372036854775807 < s.size+2+o.size+1:=by omega
      have c:Hx ((s++⟨#[59,32]⟩++o++⟨#[33]⟩:ByteArray).data.toList++laR lb (j+1)=fin):=by
       show _=_;rw [<-g.o];simp only [Bj,hj0];simp
      clear g;go_wp2_with fail;exact ⟨⟨j+1,_,by omega,by go_num,rfl,c.o,v.o⟩,by simp [intOf];omega⟩
     ·have Q:(0:Int) < (m:Int):=by omega
      have R:=C hm0;have s1:¬ 9223372036854775807 < s.size+2:=by omega
      have P:¬ 9223372036854775807 < s.size+2+o.size:=by omega
      have s3:¬ 9223372036854775807 < s.size+2+o.size+1:=by omega
      have s8:¬ 9223372036854775807 < 1+T.size:=by omega
      have s9:¬ 9223372036854775807 < s.size+2+o.size+1+(1+T.size):=by omega
      have c:Hx ((s++⟨#[59,32]⟩++o++⟨#[33]⟩++(⟨#[32]⟩++T):ByteArray).data.toList++laR lb (j+1)=fin):=by
       show _=_;rw [<-g.o];simp only [Bj,hj0,hm0];simp
      clear g;go_wp2_with fail;refine mo (H.o _ v.o) fun w1 u=>?_;have l:=Aa (Ab v.o u);clear u H V U S L;go_wp2_with fail;exact ⟨⟨j+1,_,by omega,by go_num,rfl,c.o,l.o⟩,by simp [intOf];omega⟩
    ·by_cases hm0:m=0
     ·subst hm0
      have s1:¬ 9223372036854775807 < s.size+2:=by omega
      have P:¬ 9223372036854775807 < s.size+2+o.size:=by omega
      have s3:¬ 9223372036854775807 < s.size+2+o.size+1:=by omega
      have c:Hx ((s++⟨#[59,32]⟩++o++⟨#[58]⟩:ByteArray).data.toList++laR lb (j+1)=fin):=by
       show _=_;rw [<-g.o];simp only [Bj,hj0];simp
      clear g;go_wp2_with fail;exact ⟨⟨j+1,_,by omega,by go_num,rfl,c.o,v.o⟩,by simp [intOf];omega⟩
     ·have Q:(0:Int) < (m:Int):=by omega
      have R:=C hm0;have s1:¬ 9223372036854775807 < s.size+2:=by omega
      have P:¬ 9223372036854775807 < s.size+2+o.size:=by omega
      have s3:¬ 9223372036854775807 < s.size+2+o.size+1:=by omega
      have s8:¬ 9223372036854775807 < 1+T.size:=by omega
      have s9:¬ 9223372036854775807 < s.size+2+o.size+1+(1+T.size):=by omega
      have c:Hx ((s++⟨#[59,32]⟩++o++⟨#[58]⟩++(⟨#[32]⟩++T):ByteArray).data.toList++laR lb (j+1)=fin):=by
       show _=_;rw [<-g.o];simp only [Bj,hj0,hm0];simp
      clear g;go_wp2_with fail;refine mo (H.o _ v.o) fun w1 u=>?_;have l:=Aa (Ab v.o u);clear u H V U S L;go_wp2_with fail;exact ⟨⟨j+1,_,by omega,by go_num,rfl,c.o,l.o⟩,by simp [intOf];omega⟩
  ·rw [P6 lb j (by have:=HN.o;omega),List.append_nil] at A
   have ai:s.size<=1000:=by
    have:=congrArg List.length A;have e:s.data.toList.length=s.size:=rfl;have:=M.o;omega
   have ak:¬ (j:Int) < (nn:Int):=by omega
   have s1:¬ 9223372036854775807 < s.size+1:=by omega
   have HV:Hx ((⟨(fin++[125]).toArray⟩:ByteArray)=s++⟨#[125]⟩):=by
    show _=_;rw [<-A];apply ByteArray.ext;apply Array.toList_inj.1;simp
   have v:=Aa K;clear A K;go_wp2_with fail;go_ret;exact ⟨by rw [HV.o];rfl,v.o⟩
theorem D9 {k:Nat} {d:D} (h:efK k d=true):CO d=false:=by
 cases k with
 | zero=>cases h
 | succ k=>
  have:=(Dz h).1;unfold CO;rw [decide_eq_false (show ¬ gI 0 d=0 by omega)];rfl
theorem QV {w:World} {B n:Nat} {v:Value} {ys:List ByteArray} (h:w.ownsRow B 9 1 v n (ys.map Value.string)) (hn:n<=100) (hy:∀ y∈ys,y.size<=700):∃ ao cap,v=zd ao n cap/\LS 1 ZN w (zd ao n cap) ys:=by
 have C:n=ys.length:=by have:=h.1;simp at this;exact this.symm
 rcases h.2 with ⟨rfl,f⟩ | ⟨g,cap,x,rfl,J,E,l,A,G,b⟩
 ·subst f
  have:ys=[]:=List.eq_nil_of_length_eq_zero C.symm;subst this;exact ⟨none,0,rfl,LS.nil⟩
 ·refine ⟨_,cap,rfl,?_⟩
  rw [C] at l b ⊢;refine ⟨by unfold maxLen;omega,some ⟨g,0,none⟩,cap,rfl,fun H=>⟨g,0,rfl,Fz0.new E,fun i a r=>⟨[.string a],rfl,fun j u c=>?_,rfl,?_⟩⟩⟩
  ·match j,c with
   | 0,c=>
    simp only [List.getElem?_cons_zero,Option.some.injEq] at c;have I:i < ys.length:=(List.getElem?_eq_some_iff.1 r).1;rw [<-c,show 0+i*1+0=i by omega,Lib.cell_of_heap E];have F:(x.toList.take (ys.length*1))[i]? = (ys.map Value.string)[i]?:=congrArg (fun z:List Value=>z[i]?) b;rw [Nat.mul_one,List.getElem?_take,if_pos I,Array.getElem?_toList,List.getElem?_map,r] at F;exact F
   | j+1,c=>simp at c
  ·have:=hy a (List.mem_of_getElem? r)
   unfold maxLen;omega
theorem GU (ke k g dn nn:Nat) (l:List D) (inb:ByteArray) (ao:Option Addr) (cap:Nat) (w:World) (hnn:nn=l.length) (hc:LS 12 (ZC w ke (k+1)) w (zd ao nn cap) l) (hf:∀ s∈l,sfK ke (k+1) s=true/\gdC ke (g+1) s) (hin:inb.data.toList=inT dn) (hdn:dn<=10) (hl:(AO ke (k+1) dn l).length<=1000000)
  (IH:Hx (∀ (ds:List D) (ao:Option Addr) (c:Nat) (X:World),LS 12 (ZC X ke k) X (zd ao ds.length c) ds->(∀ s∈ds,sfK ke k s=true/\gdC ke g s)->(AO ke k (dn+1) ds).length<=1000000->Ro 46 #[zd ao ds.length c,.string (inb++⟨#[32,32]⟩)] X (.string ⟨(AO ke k (dn+1) ds).toArray⟩))) :
  Ro 46 #[zd ao nn cap,.string inb] w (.string ⟨(AO ke (k+1) dn l).toArray⟩):=by
 obtain ⟨fin,bs⟩:=nm (AO ke (k+1) dn l);rw [<-bs] at hl ⊢;have HF:=Aa bs;have HC:=Aa hc;have ei:=Aa hf;have HN:=Aa hnn;have a7:=Aa hin;have du:=Aa hl;have fi:inb.size<=20:=by
  have:=congrArg List.length hin;rw [FR] at this;have e:inb.data.toList.length=inb.size:=rfl;omega
 have eg:=hc.max;rw [<-hnn] at eg;clear bs hc hf hnn hin hl;go_enter Tryz.func46,Tryz.ntmps46;go_wp2_with fail;go_loopw [5,6] (fun s i wr=>∃ (j:Nat) (x:ByteArray),j<=nn/\i=O zc j/\s=.string x/\x.data.toList++((l.drop j).map (cmT ke (k+1) dn)).flatten=fin/\Ov w wr) (fun _ i _=>nn - (intOf i).toNat)
 case atStart=>exact ⟨0,⟨#[]⟩,Nat.zero_le _,rfl,rfl,by rw [HF.o];rfl,Below.refl _ _⟩
 case round=>
  obtain ⟨j,s,hj,rfl,rfl,A,hB⟩:=hrel;by_cases hjl:j < nn
  ·have be:j < l.length:=by have:=HN.o;omega
   have d9:(j:Int) < (nn:Int):=by omega
   obtain ⟨b,fd,rfl,cs,d7,cp,hr⟩:=HC.o.at be;obtain ⟨a2,c9⟩:=ei.o _ (List.getElem_mem be);rw [List.drop_eq_getElem_cons be,List.map_cons,List.flatten_cons] at A;generalize l[j]=dj at hr A a2 c9;obtain ⟨kd,a,x,y,e0,e1,e2,e3,q,q1,q2,ed,aA,cA,B,aT,cT,th,aE,cE,el,rfl,rfl,-,-,he,hA,hT,hE⟩:=hr;obtain ⟨p1,p2,p3,p4,p5,p6,p7⟩:=D4 a2;obtain ⟨g1,g2,g3⟩:=c9;simp only [CR,Bool.or_eq_false_iff,decide_eq_false_iff_not] at g1;obtain ⟨⟨g4,gE⟩,gA⟩:=g1;have a3:∀ c∈B,Cm ke c=false:=fun c hc=>by
    have:=List.any_eq_false.1 gA c hc;simpa using this
   simp only [gSs] at p1 p2 p3 p4 p5 p6 p7 g2 g3 g4 gE;have hx:x.size<=12:=Eh p2;have hy:y.size<=12:=Eh p3;have d2:s.size<=1000000/\(cmT ke (k+1) dn (stD kd a x y ed B th el)).length<=1000000:=by
    have:=congrArg List.length A;simp only [List.length_append] at this;have e:s.data.toList.length=s.size:=rfl;have:=du.o;omega
   obtain ⟨fg,r⟩:=d2;have d0:=CK hB cp rfl;have dA:=CJ hB cp;have d6:=nm wr;obtain ⟨e9,eq⟩:=d6;have ah:∀ X,Ov wr X->Ro 78 #[zf #[O zc e0,O zc e1,O zc e2,.string e3,zd q q1 q2]] X (ze (CO ed)):=fun X hX=>Dt ke _ ed X ((he.over hB).over hX);have am:efK ke ed=true->∀ X,Ov wr X->Ro 47 #[zf #[O zc e0,O zc e1,O zc e2,.string e3,zd q q1 q2]] X (.string ⟨(exT ke ed).toArray⟩):=fun hf X hX=>DJ ke _ ed X ((he.over hB).over hX) hf (Nat.le_trans (A7 hf gE) (by decide));have a1:∀ (ao:Option Addr) (c:Nat) (ds:List D),LS 12 (ZC w ke k) w (zd ao ds.length c) ds->(∀ s∈ds,sfK ke k s=true)->(∀ s∈ds,gdC ke g s)->(AO ke k (dn+1) ds).length<=1000000->∀ X,Ov wr X->Ro 46 #[zd ao ds.length c,.string (inb++⟨#[32,32]⟩)] X (.string ⟨(AO ke k (dn+1) ds).toArray⟩):=fun ao c ds h1 h2 h3 h4 X hX=>IH.o ds ao c X (Ar hX (Ar hB h1)) (fun s hs=>⟨h2 s hs,h3 s hs⟩) h4;have HB:=Aa hB;clear cp d7 hB be hj;rcases Fe p1 with rfl | rfl | rfl | rfl | rfl | rfl | rfl | rfl
   ·have KN:Hx (∀ X,Ov wr X->Ro 78 #[zf #[O zc e0,O zc e1,O zc e2,.string e3,zd q q1 q2]] X (ze false)):=fun X hX=>by have:=ah X hX;rw [D9 p4] at this;exact this
    obtain ⟨E,H⟩:=nm (⟨(exT ke ed).toArray⟩:ByteArray);have KE:Hx (∀ X,Ov wr X->Ro 47 #[zf #[O zc e0,O zc e1,O zc e2,.string e3,zd q q1 q2]] X (.string E)):=fun X hX=>by rw [H];exact am p4 X hX
    have bv:E.size<=300:=by rw [H,A8];exact A7 p4 gE
    have af:exT ke ed=E.data.toList:=by rw [H]
    unfold cmT at A r;simp only [gSs] at A r;rw [if_pos trivial] at A r;rw [af] at A;generalize B.length=nA at dA;generalize th.length=nT at dA;generalize el.length=nE at dA;have HZ:=Aa A;clear A r ah am a1 gA a3 p1 p2 p3 p4 p5 p6 p7 g2 g3 gE a2;clear H af;obtain ⟨U,M⟩:=nm (wr.alloc (zg #[O zc 1,O zc a,.string x,.string y,O zc e0,O zc e1,O zc e2,.string e3,zd q q1 q2,zd aA nA cA,zd aT nT cT,zd aE nE cE] 55));obtain ⟨bq,C⟩:=nm wr.heap.size;have G:=aov M;have N:=C2 M C;obtain ⟨m0,m1,m2,Z,Y,V,S,R,Q,P,n,f⟩:=AR (alq M);go_wp2_with fail;rw [<-M,<-C];clear M C m0 m1 m2 Z Y V S R Q P n f d0 dA;refine mo (KN.o _ G.o) fun w1 F=>?_;have J:=Aa (Ab G.o F);have I:=Aa (Ad.over N.o F);obtain ⟨m0,m1,m2,Z,Y,V,S,R,Q,P,n,f⟩:=AR I.o;clear F KN G N;go_wp2_with fail;refine mo (KE.o _ J.o) fun w2 L=>?_;have ak:=Aa (Ab J.o L);have aj:=Aa (Ad.over I.o L);clear m0 m1 m2 Z Y V S R Q P n f;obtain ⟨m0,m1,m2,Z,Y,V,S,R,Q,P,n,f⟩:=AR aj.o;clear L KE J I;have s1:¬ 9223372036854775807 < inb.size+x.size:=by omega
    have s2:¬ 9223372036854775807 < inb.size+x.size+3:=by omega
    have s3:¬ 9223372036854775807 < inb.size+x.size+3+E.size:=by omega
    have s4:¬ 9223372036854775807 < inb.size+x.size+3+E.size+2:=by omega
    have s9:¬ 9223372036854775807 < s.size+(inb.size+x.size+3+E.size+2):=by omega
    have ag:Hx ((s++(inb++x++⟨#[32,61,32]⟩++E++⟨#[59,10]⟩):ByteArray).data.toList++((l.drop (j+1)).map (cmT ke (k+1) dn)).flatten=fin):=by
     show _=_;rw [<-HZ.o];simp only [Bj,a7.o];simp
    clear HZ;go_wp2_with fail;exact ⟨⟨j+1,_,by omega,by go_num,rfl,ag.o,Ab HB.o ak.o⟩,by simp [intOf];omega⟩
   ·have KN:Hx (∀ X,Ov wr X->Ro 78 #[zf #[O zc e0,O zc e1,O zc e2,.string e3,zd q q1 q2]] X (ze true)):=fun X hX=>by have:=ah X hX;rw [show CO ed=true from p4] at this;exact this
    unfold cmT at A r;simp only [gSs] at A r;rw [if_neg (by decide),if_pos trivial] at A r;obtain ⟨T,bu⟩:=nm (⟨(AB [44,32] (B.map (exT ke))).toArray⟩:ByteArray);have a8:AB [44,32] (B.map (exT ke))=T.data.toList:=by rw [bu]
    rw [a8] at A r;have dg:T.size<=1000000:=by
     have e:T.data.toList.length=T.size:=rfl;simp only [List.length_append] at r;omega
    replace bu:T=⟨(AB [44,32] (B.map ((fun y:ByteArray=>y.data.toList) ∘ fun d=>(⟨(exT ke d).toArray⟩:ByteArray)))).toArray⟩:=by
     rw [bu];congr 3
    have dh:∀ d∈B,(⟨(exT ke d).toArray⟩:ByteArray).size<=700:=fun d hd=>by rw [A8];exact Nat.le_trans (A7 (Cp p5 d hd) (a3 d hd)) (by decide)
    have HA:=Aa hA;have eh:Hx (∀ d∈B,∀ cs X,Ov wr X->ZE w ke cs d->Ro 47 #[.agg cs.toArray] X (.string ⟨(exT ke d).toArray⟩)):=fun d hd cs X hX A=>DJ ke cs d X (A.over (Ab HB.o hX)) (Cp p5 d hd) (Nat.le_trans (A7 (Cp p5 d hd) (a3 d hd)) (by decide));obtain ⟨nA,co⟩:=nm B.length;rw [<-co] at dA HA g4;have cx:=Aa co;clear co;generalize th.length=nT at dA;generalize el.length=nE at dA;have HZ:=Aa A;clear A r ah am a1 gA a3 p1 p2 p3 p4 p5 p6 p7 g2 g3 gE a2;clear a8;obtain ⟨U,M⟩:=nm (wr.alloc (zg #[O zc 2,O zc a,.string x,.string y,O zc e0,O zc e1,O zc e2,.string e3,zd q q1 q2,zd aA nA cA,zd aT nT cT,zd aE nE cE] 55));obtain ⟨bq,C⟩:=nm wr.heap.size;have G:=aov M;have N:=C2 M C;obtain ⟨m0,m1,m2,Z,Y,V,S,R,Q,P,n,f⟩:=AR (alq M);go_wp2_with fail;rw [<-M,<-C];clear M C m0 m1 m2 Z Y V S R Q P n f d0 dA;refine mo (KN.o _ G.o) fun w1 F=>?_;have J:=Aa (Ab G.o F);have I:=Aa (Ad.over N.o F);obtain ⟨m0,m1,m2,Z,Y,V,S,R,Q,P,n,f⟩:=AR I.o;clear F KN G N;obtain ⟨i0,hi,d5,d4,d3⟩:=info_parts QB;have dw:=Aa dh;have ec:=Aa bu;clear dh bu;go_wp2_with fail;clear m0 m1 m2 Z Y V S R Q P n f;have P:=I.o 9 _ rfl;go_loopw [9,10] (fun v i wi=>∃ (c:Nat) (ys:List ByteArray),c<=nA/\i=O zc c/\ys=(B.take c).map (fun d=>(⟨(exT ke d).toArray⟩:ByteArray))/\Hx (wi.ownsRow w1.heap.size 9 1 v c (ys.map Value.string))/\Hx (Ov w1 wi)) (fun _ i _=>nA - (intOf i).toNat)
    case atStart=>exact ⟨0,[],Nat.zero_le _,rfl,rfl,by show World.ownsRow _ _ _ _ _ _ _;exact World.ownsRow_nil _ _ _ _,by show Ov _ _;exact Below.refl _ _⟩
    case round=>
     obtain ⟨c,ys,fk,rfl,bm,cg,b0⟩:=hrel;have n9:=ce1 b0.o P;have ef:Hx (ys.length=c):=by show _=_;rw [bm,List.length_map,List.length_take];have:=cx.o;omega
     by_cases r:c < nA
     ·have bf:c < B.length:=by have:=cx.o;omega
      have ea:(c:Int) < (nA:Int):=by omega
      obtain ⟨b3,c6,rfl,dk,d8,a4,b9⟩:=HA.o.at bf;have b7:ys++[(⟨(exT ke B[c]).toArray⟩:ByteArray)]=(B.take (c+1)).map (fun d=>(⟨(exT ke d).toArray⟩:ByteArray)):=by rw [C8 B c bf,List.map_append,<-bm];rfl
      have bp:=List.getElem_mem bf;generalize B[c]=ac at b9 b7 bp;obtain ⟨y,hy⟩:=nm (⟨(exT ke ac).toArray⟩:ByteArray);rw [<-hy] at b7;have a9:=Ab J.o b0.o;have KC:Hx (∀ X,Ov wr X->Ro 47 #[.agg dk.toArray] X (.string y)):=fun X hX=>by rw [hy];exact eh.o ac bp dk X (Ab a9 hX) b9
      obtain ⟨f0,f1,f2,f3,f4,f5,f6,rfl⟩:=b9.cells;have z0:wr.cell? ⟨b3,c6+c*5,none⟩=_:=ce1 (Ab HB.o a9) (a4 0 _ rfl);have z1:=ce1 (Ab HB.o a9) (a4 1 _ rfl);have z2:=ce1 (Ab HB.o a9) (a4 2 _ rfl);have z3:=ce1 (Ab HB.o a9) (a4 3 _ rfl);have z4:=ce1 (Ab HB.o a9) (a4 4 _ rfl);have eb:=Aa b7;have ee:=Aa a9;clear a4 d8 b9 b7 bp a9 bf hy bm;obtain ⟨va,vc,rfl⟩:=AX cg.o;go_wp2_with fail;refine mo (KC.o _ (Below.refl _ _)) fun w5 cq=>?_;have bo:=J7 cg.o cq;have bz:=Aa (Ab b0.o cq);have c7:=bz.o.size;clear cq KC z0 z1 z2 z3 z4 n9 ee;go_wp2_with (at_builtin;refine wpList_append_own _ rfl _ _ 46 rfl w1.heap.size 9 i0 (.string ⟨#[]⟩) 1 16 Tryz.underlying46 hi d5 d4 d3 rfl (by decide) _ _ _ rfl (bo.alloc _) ⟨w5.heap.size,0,none⟩ 1 1 [.string y] rfl rfl ?c1 ?c2 ?c3 ?c4 ?c5 ?_)
      case c1=>
       intro j u hj
       match j,hj with
       | 0,hj=>simp at hj;subst hj;simp [Addr.add]
      case c2=>intro u hu;simp at hu;subst hu;rfl
      case c3=>unfold maxLen;omega
      case c4=>omega
      case c5=>simp;omega
      ·intro v6 w6 bn br _
       have dr:Hx (w6.ownsRow w1.heap.size 9 1 v6 (c+1) ((ys++[y]).map Value.string)):=by show World.ownsRow _ _ _ _ _ _ _;simpa using bn
       have dt:Hx (Ov w1 w6):=bz.o.trans ((Below.refl w1.heap.size w5).alloc c7 _ |>.grown br (by simp;omega) (fun k hk=>(bo.lt k hk).1));clear bo bn br c7 bz;go_wp2_with fail;exact ⟨⟨c+1,ys++[y],by omega,by go_num,eb.o,dr,dt⟩,by simp [intOf];omega⟩
     ·have ea:¬ (c:Int) < (nA:Int):=by omega
      have b8:ys=B.map (fun d=>(⟨(exT ke d).toArray⟩:ByteArray)):=by rw [bm,List.take_of_length_le (by have:=cx.o;omega)]
      obtain ⟨va,vc,rfl,c8⟩:=QV cg.o (by omega) (fun z A=>by rw [b8] at A;obtain ⟨d,hd,rfl⟩:=List.mem_map.1 A;exact dw.o d hd);have dc:c=ys.length:=ef.o.symm;have KC:Hx (∀ X,Ov wr X->Ro 45 #[zd va c vc] X (.string T)):=fun X hX=>by
       have dm:=Hi ys va c vc X dc (Bu hX c8) (fun z A=>by rw [b8] at A;obtain ⟨d,hd,rfl⟩:=List.mem_map.1 A;exact Nat.le_trans (dw.o d hd) (by decide)) (by omega);rw [ec.o];rw [b8,List.map_map] at dm;exact dm
      have n1:=I.o.over b0.o;obtain ⟨m0,m1,m2,Z,Y,V,S,R,Q,P,n,f⟩:=AR n1;have ej:=Aa (Ab HB.o (Ab J.o b0.o));clear c8 b8 bm n1 n9 dc cg;have s1:¬ 9223372036854775807 < inb.size+x.size:=by omega
      have s2:¬ 9223372036854775807 < inb.size+x.size+3:=by omega
      have s3:¬ 9223372036854775807 < inb.size+x.size+3+y.size:=by omega
      have s4:¬ 9223372036854775807 < inb.size+x.size+3+y.size+1:=by omega
      have s5:¬ 9223372036854775807 < inb.size+x.size+3+y.size+1+T.size:=by omega
      have s6:¬ 9223372036854775807 < inb.size+x.size+3+y.size+1+T.size+3:=by omega
      have s9:¬ 9223372036854775807 < s.size+(inb.size+x.size+3+y.size+1+T.size+3):=by omega
      have ag:Hx ((s++(inb++x++⟨#[32,61,32]⟩++y++⟨#[40]⟩++T++⟨#[41,59,10]⟩):ByteArray).data.toList++((l.drop (j+1)).map (cmT ke (k+1) dn)).flatten=fin):=by
       show _=_;rw [<-HZ.o];simp only [Bj,a7.o];simp
      clear HZ;go_wp2_with fail;refine Go.Proofs.YtipngnjffjajpaaGreatDoor.gS (fun Wz=>Below wr.heap.size wr Wz) (Below.refl _ _).drew fun az=>?_;generalize wr.drew=W at az ⊢;refine kO 0 ?_;refine kO 1 ?_;refine kO 2 ?_;refine kO 3 ?_;refine kO 4 ?_;refine kO 5 ?_;refine kO 6 ?_;refine kO 7 ?_;refine kO 8 ?_;refine kO 9 ?_;refine kO 10 ?_;refine rdA 11 rfl fun K hK=>?_;go_simp;refine mo (KC.o _ az) fun w7 dd=>?_;have dv:=Aa (Ab az dd);clear dd KC az;go_simp;refine xK hK dv.o fun az=>?_;clear hK K;refine kO 12 ?_;refine kO 13 ?_;refine kO 14 ?_;refine kO 15 ?_;refine gE ?_;go_wp2_with fail;exact ⟨⟨j+1,_,by omega,by go_num,rfl,ag.o,Ab ej.o dv.o⟩,by simp [intOf];omega⟩
   ·have KN:Hx (∀ X,Ov wr X->Ro 78 #[zf #[O zc e0,O zc e1,O zc e2,.string e3,zd q q1 q2]] X (ze true)):=fun X hX=>by have:=ah X hX;rw [show CO ed=true from p4] at this;exact this
    unfold cmT at A r;simp only [gSs] at A r;rw [if_neg (by decide),if_neg (by decide),if_pos trivial] at A r;generalize B.length=nA at dA;generalize th.length=nT at dA;generalize el.length=nE at dA;have HZ:=Aa A;clear A r ah am a1 gA a3 p1 p2 p3 p4 p5 p6 p7 g2 g3 gE a2;obtain ⟨U,M⟩:=nm (wr.alloc (zg #[O zc 3,O zc a,.string x,.string y,O zc e0,O zc e1,O zc e2,.string e3,zd q q1 q2,zd aA nA cA,zd aT nT cT,zd aE nE cE] 55));obtain ⟨bq,C⟩:=nm wr.heap.size;have G:=aov M;have N:=C2 M C;obtain ⟨m0,m1,m2,Z,Y,V,S,R,Q,P,n,f⟩:=AR (alq M);go_wp2_with fail;rw [<-M,<-C];clear M C m0 m1 m2 Z Y V S R Q P n f d0 dA;refine mo (KN.o _ G.o) fun w1 F=>?_;have J:=Aa (Ab G.o F);have I:=Aa (Ad.over N.o F);obtain ⟨m0,m1,m2,Z,Y,V,S,R,Q,P,n,f⟩:=AR I.o;clear F KN G N;have s1:¬ 9223372036854775807 < inb.size+4:=by omega
    have s2:¬ 9223372036854775807 < inb.size+4+x.size:=by omega
    have s3:¬ 9223372036854775807 < inb.size+4+x.size+1:=by omega
    have s4:¬ 9223372036854775807 < inb.size+4+x.size+1+y.size:=by omega
    have s5:¬ 9223372036854775807 < inb.size+4+x.size+1+y.size+2:=by omega
    have s9:¬ 9223372036854775807 < s.size+(inb.size+4+x.size+1+y.size+2):=by omega
    have ag:Hx ((s++(inb++⟨#[103,101,116,32]⟩++x++⟨#[32]⟩++y++⟨#[59,10]⟩):ByteArray).data.toList++((l.drop (j+1)).map (cmT ke (k+1) dn)).flatten=fin):=by
     show _=_;rw [<-HZ.o];simp only [Bj,a7.o];simp
    clear HZ;go_wp2_with fail;exact ⟨⟨j+1,_,by omega,by go_num,rfl,ag.o,Ab HB.o J.o⟩,by simp [intOf];omega⟩
   ·have KN:Hx (∀ X,Ov wr X->Ro 78 #[zf #[O zc e0,O zc e1,O zc e2,.string e3,zd q q1 q2]] X (ze false)):=fun X hX=>by have:=ah X hX;rw [D9 p4] at this;exact this
    obtain ⟨E,H⟩:=nm (⟨(exT ke ed).toArray⟩:ByteArray);have KE:Hx (∀ X,Ov wr X->Ro 47 #[zf #[O zc e0,O zc e1,O zc e2,.string e3,zd q q1 q2]] X (.string E)):=fun X hX=>by rw [H];exact am p4 X hX
    have bv:E.size<=300:=by rw [H,A8];exact A7 p4 gE
    have af:exT ke ed=E.data.toList:=by rw [H]
    unfold cmT at A r;simp only [gSs] at A r;rw [if_neg (by decide),if_neg (by decide),if_neg (by decide),if_pos trivial] at A r;rw [af] at A;generalize B.length=nA at dA;generalize th.length=nT at dA;generalize el.length=nE at dA;have HZ:=Aa A;clear A r ah am a1 gA a3 p1 p2 p3 p4 p5 p6 p7 g2 g3 gE a2;clear H af;obtain ⟨U,M⟩:=nm (wr.alloc (zg #[O zc 4,O zc a,.string x,.string y,O zc e0,O zc e1,O zc e2,.string e3,zd q q1 q2,zd aA nA cA,zd aT nT cT,zd aE nE cE] 55));obtain ⟨bq,C⟩:=nm wr.heap.size;have G:=aov M;have N:=C2 M C;obtain ⟨m0,m1,m2,Z,Y,V,S,R,Q,P,n,f⟩:=AR (alq M);go_wp2_with fail;rw [<-M,<-C];clear M C m0 m1 m2 Z Y V S R Q P n f d0 dA;refine mo (KN.o _ G.o) fun w1 F=>?_;have J:=Aa (Ab G.o F);have I:=Aa (Ad.over N.o F);obtain ⟨m0,m1,m2,Z,Y,V,S,R,Q,P,n,f⟩:=AR I.o;clear F KN G N;go_wp2_with fail;refine mo (KE.o _ J.o) fun w2 L=>?_;have ak:=Aa (Ab J.o L);have aj:=Aa (Ad.over I.o L);clear m0 m1 m2 Z Y V S R Q P n f;obtain ⟨m0,m1,m2,Z,Y,V,S,R,Q,P,n,f⟩:=AR aj.o;clear L KE J I;have s1:¬ 9223372036854775807 < inb.size+4:=by omega
    have s2:¬ 9223372036854775807 < inb.size+4+y.size:=by omega
    have s3:¬ 9223372036854775807 < inb.size+4+y.size+1:=by omega
    have s4:¬ 9223372036854775807 < inb.size+4+y.size+1+E.size:=by omega
    have s5:¬ 9223372036854775807 < inb.size+4+y.size+1+E.size+2:=by omega
    have s9:¬ 9223372036854775807 < s.size+(inb.size+4+y.size+1+E.size+2):=by omega
    have ag:Hx ((s++(inb++⟨#[112,117,116,32]⟩++y++⟨#[32]⟩++E++⟨#[59,10]⟩):ByteArray).data.toList++((l.drop (j+1)).map (cmT ke (k+1) dn)).flatten=fin):=by
     show _=_;rw [<-HZ.o];simp only [Bj,a7.o];simp
    clear HZ;go_wp2_with fail;exact ⟨⟨j+1,_,by omega,by go_num,rfl,ag.o,Ab HB.o ak.o⟩,by simp [intOf];omega⟩
   ·have KN:Hx (∀ X,Ov wr X->Ro 78 #[zf #[O zc e0,O zc e1,O zc e2,.string e3,zd q q1 q2]] X (ze false)):=fun X hX=>by have:=ah X hX;rw [D9 p4] at this;exact this
    obtain ⟨E,H⟩:=nm (⟨(exT ke ed).toArray⟩:ByteArray);have KE:Hx (∀ X,Ov wr X->Ro 47 #[zf #[O zc e0,O zc e1,O zc e2,.string e3,zd q q1 q2]] X (.string E)):=fun X hX=>by rw [H];exact am p4 X hX
    have bv:E.size<=300:=by rw [H,A8];exact A7 p4 gE
    have af:exT ke ed=E.data.toList:=by rw [H]
    unfold cmT at A r;simp only [gSs] at A r;rw [if_neg (by decide),if_neg (by decide),if_neg (by decide),if_neg (by decide),if_pos trivial] at A r;rw [af] at A;generalize B.length=nA at dA;generalize th.length=nT at dA;generalize el.length=nE at dA;have HZ:=Aa A;clear A r ah am a1 gA a3 p1 p2 p3 p4 p5 p6 p7 g2 g3 gE a2;clear H af;obtain ⟨U,M⟩:=nm (wr.alloc (zg #[O zc 5,O zc a,.string x,.string y,O zc e0,O zc e1,O zc e2,.string e3,zd q q1 q2,zd aA nA cA,zd aT nT cT,zd aE nE cE] 55));obtain ⟨bq,C⟩:=nm wr.heap.size;have G:=aov M;have N:=C2 M C;obtain ⟨m0,m1,m2,Z,Y,V,S,R,Q,P,n,f⟩:=AR (alq M);go_wp2_with fail;rw [<-M,<-C];clear M C m0 m1 m2 Z Y V S R Q P n f d0 dA;refine mo (KN.o _ G.o) fun w1 F=>?_;have J:=Aa (Ab G.o F);have I:=Aa (Ad.over N.o F);obtain ⟨m0,m1,m2,Z,Y,V,S,R,Q,P,n,f⟩:=AR I.o;clear F KN G N;go_wp2_with fail;refine mo (KE.o _ J.o) fun w2 L=>?_;have ak:=Aa (Ab J.o L);have aj:=Aa (Ad.over I.o L);clear m0 m1 m2 Z Y V S R Q P n f;obtain ⟨m0,m1,m2,Z,Y,V,S,R,Q,P,n,f⟩:=AR aj.o;clear L KE J I;have s1:¬ 9223372036854775807 < inb.size+7:=by omega
    have s2:¬ 9223372036854775807 < inb.size+7+x.size:=by omega
    have s3:¬ 9223372036854775807 < inb.size+7+x.size+1:=by omega
    have s4:¬ 9223372036854775807 < inb.size+7+x.size+1+E.size:=by omega
    have s5:¬ 9223372036854775807 < inb.size+7+x.size+1+E.size+2:=by omega
    have s9:¬ 9223372036854775807 < s.size+(inb.size+7+x.size+1+E.size+2):=by omega
    have ag:Hx ((s++(inb++⟨#[114,101,118,101,97,108,32]⟩++x++⟨#[32]⟩++E++⟨#[59,10]⟩):ByteArray).data.toList++((l.drop (j+1)).map (cmT ke (k+1) dn)).flatten=fin):=by
     show _=_;rw [<-HZ.o];simp only [Bj,a7.o];simp
    clear HZ;go_wp2_with fail;exact ⟨⟨j+1,_,by omega,by go_num,rfl,ag.o,Ab HB.o ak.o⟩,by simp [intOf];omega⟩
   ·have KN:Hx (∀ X,Ov wr X->Ro 78 #[zf #[O zc e0,O zc e1,O zc e2,.string e3,zd q q1 q2]] X (ze false)):=fun X hX=>by have:=ah X hX;rw [D9 p4] at this;exact this
    obtain ⟨E,H⟩:=nm (⟨(exT ke ed).toArray⟩:ByteArray);have KE:Hx (∀ X,Ov wr X->Ro 47 #[zf #[O zc e0,O zc e1,O zc e2,.string e3,zd q q1 q2]] X (.string E)):=fun X hX=>by rw [H];exact am p4 X hX
    have bv:E.size<=300:=by rw [H,A8];exact A7 p4 gE
    have af:exT ke ed=E.data.toList:=by rw [H]
    unfold cmT at A r;simp only [gSs] at A r;rw [if_neg (by decide),if_neg (by decide),if_neg (by decide),if_neg (by decide),if_neg (by decide),if_pos trivial] at A r;rw [af] at A;generalize B.length=nA at dA;generalize th.length=nT at dA;generalize el.length=nE at dA;have HZ:=Aa A;clear A r ah am a1 gA a3 p1 p2 p3 p4 p5 p6 p7 g2 g3 gE a2;clear H af;obtain ⟨U,M⟩:=nm (wr.alloc (zg #[O zc 6,O zc a,.string x,.string y,O zc e0,O zc e1,O zc e2,.string e3,zd q q1 q2,zd aA nA cA,zd aT nT cT,zd aE nE cE] 55));obtain ⟨bq,C⟩:=nm wr.heap.size;have G:=aov M;have N:=C2 M C;obtain ⟨m0,m1,m2,Z,Y,V,S,R,Q,P,n,f⟩:=AR (alq M);go_wp2_with fail;rw [<-M,<-C];clear M C m0 m1 m2 Z Y V S R Q P n f d0 dA;refine mo (KN.o _ G.o) fun w1 F=>?_;have J:=Aa (Ab G.o F);have I:=Aa (Ad.over N.o F);obtain ⟨m0,m1,m2,Z,Y,V,S,R,Q,P,n,f⟩:=AR I.o;clear F KN G N;go_wp2_with fail;refine mo (KE.o _ J.o) fun w2 L=>?_;have ak:=Aa (Ab J.o L);have aj:=Aa (Ad.over I.o L);clear m0 m1 m2 Z Y V S R Q P n f;obtain ⟨m0,m1,m2,Z,Y,V,S,R,Q,P,n,f⟩:=AR aj.o;clear L KE J I;have s1:¬ 9223372036854775807 < inb.size+6:=by omega
    have s2:¬ 9223372036854775807 < inb.size+6+x.size:=by omega
    have s3:¬ 9223372036854775807 < inb.size+6+x.size+1:=by omega
    have s4:¬ 9223372036854775807 < inb.size+6+x.size+1+E.size:=by omega
    have s5:¬ 9223372036854775807 < inb.size+6+x.size+1+E.size+2:=by omega
    have s9:¬ 9223372036854775807 < s.size+(inb.size+6+x.size+1+E.size+2):=by omega
    have ag:Hx ((s++(inb++⟨#[116,114,117,115,116,32]⟩++x++⟨#[32]⟩++E++⟨#[59,10]⟩):ByteArray).data.toList++((l.drop (j+1)).map (cmT ke (k+1) dn)).flatten=fin):=by
     show _=_;rw [<-HZ.o];simp only [Bj,a7.o];simp
    clear HZ;go_wp2_with fail;exact ⟨⟨j+1,_,by omega,by go_num,rfl,ag.o,Ab HB.o ak.o⟩,by simp [intOf];omega⟩
   ·have KN:Hx (∀ X,Ov wr X->Ro 78 #[zf #[O zc e0,O zc e1,O zc e2,.string e3,zd q q1 q2]] X (ze false)):=fun X hX=>by have:=ah X hX;rw [D9 p4] at this;exact this
    obtain ⟨E,H⟩:=nm (⟨(exT ke ed).toArray⟩:ByteArray);have KE:Hx (∀ X,Ov wr X->Ro 47 #[zf #[O zc e0,O zc e1,O zc e2,.string e3,zd q q1 q2]] X (.string E)):=fun X hX=>by rw [H];exact am p4 X hX
    have bv:E.size<=300:=by rw [H,A8];exact A7 p4 gE
    have af:exT ke ed=E.data.toList:=by rw [H]
    unfold cmT at A r;simp only [gSs] at A r;rw [if_neg (by decide),if_neg (by decide),if_neg (by decide),if_neg (by decide),if_neg (by decide),if_neg (by decide),if_pos trivial,af] at A r;replace A:s.data.toList++(inT dn++[105,102,32]++E.data.toList++[32,123,10]++AO ke k (dn+1) th++(if el=[] then [] else inT dn++[125,32,101,108,115,101,32,123,10]++AO ke k (dn+1) el)++inT dn++[125,10]++((l.drop (j+1)).map (cmT ke (k+1) dn)).flatten)=fin:=by rw [<-A];simp [AO]
    have ay:(AO ke k (dn+1) th).length<=1000000:=by
     have e:(th.map (cmT ke k (dn+1))).flatten=AO ke k (dn+1) th:=rfl;rw [e] at r;simp only [List.length_append] at r;omega
    obtain ⟨T,a6⟩:=nm (⟨(AO ke k (dn+1) th).toArray⟩:ByteArray);have bd:=a1 aT cT th hT (Cp p6) g2 ay;rw [<-a6] at bd;have KT:=Aa bd;have dg:T.size<=1000000:=by rw [a6,A8];exact ay
    have a8:AO ke k (dn+1) th=T.data.toList:=by rw [a6]
    rw [a8] at A;obtain ⟨UU,ca⟩:=nm (⟨(AO ke k (dn+1) el).toArray⟩:ByteArray);have da:el≠[]->(AO ke k (dn+1) el).length<=1000000:=fun h0=>by
     have e:(el.map (cmT ke k (dn+1))).flatten=AO ke k (dn+1) el:=rfl;rw [if_neg h0,e] at r;simp only [List.length_append] at r;omega
    have df:AO ke k (dn+1) el=UU.data.toList:=by rw [ca]
    have bt:(AO ke k (dn+1) el).length<=1000000:=by
     by_cases h0:el=[]
     ·rw [h0];simp [AO]
     ·exact da h0
    have cr:UU.size<=1000000:=by rw [ca,A8];exact bt
    have dq:¬ el.length=0->UU.size<=1000000:=fun _=>cr;have cw:=a1 aE cE el hE (Cp p7) g3 bt;rw [<-ca] at cw;have cv:=Aa cw;rw [df] at A;have db:el=[] ↔ el.length=0:=by rw [List.length_eq_zero_iff]
    simp only [db] at A;generalize el.length=nE at dA cv A dq;generalize th.length=nT at dA KT;generalize B.length=nA at dA;have HZ:=Aa A;clear A r ah am a1 gA a3 p1 p2 p3 p4 p5 p6 p7 g2 g3 gE a2;clear H af a6 a8 bd ay ca df db da bt cw cr;obtain ⟨U,M⟩:=nm (wr.alloc (zg #[O zc 7,O zc a,.string x,.string y,O zc e0,O zc e1,O zc e2,.string e3,zd q q1 q2,zd aA nA cA,zd aT nT cT,zd aE nE cE] 55));obtain ⟨bq,C⟩:=nm wr.heap.size;have G:=aov M;have N:=C2 M C;obtain ⟨m0,m1,m2,Z,Y,V,S,R,Q,P,n,f⟩:=AR (alq M);go_wp2_with fail;rw [<-M,<-C];clear M C m0 m1 m2 Z Y V S R Q P n f d0 dA;refine mo (KN.o _ G.o) fun w1 F=>?_;have J:=Aa (Ab G.o F);have I:=Aa (Ad.over N.o F);obtain ⟨m0,m1,m2,Z,Y,V,S,R,Q,P,n,f⟩:=AR I.o;clear F KN G N;go_wp2_with fail;refine mo (KE.o _ J.o) fun w2 L=>?_;have ak:=Aa (Ab J.o L);have aj:=Aa (Ad.over I.o L);clear m0 m1 m2 Z Y V S R Q P n f;obtain ⟨m0,m1,m2,Z,Y,V,S,R,Q,P,n,f⟩:=AR aj.o;clear L KE J I;have s0:¬ 9223372036854775807 < inb.size+2:=by omega
    have s1:¬ 9223372036854775807 < inb.size+3:=by omega
    have s2:¬ 9223372036854775807 < inb.size+3+E.size:=by omega
    have s3:¬ 9223372036854775807 < inb.size+3+E.size+3:=by omega
    have s4:¬ 9223372036854775807 < inb.size+3+E.size+3+T.size:=by omega
    have s9:¬ 9223372036854775807 < s.size+(inb.size+3+E.size+3+T.size):=by omega
    go_wp2_with fail;refine mo (KT.o _ ak.o) fun w3 bc=>?_;have bi:=Aa (Ab ak.o bc);have cf:=Aa (Ad.over aj.o bc);clear m0 m1 m2 Z Y V S R Q P n f;obtain ⟨m0,m1,m2,Z,Y,V,S,R,Q,P,n,f⟩:=AR cf.o;clear bc KT ak aj;by_cases hE0:nE=0
    ·subst hE0
     have u1:¬ 9223372036854775807 < inb.size+2:=by omega
     have u9:¬ 9223372036854775807 < s.size+(inb.size+3+E.size+3+T.size)+(inb.size+2):=by omega
     have ag:Hx ((s++(inb++⟨#[105,102,32]⟩++E++⟨#[32,123,10]⟩++T)++(inb++⟨#[125,10]⟩):ByteArray).data.toList++((l.drop (j+1)).map (cmT ke (k+1) dn)).flatten=fin):=by
      show _=_;rw [<-HZ.o];simp only [Bj,a7.o];simp
     clear HZ;go_wp2_with fail;exact ⟨⟨j+1,_,by omega,by go_num,rfl,ag.o,Ab HB.o bi.o⟩,by simp [intOf];omega⟩
    ·have fl:(0:Int) < (nE:Int):=by omega
     have cr:=dq hE0;have A:=HZ.o;rw [if_neg hE0] at A;replace HZ:=Aa A;clear A;have v1:¬ 9223372036854775807 < inb.size+9:=by omega
     have v2:¬ 9223372036854775807 < inb.size+9+UU.size:=by omega
     have v9:¬ 9223372036854775807 < s.size+(inb.size+3+E.size+3+T.size)+(inb.size+9+UU.size):=by omega
     have u1:¬ 9223372036854775807 < inb.size+2:=by omega
     have u9:¬ 9223372036854775807 < s.size+(inb.size+3+E.size+3+T.size)+(inb.size+9+UU.size)+(inb.size+2):=by omega
     have ag:Hx ((s++(inb++⟨#[105,102,32]⟩++E++⟨#[32,123,10]⟩++T)++(inb++⟨#[125,32,101,108,115,101,32,123,10]⟩++UU)++(inb++⟨#[125,10]⟩):ByteArray).data.toList++((l.drop (j+1)).map (cmT ke (k+1) dn)).flatten=fin):=by
      show _=_;rw [<-HZ.o];simp only [Bj,a7.o];simp
     clear HZ;go_wp2_with fail;refine mo (cv.o _ bi.o) fun w4 de=>?_;have ek:=Aa (Ab bi.o de);clear m0 m1 m2 Z Y V S R Q P n f de cv bi cf;go_wp2_with fail;exact ⟨⟨j+1,_,by omega,by go_num,rfl,ag.o,Ab HB.o ek.o⟩,by simp [intOf];omega⟩
   ·have KN:Hx (∀ X,Ov wr X->Ro 78 #[zf #[O zc e0,O zc e1,O zc e2,.string e3,zd q q1 q2]] X (ze false)):=fun X hX=>by have:=ah X hX;rw [D9 p4] at this;exact this
    obtain ⟨E,H⟩:=nm (⟨(exT ke ed).toArray⟩:ByteArray);have KE:Hx (∀ X,Ov wr X->Ro 47 #[zf #[O zc e0,O zc e1,O zc e2,.string e3,zd q q1 q2]] X (.string E)):=fun X hX=>by rw [H];exact am p4 X hX
    have bv:E.size<=300:=by rw [H,A8];exact A7 p4 gE
    have af:exT ke ed=E.data.toList:=by rw [H]
    unfold cmT at A r;simp only [gSs] at A r;rw [if_neg (by decide),if_neg (by decide),if_neg (by decide),if_neg (by decide),if_neg (by decide),if_neg (by decide),if_neg (by decide),af] at A r;replace A:s.data.toList++(inT dn++[119,104,105,108,101,32]++E.data.toList++[32,123,10]++AO ke k (dn+1) th++(if el=[] then [] else inT dn++[125,32,101,108,115,101,32,123,10]++AO ke k (dn+1) el)++inT dn++[125,10]++((l.drop (j+1)).map (cmT ke (k+1) dn)).flatten)=fin:=by rw [<-A];simp [AO]
    have ay:(AO ke k (dn+1) th).length<=1000000:=by
     have e:(th.map (cmT ke k (dn+1))).flatten=AO ke k (dn+1) th:=rfl;rw [e] at r;simp only [List.length_append] at r;omega
    obtain ⟨T,a6⟩:=nm (⟨(AO ke k (dn+1) th).toArray⟩:ByteArray);have bd:=a1 aT cT th hT (Cp p6) g2 ay;rw [<-a6] at bd;have KT:=Aa bd;have dg:T.size<=1000000:=by rw [a6,A8];exact ay
    have a8:AO ke k (dn+1) th=T.data.toList:=by rw [a6]
    rw [a8] at A;have di:el=[]:=Rj p7;rw [if_pos di,List.append_nil] at A;generalize el.length=nE at dA;generalize th.length=nT at dA KT;generalize B.length=nA at dA;have HZ:=Aa A;clear A r ah am a1 gA a3 p1 p2 p3 p4 p5 p6 p7 g2 g3 gE a2;clear H af a6 a8 bd ay di;obtain ⟨U,M⟩:=nm (wr.alloc (zg #[O zc 8,O zc a,.string x,.string y,O zc e0,O zc e1,O zc e2,.string e3,zd q q1 q2,zd aA nA cA,zd aT nT cT,zd aE nE cE] 55));obtain ⟨bq,C⟩:=nm wr.heap.size;have G:=aov M;have N:=C2 M C;obtain ⟨m0,m1,m2,Z,Y,V,S,R,Q,P,n,f⟩:=AR (alq M);go_wp2_with fail;rw [<-M,<-C];clear M C m0 m1 m2 Z Y V S R Q P n f d0 dA;refine mo (KN.o _ G.o) fun w1 F=>?_;have J:=Aa (Ab G.o F);have I:=Aa (Ad.over N.o F);obtain ⟨m0,m1,m2,Z,Y,V,S,R,Q,P,n,f⟩:=AR I.o;clear F KN G N;go_wp2_with fail;refine mo (KE.o _ J.o) fun w2 L=>?_;have ak:=Aa (Ab J.o L);have aj:=Aa (Ad.over I.o L);clear m0 m1 m2 Z Y V S R Q P n f;obtain ⟨m0,m1,m2,Z,Y,V,S,R,Q,P,n,f⟩:=AR aj.o;clear L KE J I;have s0:¬ 9223372036854775807 < inb.size+2:=by omega
    have s1:¬ 9223372036854775807 < inb.size+6:=by omega
    have s2:¬ 9223372036854775807 < inb.size+6+E.size:=by omega
    have s3:¬ 9223372036854775807 < inb.size+6+E.size+3:=by omega
    have s4:¬ 9223372036854775807 < inb.size+6+E.size+3+T.size:=by omega
    have s5:¬ 9223372036854775807 < inb.size+6+E.size+3+T.size+inb.size:=by omega
    have s6:¬ 9223372036854775807 < inb.size+6+E.size+3+T.size+inb.size+2:=by omega
    have s9:¬ 9223372036854775807 < s.size+(inb.size+6+E.size+3+T.size+inb.size+2):=by omega
    go_wp2_with fail;refine mo (KT.o _ ak.o) fun w3 bc=>?_;have bi:=Aa (Ab ak.o bc);have cf:=Aa (Ad.over aj.o bc);clear m0 m1 m2 Z Y V S R Q P n f;obtain ⟨m0,m1,m2,Z,Y,V,S,R,Q,P,n,f⟩:=AR cf.o;clear bc KT ak aj;have ag:Hx ((s++(inb++⟨#[119,104,105,108,101,32]⟩++E++⟨#[32,123,10]⟩++T++inb++⟨#[125,10]⟩):ByteArray).data.toList++((l.drop (j+1)).map (cmT ke (k+1) dn)).flatten=fin):=by
     show _=_;rw [<-HZ.o];simp only [Bj,a7.o];simp
    clear HZ;go_wp2_with fail;exact ⟨⟨j+1,_,by omega,by go_num,rfl,ag.o,Ab HB.o bi.o⟩,by simp [intOf];omega⟩
  ·have d9:¬ (j:Int) < (nn:Int):=by omega
   have hd:l.drop j=[]:=List.drop_eq_nil_of_le (by have:=HN.o;omega);rw [hd,List.map_nil,List.flatten_nil,List.append_nil] at A;have HV:Hx ((⟨fin.toArray⟩:ByteArray)=s):=by show _=_;rw [<-A];try exact GK s
   have HB:=Aa hB;clear A hd hB;go_wp2_with fail;go_ret;exact ⟨by rw [HV.o];rfl,HB.o⟩
end Go.Proofs.YtipngnjffjajpaaGreatDoor.Tx
