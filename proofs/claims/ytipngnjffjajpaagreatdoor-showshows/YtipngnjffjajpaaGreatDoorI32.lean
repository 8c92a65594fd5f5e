/- The document's answer: a label's text. -/
import Derived.Test.YtipngnjffjajpaaGreatDoorI28
set_option linter.unusedVariables false
set_option maxHeartbeats 8000000
set_option maxRecDepth 100000
namespace Go.Proofs.YtipngnjffjajpaaGreatDoor.Tx
open Go.RowKit
open Go.Value renaming int -> A, slice -> O, bool -> zc, agg -> ze, pointer -> zf, tuple -> zh
open Go.IntKind renaming i64 -> J
open Go.Obj renaming cells -> zd
open Go.Ending renaming returned -> zg
theorem F4 (ns:List ByteArray) (ao:Option Addr) (nn cap:Nat) (w:World) (hnn:nn=ns.length) (h:LS 1 ZN w (O ao nn cap) ns) (hM:∀ x∈ns,x.size<=1000) (hn:nn<=1000):Ro 45 #[O ao nn cap] w (.string ⟨(Ax [44,32] (ns.map (fun y=>y.data.toList))).toArray⟩):=by
 subst hnn;have e:=Li (ns.map (fun y=>y.data.toList));have a:(ns.map (fun y=>y.data.toList)).map (fun y=>(⟨y.toArray⟩:ByteArray))=ns:=by
  rw [List.map_map]
  conv=>rhs;rw [<-List.map_id ns]
  exact List.map_congr_left fun x _=>Fz x
 rw [a] at e;rw [<-e];exact MM 1000 ns ao cap w h hM (Nat.le_trans (Nat.mul_le_mul_right _ hn) (by decide))
theorem Ok (a:Int) (o:ByteArray) (wr:Bool) (ns:List ByteArray):poT (C1 a o wr ns)=o.data.toList++(if wr=true then [33] else [58])++(if ns=[] then [] else [32]++Ax [44,32] (ns.map (fun y=>y.data.toList))):=by
 have b:(ns.map dS).map asS=ns.map (fun y=>y.data.toList):=by rw [List.map_map];rfl
 unfold poT;simp only [gPp,b,List.map_eq_nil_iff]
def laR (lb:List D) (j:Nat):List UInt8:=if j=0 then Ax [59,32] (lb.map poT) else ((lb.drop j).map (fun p=>[59,32]++poT p)).flatten
theorem Mt (lb:List D) (j:Nat) (h:j < lb.length):laR lb j=(if j=0 then [] else [59,32])++poT lb[j]++laR lb (j+1):=by
 unfold laR;rw [if_neg (show ¬ j+1=0 by omega)];by_cases h0:j=0
 ·subst h0
  rw [if_pos rfl,if_pos rfl]
  cases lb with
  | nil=>simp at h
  | cons p lb=>rw [List.map_cons,El,List.map_map];rfl
 ·rw [if_neg h0,if_neg h0,List.drop_eq_getElem_cons h,List.map_cons,List.flatten_cons]
theorem NE (lb:List D) (j:Nat) (h:lb.length<=j):laR lb j=[]:=by
 unfold laR;split
 ·rename_i a
  have:lb=[]:=List.eq_nil_of_length_eq_zero (by omega);rw [this];rfl
 ·rw [List.drop_eq_nil_of_le h];rfl
theorem A4 (x y:ByteArray):(x++y).data.toList=x.data.toList++y.data.toList:=by simp
theorem Iv (lb:List D) (ao:Option Addr) (nn cap:Nat) (w:World) (hnn:nn=lb.length) (hc:LS 4 (ZP w) w (O ao nn cap) lb) (hn:nn<=4) (hp:∀ p∈lb,BW p=true/\(gL 3 p).length<=6):Ro 48 #[O ao nn cap] w (.string ⟨([123]++Ax [59,32] (lb.map poT)++[125]).toArray⟩):=by
 obtain ⟨f,r⟩:=nm ([123]++Ax [59,32] (lb.map poT));rw [<-r];have L:f.length<=1000:=by
  have l2:=BO [59,32] 100 (lb.map poT) fun y hy=>by
   obtain ⟨b,t,rfl⟩:=List.mem_map.1 hy;exact DZ (hp b t).1 (hp b t).2
  rw [List.length_map] at l2;have hm:lb.length*(100+2)<=4*(100+2):=Nat.mul_le_mul_right _ (by omega);rw [r];simp only [List.length_append,List.length_cons,List.length_nil] at l2 ⊢;omega
 have HF:=Aa r;have HC:=Aa hc;have av:=Aa hp;have HN:=Aa hnn;have P:=Aa L;clear r hc hp hnn L;go_enter Tryz.func48,Tryz.ntmps48;go_wp2_with fail;go_loopw [3,4] (fun s i wr=>∃ (j:Nat) (x:ByteArray),j<=nn/\i=A J j/\s=.string x/\x.data.toList++laR lb j=f/\Ov w wr) (fun _ i _=>nn - (intOf i).toNat)
 case atStart=>exact ⟨0,⟨#[123]⟩,Nat.zero_le _,rfl,rfl,by rw [HF.o];rfl,Below.refl _ _⟩
 case round=>
  obtain ⟨j,s,hj,rfl,rfl,v,M⟩:=hrel;by_cases hjl:j < nn
  ·have q:j < lb.length:=by have:=HN.o;omega
   have am:(j:Int) < (nn:Int):=by omega
   obtain ⟨b,E,rfl,cs,al,F,hr⟩:=HC.o.at q;have g:=av.o _ (List.getElem_mem q);rw [Mt lb j q] at v;generalize lb[j]=pj at hr g v;obtain ⟨a,o,Q,an,cn,G,rfl,rfl,ho,Z⟩:=hr;have B:=DZ g.1 g.2;rw [Ok] at v B;have Y:wr.cell? ⟨b,E+j*4,none⟩=_:=ce1 M (F 0 _ rfl);have W:=ce1 M (F 1 _ rfl);have V:=ce1 M (F 2 _ rfl);have N:=ce1 M (F 3 _ rfl);have ak:s.size<=1000:=by
    have:=congrArg List.length v;rw [List.length_append] at this;have e:s.data.toList.length=s.size:=rfl;have:=P.o;omega
   have a1:o.size<=100:=by
    have e:o.data.toList.length=o.size:=rfl;simp only [List.length_append] at B;omega
   have h2:=(Eh g.1).2;have h6:=g.2;simp only [gPp,List.length_map] at h2 h6;have K:∀ x∈G,x.size<=1000:=fun x hx=>by
    have:=Ck (h2 (dS x) (List.mem_map_of_mem hx));rw [Fc] at this;exact Nat.le_trans this (by decide)
   obtain ⟨T,hT⟩:=nm (⟨(Ax [44,32] (G.map (fun y=>y.data.toList))).toArray⟩:ByteArray);have H:Hx (∀ X,Ov w X->Ro 45 #[O an G.length cn] X (.string T)):=fun X hX=>by rw [hT];exact F4 G an G.length cn X rfl (BB hX Z) K (by omega)
   have ab:T.data.toList=Ax [44,32] (G.map (fun y=>y.data.toList)):=by rw [hT]
   rw [<-ab] at v B;have C:¬ G=[]->T.size<=100:=fun h0=>by
    rw [if_neg h0] at B;have e:T.data.toList.length=T.size:=rfl;simp only [List.length_append] at B;omega
   have aa:G=[] ↔ G.length=0:=by rw [List.length_eq_zero_iff]
   simp only [aa] at v C;generalize G.length=m at H N v C;have l:=Aa v;have u:=Aa M;clear F al M q v B g hT ab Z K h2 h6 ho aa;by_cases hj0:j=0
   ·subst hj0
    have af:wr.cell? ⟨b,E,none⟩=some (A J a):=by simpa using Y
    have ae:wr.cell? ⟨b,E+1,none⟩=some (.string o):=by simpa using W
    have ad:wr.cell? ⟨b,E+2,none⟩=some (zc Q):=by simpa using V
    have ac:wr.cell? ⟨b,E+3,none⟩=some (O an m cn):=by simpa using N
    clear Y W V N;have Y:=af;have W:=ae;have V:=ad;have N:=ac;clear af ae ad ac;rcases Bool.eq_false_or_eq_true Q with rfl | rfl
    ·by_cases hm0:m=0
     ·subst hm0
      have I:¬ 9223372036854775807 < s.size+o.size:=by omega
      have R:¬ 9223372036854775807 < s.size+o.size+1:=by omega
      have c:Hx ((s++o++⟨#[33]⟩:ByteArray).data.toList++laR lb (0+1)=f):=by
       show _=_;rw [<-l.o];simp only [A4];simp
      clear l;go_wp2_with fail;exact ⟨⟨1,_,by omega,by go_num,rfl,c.o,u.o⟩,by simp [intOf];omega⟩
     ·have S:(0:Int) < (m:Int):=by omega
      have U:=C hm0;have I:¬ 9223372036854775807 < s.size+o.size:=by omega
      have R:¬ 9223372036854775807 < s.size+o.size+1:=by omega
      have s8:¬ 9223372036854775807 < 1+T.size:=by omega
      have s9:¬ 9223372036854775807 < s.size+o.size+1+(1+T.size):=by omega
      have c:Hx ((s++o++⟨#[33]⟩++(⟨#[32]⟩++T):ByteArray).data.toList++laR lb (0+1)=f):=by
       show _=_;rw [<-l.o];simp only [A4,hm0];simp
      clear l;go_wp2_with fail;refine (H.o _ u.o).mono ?_;rintro e w1 ⟨rfl,t⟩;have n:=Aa (Ab u.o t);clear t H Y W V N;go_wp2_with fail;exact ⟨⟨1,_,by omega,by go_num,rfl,c.o,n.o⟩,by simp [intOf];omega⟩
    ·by_cases hm0:m=0
     ·subst hm0
      have I:¬ 9223372036854775807 < s.size+o.size:=by omega
      have R:¬ 9223372036854775807 < s.size+o.size+1:=by omega
      have c:Hx ((s++o++⟨#[58]⟩:ByteArray).data.toList++laR lb (0+1)=f):=by
       show _=_;rw [<-l.o];simp only [A4];simp
      clear l;go_wp2_with fail;exact ⟨⟨1,_,by omega,by go_num,rfl,c.o,u.o⟩,by simp [intOf];omega⟩
     ·have S:(0:Int) < (m:Int):=by omega
      have U:=C hm0;have I:¬ 9223372036854775807 < s.size+o.size:=by omega
      have R:¬ 9223372036854775807 < s.size+o.size+1:=by omega
      have s8:¬ 9223372036854775807 < 1+T.size:=by omega
      have s9:¬ 9223372036854775807 < s.size+o.size+1+(1+T.size):=by omega
      have c:Hx ((s++o++⟨#[58]⟩++(⟨#[32]⟩++T):ByteArray).data.toList++laR lb (0+1)=f):=by
       show _=_;rw [<-l.o];simp only [A4,hm0];simp
      clear l;go_wp2_with fail;refine (H.o _ u.o).mono ?_;rintro e w1 ⟨rfl,t⟩;have n:=Aa (Ab u.o t);clear t H Y W V N;go_wp2_with fail;exact ⟨⟨1,_,by omega,by go_num,rfl,c.o,n.o⟩,by simp [intOf];omega⟩
   ·have a3:(0:Int) < (j:Int):=by omega
    rcases Bool.eq_false_or_eq_true Q with rfl | rfl
    ·by_cases hm0:m=0
     ·subst hm0
      have I:¬ 9223372036854775807 < s.size+2:=by omega
      have R:¬ 9223372036854775807 < s.size+2+o.size:=by omega
      have s3:¬ 9223372036854775807 < s.size+2+o.size+1:=by omega
      have c:Hx ((s++⟨#[59,32]⟩++o++⟨#[33]⟩:ByteArray).data.toList++laR lb (j+1)=f):=by
       show _=_;rw [<-l.o];simp only [A4,hj0];simp
      clear l;go_wp2_with fail;exact ⟨⟨j+1,_,by omega,by go_num,rfl,c.o,u.o⟩,by simp [intOf];omega⟩
     ·have S:(0:Int) < (m:Int):=by omega
      have U:=C hm0;have I:¬ 9223372036854775807 < s.size+2:=by omega
      have R:¬ 9223372036854775807 < s.size+2+o.size:=by omega
      have s3:¬ 9223372036854775807 < s.size+2+o.size+1:=by omega
      have s8:¬ 9223372036854775807 < 1+T.size:=by omega
      have s9:¬ 9223372036854775807 < s.size+2+o.size+1+(1+T.size):=by omega
      have c:Hx ((s++⟨#[59,32]⟩++o++⟨#[33]⟩++(⟨#[32]⟩++T):ByteArray).data.toList++laR lb (j+1)=f):=by
       show _=_;rw [<-l.o];simp only [A4,hj0,hm0];simp
      clear l;go_wp2_with fail;refine (H.o _ u.o).mono ?_;rintro e w1 ⟨rfl,t⟩;have n:=Aa (Ab u.o t);clear t H Y W V N;go_wp2_with fail;exact ⟨⟨j+1,_,by omega,by go_num,rfl,c.o,n.o⟩,by simp [intOf];omega⟩
    ·by_cases hm0:m=0
     ·subst hm0
      have I:¬ 9223372036854775807 < s.size+2:=by omega
      have R:¬ 9223372036854775807 < s.size+2+o.size:=by omega
      have s3:¬ 9223372036854775807 < s.size+2+o.size+1:=by omega
      have c:Hx ((s++⟨#[59,32]⟩++o++⟨#[58]⟩:ByteArray).data.toList++laR lb (j+1)=f):=by
       show _=_;rw [<-l.o];simp only [A4,hj0];simp
      clear l;go_wp2_with fail;exact ⟨⟨j+1,_,by omega,by go_num,rfl,c.o,u.o⟩,by simp [intOf];omega⟩
     ·have S:(0:Int) < (m:Int):=by omega
      have U:=C hm0;have I:¬ 9223372036854775807 < s.size+2:=by omega
      have R:¬ 9223372036854775807 < s.size+2+o.size:=by omega
      have s3:¬ 9223372036854775807 < s.size+2+o.size+1:=by omega
      have s8:¬ 9223372036854775807 < 1+T.size:=by omega
      have s9:¬ 9223372036854775807 < s.size+2+o.size+1+(1+T.size):=by omega
      have c:Hx ((s++⟨#[59,32]⟩++o++⟨#[58]⟩++(⟨#[32]⟩++T):ByteArray).data.toList++laR lb (j+1)=f):=by
       show _=_;rw [<-l.o];simp only [A4,hj0,hm0];simp
      clear l;go_wp2_with fail;refine (H.o _ u.o).mono ?_;rintro e w1 ⟨rfl,t⟩;have n:=Aa (Ab u.o t);clear t H Y W V N;go_wp2_with fail;exact ⟨⟨j+1,_,by omega,by go_num,rfl,c.o,n.o⟩,by simp [intOf];omega⟩
  ·rw [NE lb j (by have:=HN.o;omega),List.append_nil] at v
   have ak:s.size<=1000:=by
    have:=congrArg List.length v;have e:s.data.toList.length=s.size:=rfl;have:=P.o;omega
   have am:¬ (j:Int) < (nn:Int):=by omega
   have I:¬ 9223372036854775807 < s.size+1:=by omega
   have HV:Hx ((⟨(f++[125]).toArray⟩:ByteArray)=s++⟨#[125]⟩):=by
    show _=_;rw [<-v];apply ByteArray.ext;apply Array.toList_inj.1;simp
   have u:=Aa M;clear v M;go_wp2_with fail;go_ret;exact ⟨by rw [HV.o];rfl,u.o⟩
end Go.Proofs.YtipngnjffjajpaaGreatDoor.Tx
