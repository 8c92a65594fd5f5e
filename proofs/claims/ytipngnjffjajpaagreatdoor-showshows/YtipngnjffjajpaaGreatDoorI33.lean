/- The document's answer: commands' text. -/
import Derived.Test.YtipngnjffjajpaaGreatDoorI32
import Derived.Test.YtipngnjffjajpaaGreatDoorI30
set_option linter.unusedVariables false
set_option maxHeartbeats 8000000
set_option maxRecDepth 100000
namespace Go.Proofs.YtipngnjffjajpaaGreatDoor.Tx
open Go.RowKit
open Go.Value renaming int -> A, slice -> O, bool -> zc, agg -> ze, pointer -> zf, tuple -> zh
open Go.IntKind renaming i64 -> J
open Go.Obj renaming cells -> zd
open Go.Ending renaming returned -> zg
theorem Df {k:Nat} {d:D} (h:efK k d=true):BX d=false:=by
 cases k with
 | zero=>cases h
 | succ k=>
  have:=(CU h).1;unfold BX;rw [decide_eq_false (show ¬ gI 0 d=0 by omega)];rfl
theorem Ol {w:World} {B n:Nat} {v:Value} {ys:List ByteArray} (h:w.ownsRow B 9 1 v n (ys.map Value.string)) (hn:n<=100) (hy:∀ y∈ys,y.size<=700):∃ ao cap,v=O ao n cap/\LS 1 ZN w (O ao n cap) ys:=by
 have x:n=ys.length:=by have:=h.1;simp at this;exact this.symm
 rcases h.2 with ⟨rfl,f⟩ | ⟨g,cap,r,rfl,H,A,l,t,E,b⟩
 ·subst f
  have:ys=[]:=List.eq_nil_of_length_eq_zero x.symm;subst this;exact ⟨none,0,rfl,LS.nil⟩
 ·refine ⟨_,cap,rfl,?_⟩
  rw [x] at l b ⊢;refine ⟨by unfold maxLen;omega,some ⟨g,0,none⟩,cap,rfl,fun F=>⟨g,0,rfl,Fz0.new A,fun i a q=>⟨[.string a],rfl,fun j u c=>?_,rfl,?_⟩⟩⟩
  ·match j,c with
   | 0,c=>
    simp only [List.getElem?_cons_zero,Option.some.injEq] at c;have G:i < ys.length:=(List.getElem?_eq_some_iff.1 q).1;rw [<-c,show 0+i*1+0=i by omega,Lib.cell_of_heap A];have C:(r.toList.take (ys.length*1))[i]? = (ys.map Value.string)[i]?:=congrArg (fun z:List Value=>z[i]?) b;rw [Nat.mul_one,List.getElem?_take,if_pos G,Array.getElem?_toList,List.getElem?_map,q] at C;exact C
   | j+1,c=>simp at c
  ·have:=hy a (List.mem_of_getElem? q)
   unfold maxLen;omega
theorem FH (ke k g dn nn:Nat) (l:List D) (inb:ByteArray) (ao:Option Addr) (cap:Nat) (w:World) (hnn:nn=l.length) (hc:LS 12 (ZC w ke (k+1)) w (O ao nn cap) l) (hf:∀ s∈l,sfK ke (k+1) s=true/\gdC ke (g+1) s) (hin:inb.data.toList=inT dn) (hdn:dn<=10) (hl:(AJ ke (k+1) dn l).length<=1000000)
  (IH:Hx (∀ (ds:List D) (ao:Option Addr) (c:Nat) (X:World),LS 12 (ZC X ke k) X (O ao ds.length c) ds->(∀ s∈ds,sfK ke k s=true/\gdC ke g s)->(AJ ke k (dn+1) ds).length<=1000000->Ro 46 #[O ao ds.length c,.string (inb++⟨#[32,32]⟩)] X (.string ⟨(AJ ke k (dn+1) ds).toArray⟩))) :
  Ro 46 #[O ao nn cap,.string inb] w (.string ⟨(AJ ke (k+1) dn l).toArray⟩):=by
 obtain ⟨a5,b9⟩:=nm (AJ ke (k+1) dn l);rw [<-b9] at hl ⊢;have HF:=Aa b9;have HC:=Aa hc;have fc:=Aa hf;have HN:=Aa hnn;have bj:=Aa hin;have ek:=Aa hl;have gh:inb.size<=20:=by
  have:=congrArg List.length hin;rw [EM] at this;have e:inb.data.toList.length=inb.size:=rfl;omega
 have fa:=hc.max;rw [<-hnn] at fa;clear b9 hc hf hnn hin hl;go_enter Tryz.func46,Tryz.ntmps46;go_wp2_with fail;go_loopw [5,6] (fun s i wr=>∃ (j:Nat) (x:ByteArray),j<=nn/\i=A J j/\s=.string x/\x.data.toList++((l.drop j).map (cmT ke (k+1) dn)).flatten=a5/\Ov w wr) (fun _ i _=>nn - (intOf i).toNat)
 case atStart=>exact ⟨0,⟨#[]⟩,Nat.zero_le _,rfl,rfl,by rw [HF.o];rfl,Below.refl _ _⟩
 case round=>
  obtain ⟨j,s,hj,rfl,rfl,t,hB⟩:=hrel;by_cases hjl:j < nn
  ·have bt:j < l.length:=by have:=HN.o;omega
   have e4:(j:Int) < (nn:Int):=by omega
   obtain ⟨b,es,rfl,cs,ey,a4,hr⟩:=HC.o.at bt;obtain ⟨bd,dr⟩:=fc.o _ (List.getElem_mem bt);rw [List.drop_eq_getElem_cons bt,List.map_cons,List.flatten_cons] at t;generalize l[j]=dj at hr t bd dr;obtain ⟨kd,a,x,y,S,R,Q,P,q,N,M,ed,aA,cA,B,aT,cT,th,aE,cE,el,rfl,rfl,-,-,he,hA,hT,hE⟩:=hr;obtain ⟨p1,p2,p3,p4,p5,p6,p7⟩:=Db bd;obtain ⟨g1,g2,g3⟩:=dr;simp only [Cm,Bool.or_eq_false_iff,decide_eq_false_iff_not] at g1;obtain ⟨⟨g4,gE⟩,gA⟩:=g1;have be:∀ c∈B,B4 ke c=false:=fun c hc=>by
    have:=List.any_eq_false.1 gA c hc;simpa using this
   simp only [gSs] at p1 p2 p3 p4 p5 p6 p7 g2 g3 g4 gE;have hx:x.size<=12:=Dm p2;have hy:y.size<=12:=Dm p3;have et:s.size<=1000000/\(cmT ke (k+1) dn (stD kd a x y ed B th el)).length<=1000000:=by
    have:=congrArg List.length t;simp only [List.length_append] at this;have e:s.data.toList.length=s.size:=rfl;have:=ek.o;omega
   obtain ⟨gf,r⟩:=et;have d0:wr.cell? ⟨b,es+j*12,none⟩=_:=ce1 hB (a4 0 _ rfl);have d1:=ce1 hB (a4 1 _ rfl);have d2:=ce1 hB (a4 2 _ rfl);have d3:=ce1 hB (a4 3 _ rfl);have d4:=ce1 hB (a4 4 _ rfl);have d5:=ce1 hB (a4 5 _ rfl);have d6:=ce1 hB (a4 6 _ rfl);have d7:=ce1 hB (a4 7 _ rfl);have d8:=ce1 hB (a4 8 _ rfl);have d9:=ce1 hB (a4 9 _ rfl);have au:=ce1 hB (a4 10 _ rfl);have ar:=ce1 hB (a4 11 _ rfl);have ex:=nm wr;obtain ⟨f8,fk⟩:=ex;have ax:∀ X,Ov wr X->Ro 78 #[ze #[A J S,A J R,A J Q,.string P,O q N M]] X (zc (BX ed)):=fun X hX=>Bw ke _ ed X ((he.over hB).over hX);have a3:efK ke ed=true->∀ X,Ov wr X->Ro 47 #[ze #[A J S,A J R,A J Q,.string P,O q N M]] X (.string ⟨(exT ke ed).toArray⟩):=fun hf X hX=>CY ke _ ed X ((he.over hB).over hX) hf (Nat.le_trans (AV hf gE) (by decide));have bc:∀ (ao:Option Addr) (c:Nat) (ds:List D),LS 12 (ZC w ke k) w (O ao ds.length c) ds->(∀ s∈ds,sfK ke k s=true)->(∀ s∈ds,gdC ke g s)->(AJ ke k (dn+1) ds).length<=1000000->∀ X,Ov wr X->Ro 46 #[O ao ds.length c,.string (inb++⟨#[32,32]⟩)] X (.string ⟨(AJ ke k (dn+1) ds).toArray⟩):=fun ao c ds h1 h2 h3 h4 X hX=>IH.o ds ao c X (Ao hX (Ao hB h1)) (fun s hs=>⟨h2 s hs,h3 s hs⟩) h4;have HB:=Aa hB;clear a4 ey hB bt hj;rcases D6 p1 with rfl | rfl | rfl | rfl | rfl | rfl | rfl | rfl
   ·have KN:Hx (∀ X,Ov wr X->Ro 78 #[ze #[A J S,A J R,A J Q,.string P,O q N M]] X (zc false)):=fun X hX=>by have:=ax X hX;rw [Df p4] at this;exact this
    obtain ⟨E,H⟩:=nm (⟨(exT ke ed).toArray⟩:ByteArray);have KE:Hx (∀ X,Ov wr X->Ro 47 #[ze #[A J S,A J R,A J Q,.string P,O q N M]] X (.string E)):=fun X hX=>by rw [H];exact a3 p4 X hX
    have cc:E.size<=300:=by rw [H,AW];exact AV p4 gE
    have am:exT ke ed=E.data.toList:=by rw [H]
    unfold cmT at t r;simp only [gSs] at t r;rw [if_pos trivial] at t r;rw [am] at t;generalize B.length=nA at d9;generalize th.length=nT at au;generalize el.length=nE at ar;have HZ:=Aa t;clear t r ax a3 bc gA be p1 p2 p3 p4 p5 p6 p7 g2 g3 gE bd;clear H am;obtain ⟨U,hU⟩:=nm (wr.alloc (zd #[A J 1,A J a,.string x,.string y,A J S,A J R,A J Q,.string P,O q N M,O aA nA cA,O aT nT cT,O aE nE cE] 55));obtain ⟨bq,C⟩:=nm wr.heap.size;have G:Hx (Ov wr U):=by show Ov _ _;rw [hU];exact bA _ _
    have Y:Hx (Ac [A J 1,A J a,.string x,.string y,A J S,A J R,A J Q,.string P,O q N M,O aA nA cA,O aT nT cT,O aE nE cE] U bq):=by show Ac _ _ _;rw [hU,C];exact Ai wr [A J 1,A J a,.string x,.string y,A J S,A J R,A J Q,.string P,O q N M,O aA nA cA,O aT nT cT,O aE nE cE] 55
    obtain ⟨m0,m1,m2,m3,m4,m5,m6,m7,m8,Z,n,f⟩:=An (Ai wr [A J 1,A J a,.string x,.string y,A J S,A J R,A J Q,.string P,O q N M,O aA nA cA,O aT nT cT,O aE nE cE] 55);go_wp2_with fail;rw [<-hU,<-C];clear hU C m0 m1 m2 m3 m4 m5 m6 m7 m8 Z n f d0 d1 d2 d3 d4 d5 d6 d7 d8 d9 au ar;refine (KN.o _ G.o).mono ?_;rintro e w1 ⟨rfl,F⟩;have L:=Aa (Ab G.o F);have I:=Aa (Ac.over Y.o F);obtain ⟨m0,m1,m2,m3,m4,m5,m6,m7,m8,Z,n,f⟩:=An I.o;clear F KN G Y;go_wp2_with fail;refine (KE.o _ L.o).mono ?_;rintro e w2 ⟨rfl,V⟩;have a1:=Aa (Ab L.o V);have a0:=Aa (Ac.over I.o V);clear m0 m1 m2 m3 m4 m5 m6 m7 m8 Z n f;obtain ⟨m0,m1,m2,m3,m4,m5,m6,m7,m8,Z,n,f⟩:=An a0.o;clear V KE L I;have s1:¬ 9223372036854775807 < inb.size+x.size:=by omega
    have s2:¬ 9223372036854775807 < inb.size+x.size+3:=by omega
    have s3:¬ 9223372036854775807 < inb.size+x.size+3+E.size:=by omega
    have s4:¬ 9223372036854775807 < inb.size+x.size+3+E.size+2:=by omega
    have s9:¬ 9223372036854775807 < s.size+(inb.size+x.size+3+E.size+2):=by omega
    have an:Hx ((s++(inb++x++⟨#[32,61,32]⟩++E++⟨#[59,10]⟩):ByteArray).data.toList++((l.drop (j+1)).map (cmT ke (k+1) dn)).flatten=a5):=by
     show _=_;rw [<-HZ.o];simp only [A4,bj.o];simp
    clear HZ;go_wp2_with fail;exact ⟨⟨j+1,_,by omega,by go_num,rfl,an.o,Ab HB.o a1.o⟩,by simp [intOf];omega⟩
   ·have KN:Hx (∀ X,Ov wr X->Ro 78 #[ze #[A J S,A J R,A J Q,.string P,O q N M]] X (zc true)):=fun X hX=>by have:=ax X hX;rw [show BX ed=true from p4] at this;exact this
    unfold cmT at t r;simp only [gSs] at t r;rw [if_neg (by decide),if_pos trivial] at t r;obtain ⟨T,cb⟩:=nm (⟨(Ax [44,32] (B.map (exT ke))).toArray⟩:ByteArray);have bk:Ax [44,32] (B.map (exT ke))=T.data.toList:=by rw [cb]
    rw [bk] at t r;have dz:T.size<=1000000:=by
     have e:T.data.toList.length=T.size:=rfl;simp only [List.length_append] at r;omega
    replace cb:T=⟨(Ax [44,32] (B.map ((fun y:ByteArray=>y.data.toList) ∘ fun d=>(⟨(exT ke d).toArray⟩:ByteArray)))).toArray⟩:=by
     rw [cb];congr 3
    have ea:∀ d∈B,(⟨(exT ke d).toArray⟩:ByteArray).size<=700:=fun d hd=>by rw [AW];exact Nat.le_trans (AV (B6 p5 d hd) (be d hd)) (by decide)
    have HA:=Aa hA;have fb:Hx (∀ d∈B,∀ cs X,Ov wr X->ZE w ke cs d->Ro 47 #[.agg cs.toArray] X (.string ⟨(exT ke d).toArray⟩)):=fun d hd cs X hX t=>CY ke cs d X (t.over (Ab HB.o hX)) (B6 p5 d hd) (Nat.le_trans (AV (B6 p5 d hd) (be d hd)) (by decide));obtain ⟨nA,db⟩:=nm B.length;rw [<-db] at d9 HA g4;have dh:=Aa db;clear db;generalize th.length=nT at au;generalize el.length=nE at ar;have HZ:=Aa t;clear t r ax a3 bc gA be p1 p2 p3 p4 p5 p6 p7 g2 g3 gE bd;clear bk;obtain ⟨U,hU⟩:=nm (wr.alloc (zd #[A J 2,A J a,.string x,.string y,A J S,A J R,A J Q,.string P,O q N M,O aA nA cA,O aT nT cT,O aE nE cE] 55));obtain ⟨bq,C⟩:=nm wr.heap.size;have G:Hx (Ov wr U):=by show Ov _ _;rw [hU];exact bA _ _
    have Y:Hx (Ac [A J 2,A J a,.string x,.string y,A J S,A J R,A J Q,.string P,O q N M,O aA nA cA,O aT nT cT,O aE nE cE] U bq):=by show Ac _ _ _;rw [hU,C];exact Ai wr [A J 2,A J a,.string x,.string y,A J S,A J R,A J Q,.string P,O q N M,O aA nA cA,O aT nT cT,O aE nE cE] 55
    obtain ⟨m0,m1,m2,m3,m4,m5,m6,m7,m8,Z,n,f⟩:=An (Ai wr [A J 2,A J a,.string x,.string y,A J S,A J R,A J Q,.string P,O q N M,O aA nA cA,O aT nT cT,O aE nE cE] 55);go_wp2_with fail;rw [<-hU,<-C];clear hU C m0 m1 m2 m3 m4 m5 m6 m7 m8 Z n f d0 d1 d2 d3 d4 d5 d6 d7 d8 d9 au ar;refine (KN.o _ G.o).mono ?_;rintro e w1 ⟨rfl,F⟩;have L:=Aa (Ab G.o F);have I:=Aa (Ac.over Y.o F);obtain ⟨m0,m1,m2,m3,m4,m5,m6,m7,m8,Z,n,f⟩:=An I.o;clear F KN G Y;obtain ⟨i0,hi,ew,ev,eu⟩:=info_parts N7;have en:=Aa ea;have e7:=Aa cb;clear ea cb;go_wp2_with fail;clear m0 m1 m2 m3 m4 m5 m6 m7 m8 Z n f;have Z:=I.o 9 _ rfl;go_loopw [9,10] (fun v i wi=>∃ (c:Nat) (ys:List ByteArray),c<=nA/\i=A J c/\ys=(B.take c).map (fun d=>(⟨(exT ke d).toArray⟩:ByteArray))/\Hx (wi.ownsRow w1.heap.size 9 1 v c (ys.map Value.string))/\Hx (Ov w1 wi)) (fun _ i _=>nA - (intOf i).toNat)
    case atStart=>exact ⟨0,[],Nat.zero_le _,rfl,rfl,by show World.ownsRow _ _ _ _ _ _ _;exact World.ownsRow_nil _ _ _ _,by show Ov _ _;exact Below.refl _ _⟩
    case round=>
     obtain ⟨c,ys,gj,rfl,b4,cq,cf⟩:=hrel;have n9:=ce1 cf.o Z;have e9:Hx (ys.length=c):=by show _=_;rw [b4,List.length_map,List.length_take];have:=dh.o;omega
     by_cases r:c < nA
     ·have bu:c < B.length:=by have:=dh.o;omega
      have e5:(c:Int) < (nA:Int):=by omega
      obtain ⟨b3,dm,rfl,ec,ez,bf,cm⟩:=HA.o.at bu;have ck:ys++[(⟨(exT ke B[c]).toArray⟩:ByteArray)]=(B.take (c+1)).map (fun d=>(⟨(exT ke d).toArray⟩:ByteArray)):=by rw [Cx B c bu,List.map_append,<-b4];rfl
      have b7:=List.getElem_mem bu;generalize B[c]=ac at cm ck b7;obtain ⟨y,hy⟩:=nm (⟨(exT ke ac).toArray⟩:ByteArray);rw [<-hy] at ck;have bl:=Ab L.o cf.o;have KC:Hx (∀ X,Ov wr X->Ro 47 #[.agg ec.toArray] X (.string y)):=fun X hX=>by rw [hy];exact fb.o ac b7 ec X (Ab bl hX) cm
      obtain ⟨f0,f1,f2,f3,f4,f5,f6,rfl⟩:=cm.cells;have z0:wr.cell? ⟨b3,dm+c*5,none⟩=_:=ce1 (Ab HB.o bl) (bf 0 _ rfl);have z1:=ce1 (Ab HB.o bl) (bf 1 _ rfl);have z2:=ce1 (Ab HB.o bl) (bf 2 _ rfl);have z3:=ce1 (Ab HB.o bl) (bf 3 _ rfl);have z4:=ce1 (Ab HB.o bl) (bf 4 _ rfl);have e6:=Aa ck;have e8:=Aa bl;clear bf ez cm ck b7 bl bu hy b4;obtain ⟨va,vc,rfl⟩:=AO cq.o;go_wp2_with fail;refine (KC.o _ (Below.refl _ _)).mono ?_;rintro e w5 ⟨rfl,dc⟩;have b6:=Iq cq.o dc;have ce:=Aa (Ab cf.o dc);have dp:=ce.o.size;clear dc KC z0 z1 z2 z3 z4 n9 e8;go_wp2_with (at_builtin;refine wpList_append_own _ rfl _ _ 46 rfl w1.heap.size 9 i0 (.string ⟨#[]⟩) 1 16 Tryz.underlying46 hi ew ev eu rfl (by decide) _ _ _ rfl (b6.alloc _) ⟨w5.heap.size,0,none⟩ 1 1 [.string y] rfl rfl ?c1 ?c2 ?c3 ?c4 ?c5 ?_)
      case c1=>
       intro j u hj
       match j,hj with
       | 0,hj=>simp at hj;subst hj;simp [Addr.add]
      case c2=>intro u hu;simp at hu;subst hu;rfl
      case c3=>unfold maxLen;omega
      case c4=>omega
      case c5=>simp;omega
      ·intro v6 w6 b5 b8 _
       have ei:Hx (w6.ownsRow w1.heap.size 9 1 v6 (c+1) ((ys++[y]).map Value.string)):=by show World.ownsRow _ _ _ _ _ _ _;simpa using b5
       have ej:Hx (Ov w1 w6):=ce.o.trans ((Below.refl w1.heap.size w5).alloc dp _ |>.grown b8 (by simp;omega) (fun k hk=>(b6.lt k hk).1));clear b6 b5 b8 dp ce;go_wp2_with fail;exact ⟨⟨c+1,ys++[y],by omega,by go_num,e6.o,ei,ej⟩,by simp [intOf];omega⟩
     ·have e5:¬ (c:Int) < (nA:Int):=by omega
      have cl:ys=B.map (fun d=>(⟨(exT ke d).toArray⟩:ByteArray)):=by rw [b4,List.take_of_length_le (by have:=dh.o;omega)]
      obtain ⟨va,vc,rfl,dq⟩:=Ol cq.o (by omega) (fun z t=>by rw [cl] at t;obtain ⟨d,hd,rfl⟩:=List.mem_map.1 t;exact en.o d hd);have dv:c=ys.length:=e9.o.symm;have KC:Hx (∀ X,Ov wr X->Ro 45 #[O va c vc] X (.string T)):=fun X hX=>by
       have ef:=F4 ys va c vc X dv (BB hX dq) (fun z t=>by rw [cl] at t;obtain ⟨d,hd,rfl⟩:=List.mem_map.1 t;exact Nat.le_trans (en.o d hd) (by decide)) (by omega);rw [e7.o];rw [cl,List.map_map] at ef;exact ef
      have n1:=I.o.over cf.o;obtain ⟨m0,m1,m2,m3,m4,m5,m6,m7,m8,Z,n,f⟩:=An n1;have fd:=Aa (Ab HB.o (Ab L.o cf.o));clear dq cl b4 n1 n9 dv cq;have s1:¬ 9223372036854775807 < inb.size+x.size:=by omega
      have s2:¬ 9223372036854775807 < inb.size+x.size+3:=by omega
      have s3:¬ 9223372036854775807 < inb.size+x.size+3+y.size:=by omega
      have s4:¬ 9223372036854775807 < inb.size+x.size+3+y.size+1:=by omega
      have s5:¬ 9223372036854775807 < inb.size+x.size+3+y.size+1+T.size:=by omega
      have s6:¬ 9223372036854775807 < inb.size+x.size+3+y.size+1+T.size+3:=by omega
      have s9:¬ 9223372036854775807 < s.size+(inb.size+x.size+3+y.size+1+T.size+3):=by omega
      have an:Hx ((s++(inb++x++⟨#[32,61,32]⟩++y++⟨#[40]⟩++T++⟨#[41,59,10]⟩):ByteArray).data.toList++((l.drop (j+1)).map (cmT ke (k+1) dn)).flatten=a5):=by
       show _=_;rw [<-HZ.o];simp only [A4,bj.o];simp
      clear HZ;go_wp2_with fail;refine Go.Proofs.YtipngnjffjajpaaGreatDoor.gS (fun Wz=>Below wr.heap.size wr Wz) (Below.refl _ _).drew fun ba=>?_;generalize wr.drew=W at ba ⊢;refine kO 0 ?_;refine kO 1 ?_;refine kO 2 ?_;refine kO 3 ?_;refine kO 4 ?_;refine kO 5 ?_;refine kO 6 ?_;refine kO 7 ?_;refine kO 8 ?_;refine kO 9 ?_;refine kO 10 ?_;refine rdA 11 rfl fun K hK=>?_;go_simp;refine (KC.o _ ba).mono ?_;rintro e w7 ⟨rfl,dw⟩;have em:=Aa (Ab ba dw);clear dw KC ba;go_simp;refine xK hK em.o fun ba=>?_;clear hK K;refine kO 12 ?_;refine kO 13 ?_;refine kO 14 ?_;refine kO 15 ?_;refine gE ?_;go_wp2_with fail;exact ⟨⟨j+1,_,by omega,by go_num,rfl,an.o,Ab fd.o em.o⟩,by simp [intOf];omega⟩
   ·have KN:Hx (∀ X,Ov wr X->Ro 78 #[ze #[A J S,A J R,A J Q,.string P,O q N M]] X (zc true)):=fun X hX=>by have:=ax X hX;rw [show BX ed=true from p4] at this;exact this
    unfold cmT at t r;simp only [gSs] at t r;rw [if_neg (by decide),if_neg (by decide),if_pos trivial] at t r;generalize B.length=nA at d9;generalize th.length=nT at au;generalize el.length=nE at ar;have HZ:=Aa t;clear t r ax a3 bc gA be p1 p2 p3 p4 p5 p6 p7 g2 g3 gE bd;obtain ⟨U,hU⟩:=nm (wr.alloc (zd #[A J 3,A J a,.string x,.string y,A J S,A J R,A J Q,.string P,O q N M,O aA nA cA,O aT nT cT,O aE nE cE] 55));obtain ⟨bq,C⟩:=nm wr.heap.size;have G:Hx (Ov wr U):=by show Ov _ _;rw [hU];exact bA _ _
    have Y:Hx (Ac [A J 3,A J a,.string x,.string y,A J S,A J R,A J Q,.string P,O q N M,O aA nA cA,O aT nT cT,O aE nE cE] U bq):=by show Ac _ _ _;rw [hU,C];exact Ai wr [A J 3,A J a,.string x,.string y,A J S,A J R,A J Q,.string P,O q N M,O aA nA cA,O aT nT cT,O aE nE cE] 55
    obtain ⟨m0,m1,m2,m3,m4,m5,m6,m7,m8,Z,n,f⟩:=An (Ai wr [A J 3,A J a,.string x,.string y,A J S,A J R,A J Q,.string P,O q N M,O aA nA cA,O aT nT cT,O aE nE cE] 55);go_wp2_with fail;rw [<-hU,<-C];clear hU C m0 m1 m2 m3 m4 m5 m6 m7 m8 Z n f d0 d1 d2 d3 d4 d5 d6 d7 d8 d9 au ar;refine (KN.o _ G.o).mono ?_;rintro e w1 ⟨rfl,F⟩;have L:=Aa (Ab G.o F);have I:=Aa (Ac.over Y.o F);obtain ⟨m0,m1,m2,m3,m4,m5,m6,m7,m8,Z,n,f⟩:=An I.o;clear F KN G Y;have s1:¬ 9223372036854775807 < inb.size+4:=by omega
    have s2:¬ 9223372036854775807 < inb.size+4+x.size:=by omega
    have s3:¬ 9223372036854775807 < inb.size+4+x.size+1:=by omega
    have s4:¬ 9223372036854775807 < inb.size+4+x.size+1+y.size:=by omega
    have s5:¬ 9223372036854775807 < inb.size+4+x.size+1+y.size+2:=by omega
    have s9:¬ 9223372036854775807 < s.size+(inb.size+4+x.size+1+y.size+2):=by omega
    have an:Hx ((s++(inb++⟨#[103,101,116,32]⟩++x++⟨#[32]⟩++y++⟨#[59,10]⟩):ByteArray).data.toList++((l.drop (j+1)).map (cmT ke (k+1) dn)).flatten=a5):=by
     show _=_;rw [<-HZ.o];simp only [A4,bj.o];simp
    clear HZ;go_wp2_with fail;exact ⟨⟨j+1,_,by omega,by go_num,rfl,an.o,Ab HB.o L.o⟩,by simp [intOf];omega⟩
   ·have KN:Hx (∀ X,Ov wr X->Ro 78 #[ze #[A J S,A J R,A J Q,.string P,O q N M]] X (zc false)):=fun X hX=>by have:=ax X hX;rw [Df p4] at this;exact this
    obtain ⟨E,H⟩:=nm (⟨(exT ke ed).toArray⟩:ByteArray);have KE:Hx (∀ X,Ov wr X->Ro 47 #[ze #[A J S,A J R,A J Q,.string P,O q N M]] X (.string E)):=fun X hX=>by rw [H];exact a3 p4 X hX
    have cc:E.size<=300:=by rw [H,AW];exact AV p4 gE
    have am:exT ke ed=E.data.toList:=by rw [H]
    unfold cmT at t r;simp only [gSs] at t r;rw [if_neg (by decide),if_neg (by decide),if_neg (by decide),if_pos trivial] at t r;rw [am] at t;generalize B.length=nA at d9;generalize th.length=nT at au;generalize el.length=nE at ar;have HZ:=Aa t;clear t r ax a3 bc gA be p1 p2 p3 p4 p5 p6 p7 g2 g3 gE bd;clear H am;obtain ⟨U,hU⟩:=nm (wr.alloc (zd #[A J 4,A J a,.string x,.string y,A J S,A J R,A J Q,.string P,O q N M,O aA nA cA,O aT nT cT,O aE nE cE] 55));obtain ⟨bq,C⟩:=nm wr.heap.size;have G:Hx (Ov wr U):=by show Ov _ _;rw [hU];exact bA _ _
    have Y:Hx (Ac [A J 4,A J a,.string x,.string y,A J S,A J R,A J Q,.string P,O q N M,O aA nA cA,O aT nT cT,O aE nE cE] U bq):=by show Ac _ _ _;rw [hU,C];exact Ai wr [A J 4,A J a,.string x,.string y,A J S,A J R,A J Q,.string P,O q N M,O aA nA cA,O aT nT cT,O aE nE cE] 55
    obtain ⟨m0,m1,m2,m3,m4,m5,m6,m7,m8,Z,n,f⟩:=An (Ai wr [A J 4,A J a,.string x,.string y,A J S,A J R,A J Q,.string P,O q N M,O aA nA cA,O aT nT cT,O aE nE cE] 55);go_wp2_with fail;rw [<-hU,<-C];clear hU C m0 m1 m2 m3 m4 m5 m6 m7 m8 Z n f d0 d1 d2 d3 d4 d5 d6 d7 d8 d9 au ar;refine (KN.o _ G.o).mono ?_;rintro e w1 ⟨rfl,F⟩;have L:=Aa (Ab G.o F);have I:=Aa (Ac.over Y.o F);obtain ⟨m0,m1,m2,m3,m4,m5,m6,m7,m8,Z,n,f⟩:=An I.o;clear F KN G Y;go_wp2_with fail;refine (KE.o _ L.o).mono ?_;rintro e w2 ⟨rfl,V⟩;have a1:=Aa (Ab L.o V);have a0:=Aa (Ac.over I.o V);clear m0 m1 m2 m3 m4 m5 m6 m7 m8 Z n f;obtain ⟨m0,m1,m2,m3,m4,m5,m6,m7,m8,Z,n,f⟩:=An a0.o;clear V KE L I;have s1:¬ 9223372036854775807 < inb.size+4:=by omega
    have s2:¬ 9223372036854775807 < inb.size+4+y.size:=by omega
    have s3:¬ 9223372036854775807 < inb.size+4+y.size+1:=by omega
    have s4:¬ 9223372036854775807 < inb.size+4+y.size+1+E.size:=by omega
    have s5:¬ 9223372036854775807 < inb.size+4+y.size+1+E.size+2:=by omega
    have s9:¬ 9223372036854775807 < s.size+(inb.size+4+y.size+1+E.size+2):=by omega
    have an:Hx ((s++(inb++⟨#[112,117,116,32]⟩++y++⟨#[32]⟩++E++⟨#[59,10]⟩):ByteArray).data.toList++((l.drop (j+1)).map (cmT ke (k+1) dn)).flatten=a5):=by
     show _=_;rw [<-HZ.o];simp only [A4,bj.o];simp
    clear HZ;go_wp2_with fail;exact ⟨⟨j+1,_,by omega,by go_num,rfl,an.o,Ab HB.o a1.o⟩,by simp [intOf];omega⟩
   ·have KN:Hx (∀ X,Ov wr X->Ro 78 #[ze #[A J S,A J R,A J Q,.string P,O q N M]] X (zc false)):=fun X hX=>by have:=ax X hX;rw [Df p4] at this;exact this
    obtain ⟨E,H⟩:=nm (⟨(exT ke ed).toArray⟩:ByteArray);have KE:Hx (∀ X,Ov wr X->Ro 47 #[ze #[A J S,A J R,A J Q,.string P,O q N M]] X (.string E)):=fun X hX=>by rw [H];exact a3 p4 X hX
    have cc:E.size<=300:=by rw [H,AW];exact AV p4 gE
    have am:exT ke ed=E.data.toList:=by rw [H]
    unfold cmT at t r;simp only [gSs] at t r;rw [if_neg (by decide),if_neg (by decide),if_neg (by decide),if_neg (by decide),if_pos trivial] at t r;rw [am] at t;generalize B.length=nA at d9;generalize th.length=nT at au;generalize el.length=nE at ar;have HZ:=Aa t;clear t r ax a3 bc gA be p1 p2 p3 p4 p5 p6 p7 g2 g3 gE bd;clear H am;obtain ⟨U,hU⟩:=nm (wr.alloc (zd #[A J 5,A J a,.string x,.string y,A J S,A J R,A J Q,.string P,O q N M,O aA nA cA,O aT nT cT,O aE nE cE] 55));obtain ⟨bq,C⟩:=nm wr.heap.size;have G:Hx (Ov wr U):=by show Ov _ _;rw [hU];exact bA _ _
    have Y:Hx (Ac [A J 5,A J a,.string x,.string y,A J S,A J R,A J Q,.string P,O q N M,O aA nA cA,O aT nT cT,O aE nE cE] U bq):=by show Ac _ _ _;rw [hU,C];exact Ai wr [A J 5,A J a,.string x,.string y,A J S,A J R,A J Q,.string P,O q N M,O aA nA cA,O aT nT cT,O aE nE cE] 55
    obtain ⟨m0,m1,m2,m3,m4,m5,m6,m7,m8,Z,n,f⟩:=An (Ai wr [A J 5,A J a,.string x,.string y,A J S,A J R,A J Q,.string P,O q N M,O aA nA cA,O aT nT cT,O aE nE cE] 55);go_wp2_with fail;rw [<-hU,<-C];clear hU C m0 m1 m2 m3 m4 m5 m6 m7 m8 Z n f d0 d1 d2 d3 d4 d5 d6 d7 d8 d9 au ar;refine (KN.o _ G.o).mono ?_;rintro e w1 ⟨rfl,F⟩;have L:=Aa (Ab G.o F);have I:=Aa (Ac.over Y.o F);obtain ⟨m0,m1,m2,m3,m4,m5,m6,m7,m8,Z,n,f⟩:=An I.o;clear F KN G Y;go_wp2_with fail;refine (KE.o _ L.o).mono ?_;rintro e w2 ⟨rfl,V⟩;have a1:=Aa (Ab L.o V);have a0:=Aa (Ac.over I.o V);clear m0 m1 m2 m3 m4 m5 m6 m7 m8 Z n f;obtain ⟨m0,m1,m2,m3,m4,m5,m6,m7,m8,Z,n,f⟩:=An a0.o;clear V KE L I;have s1:¬ 9223372036854775807 < inb.size+7:=by omega
    have s2:¬ 9223372036854775807 < inb.size+7+x.size:=by omega
    have s3:¬ 9223372036854775807 < inb.size+7+x.size+1:=by omega
    have s4:¬ 9223372036854775807 < inb.size+7+x.size+1+E.size:=by omega
    have s5:¬ 9223372036854775807 < inb.size+7+x.size+1+E.size+2:=by omega
    have s9:¬ 9223372036854775807 < s.size+(inb.size+7+x.size+1+E.size+2):=by omega
    have an:Hx ((s++(inb++⟨#[114,101,118,101,97,108,32]⟩++x++⟨#[32]⟩++E++⟨#[59,10]⟩):ByteArray).data.toList++((l.drop (j+1)).map (cmT ke (k+1) dn)).flatten=a5):=by
     show _=_;rw [<-HZ.o];simp only [A4,bj.o];simp
    clear HZ;go_wp2_with fail;exact ⟨⟨j+1,_,by omega,by go_num,rfl,an.o,Ab HB.o a1.o⟩,by simp [intOf];omega⟩
   ·have KN:Hx (∀ X,Ov wr X->Ro 78 #[ze #[A J S,A J R,A J Q,.string P,O q N M]] X (zc false)):=fun X hX=>by have:=ax X hX;rw [Df p4] at this;exact this
    obtain ⟨E,H⟩:=nm (⟨(exT ke ed).toArray⟩:ByteArray);have KE:Hx (∀ X,Ov wr X->Ro 47 #[ze #[A J S,A J R,A J Q,.string P,O q N M]] X (.string E)):=fun X hX=>by rw [H];exact a3 p4 X hX
    have cc:E.size<=300:=by rw [H,AW];exact AV p4 gE
    have am:exT ke ed=E.data.toList:=by rw [H]
    unfold cmT at t r;simp only [gSs] at t r;rw [if_neg (by decide),if_neg (by decide),if_neg (by decide),if_neg (by decide),if_neg (by decide),if_pos trivial] at t r;rw [am] at t;generalize B.length=nA at d9;generalize th.length=nT at au;generalize el.length=nE at ar;have HZ:=Aa t;clear t r ax a3 bc gA be p1 p2 p3 p4 p5 p6 p7 g2 g3 gE bd;clear H am;obtain ⟨U,hU⟩:=nm (wr.alloc (zd #[A J 6,A J a,.string x,.string y,A J S,A J R,A J Q,.string P,O q N M,O aA nA cA,O aT nT cT,O aE nE cE] 55));obtain ⟨bq,C⟩:=nm wr.heap.size;have G:Hx (Ov wr U):=by show Ov _ _;rw [hU];exact bA _ _
    have Y:Hx (Ac [A J 6,A J a,.string x,.string y,A J S,A J R,A J Q,.string P,O q N M,O aA nA cA,O aT nT cT,O aE nE cE] U bq):=by show Ac _ _ _;rw [hU,C];exact Ai wr [A J 6,A J a,.string x,.string y,A J S,A J R,A J Q,.string P,O q N M,O aA nA cA,O aT nT cT,O aE nE cE] 55
    obtain ⟨m0,m1,m2,m3,m4,m5,m6,m7,m8,Z,n,f⟩:=An (Ai wr [A J 6,A J a,.string x,.string y,A J S,A J R,A J Q,.string P,O q N M,O aA nA cA,O aT nT cT,O aE nE cE] 55);go_wp2_with fail;rw [<-hU,<-C];clear hU C m0 m1 m2 m3 m4 m5 m6 m7 m8 Z n f d0 d1 d2 d3 d4 d5 d6 d7 d8 d9 au ar;refine (KN.o _ G.o).mono ?_;rintro e w1 ⟨rfl,F⟩;have L:=Aa (Ab G.o F);have I:=Aa (Ac.over Y.o F);obtain ⟨m0,m1,m2,m3,m4,m5,m6,m7,m8,Z,n,f⟩:=An I.o;clear F KN G Y;go_wp2_with fail;refine (KE.o _ L.o).mono ?_;rintro e w2 ⟨rfl,V⟩;have a1:=Aa (Ab L.o V);have a0:=Aa (Ac.over I.o V);clear m0 m1 m2 m3 m4 m5 m6 m7 m8 Z n f;obtain ⟨m0,m1,m2,m3,m4,m5,m6,m7,m8,Z,n,f⟩:=An a0.o;clear V KE L I;have s1:¬ 9223372036854775807 < inb.size+6:=by omega
    have s2:¬ 9223372036854775807 < inb.size+6+x.size:=by omega
    have s3:¬ 9223372036854775807 < inb.size+6+x.size+1:=by omega
    have s4:¬ 9223372036854775807 < inb.size+6+x.size+1+E.size:=by omega
    have s5:¬ 9223372036854775807 < inb.size+6+x.size+1+E.size+2:=by omega
    have s9:¬ 9223372036854775807 < s.size+(inb.size+6+x.size+1+E.size+2):=by omega
    have an:Hx ((s++(inb++⟨#[116,114,117,115,116,32]⟩++x++⟨#[32]⟩++E++⟨#[59,10]⟩):ByteArray).data.toList++((l.drop (j+1)).map (cmT ke (k+1) dn)).flatten=a5):=by
     show _=_;rw [<-HZ.o];simp only [A4,bj.o];simp
    clear HZ;go_wp2_with fail;exact ⟨⟨j+1,_,by omega,by go_num,rfl,an.o,Ab HB.o a1.o⟩,by simp [intOf];omega⟩
   ·have KN:Hx (∀ X,Ov wr X->Ro 78 #[ze #[A J S,A J R,A J Q,.string P,O q N M]] X (zc false)):=fun X hX=>by have:=ax X hX;rw [Df p4] at this;exact this
    obtain ⟨E,H⟩:=nm (⟨(exT ke ed).toArray⟩:ByteArray);have KE:Hx (∀ X,Ov wr X->Ro 47 #[ze #[A J S,A J R,A J Q,.string P,O q N M]] X (.string E)):=fun X hX=>by rw [H];exact a3 p4 X hX
    have cc:E.size<=300:=by rw [H,AW];exact AV p4 gE
    have am:exT ke ed=E.data.toList:=by rw [H]
    unfold cmT at t r;simp only [gSs] at t r;rw [if_neg (by decide),if_neg (by decide),if_neg (by decide),if_neg (by decide),if_neg (by decide),if_neg (by decide),if_pos trivial,am] at t r;replace t:s.data.toList++(inT dn++[105,102,32]++E.data.toList++[32,123,10]++AJ ke k (dn+1) th++(if el=[] then [] else inT dn++[125,32,101,108,115,101,32,123,10]++AJ ke k (dn+1) el)++inT dn++[125,10]++((l.drop (j+1)).map (cmT ke (k+1) dn)).flatten)=a5:=by rw [<-t];simp [AJ]
    have a9:(AJ ke k (dn+1) th).length<=1000000:=by
     have e:(th.map (cmT ke k (dn+1))).flatten=AJ ke k (dn+1) th:=rfl;rw [e] at r;simp only [List.length_append] at r;omega
    obtain ⟨T,bh⟩:=nm (⟨(AJ ke k (dn+1) th).toArray⟩:ByteArray);have bs:=bc aT cT th hT (B6 p6) g2 a9;rw [<-bh] at bs;have KT:=Aa bs;have dz:T.size<=1000000:=by rw [bh,AW];exact a9
    have bk:AJ ke k (dn+1) th=T.data.toList:=by rw [bh]
    rw [bk] at t;obtain ⟨UU,cn⟩:=nm (⟨(AJ ke k (dn+1) el).toArray⟩:ByteArray);have dt:el≠[]->(AJ ke k (dn+1) el).length<=1000000:=fun h0=>by
     have e:(el.map (cmT ke k (dn+1))).flatten=AJ ke k (dn+1) el:=rfl;rw [if_neg h0,e] at r;simp only [List.length_append] at r;omega
    have dy:AJ ke k (dn+1) el=UU.data.toList:=by rw [cn]
    have ca:(AJ ke k (dn+1) el).length<=1000000:=by
     by_cases h0:el=[]
     ·rw [h0];simp [AJ]
     ·exact dt h0
    have dd:UU.size<=1000000:=by rw [cn,AW];exact ca
    have eh:¬ el.length=0->UU.size<=1000000:=fun _=>dd;have dg:=bc aE cE el hE (B6 p7) g3 ca;rw [<-cn] at dg;have df:=Aa dg;rw [dy] at t;have du:el=[] ↔ el.length=0:=by rw [List.length_eq_zero_iff]
    simp only [du] at t;generalize el.length=nE at ar df t eh;generalize th.length=nT at au KT;generalize B.length=nA at d9;have HZ:=Aa t;clear t r ax a3 bc gA be p1 p2 p3 p4 p5 p6 p7 g2 g3 gE bd;clear H am;clear bh bk bs a9;clear cn dy du dt ca dg dd;obtain ⟨U,hU⟩:=nm (wr.alloc (zd #[A J 7,A J a,.string x,.string y,A J S,A J R,A J Q,.string P,O q N M,O aA nA cA,O aT nT cT,O aE nE cE] 55));obtain ⟨bq,C⟩:=nm wr.heap.size;have G:Hx (Ov wr U):=by show Ov _ _;rw [hU];exact bA _ _
    have Y:Hx (Ac [A J 7,A J a,.string x,.string y,A J S,A J R,A J Q,.string P,O q N M,O aA nA cA,O aT nT cT,O aE nE cE] U bq):=by show Ac _ _ _;rw [hU,C];exact Ai wr [A J 7,A J a,.string x,.string y,A J S,A J R,A J Q,.string P,O q N M,O aA nA cA,O aT nT cT,O aE nE cE] 55
    obtain ⟨m0,m1,m2,m3,m4,m5,m6,m7,m8,Z,n,f⟩:=An (Ai wr [A J 7,A J a,.string x,.string y,A J S,A J R,A J Q,.string P,O q N M,O aA nA cA,O aT nT cT,O aE nE cE] 55);go_wp2_with fail;rw [<-hU,<-C];clear hU C m0 m1 m2 m3 m4 m5 m6 m7 m8 Z n f d0 d1 d2 d3 d4 d5 d6 d7 d8 d9 au ar;refine (KN.o _ G.o).mono ?_;rintro e w1 ⟨rfl,F⟩;have L:=Aa (Ab G.o F);have I:=Aa (Ac.over Y.o F);obtain ⟨m0,m1,m2,m3,m4,m5,m6,m7,m8,Z,n,f⟩:=An I.o;clear F KN G Y;go_wp2_with fail;refine (KE.o _ L.o).mono ?_;rintro e w2 ⟨rfl,V⟩;have a1:=Aa (Ab L.o V);have a0:=Aa (Ac.over I.o V);clear m0 m1 m2 m3 m4 m5 m6 m7 m8 Z n f;obtain ⟨m0,m1,m2,m3,m4,m5,m6,m7,m8,Z,n,f⟩:=An a0.o;clear V KE L I;have s0:¬ 9223372036854775807 < inb.size+2:=by omega
    have s1:¬ 9223372036854775807 < inb.size+3:=by omega
    have s2:¬ 9223372036854775807 < inb.size+3+E.size:=by omega
    have s3:¬ 9223372036854775807 < inb.size+3+E.size+3:=by omega
    have s4:¬ 9223372036854775807 < inb.size+3+E.size+3+T.size:=by omega
    have s9:¬ 9223372036854775807 < s.size+(inb.size+3+E.size+3+T.size):=by omega
    go_wp2_with fail;refine (KT.o _ a1.o).mono ?_;rintro e w3 ⟨rfl,bp⟩;have bz:=Aa (Ab a1.o bp);have cp:=Aa (Ac.over a0.o bp);clear m0 m1 m2 m3 m4 m5 m6 m7 m8 Z n f;obtain ⟨m0,m1,m2,m3,m4,m5,m6,m7,m8,Z,n,f⟩:=An cp.o;clear bp KT a1 a0;by_cases hE0:nE=0
    ·subst hE0
     have u1:¬ 9223372036854775807 < inb.size+2:=by omega
     have u9:¬ 9223372036854775807 < s.size+(inb.size+3+E.size+3+T.size)+(inb.size+2):=by omega
     have an:Hx ((s++(inb++⟨#[105,102,32]⟩++E++⟨#[32,123,10]⟩++T)++(inb++⟨#[125,10]⟩):ByteArray).data.toList++((l.drop (j+1)).map (cmT ke (k+1) dn)).flatten=a5):=by
      show _=_;rw [<-HZ.o];simp only [A4,bj.o];simp
     clear HZ;go_wp2_with fail;exact ⟨⟨j+1,_,by omega,by go_num,rfl,an.o,Ab HB.o bz.o⟩,by simp [intOf];omega⟩
    ·have gk:(0:Int) < (nE:Int):=by omega
     have dd:=eh hE0;have t:=HZ.o;rw [if_neg hE0] at t;replace HZ:=Aa t;clear t;have v1:¬ 9223372036854775807 < inb.size+9:=by omega
     have v2:¬ 9223372036854775807 < inb.size+9+UU.size:=by omega
     have v9:¬ 9223372036854775807 < s.size+(inb.size+3+E.size+3+T.size)+(inb.size+9+UU.size):=by omega
     have u1:¬ 9223372036854775807 < inb.size+2:=by omega
     have u9:¬ 9223372036854775807 < s.size+(inb.size+3+E.size+3+T.size)+(inb.size+9+UU.size)+(inb.size+2):=by omega
     have an:Hx ((s++(inb++⟨#[105,102,32]⟩++E++⟨#[32,123,10]⟩++T)++(inb++⟨#[125,32,101,108,115,101,32,123,10]⟩++UU)++(inb++⟨#[125,10]⟩):ByteArray).data.toList++((l.drop (j+1)).map (cmT ke (k+1) dn)).flatten=a5):=by
      show _=_;rw [<-HZ.o];simp only [A4,bj.o];simp
     clear HZ;go_wp2_with fail;refine (df.o _ bz.o).mono ?_;rintro e w4 ⟨rfl,dx⟩;have fe:=Aa (Ab bz.o dx);clear m0 m1 m2 m3 m4 m5 m6 m7 m8 Z n f dx df bz cp;go_wp2_with fail;exact ⟨⟨j+1,_,by omega,by go_num,rfl,an.o,Ab HB.o fe.o⟩,by simp [intOf];omega⟩
   ·have KN:Hx (∀ X,Ov wr X->Ro 78 #[ze #[A J S,A J R,A J Q,.string P,O q N M]] X (zc false)):=fun X hX=>by have:=ax X hX;rw [Df p4] at this;exact this
    obtain ⟨E,H⟩:=nm (⟨(exT ke ed).toArray⟩:ByteArray);have KE:Hx (∀ X,Ov wr X->Ro 47 #[ze #[A J S,A J R,A J Q,.string P,O q N M]] X (.string E)):=fun X hX=>by rw [H];exact a3 p4 X hX
    have cc:E.size<=300:=by rw [H,AW];exact AV p4 gE
    have am:exT ke ed=E.data.toList:=by rw [H]
    unfold cmT at t r;simp only [gSs] at t r;rw [if_neg (by decide),if_neg (by decide),if_neg (by decide),if_neg (by decide),if_neg (by decide),if_neg (by decide),if_neg (by decide),am] at t r;replace t:s.data.toList++(inT dn++[119,104,105,108,101,32]++E.data.toList++[32,123,10]++AJ ke k (dn+1) th++(if el=[] then [] else inT dn++[125,32,101,108,115,101,32,123,10]++AJ ke k (dn+1) el)++inT dn++[125,10]++((l.drop (j+1)).map (cmT ke (k+1) dn)).flatten)=a5:=by rw [<-t];simp [AJ]
    have a9:(AJ ke k (dn+1) th).length<=1000000:=by
     have e:(th.map (cmT ke k (dn+1))).flatten=AJ ke k (dn+1) th:=rfl;rw [e] at r;simp only [List.length_append] at r;omega
    obtain ⟨T,bh⟩:=nm (⟨(AJ ke k (dn+1) th).toArray⟩:ByteArray);have bs:=bc aT cT th hT (B6 p6) g2 a9;rw [<-bh] at bs;have KT:=Aa bs;have dz:T.size<=1000000:=by rw [bh,AW];exact a9
    have bk:AJ ke k (dn+1) th=T.data.toList:=by rw [bh]
    rw [bk] at t;have eb:el=[]:=OI p7;rw [if_pos eb,List.append_nil] at t;generalize el.length=nE at ar;generalize th.length=nT at au KT;generalize B.length=nA at d9;have HZ:=Aa t;clear t r ax a3 bc gA be p1 p2 p3 p4 p5 p6 p7 g2 g3 gE bd;clear H am;clear bh bk bs a9;clear eb;obtain ⟨U,hU⟩:=nm (wr.alloc (zd #[A J 8,A J a,.string x,.string y,A J S,A J R,A J Q,.string P,O q N M,O aA nA cA,O aT nT cT,O aE nE cE] 55));obtain ⟨bq,C⟩:=nm wr.heap.size;have G:Hx (Ov wr U):=by show Ov _ _;rw [hU];exact bA _ _
    have Y:Hx (Ac [A J 8,A J a,.string x,.string y,A J S,A J R,A J Q,.string P,O q N M,O aA nA cA,O aT nT cT,O aE nE cE] U bq):=by show Ac _ _ _;rw [hU,C];exact Ai wr [A J 8,A J a,.string x,.string y,A J S,A J R,A J Q,.string P,O q N M,O aA nA cA,O aT nT cT,O aE nE cE] 55
    obtain ⟨m0,m1,m2,m3,m4,m5,m6,m7,m8,Z,n,f⟩:=An (Ai wr [A J 8,A J a,.string x,.string y,A J S,A J R,A J Q,.string P,O q N M,O aA nA cA,O aT nT cT,O aE nE cE] 55);go_wp2_with fail;rw [<-hU,<-C];clear hU C m0 m1 m2 m3 m4 m5 m6 m7 m8 Z n f d0 d1 d2 d3 d4 d5 d6 d7 d8 d9 au ar;refine (KN.o _ G.o).mono ?_;rintro e w1 ⟨rfl,F⟩;have L:=Aa (Ab G.o F);have I:=Aa (Ac.over Y.o F);obtain ⟨m0,m1,m2,m3,m4,m5,m6,m7,m8,Z,n,f⟩:=An I.o;clear F KN G Y;go_wp2_with fail;refine (KE.o _ L.o).mono ?_;rintro e w2 ⟨rfl,V⟩;have a1:=Aa (Ab L.o V);have a0:=Aa (Ac.over I.o V);clear m0 m1 m2 m3 m4 m5 m6 m7 m8 Z n f;obtain ⟨m0,m1,m2,m3,m4,m5,m6,m7,m8,Z,n,f⟩:=An a0.o;clear V KE L I;have s0:¬ 9223372036854775807 < inb.size+2:=by omega
    have s1:¬ 9223372036854775807 < inb.size+6:=by omega
    have s2:¬ 9223372036854775807 < inb.size+6+E.size:=by omega
    have s3:¬ 9223372036854775807 < inb.size+6+E.size+3:=by omega
    have s4:¬ 9223372036854775807 < inb.size+6+E.size+3+T.size:=by omega
    have s5:¬ 9223372036854775807 < inb.size+6+E.size+3+T.size+inb.size:=by omega
    have s6:¬ 9223372036854775807 < inb.size+6+E.size+3+T.size+inb.size+2:=by omega
    have s9:¬ 9223372036854775807 < s.size+(inb.size+6+E.size+3+T.size+inb.size+2):=by omega
    go_wp2_with fail;refine (KT.o _ a1.o).mono ?_;rintro e w3 ⟨rfl,bp⟩;have bz:=Aa (Ab a1.o bp);have cp:=Aa (Ac.over a0.o bp);clear m0 m1 m2 m3 m4 m5 m6 m7 m8 Z n f;obtain ⟨m0,m1,m2,m3,m4,m5,m6,m7,m8,Z,n,f⟩:=An cp.o;clear bp KT a1 a0;have an:Hx ((s++(inb++⟨#[119,104,105,108,101,32]⟩++E++⟨#[32,123,10]⟩++T++inb++⟨#[125,10]⟩):ByteArray).data.toList++((l.drop (j+1)).map (cmT ke (k+1) dn)).flatten=a5):=by
     show _=_;rw [<-HZ.o];simp only [A4,bj.o];simp
    clear HZ;go_wp2_with fail;exact ⟨⟨j+1,_,by omega,by go_num,rfl,an.o,Ab HB.o bz.o⟩,by simp [intOf];omega⟩
  ·have e4:¬ (j:Int) < (nn:Int):=by omega
   have hd:l.drop j=[]:=List.drop_eq_nil_of_le (by have:=HN.o;omega);rw [hd,List.map_nil,List.flatten_nil,List.append_nil] at t;have HV:Hx ((⟨a5.toArray⟩:ByteArray)=s):=by show _=_;rw [<-t];try exact Fz s
   have HB:=Aa hB;clear t hd hB;go_wp2_with fail;go_ret;exact ⟨by rw [HV.o];rfl,HB.o⟩
end Go.Proofs.YtipngnjffjajpaaGreatDoor.Tx
