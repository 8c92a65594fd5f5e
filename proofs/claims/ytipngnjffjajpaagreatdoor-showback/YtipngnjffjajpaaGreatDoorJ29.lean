/- The document's reader in memory: labels. -/
import Derived.Test.YtipngnjffjajpaaGreatDoorJ27
set_option linter.unusedVariables false
set_option maxHeartbeats 8000000
set_option maxRecDepth 100000
namespace Go.Proofs.YtipngnjffjajpaaGreatDoor.Tx
open Go.RowKit
open Go.Value renaming int -> I, slice -> zc, bool -> zd, pointer -> zf, agg -> zg, tuple -> zi
open Go.IntKind renaming i64 -> O
open Go.Obj renaming cells -> ze
open Go.Ending renaming returned -> zh
section
variable {rb:Nat} {tv:Value} {ts:List Tok} {en:Nat}
def FrL (rb bp:Nat) (l:Value) (t:ByteArray) (mb:Bool) (act:Act):Prop:=∃ (x11 x12 x13 x14 x15 x16 x17 x18 x19 x20 x21 x22 x23 x24 x25 x26 x27 x28 x29 x30 x31 x32 x33 x34 x35 x36 x37 x38 x39 x40 x41 x42 x43 x44 x45 x46 x47 x48 x49 x50 x51 x52 x53 x54 x55 x56 x57 x58 x59 x60 x61 x62 x63 x64 x65 x66 x67 x68 x69 x70 x71:Value),act={ tmps:=#[zf (some ⟨rb,0,none⟩),undef,zc none 0 0,l,zd true,zf (some ⟨bp,0,none⟩),zf (some ⟨rb,0,none⟩),zi #[],zf (some ⟨rb,0,none⟩),.string t,zd mb,x11,x12,x13,x14,x15,x16,x17,x18,x19,x20,x21,x22,x23,x24,x25,x26,x27,x28,x29,x30,x31,x32,x33,x34,x35,x36,x37,x38,x39,x40,x41,x42,x43,x44,x45,x46,x47,x48,x49,x50,x51,x52,x53,x54,x55,x56,x57,x58,x59,x60,x61,x62,x63,x64,x65,x66,x67,x68,x69,x70,x71,undef,undef,undef],defers:=[] }
theorem FrL.mk {rb bp:Nat} {t:ByteArray} {mb:Bool} {l x11 x12 x13 x14 x15 x16 x17 x18 x19 x20 x21 x22 x23 x24 x25 x26 x27 x28 x29 x30 x31 x32 x33 x34 x35 x36 x37 x38 x39 x40 x41 x42 x43 x44 x45 x46 x47 x48 x49 x50 x51 x52 x53 x54 x55 x56 x57 x58 x59 x60 x61 x62 x63 x64 x65 x66 x67 x68 x69 x70 x71:Value}:FrL rb bp l t mb { tmps:=#[zf (some ⟨rb,0,none⟩),undef,zc none 0 0,l,zd true,zf (some ⟨bp,0,none⟩),zf (some ⟨rb,0,none⟩),zi #[],zf (some ⟨rb,0,none⟩),.string t,zd mb,x11,x12,x13,x14,x15,x16,x17,x18,x19,x20,x21,x22,x23,x24,x25,x26,x27,x28,x29,x30,x31,x32,x33,x34,x35,x36,x37,x38,x39,x40,x41,x42,x43,x44,x45,x46,x47,x48,x49,x50,x51,x52,x53,x54,x55,x56,x57,x58,x59,x60,x61,x62,x63,x64,x65,x66,x67,x68,x69,x70,x71,undef,undef,undef],defers:=[] }:=⟨x11,x12,x13,x14,x15,x16,x17,x18,x19,x20,x21,x22,x23,x24,x25,x26,x27,x28,x29,x30,x31,x32,x33,x34,x35,x36,x37,x38,x39,x40,x41,x42,x43,x44,x45,x46,x47,x48,x49,x50,x51,x52,x53,x54,x55,x56,x57,x58,x59,x60,x61,x62,x63,x64,x65,x66,x67,x68,x69,x70,x71,rfl⟩
theorem Dk {a b c:World} {rb B T q k:Nat} {v:Value} {xs:List Value} (h:a.grownBy b (some rb)) (ho:b.ownsRow B T q v k xs) (hB:a.heap.size<=B) (hg:b.grownBy c v.ownBlock):a.grownBy c (some rb):=
 ⟨hg.os.trans h.os,hg.tape.trans h.tape,hg.output.trans h.output,Nat.le_trans h.size hg.size,fun i hi hn=>(hg.block i (Nat.lt_of_lt_of_le hi h.size) (fun e=>by have:=(AO ho e.symm).1;omega)).trans (h.block i hi hn)⟩
theorem LY (s:Sg):s.1<=(A9 ts s).2.1:=by
 unfold A9;split
 ·exact Nat.le_succ _
 ·exact Nat.le_refl _
theorem LZ:∀ (g:Nat) (acc:List ByteArray) (s:Sg),s.1<=(Dx ts g acc s).2.1
 | 0,acc,s=>Nat.le_refl _
 | g+1,acc,s=>by
  unfold Dx;split
  ·exact Nat.le_trans (IK _ _) (Nat.le_trans (LY _) (LZ g _ _))
  ·exact Nat.le_refl _
theorem O5 (s:Sg):s.1<=(Dp ts s).2.1:=by
 unfold Dp;split
 ·exact Nat.le_trans (LY _) (LZ _ _ _)
 ·exact Nat.le_refl _
theorem P7 (s:Sg) (h:s.2=false):(GC ts en s).2.2=true\/s.1+1<=(GC ts en s).2.1:=by
 unfold GC;by_cases hn:nmS (tl ts s 0)=true
 ·have e:A9 ts s=(tx ts s 0,(s.1+1,s.2)):=by unfold A9;rw [if_pos hn]
  rw [e];right;dsimp only;refine Nat.le_trans ?_ (O5 _);split
  ·exact IK (ts:=ts) [33] (s.1+1,s.2)
  ·exact IK (ts:=ts) [58] (s.1+1,s.2)
 ·have e:A9 ts s=(noS,(s.1,true)):=by unfold A9;rw [if_neg hn];rfl
  rw [e];left;dsimp only;rw [NF,NF,ite_self];rw [P8]
theorem Hw (g:Nat) (mo:Bool) (acc:List D) (s:Sg) (h:s.2=true\/mo=false):EX ts en g mo acc s=(acc,s):=by
 cases g with
 | zero=>rfl
 | succ g=>
  rw [EX,if_neg];rintro ⟨b,a⟩;rcases h with h | h
  ·rw [h] at a;cases a
  ·rw [h] at b;cases b
theorem MB (g:Nat) (acc:List D) (s:Sg) (h:s.2=false):EX ts en (g+1) true acc s=EX ts en g (decide (tl ts (GC ts en s).2 0=[59])) (acc++[(GC ts en s).1]) (if tl ts (GC ts en s).2 0=[59] then AB ts [59] (GC ts en s).2 else (GC ts en s).2):=by
 rw [EX,if_pos ⟨rfl,h⟩]
theorem MA (g:Nat) (acc:List ByteArray) (s:Sg) (h:¬ tl ts s 0=[44]):Dx ts g acc s=(acc,s):=by
 cases g with
 | zero=>rfl
 | succ g=>rw [Dx,if_neg h]
theorem Mz (g:Nat) (acc:List ByteArray) (s:Sg) (h:tl ts s 0=[44]):Dx ts (g+1) acc s=Dx ts g (acc++[(A9 ts (AB ts [44] s)).1]) (A9 ts (AB ts [44] s)).2:=by
 rw [Dx,if_pos h]
theorem Pg (hall:ts.all Ao=true) (s:Sg) (w:World) (h:Sd rb tv ts en s w):Calls Tryz.prog 61 #[zf (some ⟨rb,0,none⟩)] w (EE rb tv ts en 4 G5 w s (Ip ts en s)):=by
 obtain ⟨j0,hj,iv,iu,it⟩:=info_parts Tryz.infoPol;obtain ⟨i0,hi,cl,ck,cj⟩:=info_parts Tryz.infoStr;obtain ⟨ir,cz⟩:=nm (Ip ts en s);rw [<-cz];have ad:Hx (ir=(fun s1:Sg=>(fun p:List D × Sg=>(p.1,AB ts [125] p.2)) (EX ts en (ts.length+2) (decide (tl ts s1 0≠[125])) [] s1)) (AB ts [123] s)):=cz;obtain ⟨m0,ed⟩:=nm s.1;have v:Hx (Rq rb tv ts en w m0 (s) w):=by show Rq _ _ _ _ _ _ _ _;rw [ed];exact Rq.start h
 have ig:=Aa ed;have n:=Aa (Ah w (some rb));clear cz ed h;go_enter Tryz.func61,Tryz.ntmps61;obtain ⟨s1,di⟩:=nm (AB ts [123] s);have KN:=Aa (BX ⟨#[123]⟩ [123] rfl (by decide) s _ v.o.st);rw [<-di] at KN;rw [<-di] at ad;have j7:=Aa di;clear di;go_wp2_with fail;refine KN.o.mono ?_;rintro e w1 ⟨rfl,S⟩;clear KN;replace n:=Aa (Ab n.o S.1);have Z:=S.1;replace v:Hx (Rq rb tv ts en w m0 (s1) w1):=Qo.rq v.o S;clear Z S;obtain ⟨t,ht⟩:=nm (tx ts s1 0);have KT:Hx (Ro 57 #[zf (some ⟨rb,0,none⟩),I O 0] w1 (.string t)):=by rw [ht];exact BO 0 (by omega) s1 _ v.o.st
 have Ht:=Aa ht;clear ht;go_wp2_with fail;refine KT.o.mono ?_;rintro e w2 ⟨rfl,hb⟩;clear KT;replace n:=Aa (Ab n.o (Ad (r:=some rb) hb));replace v:Hx (Rq rb tv ts en w m0 (s1) w2):=v.o.over hb;clear hb;obtain ⟨ch,c4⟩:=nm (decide (tl ts s1 0≠[125]));have q0:(t.toList == [125])=!ch:=by rw [J6,Ht.o,c4];by_cases e:tl ts s1 0=[125] <;> simp [e] <;> exact e
 rw [<-c4] at ad;obtain ⟨bg,br⟩:=nm (EX ts en (ts.length+2) ch [] s1);rw [<-br] at ad;have cu:=Aa ad.o;replace ad:=Aa br;clear br c4;go_wp2_with fail;go_loopw [3,4] (fun l mo wr=>∃ (acc:List D) (s2:Sg) (g:Nat) (mb:Bool),mo=zd mb/\Cop w.heap.size 53 4 (fun i cs W=>∀ x,acc[i]? = some x->G5 W cs x) acc.length l wr/\Rq rb tv ts en w m0 s2 wr/\EX ts en g mb acc s2=bg/\(s2.2=true\/ts.length - s2.1 < g)/\acc.length+bN s2.2<=s2.1+1) (fun _ _ wr=>mQ rb ts.length wr)
 case atStart=>exact ⟨[],s1,ts.length+2,ch,by simp,Cop.nil,v.o,ad.o.symm,Or.inr (by omega),by simp [bN];split <;> omega⟩
 case round=>
  obtain ⟨acc,s2,g,mb,rfl,N,hd,hp,ha,hh⟩:=hrel;obtain ⟨Wo,i4⟩:=nm wr;subst i4;have dh:=hd.st;have g8:s2.1<=ts.length/\ts.length<=6000:=⟨dh.2.1,dh.2.2.1⟩;obtain ⟨la,lc,i1,-⟩:=N.cells (by decide);subst i1;replace v:=Aa hd;have df:=Aa N;replace ad:=Aa hp;have ie:=Aa (Et ts.length dh);have i9:=Aa hd.size;have HF:=Aa (And.intro ha (And.intro hh g8));replace n:=Aa (Ah Wo (some rb));obtain ⟨k,hk⟩:=nm acc.length;rw [<-hk] at df ⊢;have HK:=Aa hk;clear N hd hp dh ha hh g8 hk q0
  cases mb with
  | false=>
   have HE:Hx (bg=(acc,s2)):=by show _=_;rw [<-ad.o];exact Hw _ _ _ _ (Or.inr rfl)
   have ae:=cu.o;rw [HE.o] at ae;dsimp only at ae;replace cu:=Aa ae;clear ae;obtain ⟨s9,ar⟩:=nm (AB ts [125] s2);have KN:=Aa (BX ⟨#[125]⟩ [125] rfl (by decide) s2 _ v.o.st);rw [<-ar] at KN;have el:=Aa ar;clear ar;go_wp2_with fail;refine KN.o.mono ?_;rintro e a7 ⟨rfl,S⟩;clear KN;replace n:=Aa (Ab n.o S.1);have Z:=S.1;replace v:Hx (Rq rb tv ts en w m0 (s9) a7):=Qo.rq v.o S;clear Z S;have ae:=cu.o;rw [<-el.o] at ae;have bv:=df.o;rw [HK.o] at bv;have c5:acc.length<=6001:=by have:=HF.o;unfold bN at this;omega
   obtain ⟨a,c,hv,bj⟩:=Cop.ls bv (by decide) (by omega);injection hv with v1 v2 v3;subst v1 v3;have dc:=Aa (bj.keep n.o v.o.rlt);have eu:=Aa c5;have db:=Aa ae;clear bv bj c5 v2 ae;go_wp2_with fail;go_ret;rw [db.o];exact ⟨la,lc,by rw [HK.o];rfl,dc.o,eu.o,v.o.gr,v.o.st,by rw [<-ig.o];exact v.o.le⟩
  | true=>
   obtain ⟨g3,g1,rc2,dg,-,-⟩:=v.o.st.cells
   cases hfl:s2.2 with
   | true=>
    have HE:Hx (bg=(acc,s2)):=by show _=_;rw [<-ad.o];exact Hw _ _ _ _ (Or.inl hfl)
    rw [hfl] at dg;clear hfl;have ae:=cu.o;rw [HE.o] at ae;dsimp only at ae;replace cu:=Aa ae;clear ae;obtain ⟨s9,ar⟩:=nm (AB ts [125] s2);have KN:=Aa (BX ⟨#[125]⟩ [125] rfl (by decide) s2 _ v.o.st);rw [<-ar] at KN;have el:=Aa ar;clear ar;go_wp2_with fail;clear dg rc2 g1 g3;refine KN.o.mono ?_;rintro e a7 ⟨rfl,S⟩;clear KN;replace n:=Aa (Ab n.o S.1);have Z:=S.1;replace v:Hx (Rq rb tv ts en w m0 (s9) a7):=Qo.rq v.o S;clear Z S;have ae:=cu.o;rw [<-el.o] at ae;have bv:=df.o;rw [HK.o] at bv;have c5:acc.length<=6001:=by have:=HF.o;unfold bN at this;omega
    obtain ⟨a,c,hv,bj⟩:=Cop.ls bv (by decide) (by omega);injection hv with v1 v2 v3;subst v1 v3;have dc:=Aa (bj.keep n.o v.o.rlt);have eu:=Aa c5;have db:=Aa ae;clear bv bj c5 v2 ae;go_wp2_with fail;go_ret;rw [db.o];exact ⟨la,lc,by rw [HK.o];rfl,dc.o,eu.o,v.o.gr,v.o.st,by rw [<-ig.o];exact v.o.le⟩
   | false=>
    rw [hfl] at dg;obtain ⟨g,rfl⟩:∃ g',g=g' + 1:=⟨g - 1,by have h1:=HF.o.1;rw [hfl] at h1;simp at h1;omega⟩;have hr:=ad.o;rw [MB _ _ _ hfl] at hr;replace ad:Hx (_=bg):=hr;have cb:=Aa (P7 (ts:=ts) (en:=en) s2 hfl);obtain ⟨pp,eb⟩:=nm (GC ts en s2);rw [<-eb] at ad cb;have je:=Aa eb;have ii:=Aa hfl;clear hr hfl eb;obtain ⟨p,hp⟩:=nm (Av ts en s2.1);have KH:Hx (Ro 28 #[zf (some ⟨rb,0,none⟩)] Wo (I O p)):=by rw [hp];exact DZ s2 _ v.o.st
    have jc:=Aa hp;clear hp;go_wp2_with fail;clear dg rc2 g1 g3;refine KH.o.mono ?_;rintro e a7 ⟨rfl,hb⟩;clear KH;replace n:=Aa (Ab n.o (Ad (r:=some rb) hb));replace v:Hx (Rq rb tv ts en w m0 (s2) a7):=v.o.over hb;clear hb;have ih:Hx (Wo.heap.size<=a7.heap.size):=n.o.size;obtain ⟨ei,bm⟩:=nm (a7.alloc (ze #[I O p,.string ⟨#[]⟩,zd false,zc none 0 0] 53));obtain ⟨M,aj⟩:=nm a7.heap.size;have b6:=aj;have b3:Hx (w.heap.size<=M):=by show _<=_;rw [b6];exact v.o.size
    have f:Hx (Bx M [I O p,.string ⟨#[]⟩,zd false,zc none 0 0] ei):=by show Bx _ _ _;rw [bm,b6];exact Bx.new a7 [I O p,.string ⟨#[]⟩,zd false,zc none 0 0] 53
    replace v:Hx (Rq rb tv ts en w m0 (s2) ei):=by show Rq _ _ _ _ _ _ _ _;rw [bm];exact v.o.over (bA _ _)
    replace n:Hx (Wo.grownBy ei (some rb)):=by show World.grownBy _ _ _;rw [bm];exact DG n.o _
    have et:Hx (Wo.heap.size<=M):=by show _<=_;rw [b6];exact ih.o
    clear ih;obtain ⟨px,ea⟩:=nm (A9 ts s2);obtain ⟨x,s3⟩:=px;have KM:=Aa (Es hall s2 _ v.o.st);rw [<-ea] at KM;dsimp only at KM;have jb:=Aa ea;clear ea;go_wp2_with fail;rw [<-bm,<-aj];clear b6;clear aj bm;refine KM.o.mono ?_;rintro e d4 ⟨rfl,S⟩;clear KM;have dz:=Aa S.2.2;replace n:=Aa (Ab n.o S.1);have Z:=S.1;replace f:=bkp f v.o.rlt b3 Z;replace v:Hx (Rq rb tv ts en w m0 (s3) d4):=Qo.rq v.o S;clear Z S;obtain ⟨be,bd,bc,bb⟩:=rc4 f.o.row;obtain ⟨b2,b1,b0,bz⟩:=fz4 f.o.fz;obtain ⟨eh,b9⟩:=nm (d4.setCell ⟨M,1,none⟩ (.string x));have bt:d4.grownBy eh (some M):=by rw [b9];exact (gst (Ah _ _))
    replace f:Hx (Bx M [I O p,.string x,zd false,zc none 0 0] eh):=by show Bx _ _ _;rw [b9];exact (f.o.se 1)
    replace v:=Aa (v.o.box bt b3.o);replace n:=Aa (Hz n.o bt et.o);clear bt;obtain ⟨u,hu⟩:=nm (tx ts s3 0);have KT:Hx (Ro 57 #[zf (some ⟨rb,0,none⟩),I O 0] eh (.string u)):=by rw [hu];exact BO 0 (by omega) s3 _ v.o.st
    have Hu:=Aa hu;clear hu;go_wp2_with fail;rw [<-b9];clear bz b0 b1 b2 bb bc bd be;clear b9;refine KT.o.mono ?_;rintro e d3 ⟨rfl,hb⟩;clear KT;replace n:=Aa (Ab n.o (Ad (r:=some rb) hb));replace f:=Aa (f.o.over hb);replace v:Hx (Rq rb tv ts en w m0 (s3) d3):=v.o.over hb;clear hb;obtain ⟨wb,d7⟩:=nm (decide (tl ts s3 0=[33]));have q1:(u.toList == [33])=wb:=by rw [J6,Hu.o,d7];rfl
    have eo:=Aa d7;clear d7;obtain ⟨be,bd,bc,bb⟩:=rc4 f.o.row;obtain ⟨b2,b1,b0,bz⟩:=fz4 f.o.fz;obtain ⟨ia,b8⟩:=nm (d3.setCell ⟨M,2,none⟩ (zd wb));have bt:d3.grownBy ia (some M):=by rw [b8];exact (gst (Ah _ _))
    replace f:Hx (Bx M [I O p,.string x,zd wb,zc none 0 0] ia):=by show Bx _ _ _;rw [b8];exact (f.o.se 2)
    replace v:=Aa (v.o.box bt b3.o);replace n:=Aa (Hz n.o bt et.o);clear bt
    go_upto_region 8 with fail
    rw [<-b8];clear bz b0 b1 b2 bb bc bd be;clear b8;obtain ⟨s4,au⟩:=nm (if tl ts s3 0=[33] then AB ts [33] s3 else AB ts [58] s3);have em:=Aa au;clear au;rename_i KZ ef KY i5;have d1:Hx (∀ act W,FrL rb M (zc la k lc) t ch act->Bx M [I O p,.string x,zd wb,zc none 0 0] W->Rq rb tv ts en w m0 s4 W->Wo.grownBy W (some rb)->s3.1<=s4.1->KZ act W):=by
     intro act W ee aj hd av du;obtain ⟨gu,gt,gs,gq,gp,gn,gm,gl,gk,gj,gi,gh,gg,gf,ge,gd,gc,gb,ga,f9,f8,f7,f6,f5,f4,f3,f2,f1,f0,fy,fx,fw,fv,fu,ft,fs,fq,fp,fo,fn,fm,fl,fk,fj,fi,fh,fg,ff,fe,fd,fc,fb,fa,e9,e8,e7,e5,e4,e3,e2,e1,rfl⟩:=ee;refine ef _ _ ?_;clear ef i5;have a5:=Aa du;replace f:=Aa aj;replace v:=Aa hd;replace n:=Aa av;clear aj hd av du;have ap:Hx (M < M+1):=Nat.lt_succ_self _;have ib:Hx (M+1<=W.heap.size):=f.o.lt;have a1:Hx (w.heap.size<=M):=b3.o;have b4:Hx (Wo.heap.size<=M):=et.o;have cr:Hx (w.heap.size<=M+1):=Nat.le_trans a1.o (Nat.le_succ _);have ct:Hx (w.heap.size<=M+1):=cr.o;have b5:Hx (Wo.heap.size<=M+1):=Nat.le_trans b4.o (Nat.le_succ _);have jd:Hx (pp=(Dv p x wb (Dp ts s4).1,(Dp ts s4).2)):=by
      show _=_;rw [je.o,em.o,jc.o,eo.o];unfold GC;rw [<-jb.o]
     go_upto_region 11 with fail
     rename_i KX eg KW i6;have de:Hx (∀ act W,FrL rb M (zc la k lc) t ch act->(∃ (nacc:List ByteArray) (s6:Sg) (na:Option Addr) (nk nc:Nat),nk=nacc.length/\nk<=6001/\Dp ts s4=(nacc,s6)/\Bx M [I O p,.string x,zd wb,zc na nk nc] W/\Cop (M+1) 9 1 (fun i cs W=>∀ y,nacc[i]? = some y->RN cs y) nk (zc na nk nc) W/\Rq rb tv ts en w m0 s6 W/\Wo.grownBy W (some rb)/\s4.1<=s6.1)->KX act W):=by
      intro act W ee hn;obtain ⟨gu,gt,gs,gq,gp,gn,gm,gl,gk,gj,gi,gh,gg,gf,ge,gd,gc,gb,ga,f9,f8,f7,f6,f5,f4,f3,f2,f1,f0,fy,fx,fw,fv,fu,ft,fs,fq,fp,fo,fn,fm,fl,fk,fj,fi,fh,fg,ff,fe,fd,fc,fb,fa,e9,e8,e7,e5,e4,e3,e2,e1,rfl⟩:=ee;obtain ⟨nacc,s6,na,nk,nc,c1,c3,c2,aj,bk,hd,av,bl⟩:=hn;refine eg _ _ ?_;clear eg i6;have a0:=Aa bl;replace f:=Aa aj;replace v:=Aa hd;replace n:=Aa av;have B:=Aa bk;have V:=Aa c1;have ag:=Aa c3;have dm:=Aa c2;clear aj hd av bl bk c1 c3 c2 ib;have ec:pp=(Dv p x wb nacc,s6):=by rw [jd.o,dm.o]
      obtain ⟨d,hd⟩:=nm (Dv p x wb nacc);rw [<-hd] at ec;have hr:=ad.o;have dj:=cb.o;rw [ec] at hr dj;dsimp only at hr dj;replace ad:Hx (_=bg):=hr;replace cb:=Aa dj;have er:Hx (Off Wo.heap.size none W (fun W=>G5 W [I O p,.string x,zd wb,zc na nk nc] d)):=by
       have hc:=B.o;rw [V.o] at hc;obtain ⟨a9,c9,iw,iz⟩:=Cop.ls (R:=fun _=>RN) hc (by decide) (by have h1:=ag.o;have h2:=V.o;omega);injection iw with v1 v2 v3;exact (iz.base b5.o).imp fun W hW=>⟨p,x,wb,nacc,_,rfl,hd,by rw [V.o,v1,v3];exact hW⟩
      obtain ⟨z,hz⟩:=nm Wo.heap.size;rw [<-hz] at er;have jf:Hx (Wo.heap.size<=z):=by show _<=_;rw [hz];exact Nat.le_refl _
      have i8:Hx (w.heap.size<=z):=by show _<=_;rw [hz];exact i9.o
      clear ec hd hr dj hz B dm;obtain ⟨be,bd,bc,bb⟩:=rc4 f.o.row;obtain ⟨W4,cn⟩:=nm (W.alloc (ze #[I O p,.string x,zd wb,zc na nk nc] 53));have cm:Ov W W4:=by rw [cn];exact bA _ _
      obtain ⟨xs,A,dr⟩:=(df.o.keep (Ab n.o (Ad (r:=some rb) cm)) v.o.rlt);have ic:Hx (Af [I O p,.string x,zd wb,zc na nk nc] W4 W.heap.size):=by show Af _ _ _;rw [cn];exact Ax W [I O p,.string x,zd wb,zc na nk nc] 53
      have dy:=Aa (er.o.over cm);have hl:w.heap.size<=W4.heap.size:=Nat.le_trans v.o.size cm.size;have dw:Hx (∀ g,(Value.slice la k lc).ownBlock=some g->g < z):=fun g Z=>by
       obtain ⟨ys,h1,-⟩:=df.o;exact Nat.lt_of_lt_of_le (AO h1 Z).2 jf.o
      have dx:=Aa dr;have ij:=Aa (v.o.over cm);have jg:=Aa (Ab n.o (Ad (r:=some rb) cm));have i2:k<=6001:=by have h1:=HF.o;have h2:=HK.o;omega
      clear cm dr;go_wp2_with (at_builtin;(try rw [<-cn]);refine wpList_append_own_at _ rfl _ _ 45 rfl w.heap.size 53 j0 (zg #[I O 0,.string ⟨#[]⟩,zd false,zc none 0 0]) 4 56 Tryz.underlying45 hj iv iu it rfl (by decide) _ _ _ rfl A ⟨W.heap.size,0,none⟩ 1 1 [I O p,.string x,zd wb,zc na nk nc] rfl rfl (fun jj u hu=>by rw [Addr.add_lit,Nat.zero_add];exact ic.o jj u hu) (by simp [Value.oneCell']) (by unfold maxLen;omega) (by omega) hl ?_);intro v2 W5 bs b7 _ ab;rw [<-cn] at b7;have au:W4.heap.size=W.heap.size+1:=by rw [cn];simp
      replace ab:v2.ownBlock=(Value.slice la k lc).ownBlock\/v2.ownBlock=some W4.heap.size:=by rw [au];simpa using ab
      have N:Cop w.heap.size 53 4 (fun i cs W=>∀ x,(acc++[d])[i]? = some x->G5 W cs x) (k+1) v2 W5:=Cop.add (B1:=z) A (fun i hi=>by
        obtain ⟨ds,z1,z2,z3⟩:=dx.o i hi;exact ⟨ds,z1,z2,z3.imp fun W hW x hx=>hW x (by rw [List.getElem?_append_left (by rw [<-HK.o];exact hi)] at hx;exact hx)⟩) rfl (dy.o.imp fun W hW x hx=>by
         rw [List.getElem?_append_right (by rw [HK.o];exact Nat.le_refl _),HK.o,Nat.sub_self] at hx;injection hx with hx;rw [<-hx];exact hW) i8.o dw.o bs b7 ab
      have he:=ij.o.row A (Nat.le_refl _) b7;obtain ⟨H,cf,G,am⟩:=AP bs;subst am;replace v:=Aa he;have a6:=Aa N;clear N he A bs b7 ab hl au cn ij jg dy dx dw ic er n i2;clear be bd bc bb f;have dl:Hx ((acc++[d]).length=k+1):=by show _=_;rw [List.length_append,HK.o];rfl
      obtain ⟨t8,g6⟩:=nm (tx ts s6 0);have ej:=Aa g6;clear g6;have KT:Hx (Ro 57 #[zf (some ⟨rb,0,none⟩),I O 0] W5 (.string t8)):=by rw [ej.o];exact BO 0 (by omega) s6 _ v.o.st
      go_wp2_with fail;refine KT.o.mono ?_;rintro e jr ⟨rfl,hb⟩;replace v:=Aa (v.o.over hb);replace a6:=Aa (a6.o.over hb);clear KT hb;by_cases h59:tl ts s6 0=[59]
      ·have q8:(t8.toList == [59])=true:=G7 ej.o h59
       have hr:=ad.o;rw [decide_eq_true h59,if_pos h59] at hr;have co:s6.2=false:=(I5 (ts:=ts) (s:=s6) (k:=0) (by rw [h59];simp)).1;have ar:=Fx co h59;obtain ⟨s9,dp⟩:=nm (AB ts [59] s6);have KN:=Aa (BX ⟨#[59]⟩ [59] rfl (by decide) s6 _ v.o.st);rw [<-dp] at KN hr ar;have eq:=Aa hr;have ja:=Aa ar;clear hr ar dp co h59 ad;go_wp2_with fail;refine KN.o.mono ?_;rintro e jq ⟨rfl,S⟩;replace a6:=Aa (a6.o.keep S.1 v.o.rlt);replace v:=Aa (Qo.rq v.o S);clear KN S;go_wp2_with fail;have h3:=dz.o;have h4:=a5.o;have h5:=a0.o;have ba:=Et ts.length v.o.st;have h9:=ja.o;have bu:=IT (L:=ts.length) (k:=k) (g:=g) (s:=s2) (s4:=s9) HF.o.1 ii.o (by rw [HK.o];exact HF.o.2.1) (by rw [h9];dsimp only;omega) (Or.inr (by rw [h9];dsimp only;omega)) v.o.st.2.1;exact ⟨⟨acc++[d],s9,g,true,rfl,by rw [dl.o];exact a6.o,v.o,eq.o,bu.1,by rw [dl.o];exact bu.2.1⟩,by rw [ba,ie.o];exact bu.2.2⟩
      ·have q8:(t8.toList == [59])=false:=DB ej.o h59
       have hr:=ad.o;rw [decide_eq_false h59,if_neg h59] at hr;have eq:=Aa hr;clear hr h59 ad;go_wp2_with fail;have h3:=dz.o;have h4:=a5.o;have h5:=a0.o;have ba:=Et ts.length v.o.st
       skip
       have bu:=IT (L:=ts.length) (k:=k) (g:=g) (s:=s2) (s4:=s6) HF.o.1 ii.o (by rw [HK.o];exact HF.o.2.1) (by omega) (cb.o) v.o.st.2.1;exact ⟨⟨acc++[d],s6,g,false,rfl,by rw [dl.o];exact a6.o,v.o,eq.o,bu.1,by rw [dl.o];exact bu.2.1⟩,by rw [ba,ie.o];exact bu.2.2⟩
     clear eg;obtain ⟨t5,d8⟩:=nm (tx ts s4 0);have KT:Hx (Ro 57 #[zf (some ⟨rb,0,none⟩),I O 0] W (.string t5)):=by rw [d8];exact BO 0 (by omega) s4 _ v.o.st
     have c8:=Aa d8;clear d8;go_wp2_with fail;refine KT.o.mono ?_;rintro e gv ⟨rfl,hb⟩;clear KT;replace n:=Aa (Ab n.o (Ad (r:=some rb) hb));replace f:=Aa (f.o.over hb);replace v:Hx (Rq rb tv ts en w m0 (s4) gv):=v.o.over hb;clear hb;by_cases h59:tl ts s4 0=[59]
     ·have q5:(t5.toList == [59])=true:=G7 c8.o h59
      go_wp2_with fail;exact de.o _ _ FrL.mk ⟨[],s4,none,0,0,rfl,Nat.zero_le _,by unfold Dp;rw [if_neg (fun e=>e.1 h59)],f.o,Cop.nil,v.o,n.o,Nat.le_refl _⟩
     ·have q5:(t5.toList == [59])=false:=DB c8.o h59
      have KT:Hx (Ro 57 #[zf (some ⟨rb,0,none⟩),I O 0] gv (.string t5)):=by rw [c8.o];exact BO 0 (by omega) s4 _ v.o.st
      go_wp2_with fail;refine KT.o.mono ?_;rintro e cw ⟨rfl,hb⟩;clear KT;replace n:=Aa (Ab n.o (Ad (r:=some rb) hb));replace f:=Aa (f.o.over hb);replace v:Hx (Rq rb tv ts en w m0 (s4) cw):=v.o.over hb;clear hb;by_cases h125:tl ts s4 0=[125]
      ·have g4:(t5.toList == [125])=true:=G7 c8.o h125
       go_wp2_with fail;exact de.o _ _ FrL.mk ⟨[],s4,none,0,0,rfl,Nat.zero_le _,by unfold Dp;rw [if_neg (fun e=>e.2 h125)],f.o,Cop.nil,v.o,n.o,Nat.le_refl _⟩
      ·have g4:(t5.toList == [125])=false:=DB c8.o h125
       have bi:Dp ts s4=Dx ts (ts.length+1) [(A9 ts s4).1] (A9 ts s4).2:=by unfold Dp;rw [if_pos ⟨h59,h125⟩]
       obtain ⟨pn,c0⟩:=nm (A9 ts s4);obtain ⟨n1,s5⟩:=pn;rw [<-c0] at bi;dsimp only at bi;have bo:Hx (Dx ts (ts.length+1) [n1] s5=Dp ts s4):=bi.symm;have cq:Hx (∀ X,Sd rb tv ts en s4 X->Calls Tryz.prog 58 #[zf (some ⟨rb,0,none⟩)] X fun e w'=>e=zh (.string n1)/\Qo rb tv ts en X s4 s5 w'):=fun X hX=>by
        have h9:=Es hall s4 X hX;rw [<-c0] at h9;exact h9
       have V:Hx (0=([]:List ByteArray).length):=rfl;have ag:Hx (0<=6001):=Nat.zero_le _;have B:Hx (Cop (M+1) 9 1 (fun i cs W=>∀ y,([]:List ByteArray)[i]? = some y->RN cs y) 0 (zc none 0 0) cw):=Cop.nil;replace ib:Hx (M+1<=cw.heap.size):=f.o.lt;clear bi c0 h59 h125;go_wp2_with fail;clear q5 g4;refine GB (fun act W=>FrL rb M (zc la k lc) t ch act/\∃ (H:Option Addr) (G:Nat),Bx M [I O p,.string x,zd wb,zc H (0+1) G] W/\Cop (M+1) 9 1 (fun i cs W=>∀ y,([]++[n1])[i]? = some y->RN cs y) (0+1) (zc H (0+1) G) W/\Rq rb tv ts en w m0 s5 W/\Wo.grownBy W (some rb)/\s4.1<=s5.1) ?_ ?_
       ·refine gS (fun _=>True) trivial fun C=>?_
        obtain ⟨Wd,bw⟩:=nm cw.drew;have ax:Ov cw Wd:=by rw [bw];exact bD _
        replace v:=Aa (v.o.over ax);replace f:=Aa (f.o.over ax);replace B:=Aa (B.o.over ax);replace n:=Aa (Ab n.o (Ad (r:=some rb) ax));rw [<-bw];clear bw ax;refine kT 0 ?_;refine kT 2 ?_;refine rdB 1 3 rfl (fun K J=>?_) rfl fun K J=>?_
        ·have lc:=f.o.row 3 _ rfl
         go_simp;refine xK J trivial fun C=>?_;clear J K lc;refine rdA 3 rfl fun K J=>?_;go_simp;refine (cq.o _ v.o.st).mono ?_;rintro e wn ⟨rfl,S⟩;have Z:=S.1;replace f:=Aa (f.o.keep Z (by have h1:=v.o.rlt;have h2:=a1.o;omega));replace B:=Aa (B.o.keep Z (by have h1:=v.o.rlt;have h2:=cr.o;omega));replace n:=Aa (Ab n.o Z);have al:=Aa S.2.2;replace v:=Aa (Qo.rq v.o S);clear Z S C;go_simp;refine xK J trivial fun C=>?_;clear J K;refine rdA 4 rfl fun K J=>?_;obtain ⟨W2,U⟩:=nm (wn.alloc (ze #[.string n1] 9));have Q:Ov wn W2:=by rw [U];exact bA _ _
         have az:Hx (Af [.string n1] W2 wn.heap.size):=by show Af _ _ _;rw [U];exact Ax wn [.string n1] 9
         have da:Hx (M+1<=wn.heap.size):=f.o.lt;replace v:=Aa (v.o.over Q);replace f:=Aa (f.o.over Q);replace B:=Aa (B.o.over Q);replace n:=Aa (Ab n.o (Ad (r:=some rb) Q));clear Q;go_simp;rw [<-U];refine xK J trivial fun C=>?_;clear J K U;refine rdA 5 rfl fun K J=>?_;obtain ⟨xs,A,af⟩:=B.o;obtain ⟨v2,W3,Y,E,F,-,ab⟩:=run_append_own_at (P:=Tryz.prog) (w:=W2) (M+1) 46 46 9 i0 (.string ⟨#[]⟩) 1 16 Tryz.underlying46 hi cl ck cj rfl (by decide) _ _ _ A ⟨wn.heap.size,0,none⟩ 1 1 [.string n1] rfl (fun jj u hu=>by rw [Addr.add_lit,Nat.zero_add];exact az.o jj u hu) (by simp [Value.oneCell']) (by unfold maxLen;have:=ag.o;omega) (by have:=ag.o;omega) (f.o.lt);have N:Cop (M+1) 9 1 (fun i cs W=>∀ y,(([]:List ByteArray)++[n1])[i]? = some y->RN cs y) (0+1) v2 W3:=Cop.add (B1:=W2.heap.size) A (fun i hi=>by
           obtain ⟨ds,z1,z2,z3⟩:=af i hi;exact ⟨ds,z1,z2,z3.imp fun W hW y hy=>hW y (by rw [List.getElem?_append_left (by rw [<-V.o];exact hi)] at hy;exact hy)⟩) rfl (fun W hW y hy=>by
            rw [List.getElem?_append_right (by rw [V.o];exact Nat.le_refl _),V.o,Nat.sub_self] at hy;injection hy with hy;rw [<-hy]) (f.o.lt) (fun g Z=>(AO A Z).2) E F ab
         replace v:=Aa (v.o.row A ct.o F);replace n:=Aa (Dk n.o A b5.o F);replace f:=Aa (f.o.grown F (fun e=>by have h1:=(AO A e.symm).1;have h2:=ap.o;omega));obtain ⟨H,cf,G,am⟩:=AP E;subst am;obtain rfl:=CY E;replace B:=Aa N;refine AV rfl _ _ _ rfl _ _ _ _ rfl rfl Y ?_;clear Y A af E F ab N;refine xK J trivial fun C=>?_;clear J K;refine kT 6 ?_;refine rdA 7 rfl fun K J=>?_;have lc:=f.o.row 3 _ rfl;have lf:=f.o.fz 3;obtain ⟨W9,T⟩:=nm (W3.setCell ⟨M,3,none⟩ (zc H (0+1) G));replace f:Hx (Bx M [I O p,.string x,zd wb,zc H (0+1) G] W9):=by show Bx _ _ _;rw [T];exact f.o.set (j:=3) (by simp)
         replace v:=Aa (v.o.set (b:=M) (j:=3) (u:=zc H (0+1) G) a1.o);replace B:=Aa (B.o.set (b:=M) (j:=3) (u:=zc H (0+1) G) ap.o);replace n:=Aa (Ak n.o (p:=⟨M,3,none⟩) b4.o (zc H (0+1) G));rw [<-T] at v B n;go_simp;rw [<-T];refine xK J trivial fun C=>?_;clear J K T lc lf;refine gE ?_;exact C1 ⟨FrL.mk,H,G,f.o,B.o,v.o,n.o,al.o⟩
        ·go_simp
         refine (cq.o _ v.o.st).mono ?_;rintro e wn ⟨rfl,S⟩;have Z:=S.1;replace f:=Aa (f.o.keep Z (by have h1:=v.o.rlt;have h2:=a1.o;omega));replace B:=Aa (B.o.keep Z (by have h1:=v.o.rlt;have h2:=cr.o;omega));replace n:=Aa (Ab n.o Z);have al:=Aa S.2.2;replace v:=Aa (Qo.rq v.o S);clear Z S C;go_simp;refine xK J trivial fun C=>?_;clear J K;refine rdB 1 4 rfl (fun K J=>?_) rfl fun K J=>?_
         ·have lc:=f.o.row 3 _ rfl
          go_simp;refine xK J trivial fun C=>?_;clear J K lc;refine rdA 4 rfl fun K J=>?_;obtain ⟨W2,U⟩:=nm (wn.alloc (ze #[.string n1] 9));have Q:Ov wn W2:=by rw [U];exact bA _ _
          have az:Hx (Af [.string n1] W2 wn.heap.size):=by show Af _ _ _;rw [U];exact Ax wn [.string n1] 9
          have da:Hx (M+1<=wn.heap.size):=f.o.lt;replace v:=Aa (v.o.over Q);replace f:=Aa (f.o.over Q);replace B:=Aa (B.o.over Q);replace n:=Aa (Ab n.o (Ad (r:=some rb) Q));clear Q;go_simp;rw [<-U];refine xK J trivial fun C=>?_;clear J K U;refine rdA 5 rfl fun K J=>?_;obtain ⟨xs,A,af⟩:=B.o;obtain ⟨v2,W3,Y,E,F,-,ab⟩:=run_append_own_at (P:=Tryz.prog) (w:=W2) (M+1) 46 46 9 i0 (.string ⟨#[]⟩) 1 16 Tryz.underlying46 hi cl ck cj rfl (by decide) _ _ _ A ⟨wn.heap.size,0,none⟩ 1 1 [.string n1] rfl (fun jj u hu=>by rw [Addr.add_lit,Nat.zero_add];exact az.o jj u hu) (by simp [Value.oneCell']) (by unfold maxLen;have:=ag.o;omega) (by have:=ag.o;omega) (f.o.lt);have N:Cop (M+1) 9 1 (fun i cs W=>∀ y,(([]:List ByteArray)++[n1])[i]? = some y->RN cs y) (0+1) v2 W3:=Cop.add (B1:=W2.heap.size) A (fun i hi=>by
            obtain ⟨ds,z1,z2,z3⟩:=af i hi;exact ⟨ds,z1,z2,z3.imp fun W hW y hy=>hW y (by rw [List.getElem?_append_left (by rw [<-V.o];exact hi)] at hy;exact hy)⟩) rfl (fun W hW y hy=>by
             rw [List.getElem?_append_right (by rw [V.o];exact Nat.le_refl _),V.o,Nat.sub_self] at hy;injection hy with hy;rw [<-hy]) (f.o.lt) (fun g Z=>(AO A Z).2) E F ab
          replace v:=Aa (v.o.row A ct.o F);replace n:=Aa (Dk n.o A b5.o F);replace f:=Aa (f.o.grown F (fun e=>by have h1:=(AO A e.symm).1;have h2:=ap.o;omega));obtain ⟨H,cf,G,am⟩:=AP E;subst am;obtain rfl:=CY E;replace B:=Aa N;refine AV rfl _ _ _ rfl _ _ _ _ rfl rfl Y ?_;clear Y A af E F ab N;refine xK J trivial fun C=>?_;clear J K;refine kT 6 ?_;refine rdA 7 rfl fun K J=>?_;have lc:=f.o.row 3 _ rfl;have lf:=f.o.fz 3;obtain ⟨W9,T⟩:=nm (W3.setCell ⟨M,3,none⟩ (zc H (0+1) G));replace f:Hx (Bx M [I O p,.string x,zd wb,zc H (0+1) G] W9):=by show Bx _ _ _;rw [T];exact f.o.set (j:=3) (by simp)
          replace v:=Aa (v.o.set (b:=M) (j:=3) (u:=zc H (0+1) G) a1.o);replace B:=Aa (B.o.set (b:=M) (j:=3) (u:=zc H (0+1) G) ap.o);replace n:=Aa (Ak n.o (p:=⟨M,3,none⟩) b4.o (zc H (0+1) G));rw [<-T] at v B n;go_simp;rw [<-T];refine xK J trivial fun C=>?_;clear J K T lc lf;refine gE ?_;exact C1 ⟨FrL.mk,H,G,f.o,B.o,v.o,n.o,al.o⟩
         ·obtain ⟨W2,U⟩:=nm (wn.alloc (ze #[.string n1] 9))
          have Q:Ov wn W2:=by rw [U];exact bA _ _
          have az:Hx (Af [.string n1] W2 wn.heap.size):=by show Af _ _ _;rw [U];exact Ax wn [.string n1] 9
          have da:Hx (M+1<=wn.heap.size):=f.o.lt;replace v:=Aa (v.o.over Q);replace f:=Aa (f.o.over Q);replace B:=Aa (B.o.over Q);replace n:=Aa (Ab n.o (Ad (r:=some rb) Q));clear Q;go_simp;rw [<-U];refine xK J trivial fun C=>?_;clear J K U;refine rdA 1 rfl fun K J=>?_;have lc:=f.o.row 3 _ rfl;go_simp;refine xK J trivial fun C=>?_;clear J K lc;refine rdA 5 rfl fun K J=>?_;obtain ⟨xs,A,af⟩:=B.o;obtain ⟨v2,W3,Y,E,F,-,ab⟩:=run_append_own_at (P:=Tryz.prog) (w:=W2) (M+1) 46 46 9 i0 (.string ⟨#[]⟩) 1 16 Tryz.underlying46 hi cl ck cj rfl (by decide) _ _ _ A ⟨wn.heap.size,0,none⟩ 1 1 [.string n1] rfl (fun jj u hu=>by rw [Addr.add_lit,Nat.zero_add];exact az.o jj u hu) (by simp [Value.oneCell']) (by unfold maxLen;have:=ag.o;omega) (by have:=ag.o;omega) (f.o.lt);have N:Cop (M+1) 9 1 (fun i cs W=>∀ y,(([]:List ByteArray)++[n1])[i]? = some y->RN cs y) (0+1) v2 W3:=Cop.add (B1:=W2.heap.size) A (fun i hi=>by
            obtain ⟨ds,z1,z2,z3⟩:=af i hi;exact ⟨ds,z1,z2,z3.imp fun W hW y hy=>hW y (by rw [List.getElem?_append_left (by rw [<-V.o];exact hi)] at hy;exact hy)⟩) rfl (fun W hW y hy=>by
             rw [List.getElem?_append_right (by rw [V.o];exact Nat.le_refl _),V.o,Nat.sub_self] at hy;injection hy with hy;rw [<-hy]) (f.o.lt) (fun g Z=>(AO A Z).2) E F ab
          replace v:=Aa (v.o.row A ct.o F);replace n:=Aa (Dk n.o A b5.o F);replace f:=Aa (f.o.grown F (fun e=>by have h1:=(AO A e.symm).1;have h2:=ap.o;omega));obtain ⟨H,cf,G,am⟩:=AP E;subst am;obtain rfl:=CY E;replace B:=Aa N;refine AV rfl _ _ _ rfl _ _ _ _ rfl rfl Y ?_;clear Y A af E F ab N;refine xK J trivial fun C=>?_;clear J K;refine kT 6 ?_;refine rdA 7 rfl fun K J=>?_;have lc:=f.o.row 3 _ rfl;have lf:=f.o.fz 3;obtain ⟨W9,T⟩:=nm (W3.setCell ⟨M,3,none⟩ (zc H (0+1) G));replace f:Hx (Bx M [I O p,.string x,zd wb,zc H (0+1) G] W9):=by show Bx _ _ _;rw [T];exact f.o.set (j:=3) (by simp)
          replace v:=Aa (v.o.set (b:=M) (j:=3) (u:=zc H (0+1) G) a1.o);replace B:=Aa (B.o.set (b:=M) (j:=3) (u:=zc H (0+1) G) ap.o);replace n:=Aa (Ak n.o (p:=⟨M,3,none⟩) b4.o (zc H (0+1) G));rw [<-T] at v B n;go_simp;rw [<-T];refine xK J trivial fun C=>?_;clear J K T lc lf;refine gE ?_;exact C1 ⟨FrL.mk,H,G,f.o,B.o,v.o,n.o,al.o⟩
       ·rintro act W9 ⟨⟨gu,gt,gs,gq,gp,gn,gm,gl,gk,gj,gi,gh,gg,gf,ge,gd,gc,gb,ga,f9,f8,f7,f6,f5,f4,f3,f2,f1,f0,fy,fx,fw,fv,fu,ft,fs,fq,fp,fo,fn,fm,fl,fk,fj,fi,fh,fg,ff,fe,fd,fc,fb,fa,e9,e8,e7,e5,e4,e3,e2,e1,rfl⟩,H,G,aj,bk,hd,av,dt⟩
        clear B f v n;go_wp2_with fail;go_loopw [] (fun wr=>∃ (nacc:List ByteArray) (s6:Sg) (g2:Nat) (na:Option Addr) (nk nc:Nat),nk=nacc.length/\Bx M [I O p,.string x,zd wb,zc na nk nc] wr/\Cop (M+1) 9 1 (fun i cs W=>∀ y,nacc[i]? = some y->RN cs y) nk (zc na nk nc) wr/\Rq rb tv ts en w m0 s6 wr/\Dx ts g2 nacc s6=Dp ts s4/\ts.length - s6.1 < g2/\nk<=s6.1+1/\Wo.grownBy wr (some rb)/\s4.1<=s6.1) (fun wr=>mQ rb ts.length wr)
        case atStart=>exact ⟨[n1],s5,ts.length+1,H,0+1,G,rfl,aj,bk,hd,bo.o,by omega,by omega,av,dt⟩
        case round=>
         clear aj bk hd av dt;obtain ⟨nacc,s6,g2,na,nk,nc,c1,aj,bk,hd,a8,g9,c3,av,bl⟩:=hrel;have f:=Aa aj;have B:=Aa bk;have v:=Aa hd;replace bo:=Aa a8;have n:=Aa av;replace V:=Aa c1;have a0:=Aa bl;have dn:=Aa (And.intro g9 c3);have es:=Aa (Et ts.length hd.st);have h6:s6.1<=ts.length/\ts.length<=6000:=⟨hd.st.2.1,hd.st.2.2.1⟩;replace ag:Hx (nk<=6001):=by show _<=_;omega
         clear c1 aj bk hd a8 g9 c3 av bl h6;obtain ⟨t6,g7⟩:=nm (tx ts s6 0);have ek:=Aa g7;clear g7;have KT:Hx (Ro 57 #[zf (some ⟨rb,0,none⟩),I O 0] wr (.string t6)):=by rw [ek.o];exact BO 0 (by omega) s6 _ v.o.st
         go_wp2_with fail;refine KT.o.mono ?_;rintro e gw ⟨rfl,hb⟩;replace B:=Aa (B.o.over hb);clear KT;replace n:=Aa (Ab n.o (Ad (r:=some rb) hb));replace f:=Aa (f.o.over hb);replace v:Hx (Rq rb tv ts en w m0 (s6) gw):=v.o.over hb;clear hb;by_cases h44:tl ts s6 0=[44]
         ·have q6:(t6.toList == [44])=true:=G7 ek.o h44
          obtain ⟨g2,rfl⟩:∃ q,g2=q+1:=⟨g2 - 1,by have:=dn.o.1;omega⟩;have a8:=bo.o;rw [Mz _ _ _ h44] at a8;have co:=(I5 (ts:=ts) (s:=s6) (k:=0) (by rw [h44];simp));have d9:=Fx co.1 h44;obtain ⟨s7,dq⟩:=nm (AB ts [44] s6);have KN:=Aa (BX ⟨#[44]⟩ [44] rfl (by decide) s6 _ v.o.st);rw [<-dq] at KN a8 d9;obtain ⟨pn,bi⟩:=nm (A9 ts s7);have cq:Hx (∀ X,Sd rb tv ts en s7 X->Calls Tryz.prog 58 #[zf (some ⟨rb,0,none⟩)] X fun e w'=>e=zh (.string pn.1)/\Qo rb tv ts en X s7 pn.2 w'):=fun X hX=>by
           have h9:=Es hall s7 X hX;rw [<-bi] at h9;exact h9
          rw [<-bi] at a8;obtain ⟨n8,s8⟩:=pn;dsimp only at a8 cq;replace bo:=Aa a8;have ep:=Aa (And.intro d9 co);clear a8 d9 dq co h44 bi;go_wp2_with fail;refine KN.o.mono ?_;rintro e cx ⟨rfl,S⟩;clear KN;replace B:=Aa (B.o.keep S.1 (by have h1:=v.o.rlt;have h2:=cr.o;omega));replace n:=Aa (Ab n.o S.1);have Z:=S.1;replace f:=bkp f v.o.rlt b3 Z;replace v:Hx (Rq rb tv ts en w m0 (s7) cx):=Qo.rq v.o S;clear Z S;clear q6;go_wp2_with fail;refine gS (fun _=>True) trivial fun C=>?_;obtain ⟨Wd,bw⟩:=nm cx.drew;have ax:Ov cx Wd:=by rw [bw];exact bD _
          replace v:=Aa (v.o.over ax);replace f:=Aa (f.o.over ax);replace B:=Aa (B.o.over ax);replace n:=Aa (Ab n.o (Ad (r:=some rb) ax));rw [<-bw];clear bw ax;refine kT 0 ?_;refine kT 2 ?_;refine rdB 1 3 rfl (fun K J=>?_) rfl fun K J=>?_
          ·have lc:=f.o.row 3 _ rfl
           go_simp;refine xK J trivial fun C=>?_;clear J K lc;refine rdA 3 rfl fun K J=>?_;go_simp;refine (cq.o _ v.o.st).mono ?_;rintro e wn ⟨rfl,S⟩;have Z:=S.1;replace f:=Aa (f.o.keep Z (by have h1:=v.o.rlt;have h2:=a1.o;omega));replace B:=Aa (B.o.keep Z (by have h1:=v.o.rlt;have h2:=cr.o;omega));replace n:=Aa (Ab n.o Z);have al:=Aa S.2.2;replace v:=Aa (Qo.rq v.o S);clear Z S C;go_simp;refine xK J trivial fun C=>?_;clear J K;refine rdA 4 rfl fun K J=>?_;obtain ⟨W2,U⟩:=nm (wn.alloc (ze #[.string n8] 9));have Q:Ov wn W2:=by rw [U];exact bA _ _
           have az:Hx (Af [.string n8] W2 wn.heap.size):=by show Af _ _ _;rw [U];exact Ax wn [.string n8] 9
           have da:Hx (M+1<=wn.heap.size):=f.o.lt;replace v:=Aa (v.o.over Q);replace f:=Aa (f.o.over Q);replace B:=Aa (B.o.over Q);replace n:=Aa (Ab n.o (Ad (r:=some rb) Q));clear Q;go_simp;rw [<-U];refine xK J trivial fun C=>?_;clear J K U;refine rdA 5 rfl fun K J=>?_;obtain ⟨xs,A,af⟩:=B.o;obtain ⟨v2,W3,Y,E,F,-,ab⟩:=run_append_own_at (P:=Tryz.prog) (w:=W2) (M+1) 46 46 9 i0 (.string ⟨#[]⟩) 1 16 Tryz.underlying46 hi cl ck cj rfl (by decide) _ _ _ A ⟨wn.heap.size,0,none⟩ 1 1 [.string n8] rfl (fun jj u hu=>by rw [Addr.add_lit,Nat.zero_add];exact az.o jj u hu) (by simp [Value.oneCell']) (by unfold maxLen;have:=ag.o;omega) (by have:=ag.o;omega) (f.o.lt);have N:Cop (M+1) 9 1 (fun i cs W=>∀ y,(nacc++[n8])[i]? = some y->RN cs y) (nk+1) v2 W3:=Cop.add (B1:=W2.heap.size) A (fun i hi=>by
             obtain ⟨ds,z1,z2,z3⟩:=af i hi;exact ⟨ds,z1,z2,z3.imp fun W hW y hy=>hW y (by rw [List.getElem?_append_left (by rw [<-V.o];exact hi)] at hy;exact hy)⟩) rfl (fun W hW y hy=>by
              rw [List.getElem?_append_right (by rw [V.o];exact Nat.le_refl _),V.o,Nat.sub_self] at hy;injection hy with hy;rw [<-hy]) (f.o.lt) (fun g Z=>(AO A Z).2) E F ab
           replace v:=Aa (v.o.row A ct.o F);replace n:=Aa (Dk n.o A b5.o F);replace f:=Aa (f.o.grown F (fun e=>by have h1:=(AO A e.symm).1;have h2:=ap.o;omega));obtain ⟨H,cf,G,am⟩:=AP E;subst am;obtain rfl:=CY E;replace B:=Aa N;refine AV rfl _ _ _ rfl _ _ _ _ rfl rfl Y ?_;clear Y A af E F ab N;refine xK J trivial fun C=>?_;clear J K;refine kT 6 ?_;refine rdA 7 rfl fun K J=>?_;have lc:=f.o.row 3 _ rfl;have lf:=f.o.fz 3;obtain ⟨W9,T⟩:=nm (W3.setCell ⟨M,3,none⟩ (zc H (nk+1) G));replace f:Hx (Bx M [I O p,.string x,zd wb,zc H (nk+1) G] W9):=by show Bx _ _ _;rw [T];exact f.o.set (j:=3) (by simp)
           replace v:=Aa (v.o.set (b:=M) (j:=3) (u:=zc H (nk+1) G) a1.o);replace B:=Aa (B.o.set (b:=M) (j:=3) (u:=zc H (nk+1) G) ap.o);replace n:=Aa (Ak n.o (p:=⟨M,3,none⟩) b4.o (zc H (nk+1) G));rw [<-T] at v B n;go_simp;rw [<-T];refine xK J trivial fun C=>?_;clear J K T lc lf;refine gE ?_;go_wp2_with fail;have h7:=ep.o;have h8:=al.o;have h9:=dn.o;have h5:=a0.o;have hk:=V.o;have ba:=Et ts.length v.o.st;have ho:=v.o.st.2.1;have hf:bN s8.2<=1:=by unfold bN;split <;> omega
           have e6:bN s6.2=1:=by rw [h7.2.1];rfl
           have hm:=h7.2.2;rw [h7.1] at h8;dsimp only at h8;exact ⟨⟨nacc++[n8],s8,g2,H,nk+1,G,by rw [List.length_append,<-hk];rfl,f.o,B.o,v.o,bo.o,by omega,by omega,n.o,by omega⟩,by rw [ba,es.o,e6];omega⟩
          ·go_simp
           refine (cq.o _ v.o.st).mono ?_;rintro e wn ⟨rfl,S⟩;have Z:=S.1;replace f:=Aa (f.o.keep Z (by have h1:=v.o.rlt;have h2:=a1.o;omega));replace B:=Aa (B.o.keep Z (by have h1:=v.o.rlt;have h2:=cr.o;omega));replace n:=Aa (Ab n.o Z);have al:=Aa S.2.2;replace v:=Aa (Qo.rq v.o S);clear Z S C;go_simp;refine xK J trivial fun C=>?_;clear J K;refine rdB 1 4 rfl (fun K J=>?_) rfl fun K J=>?_
           ·have lc:=f.o.row 3 _ rfl
            go_simp;refine xK J trivial fun C=>?_;clear J K lc;refine rdA 4 rfl fun K J=>?_;obtain ⟨W2,U⟩:=nm (wn.alloc (ze #[.string n8] 9));have Q:Ov wn W2:=by rw [U];exact bA _ _
            have az:Hx (Af [.string n8] W2 wn.heap.size):=by show Af _ _ _;rw [U];exact Ax wn [.string n8] 9
            have da:Hx (M+1<=wn.heap.size):=f.o.lt;replace v:=Aa (v.o.over Q);replace f:=Aa (f.o.over Q);replace B:=Aa (B.o.over Q);replace n:=Aa (Ab n.o (Ad (r:=some rb) Q));clear Q;go_simp;rw [<-U];refine xK J trivial fun C=>?_;clear J K U;refine rdA 5 rfl fun K J=>?_;obtain ⟨xs,A,af⟩:=B.o;obtain ⟨v2,W3,Y,E,F,-,ab⟩:=run_append_own_at (P:=Tryz.prog) (w:=W2) (M+1) 46 46 9 i0 (.string ⟨#[]⟩) 1 16 Tryz.underlying46 hi cl ck cj rfl (by decide) _ _ _ A ⟨wn.heap.size,0,none⟩ 1 1 [.string n8] rfl (fun jj u hu=>by rw [Addr.add_lit,Nat.zero_add];exact az.o jj u hu) (by simp [Value.oneCell']) (by unfold maxLen;have:=ag.o;omega) (by have:=ag.o;omega) (f.o.lt);have N:Cop (M+1) 9 1 (fun i cs W=>∀ y,(nacc++[n8])[i]? = some y->RN cs y) (nk+1) v2 W3:=Cop.add (B1:=W2.heap.size) A (fun i hi=>by
              obtain ⟨ds,z1,z2,z3⟩:=af i hi;exact ⟨ds,z1,z2,z3.imp fun W hW y hy=>hW y (by rw [List.getElem?_append_left (by rw [<-V.o];exact hi)] at hy;exact hy)⟩) rfl (fun W hW y hy=>by
               rw [List.getElem?_append_right (by rw [V.o];exact Nat.le_refl _),V.o,Nat.sub_self] at hy;injection hy with hy;rw [<-hy]) (f.o.lt) (fun g Z=>(AO A Z).2) E F ab
            replace v:=Aa (v.o.row A ct.o F);replace n:=Aa (Dk n.o A b5.o F);replace f:=Aa (f.o.grown F (fun e=>by have h1:=(AO A e.symm).1;have h2:=ap.o;omega));obtain ⟨H,cf,G,am⟩:=AP E;subst am;obtain rfl:=CY E;replace B:=Aa N;refine AV rfl _ _ _ rfl _ _ _ _ rfl rfl Y ?_;clear Y A af E F ab N;refine xK J trivial fun C=>?_;clear J K;refine kT 6 ?_;refine rdA 7 rfl fun K J=>?_;have lc:=f.o.row 3 _ rfl;have lf:=f.o.fz 3;obtain ⟨W9,T⟩:=nm (W3.setCell ⟨M,3,none⟩ (zc H (nk+1) G));replace f:Hx (Bx M [I O p,.string x,zd wb,zc H (nk+1) G] W9):=by show Bx _ _ _;rw [T];exact f.o.set (j:=3) (by simp)
            replace v:=Aa (v.o.set (b:=M) (j:=3) (u:=zc H (nk+1) G) a1.o);replace B:=Aa (B.o.set (b:=M) (j:=3) (u:=zc H (nk+1) G) ap.o);replace n:=Aa (Ak n.o (p:=⟨M,3,none⟩) b4.o (zc H (nk+1) G));rw [<-T] at v B n;go_simp;rw [<-T];refine xK J trivial fun C=>?_;clear J K T lc lf;refine gE ?_;go_wp2_with fail;have h7:=ep.o;have h8:=al.o;have h9:=dn.o;have h5:=a0.o;have hk:=V.o;have ba:=Et ts.length v.o.st;have ho:=v.o.st.2.1;have hf:bN s8.2<=1:=by unfold bN;split <;> omega
            have e6:bN s6.2=1:=by rw [h7.2.1];rfl
            have hm:=h7.2.2;rw [h7.1] at h8;dsimp only at h8;exact ⟨⟨nacc++[n8],s8,g2,H,nk+1,G,by rw [List.length_append,<-hk];rfl,f.o,B.o,v.o,bo.o,by omega,by omega,n.o,by omega⟩,by rw [ba,es.o,e6];omega⟩
           ·obtain ⟨W2,U⟩:=nm (wn.alloc (ze #[.string n8] 9))
            have Q:Ov wn W2:=by rw [U];exact bA _ _
            have az:Hx (Af [.string n8] W2 wn.heap.size):=by show Af _ _ _;rw [U];exact Ax wn [.string n8] 9
            have da:Hx (M+1<=wn.heap.size):=f.o.lt;replace v:=Aa (v.o.over Q);replace f:=Aa (f.o.over Q);replace B:=Aa (B.o.over Q);replace n:=Aa (Ab n.o (Ad (r:=some rb) Q));clear Q;go_simp;rw [<-U];refine xK J trivial fun C=>?_;clear J K U;refine rdA 1 rfl fun K J=>?_;have lc:=f.o.row 3 _ rfl;go_simp;refine xK J trivial fun C=>?_;clear J K lc;refine rdA 5 rfl fun K J=>?_;obtain ⟨xs,A,af⟩:=B.o;obtain ⟨v2,W3,Y,E,F,-,ab⟩:=run_append_own_at (P:=Tryz.prog) (w:=W2) (M+1) 46 46 9 i0 (.string ⟨#[]⟩) 1 16 Tryz.underlying46 hi cl ck cj rfl (by decide) _ _ _ A ⟨wn.heap.size,0,none⟩ 1 1 [.string n8] rfl (fun jj u hu=>by rw [Addr.add_lit,Nat.zero_add];exact az.o jj u hu) (by simp [Value.oneCell']) (by unfold maxLen;have:=ag.o;omega) (by have:=ag.o;omega) (f.o.lt);have N:Cop (M+1) 9 1 (fun i cs W=>∀ y,(nacc++[n8])[i]? = some y->RN cs y) (nk+1) v2 W3:=Cop.add (B1:=W2.heap.size) A (fun i hi=>by
              obtain ⟨ds,z1,z2,z3⟩:=af i hi;exact ⟨ds,z1,z2,z3.imp fun W hW y hy=>hW y (by rw [List.getElem?_append_left (by rw [<-V.o];exact hi)] at hy;exact hy)⟩) rfl (fun W hW y hy=>by
               rw [List.getElem?_append_right (by rw [V.o];exact Nat.le_refl _),V.o,Nat.sub_self] at hy;injection hy with hy;rw [<-hy]) (f.o.lt) (fun g Z=>(AO A Z).2) E F ab
            replace v:=Aa (v.o.row A ct.o F);replace n:=Aa (Dk n.o A b5.o F);replace f:=Aa (f.o.grown F (fun e=>by have h1:=(AO A e.symm).1;have h2:=ap.o;omega));obtain ⟨H,cf,G,am⟩:=AP E;subst am;obtain rfl:=CY E;replace B:=Aa N;refine AV rfl _ _ _ rfl _ _ _ _ rfl rfl Y ?_;clear Y A af E F ab N;refine xK J trivial fun C=>?_;clear J K;refine kT 6 ?_;refine rdA 7 rfl fun K J=>?_;have lc:=f.o.row 3 _ rfl;have lf:=f.o.fz 3;obtain ⟨W9,T⟩:=nm (W3.setCell ⟨M,3,none⟩ (zc H (nk+1) G));replace f:Hx (Bx M [I O p,.string x,zd wb,zc H (nk+1) G] W9):=by show Bx _ _ _;rw [T];exact f.o.set (j:=3) (by simp)
            replace v:=Aa (v.o.set (b:=M) (j:=3) (u:=zc H (nk+1) G) a1.o);replace B:=Aa (B.o.set (b:=M) (j:=3) (u:=zc H (nk+1) G) ap.o);replace n:=Aa (Ak n.o (p:=⟨M,3,none⟩) b4.o (zc H (nk+1) G));rw [<-T] at v B n;go_simp;rw [<-T];refine xK J trivial fun C=>?_;clear J K T lc lf;refine gE ?_;go_wp2_with fail;have h7:=ep.o;have h8:=al.o;have h9:=dn.o;have h5:=a0.o;have hk:=V.o;have ba:=Et ts.length v.o.st;have ho:=v.o.st.2.1;have hf:bN s8.2<=1:=by unfold bN;split <;> omega
            have e6:bN s6.2=1:=by rw [h7.2.1];rfl
            have hm:=h7.2.2;rw [h7.1] at h8;dsimp only at h8;exact ⟨⟨nacc++[n8],s8,g2,H,nk+1,G,by rw [List.length_append,<-hk];rfl,f.o,B.o,v.o,bo.o,by omega,by omega,n.o,by omega⟩,by rw [ba,es.o,e6];omega⟩
         ·have q6:(t6.toList == [44])=false:=DB ek.o h44
          have c2:Dp ts s4=(nacc,s6):=by rw [<-bo.o];exact MA _ _ _ h44
          have dm:=Aa c2;clear h44 c2;go_wp2_with fail;exact de.o _ _ FrL.mk ⟨nacc,s6,na,nk,nc,V.o,ag.o,dm.o,f.o,B.o,v.o,n.o,a0.o⟩
    clear ef
    cases wb with
    | false=>
     have au:s4=AB ts [58] s3:=by rw [em.o,if_neg (of_decide_eq_false eo.o.symm)]
     have KN:=Aa (BX ⟨#[58]⟩ [58] rfl (by decide) s3 _ v.o.st);rw [<-au] at KN;clear au;obtain ⟨be,bd,bc,bb⟩:=rc4 f.o.row;obtain ⟨b2,b1,b0,bz⟩:=fz4 f.o.fz;go_wp2_with fail;clear bz b0 b1 b2 bb bc bd be;refine KN.o.mono ?_;rintro e d2 ⟨rfl,S⟩;clear KN;have a5:=Aa S.2.2;replace n:=Aa (Ab n.o S.1);have Z:=S.1;replace f:=bkp f v.o.rlt b3 Z;replace v:Hx (Rq rb tv ts en w m0 (s4) d2):=Qo.rq v.o S;clear Z S;go_wp2_with fail;exact d1.o _ _ FrL.mk f.o v.o n.o a5.o
    | true=>
     have au:s4=AB ts [33] s3:=by rw [em.o,if_pos (of_decide_eq_true eo.o.symm)]
     have KN:=Aa (BX ⟨#[33]⟩ [33] rfl (by decide) s3 _ v.o.st);rw [<-au] at KN;clear au;obtain ⟨be,bd,bc,bb⟩:=rc4 f.o.row;obtain ⟨b2,b1,b0,bz⟩:=fz4 f.o.fz;go_wp2_with fail;clear bz b0 b1 b2 bb bc bd be;refine KN.o.mono ?_;rintro e d2 ⟨rfl,S⟩;clear KN;have a5:=Aa S.2.2;replace n:=Aa (Ab n.o S.1);have Z:=S.1;replace f:=bkp f v.o.rlt b3 Z;replace v:Hx (Rq rb tv ts en w m0 (s4) d2):=Qo.rq v.o S;clear Z S;go_wp2_with fail;exact d1.o _ _ FrL.mk f.o v.o n.o a5.o
end
end Go.Proofs.YtipngnjffjajpaaGreatDoor.Tx
