/- The document's reader in memory: labels. -/
import Derived.Test.YtipngnjffjajpaaGreatDoorI19
set_option linter.unusedVariables false
set_option maxHeartbeats 8000000
set_option maxRecDepth 100000
namespace Go.Proofs.YtipngnjffjajpaaGreatDoor.Tx
open Go.RowKit
open Go.Value renaming int -> A, slice -> O, bool -> zc, agg -> ze, pointer -> zf, tuple -> zh
open Go.IntKind renaming i64 -> J
open Go.Obj renaming cells -> zd
open Go.Ending renaming returned -> zg
section
variable {rb:Nat} {tv:Value} {ts:List Tok} {en:Nat}
def FrL (rb bp:Nat) (l:Value) (t:ByteArray) (mb:Bool) (act:Act):Prop:=∃ (x11 x12 x13 x14 x15 x16 x17 x18 x19 x20 x21 x22 x23 x24 x25 x26 x27 x28 x29 x30 x31 x32 x33 x34 x35 x36 x37 x38 x39 x40 x41 x42 x43 x44 x45 x46 x47 x48 x49 x50 x51 x52 x53 x54 x55 x56 x57 x58 x59 x60 x61 x62 x63 x64 x65 x66 x67 x68 x69 x70 x71:Value),act={ tmps:=#[zf (some ⟨rb,0,none⟩),undef,O none 0 0,l,zc true,zf (some ⟨bp,0,none⟩),zf (some ⟨rb,0,none⟩),zh #[],zf (some ⟨rb,0,none⟩),.string t,zc mb,x11,x12,x13,x14,x15,x16,x17,x18,x19,x20,x21,x22,x23,x24,x25,x26,x27,x28,x29,x30,x31,x32,x33,x34,x35,x36,x37,x38,x39,x40,x41,x42,x43,x44,x45,x46,x47,x48,x49,x50,x51,x52,x53,x54,x55,x56,x57,x58,x59,x60,x61,x62,x63,x64,x65,x66,x67,x68,x69,x70,x71,undef,undef,undef],defers:=[] }
theorem FrL.mk {rb bp:Nat} {t:ByteArray} {mb:Bool} {l x11 x12 x13 x14 x15 x16 x17 x18 x19 x20 x21 x22 x23 x24 x25 x26 x27 x28 x29 x30 x31 x32 x33 x34 x35 x36 x37 x38 x39 x40 x41 x42 x43 x44 x45 x46 x47 x48 x49 x50 x51 x52 x53 x54 x55 x56 x57 x58 x59 x60 x61 x62 x63 x64 x65 x66 x67 x68 x69 x70 x71:Value}:FrL rb bp l t mb { tmps:=#[zf (some ⟨rb,0,none⟩),undef,O none 0 0,l,zc true,zf (some ⟨bp,0,none⟩),zf (some ⟨rb,0,none⟩),zh #[],zf (some ⟨rb,0,none⟩),.string t,zc mb,x11,x12,x13,x14,x15,x16,x17,x18,x19,x20,x21,x22,x23,x24,x25,x26,x27,x28,x29,x30,x31,x32,x33,x34,x35,x36,x37,x38,x39,x40,x41,x42,x43,x44,x45,x46,x47,x48,x49,x50,x51,x52,x53,x54,x55,x56,x57,x58,x59,x60,x61,x62,x63,x64,x65,x66,x67,x68,x69,x70,x71,undef,undef,undef],defers:=[] }:=⟨x11,x12,x13,x14,x15,x16,x17,x18,x19,x20,x21,x22,x23,x24,x25,x26,x27,x28,x29,x30,x31,x32,x33,x34,x35,x36,x37,x38,x39,x40,x41,x42,x43,x44,x45,x46,x47,x48,x49,x50,x51,x52,x53,x54,x55,x56,x57,x58,x59,x60,x61,x62,x63,x64,x65,x66,x67,x68,x69,x70,x71,rfl⟩
theorem Br {a b c:World} {rb B T q k:Nat} {v:Value} {xs:List Value} (h:a.grownBy b (some rb)) (ho:b.ownsRow B T q v k xs) (hB:a.heap.size<=B) (hg:b.grownBy c v.ownBlock):a.grownBy c (some rb):=
 ⟨hg.os.trans h.os,hg.tape.trans h.tape,hg.output.trans h.output,Nat.le_trans h.size hg.size,fun i hi hn=>(hg.block i (Nat.lt_of_lt_of_le hi h.size) (fun e=>by have:=(AK ho e.symm).1;omega)).trans (h.block i hi hn)⟩
theorem JV (s:Sg):s.1<=(Ay ts s).2.1:=by
 unfold Ay;split
 ·exact Nat.le_succ _
 ·exact Nat.le_refl _
theorem JW:∀ (g:Nat) (acc:List ByteArray) (s:Sg),s.1<=(Ch ts g acc s).2.1
 | 0,acc,s=>Nat.le_refl _
 | g+1,acc,s=>by
  unfold Ch;split
  ·exact Nat.le_trans (D4 _ _) (Nat.le_trans (JV _) (JW g _ _))
  ·exact Nat.le_refl _
theorem Ns (s:Sg):s.1<=(CE ts s).2.1:=by
 unfold CE;split
 ·exact Nat.le_trans (JV _) (JW _ _ _)
 ·exact Nat.le_refl _
theorem Oj (s:Sg) (h:s.2=false):(Ez ts en s).2.2=true\/s.1+1<=(Ez ts en s).2.1:=by
 unfold Ez;by_cases hn:nmS (tl ts s 0)=true
 ·have e:Ay ts s=(tx ts s 0,(s.1+1,s.2)):=by unfold Ay;rw [if_pos hn]
  rw [e];right;dsimp only;refine Nat.le_trans ?_ (Ns _);split
  ·exact D4 (ts:=ts) [33] (s.1+1,s.2)
  ·exact D4 (ts:=ts) [58] (s.1+1,s.2)
 ·have e:Ay ts s=(noS,(s.1,true)):=by unfold Ay;rw [if_neg hn];rfl
  rw [e];left;dsimp only;rw [BA,BA,ite_self];rw [I8]
theorem GF (g:Nat) (mo:Bool) (acc:List D) (s:Sg) (h:s.2=true\/mo=false):Cu ts en g mo acc s=(acc,s):=by
 cases g with
 | zero=>rfl
 | succ g=>
  rw [Cu,if_neg];rintro ⟨b,a⟩;rcases h with h | h
  ·rw [h] at a;cases a
  ·rw [h] at b;cases b
theorem Kv (g:Nat) (acc:List D) (s:Sg) (h:s.2=false):Cu ts en (g+1) true acc s=Cu ts en g (decide (tl ts (Ez ts en s).2 0=[59])) (acc++[(Ez ts en s).1]) (if tl ts (Ez ts en s).2 0=[59] then Af ts [59] (Ez ts en s).2 else (Ez ts en s).2):=by
 rw [Cu,if_pos ⟨rfl,h⟩]
theorem Ku (g:Nat) (acc:List ByteArray) (s:Sg) (h:¬ tl ts s 0=[44]):Ch ts g acc s=(acc,s):=by
 cases g with
 | zero=>rfl
 | succ g=>rw [Ch,if_neg h]
theorem Kt (g:Nat) (acc:List ByteArray) (s:Sg) (h:tl ts s 0=[44]):Ch ts (g+1) acc s=Ch ts g (acc++[(Ay ts (Af ts [44] s)).1]) (Ay ts (Af ts [44] s)).2:=by
 rw [Ch,if_pos h]
theorem G5 (hall:ts.all Ak=true) (s:Sg) (w:World) (h:Sd rb tv ts en s w):Calls Tryz.prog 61 #[zf (some ⟨rb,0,none⟩)] w (EW rb tv ts en 4 MU w s (C6 ts en s)):=by
 obtain ⟨j0,hj,iy,ix,iw⟩:=info_parts Tryz.infoPol;obtain ⟨i0,hi,cn,cm,cl⟩:=info_parts Tryz.infoStr;obtain ⟨iv,c2⟩:=nm (C6 ts en s);rw [<-c2];have ae:Hx (iv=(fun s1:Sg=>(fun p:List D × Sg=>(p.1,Af ts [125] p.2)) (Cu ts en (ts.length+2) (decide (tl ts s1 0≠[125])) [] s1)) (Af ts [123] s)):=c2;obtain ⟨m0,eg⟩:=nm s.1;have v:Hx (Rq rb tv ts en w m0 (s) w):=by show Rq _ _ _ _ _ _ _ _;rw [eg];exact Rq.start h
 have ij:=Aa eg;have n:=Aa (Ad w (some rb));clear c2 eg h;go_enter Tryz.func61,Tryz.ntmps61;obtain ⟨s1,dl⟩:=nm (Af ts [123] s);have KN:=Aa (AD ⟨#[123]⟩ [123] rfl (by decide) s _ v.o.st);rw [<-dl] at KN;rw [<-dl] at ae;have kb:=Aa dl;clear dl;go_wp2_with fail;refine KN.o.mono ?_;rintro e w1 ⟨rfl,T⟩;clear KN;replace n:=Aa (Ae n.o T.1);have hg:=T.1;replace v:Hx (Rq rb tv ts en w m0 (s1) w1):=Qo.rq v.o T;clear hg T;obtain ⟨t,ht⟩:=nm (tx ts s1 0);have KT:Hx (Ro 57 #[zf (some ⟨rb,0,none⟩),A J 0] w1 (.string t)):=by rw [ht];exact AP 0 (by omega) s1 _ v.o.st
 have Ht:=Aa ht;clear ht;go_wp2_with fail;refine KT.o.mono ?_;rintro e w2 ⟨rfl,hb⟩;clear KT;replace n:=Aa (Ae n.o (Ag (r:=some rb) hb));replace v:Hx (Rq rb tv ts en w m0 (s1) w2):=v.o.over hb;clear hb;obtain ⟨cj,c7⟩:=nm (decide (tl ts s1 0≠[125]));have q0:(t.toList == [125])=!cj:=by rw [IW,Ht.o,c7];by_cases e:tl ts s1 0=[125] <;> simp [e] <;> exact e
 rw [<-c7] at ae;obtain ⟨bi,bt⟩:=nm (Cu ts en (ts.length+2) cj [] s1);rw [<-bt] at ae;have cw:=Aa ae.o;replace ae:=Aa bt;clear bt c7;go_wp2_with fail;go_loopw [3,4] (fun l mo wr=>∃ (acc:List D) (s2:Sg) (g:Nat) (mb:Bool),mo=zc mb/\Cop w.heap.size 53 4 (fun i cs W=>∀ x,acc[i]? = some x->MU W cs x) acc.length l wr/\Rq rb tv ts en w m0 s2 wr/\Cu ts en g mb acc s2=bi/\(s2.2=true\/ts.length - s2.1 < g)/\acc.length+bN s2.2<=s2.1+1) (fun _ _ wr=>mQ rb ts.length wr)
 case atStart=>exact ⟨[],s1,ts.length+2,cj,by simp,Cop.nil,v.o,ae.o.symm,Or.inr (by omega),by simp [bN];split <;> omega⟩
 case round=>
  obtain ⟨acc,s2,g,mb,rfl,Q,hd,hp,hh,ho⟩:=hrel;obtain ⟨Wo,i7⟩:=nm wr;subst i7;have dk:=hd.st;have he:s2.1<=ts.length/\ts.length<=6000:=⟨dk.2.1,dk.2.2.1⟩;obtain ⟨la,lc,i4,-⟩:=Q.cells (by decide);subst i4;replace v:=Aa hd;have di:=Aa Q;replace ae:=Aa hp;have ii:=Aa (BK ts.length dk);have jc:=Aa hd.size;have HF:=Aa (And.intro hh (And.intro ho he));replace n:=Aa (Ad Wo (some rb));obtain ⟨k,hk⟩:=nm acc.length;rw [<-hk] at di ⊢;have HK:=Aa hk;clear Q hd hp dk hh ho he hk q0
  cases mb with
  | false=>
   have HE:Hx (bi=(acc,s2)):=by show _=_;rw [<-ae.o];exact GF _ _ _ _ (Or.inr rfl)
   have af:=cw.o;rw [HE.o] at af;dsimp only at af;replace cw:=Aa af;clear af;obtain ⟨s9,au⟩:=nm (Af ts [125] s2);have KN:=Aa (AD ⟨#[125]⟩ [125] rfl (by decide) s2 _ v.o.st);rw [<-au] at KN;have ep:=Aa au;clear au;go_wp2_with fail;refine KN.o.mono ?_;rintro e a8 ⟨rfl,T⟩;clear KN;replace n:=Aa (Ae n.o T.1);have hg:=T.1;replace v:Hx (Rq rb tv ts en w m0 (s9) a8):=Qo.rq v.o T;clear hg T;have af:=cw.o;rw [<-ep.o] at af;have bz:=di.o;rw [HK.o] at bz;have c8:acc.length<=6001:=by have:=HF.o;unfold bN at this;omega
   obtain ⟨a,c,hv,bl⟩:=Cop.ls bz (by decide) (by omega);injection hv with v1 v2 v3;subst v1 v3;have df:=Aa (bl.keep n.o v.o.rlt);have ex:=Aa c8;have de:=Aa af;clear bz bl c8 v2 af;go_wp2_with fail;go_ret;rw [de.o];exact ⟨la,lc,by rw [HK.o];rfl,df.o,ex.o,v.o.gr,v.o.st,by rw [<-ij.o];exact v.o.le⟩
  | true=>
   obtain ⟨g6,g5,rc2,dj,-,-⟩:=v.o.st.cells
   cases hfl:s2.2 with
   | true=>
    have HE:Hx (bi=(acc,s2)):=by show _=_;rw [<-ae.o];exact GF _ _ _ _ (Or.inl hfl)
    rw [hfl] at dj;clear hfl;have af:=cw.o;rw [HE.o] at af;dsimp only at af;replace cw:=Aa af;clear af;obtain ⟨s9,au⟩:=nm (Af ts [125] s2);have KN:=Aa (AD ⟨#[125]⟩ [125] rfl (by decide) s2 _ v.o.st);rw [<-au] at KN;have ep:=Aa au;clear au;go_wp2_with fail;clear dj rc2 g5 g6;refine KN.o.mono ?_;rintro e a8 ⟨rfl,T⟩;clear KN;replace n:=Aa (Ae n.o T.1);have hg:=T.1;replace v:Hx (Rq rb tv ts en w m0 (s9) a8):=Qo.rq v.o T;clear hg T;have af:=cw.o;rw [<-ep.o] at af;have bz:=di.o;rw [HK.o] at bz;have c8:acc.length<=6001:=by have:=HF.o;unfold bN at this;omega
    obtain ⟨a,c,hv,bl⟩:=Cop.ls bz (by decide) (by omega);injection hv with v1 v2 v3;subst v1 v3;have df:=Aa (bl.keep n.o v.o.rlt);have ex:=Aa c8;have de:=Aa af;clear bz bl c8 v2 af;go_wp2_with fail;go_ret;rw [de.o];exact ⟨la,lc,by rw [HK.o];rfl,df.o,ex.o,v.o.gr,v.o.st,by rw [<-ij.o];exact v.o.le⟩
   | false=>
    rw [hfl] at dj;obtain ⟨g,rfl⟩:∃ g',g=g' + 1:=⟨g - 1,by have h1:=HF.o.1;rw [hfl] at h1;simp at h1;omega⟩;have hr:=ae.o;rw [Kv _ _ _ hfl] at hr;replace ae:Hx (_=bi):=hr;have cd:=Aa (Oj (ts:=ts) (en:=en) s2 hfl);obtain ⟨pp,ee⟩:=nm (Ez ts en s2);rw [<-ee] at ae cd;have jh:=Aa ee;have il:=Aa hfl;clear hr hfl ee;obtain ⟨p,hp⟩:=nm (AA ts en s2.1);have KH:Hx (Ro 28 #[zf (some ⟨rb,0,none⟩)] Wo (A J p)):=by rw [hp];exact B5 s2 _ v.o.st
    have jf:=Aa hp;clear hp;go_wp2_with fail;clear dj rc2 g5 g6;refine KH.o.mono ?_;rintro e a8 ⟨rfl,hb⟩;clear KH;replace n:=Aa (Ae n.o (Ag (r:=some rb) hb));replace v:Hx (Rq rb tv ts en w m0 (s2) a8):=v.o.over hb;clear hb;have ik:Hx (Wo.heap.size<=a8.heap.size):=n.o.size;obtain ⟨el,bo⟩:=nm (a8.alloc (zd #[A J p,.string ⟨#[]⟩,zc false,O none 0 0] 53));obtain ⟨N,ak⟩:=nm a8.heap.size;have b8:=ak;have b5:Hx (w.heap.size<=N):=by show _<=_;rw [b8];exact v.o.size
    have f:Hx (Bx N [A J p,.string ⟨#[]⟩,zc false,O none 0 0] el):=by show Bx _ _ _;rw [bo,b8];exact Bx.new a8 [A J p,.string ⟨#[]⟩,zc false,O none 0 0] 53
    replace v:Hx (Rq rb tv ts en w m0 (s2) el):=by show Rq _ _ _ _ _ _ _ _;rw [bo];exact v.o.over (bA _ _)
    replace n:Hx (Wo.grownBy el (some rb)):=by show World.grownBy _ _ _;rw [bo];exact Gp n.o _
    have ew:Hx (Wo.heap.size<=N):=by show _<=_;rw [b8];exact ik.o
    clear ik;obtain ⟨px,ed⟩:=nm (Ay ts s2);obtain ⟨x,s3⟩:=px;have KM:=Aa (B2 hall s2 _ v.o.st);rw [<-ed] at KM;dsimp only at KM;have je:=Aa ed;clear ed;go_wp2_with fail;rw [<-bo,<-ak];clear b8;clear ak bo;refine KM.o.mono ?_;rintro e d7 ⟨rfl,T⟩;clear KM;have d2:=Aa T.2.2;replace n:=Aa (Ae n.o T.1);have hg:=T.1;replace f:=bkp f v.o.rlt b5 hg;replace v:Hx (Rq rb tv ts en w m0 (s3) d7):=Qo.rq v.o T;clear hg T;obtain ⟨bg,bf,be,bd⟩:=rc4 f.o.row;obtain ⟨b4,b3,b2,b1⟩:=fz4 f.o.fz;obtain ⟨ek,cb⟩:=nm (d7.setCell ⟨N,1,none⟩ (.string x));have bv:d7.grownBy ek (some N):=by rw [cb];exact (gst (Ad _ _))
    replace f:Hx (Bx N [A J p,.string x,zc false,O none 0 0] ek):=by show Bx _ _ _;rw [cb];exact (f.o.se 1)
    replace v:=Aa (v.o.box bv b5.o);replace n:=Aa (GG n.o bv ew.o);clear bv;obtain ⟨u,hu⟩:=nm (tx ts s3 0);have KT:Hx (Ro 57 #[zf (some ⟨rb,0,none⟩),A J 0] ek (.string u)):=by rw [hu];exact AP 0 (by omega) s3 _ v.o.st
    have Hu:=Aa hu;clear hu;go_wp2_with fail;rw [<-cb];clear b1 b2 b3 b4 bd be bf bg;clear cb;refine KT.o.mono ?_;rintro e d6 ⟨rfl,hb⟩;clear KT;replace n:=Aa (Ae n.o (Ag (r:=some rb) hb));replace f:=Aa (f.o.over hb);replace v:Hx (Rq rb tv ts en w m0 (s3) d6):=v.o.over hb;clear hb;obtain ⟨wb,ea⟩:=nm (decide (tl ts s3 0=[33]));have q1:(u.toList == [33])=wb:=by rw [IW,Hu.o,ea];rfl
    have er:=Aa ea;clear ea;obtain ⟨bg,bf,be,bd⟩:=rc4 f.o.row;obtain ⟨b4,b3,b2,b1⟩:=fz4 f.o.fz;obtain ⟨ie,ca⟩:=nm (d6.setCell ⟨N,2,none⟩ (zc wb));have bv:d6.grownBy ie (some N):=by rw [ca];exact (gst (Ad _ _))
    replace f:Hx (Bx N [A J p,.string x,zc wb,O none 0 0] ie):=by show Bx _ _ _;rw [ca];exact (f.o.se 2)
    replace v:=Aa (v.o.box bv b5.o);replace n:=Aa (GG n.o bv ew.o);clear bv
    go_upto_region 8 with fail
    rw [<-ca];clear b1 b2 b3 b4 bd be bf bg;clear ca;obtain ⟨s4,av⟩:=nm (if tl ts s3 0=[33] then Af ts [33] s3 else Af ts [58] s3);have eq:=Aa av;clear av;rename_i KZ ei KY i8;have d4:Hx (∀ act W,FrL rb N (O la k lc) t cj act->Bx N [A J p,.string x,zc wb,O none 0 0] W->Rq rb tv ts en w m0 s4 W->Wo.grownBy W (some rb)->s3.1<=s4.1->KZ act W):=by
     intro act W eh ak hd aw dx;obtain ⟨gx,gw,gv,gu,gt,gs,gq,gp,gn,gm,gl,gk,gj,gi,gh,gg,gf,ge,gd,gc,gb,ga,f9,f8,f7,f6,f5,f4,f3,f2,f1,f0,fy,fx,fw,fv,fu,ft,fs,fq,fp,fo,fn,fm,fl,fk,fj,fi,fh,fg,ff,fe,fd,fc,fb,fa,e9,e8,e7,e5,e4,rfl⟩:=eh;refine ei _ _ ?_;clear ei i8;have a6:=Aa dx;replace f:=Aa ak;replace v:=Aa hd;replace n:=Aa aw;clear ak hd aw dx;have aq:Hx (N < N+1):=Nat.lt_succ_self _;have ig:Hx (N+1<=W.heap.size):=f.o.lt;have a2:Hx (w.heap.size<=N):=b5.o;have b6:Hx (Wo.heap.size<=N):=ew.o;have cu:Hx (w.heap.size<=N+1):=Nat.le_trans a2.o (Nat.le_succ _);have cv:Hx (w.heap.size<=N+1):=cu.o;have b7:Hx (Wo.heap.size<=N+1):=Nat.le_trans b6.o (Nat.le_succ _);have jg:Hx (pp=(C1 p x wb (CE ts s4).1,(CE ts s4).2)):=by
      show _=_;rw [jh.o,eq.o,jf.o,er.o];unfold Ez;rw [<-je.o]
     go_upto_region 11 with fail
     rename_i KX ej KW i9;have dh:Hx (∀ act W,FrL rb N (O la k lc) t cj act->(∃ (nacc:List ByteArray) (s6:Sg) (na:Option Addr) (nk nc:Nat),nk=nacc.length/\nk<=6001/\CE ts s4=(nacc,s6)/\Bx N [A J p,.string x,zc wb,O na nk nc] W/\Cop (N+1) 9 1 (fun i cs W=>∀ y,nacc[i]? = some y->RN cs y) nk (O na nk nc) W/\Rq rb tv ts en w m0 s6 W/\Wo.grownBy W (some rb)/\s4.1<=s6.1)->KX act W):=by
      intro act W eh hn;obtain ⟨gx,gw,gv,gu,gt,gs,gq,gp,gn,gm,gl,gk,gj,gi,gh,gg,gf,ge,gd,gc,gb,ga,f9,f8,f7,f6,f5,f4,f3,f2,f1,f0,fy,fx,fw,fv,fu,ft,fs,fq,fp,fo,fn,fm,fl,fk,fj,fi,fh,fg,ff,fe,fd,fc,fb,fa,e9,e8,e7,e5,e4,rfl⟩:=eh;obtain ⟨nacc,s6,na,nk,nc,c4,c6,c5,ak,bm,hd,aw,bn⟩:=hn;refine ej _ _ ?_;clear ej i9;have a1:=Aa bn;replace f:=Aa ak;replace v:=Aa hd;replace n:=Aa aw;have C:=Aa bm;have Y:=Aa c4;have ah:=Aa c6;have dq:=Aa c5;clear ak hd aw bn bm c4 c6 c5 ig;have ef:pp=(C1 p x wb nacc,s6):=by rw [jg.o,dq.o]
      obtain ⟨d,hd⟩:=nm (C1 p x wb nacc);rw [<-hd] at ef;have hr:=ae.o;have dm:=cd.o;rw [ef] at hr dm;dsimp only at hr dm;replace ae:Hx (_=bi):=hr;replace cd:=Aa dm;have eu:Hx (Off Wo.heap.size none W (fun W=>MU W [A J p,.string x,zc wb,O na nk nc] d)):=by
       have hc:=C.o;rw [Y.o] at hc;obtain ⟨a9,c9,iz,i3⟩:=Cop.ls (R:=fun _=>RN) hc (by decide) (by have h1:=ah.o;have h2:=Y.o;omega);injection iz with v1 v2 v3;exact (i3.base b7.o).imp fun W hW=>⟨p,x,wb,nacc,_,rfl,hd,by rw [Y.o,v1,v3];exact hW⟩
      obtain ⟨z,hz⟩:=nm Wo.heap.size;rw [<-hz] at eu;have ji:Hx (Wo.heap.size<=z):=by show _<=_;rw [hz];exact Nat.le_refl _
      have jb:Hx (w.heap.size<=z):=by show _<=_;rw [hz];exact jc.o
      clear ef hd hr dm hz C dq;obtain ⟨bg,bf,be,bd⟩:=rc4 f.o.row;obtain ⟨W4,cp⟩:=nm (W.alloc (zd #[A J p,.string x,zc wb,O na nk nc] 53));have co:Ov W W4:=by rw [cp];exact bA _ _
      obtain ⟨xs,B,dv⟩:=(di.o.keep (Ae n.o (Ag (r:=some rb) co)) v.o.rlt);have ih:Hx (Ac [A J p,.string x,zc wb,O na nk nc] W4 W.heap.size):=by show Ac _ _ _;rw [cp];exact Ai W [A J p,.string x,zc wb,O na nk nc] 53
      have d1:=Aa (eu.o.over co);have hs:w.heap.size<=W4.heap.size:=Nat.le_trans v.o.size co.size;have dz:Hx (∀ g,(Value.slice la k lc).ownBlock=some g->g < z):=fun g hg=>by
       obtain ⟨ys,h1,-⟩:=di.o;exact Nat.lt_of_lt_of_le (AK h1 hg).2 ji.o
      have d0:=Aa dv;have im:=Aa (v.o.over co);have jk:=Aa (Ae n.o (Ag (r:=some rb) co));have i5:k<=6001:=by have h1:=HF.o;have h2:=HK.o;omega
      clear co dv;go_wp2_with (at_builtin;(try rw [<-cp]);refine wpList_append_own_at _ rfl _ _ 45 rfl w.heap.size 53 j0 (ze #[A J 0,.string ⟨#[]⟩,zc false,O none 0 0]) 4 56 Tryz.underlying45 hj iy ix iw rfl (by decide) _ _ _ rfl B ⟨W.heap.size,0,none⟩ 1 1 [A J p,.string x,zc wb,O na nk nc] rfl rfl (fun jj u hu=>by rw [Addr.add_lit,Nat.zero_add];exact ih.o jj u hu) (by simp [Value.oneCell']) (by unfold maxLen;omega) (by omega) hs ?_);intro v2 W5 bu b9 _ ac;rw [<-cp] at b9;have av:W4.heap.size=W.heap.size+1:=by rw [cp];simp
      replace ac:v2.ownBlock=(Value.slice la k lc).ownBlock\/v2.ownBlock=some W4.heap.size:=by rw [av];simpa using ac
      have Q:Cop w.heap.size 53 4 (fun i cs W=>∀ x,(acc++[d])[i]? = some x->MU W cs x) (k+1) v2 W5:=Cop.add (B1:=z) B (fun i hi=>by
        obtain ⟨ds,z1,z2,z3⟩:=d0.o i hi;exact ⟨ds,z1,z2,z3.imp fun W hW x hx=>hW x (by rw [List.getElem?_append_left (by rw [<-HK.o];exact hi)] at hx;exact hx)⟩) rfl (d1.o.imp fun W hW x hx=>by
         rw [List.getElem?_append_right (by rw [HK.o];exact Nat.le_refl _),HK.o,Nat.sub_self] at hx;injection hx with hx;rw [<-hx];exact hW) jb.o dz.o bu b9 ac
      have hl:=im.o.row B (Nat.le_refl _) b9;obtain ⟨I,ch,H,an⟩:=Be bu;subst an;replace v:=Aa hl;have a7:=Aa Q;clear Q hl B bu b9 ac hs av cp im jk d1 d0 dz ih eu n i5;clear bg bf be bd f;have dp:Hx ((acc++[d]).length=k+1):=by show _=_;rw [List.length_append,HK.o];rfl
      obtain ⟨t8,g9⟩:=nm (tx ts s6 0);have em:=Aa g9;clear g9;have KT:Hx (Ro 57 #[zf (some ⟨rb,0,none⟩),A J 0] W5 (.string t8)):=by rw [em.o];exact AP 0 (by omega) s6 _ v.o.st
      go_wp2_with fail;refine KT.o.mono ?_;rintro e ju ⟨rfl,hb⟩;replace v:=Aa (v.o.over hb);replace a7:=Aa (a7.o.over hb);clear KT hb;by_cases h59:tl ts s6 0=[59]
      ·have q8:(t8.toList == [59])=true:=CO em.o h59
       have hr:=ae.o;rw [decide_eq_true h59,if_pos h59] at hr;have cq:s6.2=false:=(Hw (ts:=ts) (s:=s6) (k:=0) (by rw [h59];simp)).1;have au:=Cl cq h59;obtain ⟨s9,dt⟩:=nm (Af ts [59] s6);have KN:=Aa (AD ⟨#[59]⟩ [59] rfl (by decide) s6 _ v.o.st);rw [<-dt] at KN hr au;have et:=Aa hr;have jd:=Aa au;clear hr au dt cq h59 ae;go_wp2_with fail;refine KN.o.mono ?_;rintro e jt ⟨rfl,T⟩;replace a7:=Aa (a7.o.keep T.1 v.o.rlt);replace v:=Aa (Qo.rq v.o T);clear KN T;go_wp2_with fail;have h3:=d2.o;have h4:=a6.o;have h5:=a1.o;have bc:=BK ts.length v.o.st;have h9:=jd.o;have bw:=BE (L:=ts.length) (k:=k) (g:=g) (s:=s2) (s4:=s9) HF.o.1 il.o (by rw [HK.o];exact HF.o.2.1) (by rw [h9];dsimp only;omega) (Or.inr (by rw [h9];dsimp only;omega)) v.o.st.2.1;exact ⟨⟨acc++[d],s9,g,true,rfl,by rw [dp.o];exact a7.o,v.o,et.o,bw.1,by rw [dp.o];exact bw.2.1⟩,by rw [bc,ii.o];exact bw.2.2⟩
      ·have q8:(t8.toList == [59])=false:=A9 em.o h59
       have hr:=ae.o;rw [decide_eq_false h59,if_neg h59] at hr;have et:=Aa hr;clear hr h59 ae;go_wp2_with fail;have h3:=d2.o;have h4:=a6.o;have h5:=a1.o;have bc:=BK ts.length v.o.st
       skip
       have bw:=BE (L:=ts.length) (k:=k) (g:=g) (s:=s2) (s4:=s6) HF.o.1 il.o (by rw [HK.o];exact HF.o.2.1) (by omega) (cd.o) v.o.st.2.1;exact ⟨⟨acc++[d],s6,g,false,rfl,by rw [dp.o];exact a7.o,v.o,et.o,bw.1,by rw [dp.o];exact bw.2.1⟩,by rw [bc,ii.o];exact bw.2.2⟩
     clear ej;obtain ⟨t5,eb⟩:=nm (tx ts s4 0);have KT:Hx (Ro 57 #[zf (some ⟨rb,0,none⟩),A J 0] W (.string t5)):=by rw [eb];exact AP 0 (by omega) s4 _ v.o.st
     have dc:=Aa eb;clear eb;go_wp2_with fail;refine KT.o.mono ?_;rintro e gy ⟨rfl,hb⟩;clear KT;replace n:=Aa (Ae n.o (Ag (r:=some rb) hb));replace f:=Aa (f.o.over hb);replace v:Hx (Rq rb tv ts en w m0 (s4) gy):=v.o.over hb;clear hb;by_cases h59:tl ts s4 0=[59]
     ·have q5:(t5.toList == [59])=true:=CO dc.o h59
      go_wp2_with fail;exact dh.o _ _ FrL.mk ⟨[],s4,none,0,0,rfl,Nat.zero_le _,by unfold CE;rw [if_neg (fun e=>e.1 h59)],f.o,Cop.nil,v.o,n.o,Nat.le_refl _⟩
     ·have q5:(t5.toList == [59])=false:=A9 dc.o h59
      have KT:Hx (Ro 57 #[zf (some ⟨rb,0,none⟩),A J 0] gy (.string t5)):=by rw [dc.o];exact AP 0 (by omega) s4 _ v.o.st
      go_wp2_with fail;refine KT.o.mono ?_;rintro e cy ⟨rfl,hb⟩;clear KT;replace n:=Aa (Ae n.o (Ag (r:=some rb) hb));replace f:=Aa (f.o.over hb);replace v:Hx (Rq rb tv ts en w m0 (s4) cy):=v.o.over hb;clear hb;by_cases h125:tl ts s4 0=[125]
      ·have g7:(t5.toList == [125])=true:=CO dc.o h125
       go_wp2_with fail;exact dh.o _ _ FrL.mk ⟨[],s4,none,0,0,rfl,Nat.zero_le _,by unfold CE;rw [if_neg (fun e=>e.2 h125)],f.o,Cop.nil,v.o,n.o,Nat.le_refl _⟩
      ·have g7:(t5.toList == [125])=false:=A9 dc.o h125
       have bk:CE ts s4=Ch ts (ts.length+1) [(Ay ts s4).1] (Ay ts s4).2:=by unfold CE;rw [if_pos ⟨h59,h125⟩]
       obtain ⟨pn,c3⟩:=nm (Ay ts s4);obtain ⟨n1,s5⟩:=pn;rw [<-c3] at bk;dsimp only at bk;have br:Hx (Ch ts (ts.length+1) [n1] s5=CE ts s4):=bk.symm;have ct:Hx (∀ X,Sd rb tv ts en s4 X->Calls Tryz.prog 58 #[zf (some ⟨rb,0,none⟩)] X fun e w'=>e=zg (.string n1)/\Qo rb tv ts en X s4 s5 w'):=fun X hX=>by
        have h9:=B2 hall s4 X hX;rw [<-c3] at h9;exact h9
       have Y:Hx (0=([]:List ByteArray).length):=rfl;have ah:Hx (0<=6001):=Nat.zero_le _;have C:Hx (Cop (N+1) 9 1 (fun i cs W=>∀ y,([]:List ByteArray)[i]? = some y->RN cs y) 0 (O none 0 0) cy):=Cop.nil;replace ig:Hx (N+1<=cy.heap.size):=f.o.lt;clear bk c3 h59 h125;go_wp2_with fail;clear q5 g7;refine I7 (fun act W=>FrL rb N (O la k lc) t cj act/\∃ (I:Option Addr) (H:Nat),Bx N [A J p,.string x,zc wb,O I (0+1) H] W/\Cop (N+1) 9 1 (fun i cs W=>∀ y,([]++[n1])[i]? = some y->RN cs y) (0+1) (O I (0+1) H) W/\Rq rb tv ts en w m0 s5 W/\Wo.grownBy W (some rb)/\s4.1<=s5.1) ?_ ?_
       ·refine gS (fun _=>True) trivial fun E=>?_
        obtain ⟨Wd,b0⟩:=nm cy.drew;have ay:Ov cy Wd:=by rw [b0];exact bD _
        replace v:=Aa (v.o.over ay);replace f:=Aa (f.o.over ay);replace C:=Aa (C.o.over ay);replace n:=Aa (Ae n.o (Ag (r:=some rb) ay));rw [<-b0];clear b0 ay;refine kT 0 ?_;refine kT 2 ?_;refine rdB 1 3 rfl (fun K M=>?_) rfl fun K M=>?_
        ·have lc:=f.o.row 3 _ rfl
         go_simp;refine xK M trivial fun E=>?_;clear M K lc;refine rdA 3 rfl fun K M=>?_;go_simp;refine (ct.o _ v.o.st).mono ?_;rintro e wn ⟨rfl,T⟩;have hg:=T.1;replace f:=Aa (f.o.keep hg (by have h1:=v.o.rlt;have h2:=a2.o;omega));replace C:=Aa (C.o.keep hg (by have h1:=v.o.rlt;have h2:=cu.o;omega));replace n:=Aa (Ae n.o hg);have am:=Aa T.2.2;replace v:=Aa (Qo.rq v.o T);clear hg T E;go_simp;refine xK M trivial fun E=>?_;clear M K;refine rdA 4 rfl fun K M=>?_;obtain ⟨W2,V⟩:=nm (wn.alloc (zd #[.string n1] 9));have S:Ov wn W2:=by rw [V];exact bA _ _
         have a0:Hx (Ac [.string n1] W2 wn.heap.size):=by show Ac _ _ _;rw [V];exact Ai wn [.string n1] 9
         have dd:Hx (N+1<=wn.heap.size):=f.o.lt;replace v:=Aa (v.o.over S);replace f:=Aa (f.o.over S);replace C:=Aa (C.o.over S);replace n:=Aa (Ae n.o (Ag (r:=some rb) S));clear S;go_simp;rw [<-V];refine xK M trivial fun E=>?_;clear M K V;refine rdA 5 rfl fun K M=>?_;obtain ⟨xs,B,ag⟩:=C.o;obtain ⟨v2,W3,Z,F,G,-,ac⟩:=run_append_own_at (P:=Tryz.prog) (w:=W2) (N+1) 46 46 9 i0 (.string ⟨#[]⟩) 1 16 Tryz.underlying46 hi cn cm cl rfl (by decide) _ _ _ B ⟨wn.heap.size,0,none⟩ 1 1 [.string n1] rfl (fun jj u hu=>by rw [Addr.add_lit,Nat.zero_add];exact a0.o jj u hu) (by simp [Value.oneCell']) (by unfold maxLen;have:=ah.o;omega) (by have:=ah.o;omega) (f.o.lt);have Q:Cop (N+1) 9 1 (fun i cs W=>∀ y,(([]:List ByteArray)++[n1])[i]? = some y->RN cs y) (0+1) v2 W3:=Cop.add (B1:=W2.heap.size) B (fun i hi=>by
           obtain ⟨ds,z1,z2,z3⟩:=ag i hi;exact ⟨ds,z1,z2,z3.imp fun W hW y hy=>hW y (by rw [List.getElem?_append_left (by rw [<-Y.o];exact hi)] at hy;exact hy)⟩) rfl (fun W hW y hy=>by
            rw [List.getElem?_append_right (by rw [Y.o];exact Nat.le_refl _),Y.o,Nat.sub_self] at hy;injection hy with hy;rw [<-hy]) (f.o.lt) (fun g hg=>(AK B hg).2) F G ac
         replace v:=Aa (v.o.row B cv.o G);replace n:=Aa (Br n.o B b7.o G);replace f:=Aa (f.o.grown G (fun e=>by have h1:=(AK B e.symm).1;have h2:=aq.o;omega));obtain ⟨I,ch,H,an⟩:=Be F;subst an;obtain rfl:=BV F;replace C:=Aa Q;refine Bq rfl _ _ _ rfl _ _ _ _ rfl rfl Z ?_;clear Z B ag F G ac Q;refine xK M trivial fun E=>?_;clear M K;refine kT 6 ?_;refine rdA 7 rfl fun K M=>?_;have lc:=f.o.row 3 _ rfl;have lf:=f.o.fz 3;obtain ⟨W9,U⟩:=nm (W3.setCell ⟨N,3,none⟩ (O I (0+1) H));replace f:Hx (Bx N [A J p,.string x,zc wb,O I (0+1) H] W9):=by show Bx _ _ _;rw [U];exact f.o.set (j:=3) (by simp)
         replace v:=Aa (v.o.set (b:=N) (j:=3) (u:=O I (0+1) H) a2.o);replace C:=Aa (C.o.set (b:=N) (j:=3) (u:=O I (0+1) H) aq.o);replace n:=Aa (AI n.o (p:=⟨N,3,none⟩) b6.o (O I (0+1) H));rw [<-U] at v C n;go_simp;rw [<-U];refine xK M trivial fun E=>?_;clear M K U lc lf;refine gE ?_;exact DK ⟨FrL.mk,I,H,f.o,C.o,v.o,n.o,am.o⟩
        ·go_simp
         refine (ct.o _ v.o.st).mono ?_;rintro e wn ⟨rfl,T⟩;have hg:=T.1;replace f:=Aa (f.o.keep hg (by have h1:=v.o.rlt;have h2:=a2.o;omega));replace C:=Aa (C.o.keep hg (by have h1:=v.o.rlt;have h2:=cu.o;omega));replace n:=Aa (Ae n.o hg);have am:=Aa T.2.2;replace v:=Aa (Qo.rq v.o T);clear hg T E;go_simp;refine xK M trivial fun E=>?_;clear M K;refine rdB 1 4 rfl (fun K M=>?_) rfl fun K M=>?_
         ·have lc:=f.o.row 3 _ rfl
          go_simp;refine xK M trivial fun E=>?_;clear M K lc;refine rdA 4 rfl fun K M=>?_;obtain ⟨W2,V⟩:=nm (wn.alloc (zd #[.string n1] 9));have S:Ov wn W2:=by rw [V];exact bA _ _
          have a0:Hx (Ac [.string n1] W2 wn.heap.size):=by show Ac _ _ _;rw [V];exact Ai wn [.string n1] 9
          have dd:Hx (N+1<=wn.heap.size):=f.o.lt;replace v:=Aa (v.o.over S);replace f:=Aa (f.o.over S);replace C:=Aa (C.o.over S);replace n:=Aa (Ae n.o (Ag (r:=some rb) S));clear S;go_simp;rw [<-V];refine xK M trivial fun E=>?_;clear M K V;refine rdA 5 rfl fun K M=>?_;obtain ⟨xs,B,ag⟩:=C.o;obtain ⟨v2,W3,Z,F,G,-,ac⟩:=run_append_own_at (P:=Tryz.prog) (w:=W2) (N+1) 46 46 9 i0 (.string ⟨#[]⟩) 1 16 Tryz.underlying46 hi cn cm cl rfl (by decide) _ _ _ B ⟨wn.heap.size,0,none⟩ 1 1 [.string n1] rfl (fun jj u hu=>by rw [Addr.add_lit,Nat.zero_add];exact a0.o jj u hu) (by simp [Value.oneCell']) (by unfold maxLen;have:=ah.o;omega) (by have:=ah.o;omega) (f.o.lt);have Q:Cop (N+1) 9 1 (fun i cs W=>∀ y,(([]:List ByteArray)++[n1])[i]? = some y->RN cs y) (0+1) v2 W3:=Cop.add (B1:=W2.heap.size) B (fun i hi=>by
            obtain ⟨ds,z1,z2,z3⟩:=ag i hi;exact ⟨ds,z1,z2,z3.imp fun W hW y hy=>hW y (by rw [List.getElem?_append_left (by rw [<-Y.o];exact hi)] at hy;exact hy)⟩) rfl (fun W hW y hy=>by
             rw [List.getElem?_append_right (by rw [Y.o];exact Nat.le_refl _),Y.o,Nat.sub_self] at hy;injection hy with hy;rw [<-hy]) (f.o.lt) (fun g hg=>(AK B hg).2) F G ac
          replace v:=Aa (v.o.row B cv.o G);replace n:=Aa (Br n.o B b7.o G);replace f:=Aa (f.o.grown G (fun e=>by have h1:=(AK B e.symm).1;have h2:=aq.o;omega));obtain ⟨I,ch,H,an⟩:=Be F;subst an;obtain rfl:=BV F;replace C:=Aa Q;refine Bq rfl _ _ _ rfl _ _ _ _ rfl rfl Z ?_;clear Z B ag F G ac Q;refine xK M trivial fun E=>?_;clear M K;refine kT 6 ?_;refine rdA 7 rfl fun K M=>?_;have lc:=f.o.row 3 _ rfl;have lf:=f.o.fz 3;obtain ⟨W9,U⟩:=nm (W3.setCell ⟨N,3,none⟩ (O I (0+1) H));replace f:Hx (Bx N [A J p,.string x,zc wb,O I (0+1) H] W9):=by show Bx _ _ _;rw [U];exact f.o.set (j:=3) (by simp)
          replace v:=Aa (v.o.set (b:=N) (j:=3) (u:=O I (0+1) H) a2.o);replace C:=Aa (C.o.set (b:=N) (j:=3) (u:=O I (0+1) H) aq.o);replace n:=Aa (AI n.o (p:=⟨N,3,none⟩) b6.o (O I (0+1) H));rw [<-U] at v C n;go_simp;rw [<-U];refine xK M trivial fun E=>?_;clear M K U lc lf;refine gE ?_;exact DK ⟨FrL.mk,I,H,f.o,C.o,v.o,n.o,am.o⟩
         ·obtain ⟨W2,V⟩:=nm (wn.alloc (zd #[.string n1] 9))
          have S:Ov wn W2:=by rw [V];exact bA _ _
          have a0:Hx (Ac [.string n1] W2 wn.heap.size):=by show Ac _ _ _;rw [V];exact Ai wn [.string n1] 9
          have dd:Hx (N+1<=wn.heap.size):=f.o.lt;replace v:=Aa (v.o.over S);replace f:=Aa (f.o.over S);replace C:=Aa (C.o.over S);replace n:=Aa (Ae n.o (Ag (r:=some rb) S));clear S;go_simp;rw [<-V];refine xK M trivial fun E=>?_;clear M K V;refine rdA 1 rfl fun K M=>?_;have lc:=f.o.row 3 _ rfl;go_simp;refine xK M trivial fun E=>?_;clear M K lc;refine rdA 5 rfl fun K M=>?_;obtain ⟨xs,B,ag⟩:=C.o;obtain ⟨v2,W3,Z,F,G,-,ac⟩:=run_append_own_at (P:=Tryz.prog) (w:=W2) (N+1) 46 46 9 i0 (.string ⟨#[]⟩) 1 16 Tryz.underlying46 hi cn cm cl rfl (by decide) _ _ _ B ⟨wn.heap.size,0,none⟩ 1 1 [.string n1] rfl (fun jj u hu=>by rw [Addr.add_lit,Nat.zero_add];exact a0.o jj u hu) (by simp [Value.oneCell']) (by unfold maxLen;have:=ah.o;omega) (by have:=ah.o;omega) (f.o.lt);have Q:Cop (N+1) 9 1 (fun i cs W=>∀ y,(([]:List ByteArray)++[n1])[i]? = some y->RN cs y) (0+1) v2 W3:=Cop.add (B1:=W2.heap.size) B (fun i hi=>by
            obtain ⟨ds,z1,z2,z3⟩:=ag i hi;exact ⟨ds,z1,z2,z3.imp fun W hW y hy=>hW y (by rw [List.getElem?_append_left (by rw [<-Y.o];exact hi)] at hy;exact hy)⟩) rfl (fun W hW y hy=>by
             rw [List.getElem?_append_right (by rw [Y.o];exact Nat.le_refl _),Y.o,Nat.sub_self] at hy;injection hy with hy;rw [<-hy]) (f.o.lt) (fun g hg=>(AK B hg).2) F G ac
          replace v:=Aa (v.o.row B cv.o G);replace n:=Aa (Br n.o B b7.o G);replace f:=Aa (f.o.grown G (fun e=>by have h1:=(AK B e.symm).1;have h2:=aq.o;omega));obtain ⟨I,ch,H,an⟩:=Be F;subst an;obtain rfl:=BV F;replace C:=Aa Q;refine Bq rfl _ _ _ rfl _ _ _ _ rfl rfl Z ?_;clear Z B ag F G ac Q;refine xK M trivial fun E=>?_;clear M K;refine kT 6 ?_;refine rdA 7 rfl fun K M=>?_;have lc:=f.o.row 3 _ rfl;have lf:=f.o.fz 3;obtain ⟨W9,U⟩:=nm (W3.setCell ⟨N,3,none⟩ (O I (0+1) H));replace f:Hx (Bx N [A J p,.string x,zc wb,O I (0+1) H] W9):=by show Bx _ _ _;rw [U];exact f.o.set (j:=3) (by simp)
          replace v:=Aa (v.o.set (b:=N) (j:=3) (u:=O I (0+1) H) a2.o);replace C:=Aa (C.o.set (b:=N) (j:=3) (u:=O I (0+1) H) aq.o);replace n:=Aa (AI n.o (p:=⟨N,3,none⟩) b6.o (O I (0+1) H));rw [<-U] at v C n;go_simp;rw [<-U];refine xK M trivial fun E=>?_;clear M K U lc lf;refine gE ?_;exact DK ⟨FrL.mk,I,H,f.o,C.o,v.o,n.o,am.o⟩
       ·rintro act W9 ⟨⟨gx,gw,gv,gu,gt,gs,gq,gp,gn,gm,gl,gk,gj,gi,gh,gg,gf,ge,gd,gc,gb,ga,f9,f8,f7,f6,f5,f4,f3,f2,f1,f0,fy,fx,fw,fv,fu,ft,fs,fq,fp,fo,fn,fm,fl,fk,fj,fi,fh,fg,ff,fe,fd,fc,fb,fa,e9,e8,e7,e5,e4,rfl⟩,I,H,ak,bm,hd,aw,dw⟩
        clear C f v n;go_wp2_with fail;go_loopw [] (fun wr=>∃ (nacc:List ByteArray) (s6:Sg) (g2:Nat) (na:Option Addr) (nk nc:Nat),nk=nacc.length/\Bx N [A J p,.string x,zc wb,O na nk nc] wr/\Cop (N+1) 9 1 (fun i cs W=>∀ y,nacc[i]? = some y->RN cs y) nk (O na nk nc) wr/\Rq rb tv ts en w m0 s6 wr/\Ch ts g2 nacc s6=CE ts s4/\ts.length - s6.1 < g2/\nk<=s6.1+1/\Wo.grownBy wr (some rb)/\s4.1<=s6.1) (fun wr=>mQ rb ts.length wr)
        case atStart=>exact ⟨[n1],s5,ts.length+1,I,0+1,H,rfl,ak,bm,hd,br.o,by omega,by omega,aw,dw⟩
        case round=>
         clear ak bm hd aw dw;obtain ⟨nacc,s6,g2,na,nk,nc,c4,ak,bm,hd,bb,hf,c6,aw,bn⟩:=hrel;have f:=Aa ak;have C:=Aa bm;have v:=Aa hd;replace br:=Aa bb;have n:=Aa aw;replace Y:=Aa c4;have a1:=Aa bn;have dr:=Aa (And.intro hf c6);have ev:=Aa (BK ts.length hd.st);have h6:s6.1<=ts.length/\ts.length<=6000:=⟨hd.st.2.1,hd.st.2.2.1⟩;replace ah:Hx (nk<=6001):=by show _<=_;omega
         clear c4 ak bm hd bb hf c6 aw bn h6;obtain ⟨t6,ha⟩:=nm (tx ts s6 0);have eo:=Aa ha;clear ha;have KT:Hx (Ro 57 #[zf (some ⟨rb,0,none⟩),A J 0] wr (.string t6)):=by rw [eo.o];exact AP 0 (by omega) s6 _ v.o.st
         go_wp2_with fail;refine KT.o.mono ?_;rintro e gz ⟨rfl,hb⟩;replace C:=Aa (C.o.over hb);clear KT;replace n:=Aa (Ae n.o (Ag (r:=some rb) hb));replace f:=Aa (f.o.over hb);replace v:Hx (Rq rb tv ts en w m0 (s6) gz):=v.o.over hb;clear hb;by_cases h44:tl ts s6 0=[44]
         ·have q6:(t6.toList == [44])=true:=CO eo.o h44
          obtain ⟨g2,rfl⟩:∃ q,g2=q+1:=⟨g2 - 1,by have:=dr.o.1;omega⟩;have bb:=br.o;rw [Kt _ _ _ h44] at bb;have cq:=(Hw (ts:=ts) (s:=s6) (k:=0) (by rw [h44];simp));have ec:=Cl cq.1 h44;obtain ⟨s7,du⟩:=nm (Af ts [44] s6);have KN:=Aa (AD ⟨#[44]⟩ [44] rfl (by decide) s6 _ v.o.st);rw [<-du] at KN bb ec;obtain ⟨pn,bk⟩:=nm (Ay ts s7);have ct:Hx (∀ X,Sd rb tv ts en s7 X->Calls Tryz.prog 58 #[zf (some ⟨rb,0,none⟩)] X fun e w'=>e=zg (.string pn.1)/\Qo rb tv ts en X s7 pn.2 w'):=fun X hX=>by
           have h9:=B2 hall s7 X hX;rw [<-bk] at h9;exact h9
          rw [<-bk] at bb;obtain ⟨n8,s8⟩:=pn;dsimp only at bb ct;replace br:=Aa bb;have es:=Aa (And.intro ec cq);clear bb ec du cq h44 bk;go_wp2_with fail;refine KN.o.mono ?_;rintro e cz ⟨rfl,T⟩;clear KN;replace C:=Aa (C.o.keep T.1 (by have h1:=v.o.rlt;have h2:=cu.o;omega));replace n:=Aa (Ae n.o T.1);have hg:=T.1;replace f:=bkp f v.o.rlt b5 hg;replace v:Hx (Rq rb tv ts en w m0 (s7) cz):=Qo.rq v.o T;clear hg T;clear q6;go_wp2_with fail;refine gS (fun _=>True) trivial fun E=>?_;obtain ⟨Wd,b0⟩:=nm cz.drew;have ay:Ov cz Wd:=by rw [b0];exact bD _
          replace v:=Aa (v.o.over ay);replace f:=Aa (f.o.over ay);replace C:=Aa (C.o.over ay);replace n:=Aa (Ae n.o (Ag (r:=some rb) ay));rw [<-b0];clear b0 ay;refine kT 0 ?_;refine kT 2 ?_;refine rdB 1 3 rfl (fun K M=>?_) rfl fun K M=>?_
          ·have lc:=f.o.row 3 _ rfl
           go_simp;refine xK M trivial fun E=>?_;clear M K lc;refine rdA 3 rfl fun K M=>?_;go_simp;refine (ct.o _ v.o.st).mono ?_;rintro e wn ⟨rfl,T⟩;have hg:=T.1;replace f:=Aa (f.o.keep hg (by have h1:=v.o.rlt;have h2:=a2.o;omega));replace C:=Aa (C.o.keep hg (by have h1:=v.o.rlt;have h2:=cu.o;omega));replace n:=Aa (Ae n.o hg);have am:=Aa T.2.2;replace v:=Aa (Qo.rq v.o T);clear hg T E;go_simp;refine xK M trivial fun E=>?_;clear M K;refine rdA 4 rfl fun K M=>?_;obtain ⟨W2,V⟩:=nm (wn.alloc (zd #[.string n8] 9));have S:Ov wn W2:=by rw [V];exact bA _ _
           have a0:Hx (Ac [.string n8] W2 wn.heap.size):=by show Ac _ _ _;rw [V];exact Ai wn [.string n8] 9
           have dd:Hx (N+1<=wn.heap.size):=f.o.lt;replace v:=Aa (v.o.over S);replace f:=Aa (f.o.over S);replace C:=Aa (C.o.over S);replace n:=Aa (Ae n.o (Ag (r:=some rb) S));clear S;go_simp;rw [<-V];refine xK M trivial fun E=>?_;clear M K V;refine rdA 5 rfl fun K M=>?_;obtain ⟨xs,B,ag⟩:=C.o;obtain ⟨v2,W3,Z,F,G,-,ac⟩:=run_append_own_at (P:=Tryz.prog) (w:=W2) (N+1) 46 46 9 i0 (.string ⟨#[]⟩) 1 16 Tryz.underlying46 hi cn cm cl rfl (by decide) _ _ _ B ⟨wn.heap.size,0,none⟩ 1 1 [.string n8] rfl (fun jj u hu=>by rw [Addr.add_lit,Nat.zero_add];exact a0.o jj u hu) (by simp [Value.oneCell']) (by unfold maxLen;have:=ah.o;omega) (by have:=ah.o;omega) (f.o.lt);have Q:Cop (N+1) 9 1 (fun i cs W=>∀ y,(nacc++[n8])[i]? = some y->RN cs y) (nk+1) v2 W3:=Cop.add (B1:=W2.heap.size) B (fun i hi=>by
             obtain ⟨ds,z1,z2,z3⟩:=ag i hi;exact ⟨ds,z1,z2,z3.imp fun W hW y hy=>hW y (by rw [List.getElem?_append_left (by rw [<-Y.o];exact hi)] at hy;exact hy)⟩) rfl (fun W hW y hy=>by
              rw [List.getElem?_append_right (by rw [Y.o];exact Nat.le_refl _),Y.o,Nat.sub_self] at hy;injection hy with hy;rw [<-hy]) (f.o.lt) (fun g hg=>(AK B hg).2) F G ac
           replace v:=Aa (v.o.row B cv.o G);replace n:=Aa (Br n.o B b7.o G);replace f:=Aa (f.o.grown G (fun e=>by have h1:=(AK B e.symm).1;have h2:=aq.o;omega));obtain ⟨I,ch,H,an⟩:=Be F;subst an;obtain rfl:=BV F;replace C:=Aa Q;refine Bq rfl _ _ _ rfl _ _ _ _ rfl rfl Z ?_;clear Z B ag F G ac Q;refine xK M trivial fun E=>?_;clear M K;refine kT 6 ?_;refine rdA 7 rfl fun K M=>?_;have lc:=f.o.row 3 _ rfl;have lf:=f.o.fz 3;obtain ⟨W9,U⟩:=nm (W3.setCell ⟨N,3,none⟩ (O I (nk+1) H));replace f:Hx (Bx N [A J p,.string x,zc wb,O I (nk+1) H] W9):=by show Bx _ _ _;rw [U];exact f.o.set (j:=3) (by simp)
           replace v:=Aa (v.o.set (b:=N) (j:=3) (u:=O I (nk+1) H) a2.o);replace C:=Aa (C.o.set (b:=N) (j:=3) (u:=O I (nk+1) H) aq.o);replace n:=Aa (AI n.o (p:=⟨N,3,none⟩) b6.o (O I (nk+1) H));rw [<-U] at v C n;go_simp;rw [<-U];refine xK M trivial fun E=>?_;clear M K U lc lf;refine gE ?_;go_wp2_with fail;have h7:=es.o;have h8:=am.o;have h9:=dr.o;have h5:=a1.o;have hk:=Y.o;have bc:=BK ts.length v.o.st;have ia:=v.o.st.2.1;have hm:bN s8.2<=1:=by unfold bN;split <;> omega
           have e6:bN s6.2=1:=by rw [h7.2.1];rfl
           have h0:=h7.2.2;rw [h7.1] at h8;dsimp only at h8;exact ⟨⟨nacc++[n8],s8,g2,I,nk+1,H,by rw [List.length_append,<-hk];rfl,f.o,C.o,v.o,br.o,by omega,by omega,n.o,by omega⟩,by rw [bc,ev.o,e6];omega⟩
          ·go_simp
           refine (ct.o _ v.o.st).mono ?_;rintro e wn ⟨rfl,T⟩;have hg:=T.1;replace f:=Aa (f.o.keep hg (by have h1:=v.o.rlt;have h2:=a2.o;omega));replace C:=Aa (C.o.keep hg (by have h1:=v.o.rlt;have h2:=cu.o;omega));replace n:=Aa (Ae n.o hg);have am:=Aa T.2.2;replace v:=Aa (Qo.rq v.o T);clear hg T E;go_simp;refine xK M trivial fun E=>?_;clear M K;refine rdB 1 4 rfl (fun K M=>?_) rfl fun K M=>?_
           ·have lc:=f.o.row 3 _ rfl
            go_simp;refine xK M trivial fun E=>?_;clear M K lc;refine rdA 4 rfl fun K M=>?_;obtain ⟨W2,V⟩:=nm (wn.alloc (zd #[.string n8] 9));have S:Ov wn W2:=by rw [V];exact bA _ _
            have a0:Hx (Ac [.string n8] W2 wn.heap.size):=by show Ac _ _ _;rw [V];exact Ai wn [.string n8] 9
            have dd:Hx (N+1<=wn.heap.size):=f.o.lt;replace v:=Aa (v.o.over S);replace f:=Aa (f.o.over S);replace C:=Aa (C.o.over S);replace n:=Aa (Ae n.o (Ag (r:=some rb) S));clear S;go_simp;rw [<-V];refine xK M trivial fun E=>?_;clear M K V;refine rdA 5 rfl fun K M=>?_;obtain ⟨xs,B,ag⟩:=C.o;obtain ⟨v2,W3,Z,F,G,-,ac⟩:=run_append_own_at (P:=Tryz.prog) (w:=W2) (N+1) 46 46 9 i0 (.string ⟨#[]⟩) 1 16 Tryz.underlying46 hi cn cm cl rfl (by decide) _ _ _ B ⟨wn.heap.size,0,none⟩ 1 1 [.string n8] rfl (fun jj u hu=>by rw [Addr.add_lit,Nat.zero_add];exact a0.o jj u hu) (by simp [Value.oneCell']) (by unfold maxLen;have:=ah.o;omega) (by have:=ah.o;omega) (f.o.lt);have Q:Cop (N+1) 9 1 (fun i cs W=>∀ y,(nacc++[n8])[i]? = some y->RN cs y) (nk+1) v2 W3:=Cop.add (B1:=W2.heap.size) B (fun i hi=>by
              obtain ⟨ds,z1,z2,z3⟩:=ag i hi;exact ⟨ds,z1,z2,z3.imp fun W hW y hy=>hW y (by rw [List.getElem?_append_left (by rw [<-Y.o];exact hi)] at hy;exact hy)⟩) rfl (fun W hW y hy=>by
               rw [List.getElem?_append_right (by rw [Y.o];exact Nat.le_refl _),Y.o,Nat.sub_self] at hy;injection hy with hy;rw [<-hy]) (f.o.lt) (fun g hg=>(AK B hg).2) F G ac
            replace v:=Aa (v.o.row B cv.o G);replace n:=Aa (Br n.o B b7.o G);replace f:=Aa (f.o.grown G (fun e=>by have h1:=(AK B e.symm).1;have h2:=aq.o;omega));obtain ⟨I,ch,H,an⟩:=Be F;subst an;obtain rfl:=BV F;replace C:=Aa Q;refine Bq rfl _ _ _ rfl _ _ _ _ rfl rfl Z ?_;clear Z B ag F G ac Q;refine xK M trivial fun E=>?_;clear M K;refine kT 6 ?_;refine rdA 7 rfl fun K M=>?_;have lc:=f.o.row 3 _ rfl;have lf:=f.o.fz 3;obtain ⟨W9,U⟩:=nm (W3.setCell ⟨N,3,none⟩ (O I (nk+1) H));replace f:Hx (Bx N [A J p,.string x,zc wb,O I (nk+1) H] W9):=by show Bx _ _ _;rw [U];exact f.o.set (j:=3) (by simp)
            replace v:=Aa (v.o.set (b:=N) (j:=3) (u:=O I (nk+1) H) a2.o);replace C:=Aa (C.o.set (b:=N) (j:=3) (u:=O I (nk+1) H) aq.o);replace n:=Aa (AI n.o (p:=⟨N,3,none⟩) b6.o (O I (nk+1) H));rw [<-U] at v C n;go_simp;rw [<-U];refine xK M trivial fun E=>?_;clear M K U lc lf;refine gE ?_;go_wp2_with fail;have h7:=es.o;have h8:=am.o;have h9:=dr.o;have h5:=a1.o;have hk:=Y.o;have bc:=BK ts.length v.o.st;have ia:=v.o.st.2.1;have hm:bN s8.2<=1:=by unfold bN;split <;> omega
            have e6:bN s6.2=1:=by rw [h7.2.1];rfl
            have h0:=h7.2.2;rw [h7.1] at h8;dsimp only at h8;exact ⟨⟨nacc++[n8],s8,g2,I,nk+1,H,by rw [List.length_append,<-hk];rfl,f.o,C.o,v.o,br.o,by omega,by omega,n.o,by omega⟩,by rw [bc,ev.o,e6];omega⟩
           ·obtain ⟨W2,V⟩:=nm (wn.alloc (zd #[.string n8] 9))
            have S:Ov wn W2:=by rw [V];exact bA _ _
            have a0:Hx (Ac [.string n8] W2 wn.heap.size):=by show Ac _ _ _;rw [V];exact Ai wn [.string n8] 9
            have dd:Hx (N+1<=wn.heap.size):=f.o.lt;replace v:=Aa (v.o.over S);replace f:=Aa (f.o.over S);replace C:=Aa (C.o.over S);replace n:=Aa (Ae n.o (Ag (r:=some rb) S));clear S;go_simp;rw [<-V];refine xK M trivial fun E=>?_;clear M K V;refine rdA 1 rfl fun K M=>?_;have lc:=f.o.row 3 _ rfl;go_simp;refine xK M trivial fun E=>?_;clear M K lc;refine rdA 5 rfl fun K M=>?_;obtain ⟨xs,B,ag⟩:=C.o;obtain ⟨v2,W3,Z,F,G,-,ac⟩:=run_append_own_at (P:=Tryz.prog) (w:=W2) (N+1) 46 46 9 i0 (.string ⟨#[]⟩) 1 16 Tryz.underlying46 hi cn cm cl rfl (by decide) _ _ _ B ⟨wn.heap.size,0,none⟩ 1 1 [.string n8] rfl (fun jj u hu=>by rw [Addr.add_lit,Nat.zero_add];exact a0.o jj u hu) (by simp [Value.oneCell']) (by unfold maxLen;have:=ah.o;omega) (by have:=ah.o;omega) (f.o.lt);have Q:Cop (N+1) 9 1 (fun i cs W=>∀ y,(nacc++[n8])[i]? = some y->RN cs y) (nk+1) v2 W3:=Cop.add (B1:=W2.heap.size) B (fun i hi=>by
              obtain ⟨ds,z1,z2,z3⟩:=ag i hi;exact ⟨ds,z1,z2,z3.imp fun W hW y hy=>hW y (by rw [List.getElem?_append_left (by rw [<-Y.o];exact hi)] at hy;exact hy)⟩) rfl (fun W hW y hy=>by
               rw [List.getElem?_append_right (by rw [Y.o];exact Nat.le_refl _),Y.o,Nat.sub_self] at hy;injection hy with hy;rw [<-hy]) (f.o.lt) (fun g hg=>(AK B hg).2) F G ac
            replace v:=Aa (v.o.row B cv.o G);replace n:=Aa (Br n.o B b7.o G);replace f:=Aa (f.o.grown G (fun e=>by have h1:=(AK B e.symm).1;have h2:=aq.o;omega));obtain ⟨I,ch,H,an⟩:=Be F;subst an;obtain rfl:=BV F;replace C:=Aa Q;refine Bq rfl _ _ _ rfl _ _ _ _ rfl rfl Z ?_;clear Z B ag F G ac Q;refine xK M trivial fun E=>?_;clear M K;refine kT 6 ?_;refine rdA 7 rfl fun K M=>?_;have lc:=f.o.row 3 _ rfl;have lf:=f.o.fz 3;obtain ⟨W9,U⟩:=nm (W3.setCell ⟨N,3,none⟩ (O I (nk+1) H));replace f:Hx (Bx N [A J p,.string x,zc wb,O I (nk+1) H] W9):=by show Bx _ _ _;rw [U];exact f.o.set (j:=3) (by simp)
            replace v:=Aa (v.o.set (b:=N) (j:=3) (u:=O I (nk+1) H) a2.o);replace C:=Aa (C.o.set (b:=N) (j:=3) (u:=O I (nk+1) H) aq.o);replace n:=Aa (AI n.o (p:=⟨N,3,none⟩) b6.o (O I (nk+1) H));rw [<-U] at v C n;go_simp;rw [<-U];refine xK M trivial fun E=>?_;clear M K U lc lf;refine gE ?_;go_wp2_with fail;have h7:=es.o;have h8:=am.o;have h9:=dr.o;have h5:=a1.o;have hk:=Y.o;have bc:=BK ts.length v.o.st;have ia:=v.o.st.2.1;have hm:bN s8.2<=1:=by unfold bN;split <;> omega
            have e6:bN s6.2=1:=by rw [h7.2.1];rfl
            have h0:=h7.2.2;rw [h7.1] at h8;dsimp only at h8;exact ⟨⟨nacc++[n8],s8,g2,I,nk+1,H,by rw [List.length_append,<-hk];rfl,f.o,C.o,v.o,br.o,by omega,by omega,n.o,by omega⟩,by rw [bc,ev.o,e6];omega⟩
         ·have q6:(t6.toList == [44])=false:=A9 eo.o h44
          have c5:CE ts s4=(nacc,s6):=by rw [<-br.o];exact Ku _ _ _ h44
          have dq:=Aa c5;clear h44 c5;go_wp2_with fail;exact dh.o _ _ FrL.mk ⟨nacc,s6,na,nk,nc,Y.o,ah.o,dq.o,f.o,C.o,v.o,n.o,a1.o⟩
    clear ei
    cases wb with
    | false=>
     have av:s4=Af ts [58] s3:=by rw [eq.o,if_neg (of_decide_eq_false er.o.symm)]
     have KN:=Aa (AD ⟨#[58]⟩ [58] rfl (by decide) s3 _ v.o.st);rw [<-av] at KN;clear av;obtain ⟨bg,bf,be,bd⟩:=rc4 f.o.row;obtain ⟨b4,b3,b2,b1⟩:=fz4 f.o.fz;go_wp2_with fail;clear b1 b2 b3 b4 bd be bf bg;refine KN.o.mono ?_;rintro e d5 ⟨rfl,T⟩;clear KN;have a6:=Aa T.2.2;replace n:=Aa (Ae n.o T.1);have hg:=T.1;replace f:=bkp f v.o.rlt b5 hg;replace v:Hx (Rq rb tv ts en w m0 (s4) d5):=Qo.rq v.o T;clear hg T;go_wp2_with fail;exact d4.o _ _ FrL.mk f.o v.o n.o a6.o
    | true=>
     have av:s4=Af ts [33] s3:=by rw [eq.o,if_pos (of_decide_eq_true er.o.symm)]
     have KN:=Aa (AD ⟨#[33]⟩ [33] rfl (by decide) s3 _ v.o.st);rw [<-av] at KN;clear av;obtain ⟨bg,bf,be,bd⟩:=rc4 f.o.row;obtain ⟨b4,b3,b2,b1⟩:=fz4 f.o.fz;go_wp2_with fail;clear b1 b2 b3 b4 bd be bf bg;refine KN.o.mono ?_;rintro e d5 ⟨rfl,T⟩;clear KN;have a6:=Aa T.2.2;replace n:=Aa (Ae n.o T.1);have hg:=T.1;replace f:=bkp f v.o.rlt b5 hg;replace v:Hx (Rq rb tv ts en w m0 (s4) d5):=Qo.rq v.o T;clear hg T;go_wp2_with fail;exact d4.o _ _ FrL.mk f.o v.o n.o a6.o
end
end Go.Proofs.YtipngnjffjajpaaGreatDoor.Tx
