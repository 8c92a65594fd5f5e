/- The document's reader in memory: labels. -/
import Derived.Test.YtipngnjffjajpaaGreatDoorH29
set_option linter.unusedVariables false
set_option maxHeartbeats 8000000
set_option maxRecDepth 100000
namespace Go.Proofs.YtipngnjffjajpaaGreatDoor.Tx
open Go.RowKit
open Go.Value renaming int -> M, slice -> U, bool -> zc, pointer -> zd, agg -> zf, tuple -> zh
open Go.IntKind renaming i64 -> O
open Go.Obj renaming cells -> ze
open Go.Ending renaming returned -> zg
section
variable {rb:Nat} {tv:Value} {ts:List Tok} {en:Nat}
def FrL (rb bp:Nat) (l:Value) (t:ByteArray) (mb:Bool) (act:Act):Prop:=∃ (x11 x12 x13 x14 x15 x16 x17 x18 x19 x20 x21 x22 x23 x24 x25 x26 x27 x28 x29 x30 x31 x32 x33 x34 x35 x36 x37 x38 x39 x40 x41 x42 x43 x44 x45 x46 x47 x48 x49 x50 x51 x52 x53 x54 x55 x56 x57 x58 x59 x60 x61 x62 x63 x64 x65 x66 x67 x68 x69 x70 x71:Value),act={ tmps:=#[zd (some ⟨rb,0,none⟩),undef,U none 0 0,l,zc true,zd (some ⟨bp,0,none⟩),zd (some ⟨rb,0,none⟩),zh #[],zd (some ⟨rb,0,none⟩),.string t,zc mb,x11,x12,x13,x14,x15,x16,x17,x18,x19,x20,x21,x22,x23,x24,x25,x26,x27,x28,x29,x30,x31,x32,x33,x34,x35,x36,x37,x38,x39,x40,x41,x42,x43,x44,x45,x46,x47,x48,x49,x50,x51,x52,x53,x54,x55,x56,x57,x58,x59,x60,x61,x62,x63,x64,x65,x66,x67,x68,x69,x70,x71,undef,undef,undef],defers:=[] }
theorem FrL.mk {rb bp:Nat} {t:ByteArray} {mb:Bool} {l x11 x12 x13 x14 x15 x16 x17 x18 x19 x20 x21 x22 x23 x24 x25 x26 x27 x28 x29 x30 x31 x32 x33 x34 x35 x36 x37 x38 x39 x40 x41 x42 x43 x44 x45 x46 x47 x48 x49 x50 x51 x52 x53 x54 x55 x56 x57 x58 x59 x60 x61 x62 x63 x64 x65 x66 x67 x68 x69 x70 x71:Value}:FrL rb bp l t mb { tmps:=#[zd (some ⟨rb,0,none⟩),undef,U none 0 0,l,zc true,zd (some ⟨bp,0,none⟩),zd (some ⟨rb,0,none⟩),zh #[],zd (some ⟨rb,0,none⟩),.string t,zc mb,x11,x12,x13,x14,x15,x16,x17,x18,x19,x20,x21,x22,x23,x24,x25,x26,x27,x28,x29,x30,x31,x32,x33,x34,x35,x36,x37,x38,x39,x40,x41,x42,x43,x44,x45,x46,x47,x48,x49,x50,x51,x52,x53,x54,x55,x56,x57,x58,x59,x60,x61,x62,x63,x64,x65,x66,x67,x68,x69,x70,x71,undef,undef,undef],defers:=[] }:=⟨x11,x12,x13,x14,x15,x16,x17,x18,x19,x20,x21,x22,x23,x24,x25,x26,x27,x28,x29,x30,x31,x32,x33,x34,x35,x36,x37,x38,x39,x40,x41,x42,x43,x44,x45,x46,x47,x48,x49,x50,x51,x52,x53,x54,x55,x56,x57,x58,x59,x60,x61,x62,x63,x64,x65,x66,x67,x68,x69,x70,x71,rfl⟩
theorem BG {a b c:World} {rb B T q k:Nat} {v:Value} {xs:List Value} (h:a.grownBy b (some rb)) (ho:b.ownsRow B T q v k xs) (hB:a.heap.size<=B) (hg:b.grownBy c v.ownBlock):a.grownBy c (some rb):=
 ⟨hg.os.trans h.os,hg.tape.trans h.tape,hg.output.trans h.output,Nat.le_trans h.size hg.size,fun i hi hn=>(hg.block i (Nat.lt_of_lt_of_le hi h.size) (fun e=>by have:=(AF ho e.symm).1;omega)).trans (h.block i hi hn)⟩
theorem Js (s:Sg):s.1<=(AJ ts s).2.1:=by
 unfold AJ;split
 ·exact Nat.le_succ _
 ·exact Nat.le_refl _
theorem Jt:∀ (g:Nat) (acc:List ByteArray) (s:Sg),s.1<=(Ct ts g acc s).2.1
 | 0,acc,s=>Nat.le_refl _
 | g+1,acc,s=>by
  unfold Ct;split
  ·exact Nat.le_trans (D7 _ _) (Nat.le_trans (Js _) (Jt g _ _))
  ·exact Nat.le_refl _
theorem L4 (s:Sg):s.1<=(CQ ts s).2.1:=by
 unfold CQ;split
 ·exact Nat.le_trans (Js _) (Jt _ _ _)
 ·exact Nat.le_refl _
theorem Mz (s:Sg) (h:s.2=false):(Ez ts en s).2.2=true\/s.1+1<=(Ez ts en s).2.1:=by
 unfold Ez;by_cases hn:nmS (tl ts s 0)=true
 ·have e:AJ ts s=(tx ts s 0,(s.1+1,s.2)):=by unfold AJ;rw [if_pos hn]
  rw [e];right;dsimp only;refine Nat.le_trans ?_ (L4 _);split
  ·exact D7 (ts:=ts) [33] (s.1+1,s.2)
  ·exact D7 (ts:=ts) [58] (s.1+1,s.2)
 ·have e:AJ ts s=(noS,(s.1,true)):=by unfold AJ;rw [if_neg hn];rfl
  rw [e];left;dsimp only;rw [BP,BP,ite_self];rw [II]
theorem Gq (g:Nat) (mo:Bool) (acc:List D) (s:Sg) (h:s.2=true\/mo=false):CF ts en g mo acc s=(acc,s):=by
 cases g with
 | zero=>rfl
 | succ g=>
  rw [CF,if_neg];rintro ⟨b,a⟩;rcases h with h | h
  ·rw [h] at a;cases a
  ·rw [h] at b;cases b
theorem J3 (g:Nat) (acc:List D) (s:Sg) (h:s.2=false):CF ts en (g+1) true acc s=CF ts en g (decide (tl ts (Ez ts en s).2 0=[59])) (acc++[(Ez ts en s).1]) (if tl ts (Ez ts en s).2 0=[59] then Al ts [59] (Ez ts en s).2 else (Ez ts en s).2):=by
 rw [CF,if_pos ⟨rfl,h⟩]
theorem J2 (g:Nat) (acc:List ByteArray) (s:Sg) (h:¬ tl ts s 0=[44]):Ct ts g acc s=(acc,s):=by
 cases g with
 | zero=>rfl
 | succ g=>rw [Ct,if_neg h]
theorem J1 (g:Nat) (acc:List ByteArray) (s:Sg) (h:tl ts s 0=[44]):Ct ts (g+1) acc s=Ct ts g (acc++[(AJ ts (Al ts [44] s)).1]) (AJ ts (Al ts [44] s)).2:=by
 rw [Ct,if_pos h]
theorem GM (hall:ts.all An=true) (s:Sg) (w:World) (h:Sd rb tv ts en s w):Calls Tryz.prog 61 #[zd (some ⟨rb,0,none⟩)] w (EN rb tv ts en 4 F2 w s (Df ts en s)):=by
 obtain ⟨j0,hj,iw,iv,iu⟩:=info_parts Tryz.infoPol;obtain ⟨i0,hi,cm,cl,ck⟩:=info_parts Tryz.infoStr;obtain ⟨it,c0⟩:=nm (Df ts en s);rw [<-c0];have ad:Hx (it=(fun s1:Sg=>(fun p:List D × Sg=>(p.1,Al ts [125] p.2)) (CF ts en (ts.length+2) (decide (tl ts s1 0≠[125])) [] s1)) (Al ts [123] s)):=c0;obtain ⟨m0,ee⟩:=nm s.1;have n:Hx (Rq rb tv ts en w m0 (s) w):=by show Rq _ _ _ _ _ _ _ _;rw [ee];exact Rq.start h
 have ih:=Aa ee;have m:=Aa (Af w (some rb));clear c0 ee h;go_enter Tryz.func61,Tryz.ntmps61;obtain ⟨s1,dj⟩:=nm (Al ts [123] s);have KN:=Aa (AO ⟨#[123]⟩ [123] rfl (by decide) s _ n.o.st);rw [<-dj] at KN;rw [<-dj] at ad;have j8:=Aa dj;clear dj;go_wp2_with fail;refine KN.o.mono ?_;rintro e w1 ⟨rfl,Q⟩;clear KN;replace m:=Aa (Ac m.o Q.1);have Z:=Q.1;replace n:Hx (Rq rb tv ts en w m0 (s1) w1):=Qo.rq n.o Q;clear Z Q;obtain ⟨t,ht⟩:=nm (tx ts s1 0);have KT:Hx (Ro 57 #[zd (some ⟨rb,0,none⟩),M O 0] w1 (.string t)):=by rw [ht];exact AY 0 (by omega) s1 _ n.o.st
 have Ht:=Aa ht;clear ht;go_wp2_with fail;refine KT.o.mono ?_;rintro e w2 ⟨rfl,hb⟩;clear KT;replace m:=Aa (Ac m.o (Ad (r:=some rb) hb));replace n:Hx (Rq rb tv ts en w m0 (s1) w2):=n.o.over hb;clear hb;obtain ⟨ci,c5⟩:=nm (decide (tl ts s1 0≠[125]));have q0:(t.toList == [125])=!ci:=by rw [It,Ht.o,c5];by_cases e:tl ts s1 0=[125] <;> simp [e] <;> exact e
 rw [<-c5] at ad;obtain ⟨bg,bs⟩:=nm (CF ts en (ts.length+2) ci [] s1);rw [<-bs] at ad;have cv:=Aa ad.o;replace ad:=Aa bs;clear bs c5;go_wp2_with fail;go_loopw [3,4] (fun l mo wr=>∃ (acc:List D) (s2:Sg) (g:Nat) (mb:Bool),mo=zc mb/\Cop w.heap.size 53 4 (fun i cs W=>∀ x,acc[i]? = some x->F2 W cs x) acc.length l wr/\Rq rb tv ts en w m0 s2 wr/\CF ts en g mb acc s2=bg/\(s2.2=true\/ts.length - s2.1 < g)/\acc.length+bN s2.2<=s2.1+1) (fun _ _ wr=>mQ rb ts.length wr)
 case atStart=>exact ⟨[],s1,ts.length+2,ci,by simp,Cop.nil,n.o,ad.o.symm,Or.inr (by omega),by simp [bN];split <;> omega⟩
 case round=>
  obtain ⟨acc,s2,g,mb,rfl,J,hd,hp,he,hl⟩:=hrel;obtain ⟨Wo,i5⟩:=nm wr;subst i5;have di:=hd.st;have g9:s2.1<=ts.length/\ts.length<=6000:=⟨di.2.1,di.2.2.1⟩;obtain ⟨la,lc,i2,-⟩:=J.cells (by decide);subst i2;replace n:=Aa hd;have dg:=Aa J;replace ad:=Aa hp;have ig:=Aa (B0 ts.length di);have ja:=Aa hd.size;have HF:=Aa (And.intro he (And.intro hl g9));replace m:=Aa (Af Wo (some rb));obtain ⟨k,hk⟩:=nm acc.length;rw [<-hk] at dg ⊢;have HK:=Aa hk;clear J hd hp di he hl g9 hk q0
  cases mb with
  | false=>
   have HE:Hx (bg=(acc,s2)):=by show _=_;rw [<-ad.o];exact Gq _ _ _ _ (Or.inr rfl)
   have ae:=cv.o;rw [HE.o] at ae;dsimp only at ae;replace cv:=Aa ae;clear ae;obtain ⟨s9,ar⟩:=nm (Al ts [125] s2);have KN:=Aa (AO ⟨#[125]⟩ [125] rfl (by decide) s2 _ n.o.st);rw [<-ar] at KN;have em:=Aa ar;clear ar;go_wp2_with fail;refine KN.o.mono ?_;rintro e a7 ⟨rfl,Q⟩;clear KN;replace m:=Aa (Ac m.o Q.1);have Z:=Q.1;replace n:Hx (Rq rb tv ts en w m0 (s9) a7):=Qo.rq n.o Q;clear Z Q;have ae:=cv.o;rw [<-em.o] at ae;have bw:=dg.o;rw [HK.o] at bw;have c6:acc.length<=6001:=by have:=HF.o;unfold bN at this;omega
   obtain ⟨a,c,hv,bj⟩:=Cop.ls bw (by decide) (by omega);injection hv with v1 v2 v3;subst v1 v3;have dd:=Aa (bj.keep m.o n.o.rlt);have ev:=Aa c6;have dc:=Aa ae;clear bw bj c6 v2 ae;go_wp2_with fail;go_ret;rw [dc.o];exact ⟨la,lc,by rw [HK.o];rfl,dd.o,ev.o,n.o.gr,n.o.st,by rw [<-ih.o];exact n.o.le⟩
  | true=>
   obtain ⟨g4,g3,rc2,dh,-,-⟩:=n.o.st.cells
   cases hfl:s2.2 with
   | true=>
    have HE:Hx (bg=(acc,s2)):=by show _=_;rw [<-ad.o];exact Gq _ _ _ _ (Or.inl hfl)
    rw [hfl] at dh;clear hfl;have ae:=cv.o;rw [HE.o] at ae;dsimp only at ae;replace cv:=Aa ae;clear ae;obtain ⟨s9,ar⟩:=nm (Al ts [125] s2);have KN:=Aa (AO ⟨#[125]⟩ [125] rfl (by decide) s2 _ n.o.st);rw [<-ar] at KN;have em:=Aa ar;clear ar;go_wp2_with fail;clear dh rc2 g3 g4;refine KN.o.mono ?_;rintro e a7 ⟨rfl,Q⟩;clear KN;replace m:=Aa (Ac m.o Q.1);have Z:=Q.1;replace n:Hx (Rq rb tv ts en w m0 (s9) a7):=Qo.rq n.o Q;clear Z Q;have ae:=cv.o;rw [<-em.o] at ae;have bw:=dg.o;rw [HK.o] at bw;have c6:acc.length<=6001:=by have:=HF.o;unfold bN at this;omega
    obtain ⟨a,c,hv,bj⟩:=Cop.ls bw (by decide) (by omega);injection hv with v1 v2 v3;subst v1 v3;have dd:=Aa (bj.keep m.o n.o.rlt);have ev:=Aa c6;have dc:=Aa ae;clear bw bj c6 v2 ae;go_wp2_with fail;go_ret;rw [dc.o];exact ⟨la,lc,by rw [HK.o];rfl,dd.o,ev.o,n.o.gr,n.o.st,by rw [<-ih.o];exact n.o.le⟩
   | false=>
    rw [hfl] at dh;obtain ⟨g,rfl⟩:∃ g',g=g' + 1:=⟨g - 1,by have h1:=HF.o.1;rw [hfl] at h1;simp at h1;omega⟩;have hr:=ad.o;rw [J3 _ _ _ hfl] at hr;replace ad:Hx (_=bg):=hr;have cc:=Aa (Mz (ts:=ts) (en:=en) s2 hfl);obtain ⟨pp,ec⟩:=nm (Ez ts en s2);rw [<-ec] at ad cc;have jf:=Aa ec;have ij:=Aa hfl;clear hr hfl ec;obtain ⟨p,hp⟩:=nm (Ar ts en s2.1);have KH:Hx (Ro 28 #[zd (some ⟨rb,0,none⟩)] Wo (M O p)):=by rw [hp];exact Cf s2 _ n.o.st
    have jd:=Aa hp;clear hp;go_wp2_with fail;clear dh rc2 g3 g4;refine KH.o.mono ?_;rintro e a7 ⟨rfl,hb⟩;clear KH;replace m:=Aa (Ac m.o (Ad (r:=some rb) hb));replace n:Hx (Rq rb tv ts en w m0 (s2) a7):=n.o.over hb;clear hb;have ii:Hx (Wo.heap.size<=a7.heap.size):=m.o.size;obtain ⟨ej,bm⟩:=nm (a7.alloc (ze #[M O p,.string ⟨#[]⟩,zc false,U none 0 0] 53));obtain ⟨I,aj⟩:=nm a7.heap.size;have b7:=aj;have b4:Hx (w.heap.size<=I):=by show _<=_;rw [b7];exact n.o.size
    have f:Hx (Bx I [M O p,.string ⟨#[]⟩,zc false,U none 0 0] ej):=by show Bx _ _ _;rw [bm,b7];exact Bx.new a7 [M O p,.string ⟨#[]⟩,zc false,U none 0 0] 53
    replace n:Hx (Rq rb tv ts en w m0 (s2) ej):=by show Rq _ _ _ _ _ _ _ _;rw [bm];exact n.o.over (bA _ _)
    replace m:Hx (Wo.grownBy ej (some rb)):=by show World.grownBy _ _ _;rw [bm];exact Dj m.o _
    have eu:Hx (Wo.heap.size<=I):=by show _<=_;rw [b7];exact ii.o
    clear ii;obtain ⟨px,eb⟩:=nm (AJ ts s2);obtain ⟨x,s3⟩:=px;have KM:=Aa (Ce hall s2 _ n.o.st);rw [<-eb] at KM;dsimp only at KM;have jc:=Aa eb;clear eb;go_wp2_with fail;rw [<-bm,<-aj];clear b7;clear aj bm;refine KM.o.mono ?_;rintro e d5 ⟨rfl,Q⟩;clear KM;have d0:=Aa Q.2.2;replace m:=Aa (Ac m.o Q.1);have Z:=Q.1;replace f:=bkp f n.o.rlt b4 Z;replace n:Hx (Rq rb tv ts en w m0 (s3) d5):=Qo.rq n.o Q;clear Z Q;obtain ⟨be,bd,bc,bb⟩:=rc4 f.o.row;obtain ⟨b3,b2,b1,b0⟩:=fz4 f.o.fz;obtain ⟨ei,ca⟩:=nm (d5.setCell ⟨I,1,none⟩ (.string x));have bu:d5.grownBy ei (some I):=by rw [ca];exact (gst (Af _ _))
    replace f:Hx (Bx I [M O p,.string x,zc false,U none 0 0] ei):=by show Bx _ _ _;rw [ca];exact (f.o.se 1)
    replace n:=Aa (n.o.box bu b4.o);replace m:=Aa (Gs m.o bu eu.o);clear bu;obtain ⟨u,hu⟩:=nm (tx ts s3 0);have KT:Hx (Ro 57 #[zd (some ⟨rb,0,none⟩),M O 0] ei (.string u)):=by rw [hu];exact AY 0 (by omega) s3 _ n.o.st
    have Hu:=Aa hu;clear hu;go_wp2_with fail;rw [<-ca];clear b0 b1 b2 b3 bb bc bd be;clear ca;refine KT.o.mono ?_;rintro e d4 ⟨rfl,hb⟩;clear KT;replace m:=Aa (Ac m.o (Ad (r:=some rb) hb));replace f:=Aa (f.o.over hb);replace n:Hx (Rq rb tv ts en w m0 (s3) d4):=n.o.over hb;clear hb;obtain ⟨wb,d8⟩:=nm (decide (tl ts s3 0=[33]));have q1:(u.toList == [33])=wb:=by rw [It,Hu.o,d8];rfl
    have ep:=Aa d8;clear d8;obtain ⟨be,bd,bc,bb⟩:=rc4 f.o.row;obtain ⟨b3,b2,b1,b0⟩:=fz4 f.o.fz;obtain ⟨ib,b9⟩:=nm (d4.setCell ⟨I,2,none⟩ (zc wb));have bu:d4.grownBy ib (some I):=by rw [b9];exact (gst (Af _ _))
    replace f:Hx (Bx I [M O p,.string x,zc wb,U none 0 0] ib):=by show Bx _ _ _;rw [b9];exact (f.o.se 2)
    replace n:=Aa (n.o.box bu b4.o);replace m:=Aa (Gs m.o bu eu.o);clear bu
    go_upto_region 8 with fail
    rw [<-b9];clear b0 b1 b2 b3 bb bc bd be;clear b9;obtain ⟨s4,au⟩:=nm (if tl ts s3 0=[33] then Al ts [33] s3 else Al ts [58] s3);have eo:=Aa au;clear au;rename_i KZ eg KY i6;have d2:Hx (∀ act W,FrL rb I (U la k lc) t ci act->Bx I [M O p,.string x,zc wb,U none 0 0] W->Rq rb tv ts en w m0 s4 W->Wo.grownBy W (some rb)->s3.1<=s4.1->KZ act W):=by
     intro act W ef aj hd av dv;obtain ⟨gv,gu,gt,gs,gq,gp,gn,gm,gl,gk,gj,gi,gh,gg,gf,ge,gd,gc,gb,ga,f9,f8,f7,f6,f5,f4,f3,f2,f1,f0,fy,fx,fw,fv,fu,ft,fs,fq,fp,fo,fn,fm,fl,fk,fj,fi,fh,fg,ff,fe,fd,fc,fb,fa,e9,e8,e7,e5,e4,e3,e2,rfl⟩:=ef;refine eg _ _ ?_;clear eg i6;have a5:=Aa dv;replace f:=Aa aj;replace n:=Aa hd;replace m:=Aa av;clear aj hd av dv;have ap:Hx (I < I+1):=Nat.lt_succ_self _;have ic:Hx (I+1<=W.heap.size):=f.o.lt;have a1:Hx (w.heap.size<=I):=b4.o;have b5:Hx (Wo.heap.size<=I):=eu.o;have ct:Hx (w.heap.size<=I+1):=Nat.le_trans a1.o (Nat.le_succ _);have cu:Hx (w.heap.size<=I+1):=ct.o;have b6:Hx (Wo.heap.size<=I+1):=Nat.le_trans b5.o (Nat.le_succ _);have je:Hx (pp=(Dp p x wb (CQ ts s4).1,(CQ ts s4).2)):=by
      show _=_;rw [jf.o,eo.o,jd.o,ep.o];unfold Ez;rw [<-jc.o]
     go_upto_region 11 with fail
     rename_i KX eh KW i7;have df:Hx (∀ act W,FrL rb I (U la k lc) t ci act->(∃ (nacc:List ByteArray) (s6:Sg) (na:Option Addr) (nk nc:Nat),nk=nacc.length/\nk<=6001/\CQ ts s4=(nacc,s6)/\Bx I [M O p,.string x,zc wb,U na nk nc] W/\Cop (I+1) 9 1 (fun i cs W=>∀ y,nacc[i]? = some y->RN cs y) nk (U na nk nc) W/\Rq rb tv ts en w m0 s6 W/\Wo.grownBy W (some rb)/\s4.1<=s6.1)->KX act W):=by
      intro act W ef hn;obtain ⟨gv,gu,gt,gs,gq,gp,gn,gm,gl,gk,gj,gi,gh,gg,gf,ge,gd,gc,gb,ga,f9,f8,f7,f6,f5,f4,f3,f2,f1,f0,fy,fx,fw,fv,fu,ft,fs,fq,fp,fo,fn,fm,fl,fk,fj,fi,fh,fg,ff,fe,fd,fc,fb,fa,e9,e8,e7,e5,e4,e3,e2,rfl⟩:=ef;obtain ⟨nacc,s6,na,nk,nc,c2,c4,c3,aj,bk,hd,av,bl⟩:=hn;refine eh _ _ ?_;clear eh i7;have a0:=Aa bl;replace f:=Aa aj;replace n:=Aa hd;replace m:=Aa av;have A:=Aa bk;have V:=Aa c2;have ag:=Aa c4;have dn:=Aa c3;clear aj hd av bl bk c2 c4 c3 ic;have ed:pp=(Dp p x wb nacc,s6):=by rw [je.o,dn.o]
      obtain ⟨d,hd⟩:=nm (Dp p x wb nacc);rw [<-hd] at ed;have hr:=ad.o;have dk:=cc.o;rw [ed] at hr dk;dsimp only at hr dk;replace ad:Hx (_=bg):=hr;replace cc:=Aa dk;have es:Hx (Off Wo.heap.size none W (fun W=>F2 W [M O p,.string x,zc wb,U na nk nc] d)):=by
       have hc:=A.o;rw [V.o] at hc;obtain ⟨a9,c9,ix,i1⟩:=Cop.ls (R:=fun _=>RN) hc (by decide) (by have h1:=ag.o;have h2:=V.o;omega);injection ix with v1 v2 v3;exact (i1.base b6.o).imp fun W hW=>⟨p,x,wb,nacc,_,rfl,hd,by rw [V.o,v1,v3];exact hW⟩
      obtain ⟨z,hz⟩:=nm Wo.heap.size;rw [<-hz] at es;have jg:Hx (Wo.heap.size<=z):=by show _<=_;rw [hz];exact Nat.le_refl _
      have i9:Hx (w.heap.size<=z):=by show _<=_;rw [hz];exact ja.o
      clear ed hd hr dk hz A dn;obtain ⟨be,bd,bc,bb⟩:=rc4 f.o.row;obtain ⟨W4,co⟩:=nm (W.alloc (ze #[M O p,.string x,zc wb,U na nk nc] 53));have cn:Ov W W4:=by rw [co];exact bA _ _
      obtain ⟨xs,v,dt⟩:=(dg.o.keep (Ac m.o (Ad (r:=some rb) cn)) n.o.rlt);have ie:Hx (Ae [M O p,.string x,zc wb,U na nk nc] W4 W.heap.size):=by show Ae _ _ _;rw [co];exact AW W [M O p,.string x,zc wb,U na nk nc] 53
      have dz:=Aa (es.o.over cn);have hm:w.heap.size<=W4.heap.size:=Nat.le_trans n.o.size cn.size;have dx:Hx (∀ g,(Value.slice la k lc).ownBlock=some g->g < z):=fun g Z=>by
       obtain ⟨ys,h1,-⟩:=dg.o;exact Nat.lt_of_lt_of_le (AF h1 Z).2 jg.o
      have dy:=Aa dt;have ik:=Aa (n.o.over cn);have jh:=Aa (Ac m.o (Ad (r:=some rb) cn));have i3:k<=6001:=by have h1:=HF.o;have h2:=HK.o;omega
      clear cn dt;go_wp2_with (at_builtin;(try rw [<-co]);refine wpList_append_own_at _ rfl _ _ 45 rfl w.heap.size 53 j0 (zf #[M O 0,.string ⟨#[]⟩,zc false,U none 0 0]) 4 56 Tryz.underlying45 hj iw iv iu rfl (by decide) _ _ _ rfl v ⟨W.heap.size,0,none⟩ 1 1 [M O p,.string x,zc wb,U na nk nc] rfl rfl (fun jj u hu=>by rw [Addr.add_lit,Nat.zero_add];exact ie.o jj u hu) (by simp [Value.oneCell']) (by unfold maxLen;omega) (by omega) hm ?_);intro v2 W5 bt b8 _ ab;rw [<-co] at b8;have au:W4.heap.size=W.heap.size+1:=by rw [co];simp
      replace ab:v2.ownBlock=(Value.slice la k lc).ownBlock\/v2.ownBlock=some W4.heap.size:=by rw [au];simpa using ab
      have J:Cop w.heap.size 53 4 (fun i cs W=>∀ x,(acc++[d])[i]? = some x->F2 W cs x) (k+1) v2 W5:=Cop.add (B1:=z) v (fun i hi=>by
        obtain ⟨ds,z1,z2,z3⟩:=dy.o i hi;exact ⟨ds,z1,z2,z3.imp fun W hW x hx=>hW x (by rw [List.getElem?_append_left (by rw [<-HK.o];exact hi)] at hx;exact hx)⟩) rfl (dz.o.imp fun W hW x hx=>by
         rw [List.getElem?_append_right (by rw [HK.o];exact Nat.le_refl _),HK.o,Nat.sub_self] at hx;injection hx with hx;rw [<-hx];exact hW) i9.o dx.o bt b8 ab
      have hf:=ik.o.row v (Nat.le_refl _) b8;obtain ⟨G,cg,F,am⟩:=AK bt;subst am;replace n:=Aa hf;have a6:=Aa J;clear J hf v bt b8 ab hm au co ik jh dz dy dx ie es m i3;clear be bd bc bb f;have dm:Hx ((acc++[d]).length=k+1):=by show _=_;rw [List.length_append,HK.o];rfl
      obtain ⟨t8,g7⟩:=nm (tx ts s6 0);have ek:=Aa g7;clear g7;have KT:Hx (Ro 57 #[zd (some ⟨rb,0,none⟩),M O 0] W5 (.string t8)):=by rw [ek.o];exact AY 0 (by omega) s6 _ n.o.st
      go_wp2_with fail;refine KT.o.mono ?_;rintro e js ⟨rfl,hb⟩;replace n:=Aa (n.o.over hb);replace a6:=Aa (a6.o.over hb);clear KT hb;by_cases h59:tl ts s6 0=[59]
      ·have q8:(t8.toList == [59])=true:=CZ ek.o h59
       have hr:=ad.o;rw [decide_eq_true h59,if_pos h59] at hr;have cp:s6.2=false:=(G3 (ts:=ts) (s:=s6) (k:=0) (by rw [h59];simp)).1;have ar:=Cy cp h59;obtain ⟨s9,dq⟩:=nm (Al ts [59] s6);have KN:=Aa (AO ⟨#[59]⟩ [59] rfl (by decide) s6 _ n.o.st);rw [<-dq] at KN hr ar;have er:=Aa hr;have jb:=Aa ar;clear hr ar dq cp h59 ad;go_wp2_with fail;refine KN.o.mono ?_;rintro e jr ⟨rfl,Q⟩;replace a6:=Aa (a6.o.keep Q.1 n.o.rlt);replace n:=Aa (Qo.rq n.o Q);clear KN Q;go_wp2_with fail;have h3:=d0.o;have h4:=a5.o;have h5:=a0.o;have ba:=B0 ts.length n.o.st;have h9:=jb.o;have bv:=BT (L:=ts.length) (k:=k) (g:=g) (s:=s2) (s4:=s9) HF.o.1 ij.o (by rw [HK.o];exact HF.o.2.1) (by rw [h9];dsimp only;omega) (Or.inr (by rw [h9];dsimp only;omega)) n.o.st.2.1;exact ⟨⟨acc++[d],s9,g,true,rfl,by rw [dm.o];exact a6.o,n.o,er.o,bv.1,by rw [dm.o];exact bv.2.1⟩,by rw [ba,ig.o];exact bv.2.2⟩
      ·have q8:(t8.toList == [59])=false:=Bh ek.o h59
       have hr:=ad.o;rw [decide_eq_false h59,if_neg h59] at hr;have er:=Aa hr;clear hr h59 ad;go_wp2_with fail;have h3:=d0.o;have h4:=a5.o;have h5:=a0.o;have ba:=B0 ts.length n.o.st
       skip
       have bv:=BT (L:=ts.length) (k:=k) (g:=g) (s:=s2) (s4:=s6) HF.o.1 ij.o (by rw [HK.o];exact HF.o.2.1) (by omega) (cc.o) n.o.st.2.1;exact ⟨⟨acc++[d],s6,g,false,rfl,by rw [dm.o];exact a6.o,n.o,er.o,bv.1,by rw [dm.o];exact bv.2.1⟩,by rw [ba,ig.o];exact bv.2.2⟩
     clear eh;obtain ⟨t5,d9⟩:=nm (tx ts s4 0);have KT:Hx (Ro 57 #[zd (some ⟨rb,0,none⟩),M O 0] W (.string t5)):=by rw [d9];exact AY 0 (by omega) s4 _ n.o.st
     have da:=Aa d9;clear d9;go_wp2_with fail;refine KT.o.mono ?_;rintro e gw ⟨rfl,hb⟩;clear KT;replace m:=Aa (Ac m.o (Ad (r:=some rb) hb));replace f:=Aa (f.o.over hb);replace n:Hx (Rq rb tv ts en w m0 (s4) gw):=n.o.over hb;clear hb;by_cases h59:tl ts s4 0=[59]
     ·have q5:(t5.toList == [59])=true:=CZ da.o h59
      go_wp2_with fail;exact df.o _ _ FrL.mk ⟨[],s4,none,0,0,rfl,Nat.zero_le _,by unfold CQ;rw [if_neg (fun e=>e.1 h59)],f.o,Cop.nil,n.o,m.o,Nat.le_refl _⟩
     ·have q5:(t5.toList == [59])=false:=Bh da.o h59
      have KT:Hx (Ro 57 #[zd (some ⟨rb,0,none⟩),M O 0] gw (.string t5)):=by rw [da.o];exact AY 0 (by omega) s4 _ n.o.st
      go_wp2_with fail;refine KT.o.mono ?_;rintro e cx ⟨rfl,hb⟩;clear KT;replace m:=Aa (Ac m.o (Ad (r:=some rb) hb));replace f:=Aa (f.o.over hb);replace n:Hx (Rq rb tv ts en w m0 (s4) cx):=n.o.over hb;clear hb;by_cases h125:tl ts s4 0=[125]
      ·have g5:(t5.toList == [125])=true:=CZ da.o h125
       go_wp2_with fail;exact df.o _ _ FrL.mk ⟨[],s4,none,0,0,rfl,Nat.zero_le _,by unfold CQ;rw [if_neg (fun e=>e.2 h125)],f.o,Cop.nil,n.o,m.o,Nat.le_refl _⟩
      ·have g5:(t5.toList == [125])=false:=Bh da.o h125
       have bi:CQ ts s4=Ct ts (ts.length+1) [(AJ ts s4).1] (AJ ts s4).2:=by unfold CQ;rw [if_pos ⟨h59,h125⟩]
       obtain ⟨pn,c1⟩:=nm (AJ ts s4);obtain ⟨n1,s5⟩:=pn;rw [<-c1] at bi;dsimp only at bi;have bq:Hx (Ct ts (ts.length+1) [n1] s5=CQ ts s4):=bi.symm;have cr:Hx (∀ X,Sd rb tv ts en s4 X->Calls Tryz.prog 58 #[zd (some ⟨rb,0,none⟩)] X fun e w'=>e=zg (.string n1)/\Qo rb tv ts en X s4 s5 w'):=fun X hX=>by
        have h9:=Ce hall s4 X hX;rw [<-c1] at h9;exact h9
       have V:Hx (0=([]:List ByteArray).length):=rfl;have ag:Hx (0<=6001):=Nat.zero_le _;have A:Hx (Cop (I+1) 9 1 (fun i cs W=>∀ y,([]:List ByteArray)[i]? = some y->RN cs y) 0 (U none 0 0) cx):=Cop.nil;replace ic:Hx (I+1<=cx.heap.size):=f.o.lt;clear bi c1 h59 h125;go_wp2_with fail;clear q5 g5;refine FJ (fun act W=>FrL rb I (U la k lc) t ci act/\∃ (G:Option Addr) (F:Nat),Bx I [M O p,.string x,zc wb,U G (0+1) F] W/\Cop (I+1) 9 1 (fun i cs W=>∀ y,([]++[n1])[i]? = some y->RN cs y) (0+1) (U G (0+1) F) W/\Rq rb tv ts en w m0 s5 W/\Wo.grownBy W (some rb)/\s4.1<=s5.1) ?_ ?_
       ·refine gS (fun _=>True) trivial fun B=>?_
        obtain ⟨Wd,bz⟩:=nm cx.drew;have ax:Ov cx Wd:=by rw [bz];exact bD _
        replace n:=Aa (n.o.over ax);replace f:=Aa (f.o.over ax);replace A:=Aa (A.o.over ax);replace m:=Aa (Ac m.o (Ad (r:=some rb) ax));rw [<-bz];clear bz ax;refine kT 0 ?_;refine kT 2 ?_;refine rdB 1 3 rfl (fun K H=>?_) rfl fun K H=>?_
        ·have lc:=f.o.row 3 _ rfl
         go_simp;refine xK H trivial fun B=>?_;clear H K lc;refine rdA 3 rfl fun K H=>?_;go_simp;refine (cr.o _ n.o.st).mono ?_;rintro e wn ⟨rfl,Q⟩;have Z:=Q.1;replace f:=Aa (f.o.keep Z (by have h1:=n.o.rlt;have h2:=a1.o;omega));replace A:=Aa (A.o.keep Z (by have h1:=n.o.rlt;have h2:=ct.o;omega));replace m:=Aa (Ac m.o Z);have al:=Aa Q.2.2;replace n:=Aa (Qo.rq n.o Q);clear Z Q B;go_simp;refine xK H trivial fun B=>?_;clear H K;refine rdA 4 rfl fun K H=>?_;obtain ⟨W2,T⟩:=nm (wn.alloc (ze #[.string n1] 9));have N:Ov wn W2:=by rw [T];exact bA _ _
         have az:Hx (Ae [.string n1] W2 wn.heap.size):=by show Ae _ _ _;rw [T];exact AW wn [.string n1] 9
         have db:Hx (I+1<=wn.heap.size):=f.o.lt;replace n:=Aa (n.o.over N);replace f:=Aa (f.o.over N);replace A:=Aa (A.o.over N);replace m:=Aa (Ac m.o (Ad (r:=some rb) N));clear N;go_simp;rw [<-T];refine xK H trivial fun B=>?_;clear H K T;refine rdA 5 rfl fun K H=>?_;obtain ⟨xs,v,af⟩:=A.o;obtain ⟨v2,W3,Y,C,E,-,ab⟩:=run_append_own_at (P:=Tryz.prog) (w:=W2) (I+1) 46 46 9 i0 (.string ⟨#[]⟩) 1 16 Tryz.underlying46 hi cm cl ck rfl (by decide) _ _ _ v ⟨wn.heap.size,0,none⟩ 1 1 [.string n1] rfl (fun jj u hu=>by rw [Addr.add_lit,Nat.zero_add];exact az.o jj u hu) (by simp [Value.oneCell']) (by unfold maxLen;have:=ag.o;omega) (by have:=ag.o;omega) (f.o.lt);have J:Cop (I+1) 9 1 (fun i cs W=>∀ y,(([]:List ByteArray)++[n1])[i]? = some y->RN cs y) (0+1) v2 W3:=Cop.add (B1:=W2.heap.size) v (fun i hi=>by
           obtain ⟨ds,z1,z2,z3⟩:=af i hi;exact ⟨ds,z1,z2,z3.imp fun W hW y hy=>hW y (by rw [List.getElem?_append_left (by rw [<-V.o];exact hi)] at hy;exact hy)⟩) rfl (fun W hW y hy=>by
            rw [List.getElem?_append_right (by rw [V.o];exact Nat.le_refl _),V.o,Nat.sub_self] at hy;injection hy with hy;rw [<-hy]) (f.o.lt) (fun g Z=>(AF v Z).2) C E ab
         replace n:=Aa (n.o.row v cu.o E);replace m:=Aa (BG m.o v b6.o E);replace f:=Aa (f.o.grown E (fun e=>by have h1:=(AF v e.symm).1;have h2:=ap.o;omega));obtain ⟨G,cg,F,am⟩:=AK C;subst am;obtain rfl:=BM C;replace A:=Aa J;refine AP rfl _ _ _ rfl _ _ _ _ rfl rfl Y ?_;clear Y v af C E ab J;refine xK H trivial fun B=>?_;clear H K;refine kT 6 ?_;refine rdA 7 rfl fun K H=>?_;have lc:=f.o.row 3 _ rfl;have lf:=f.o.fz 3;obtain ⟨W9,S⟩:=nm (W3.setCell ⟨I,3,none⟩ (U G (0+1) F));replace f:Hx (Bx I [M O p,.string x,zc wb,U G (0+1) F] W9):=by show Bx _ _ _;rw [S];exact f.o.set (j:=3) (by simp)
         replace n:=Aa (n.o.set (b:=I) (j:=3) (u:=U G (0+1) F) a1.o);replace A:=Aa (A.o.set (b:=I) (j:=3) (u:=U G (0+1) F) ap.o);replace m:=Aa (Aj m.o (p:=⟨I,3,none⟩) b5.o (U G (0+1) F));rw [<-S] at n A m;go_simp;rw [<-S];refine xK H trivial fun B=>?_;clear H K S lc lf;refine gE ?_;exact CS ⟨FrL.mk,G,F,f.o,A.o,n.o,m.o,al.o⟩
        ·go_simp
         refine (cr.o _ n.o.st).mono ?_;rintro e wn ⟨rfl,Q⟩;have Z:=Q.1;replace f:=Aa (f.o.keep Z (by have h1:=n.o.rlt;have h2:=a1.o;omega));replace A:=Aa (A.o.keep Z (by have h1:=n.o.rlt;have h2:=ct.o;omega));replace m:=Aa (Ac m.o Z);have al:=Aa Q.2.2;replace n:=Aa (Qo.rq n.o Q);clear Z Q B;go_simp;refine xK H trivial fun B=>?_;clear H K;refine rdB 1 4 rfl (fun K H=>?_) rfl fun K H=>?_
         ·have lc:=f.o.row 3 _ rfl
          go_simp;refine xK H trivial fun B=>?_;clear H K lc;refine rdA 4 rfl fun K H=>?_;obtain ⟨W2,T⟩:=nm (wn.alloc (ze #[.string n1] 9));have N:Ov wn W2:=by rw [T];exact bA _ _
          have az:Hx (Ae [.string n1] W2 wn.heap.size):=by show Ae _ _ _;rw [T];exact AW wn [.string n1] 9
          have db:Hx (I+1<=wn.heap.size):=f.o.lt;replace n:=Aa (n.o.over N);replace f:=Aa (f.o.over N);replace A:=Aa (A.o.over N);replace m:=Aa (Ac m.o (Ad (r:=some rb) N));clear N;go_simp;rw [<-T];refine xK H trivial fun B=>?_;clear H K T;refine rdA 5 rfl fun K H=>?_;obtain ⟨xs,v,af⟩:=A.o;obtain ⟨v2,W3,Y,C,E,-,ab⟩:=run_append_own_at (P:=Tryz.prog) (w:=W2) (I+1) 46 46 9 i0 (.string ⟨#[]⟩) 1 16 Tryz.underlying46 hi cm cl ck rfl (by decide) _ _ _ v ⟨wn.heap.size,0,none⟩ 1 1 [.string n1] rfl (fun jj u hu=>by rw [Addr.add_lit,Nat.zero_add];exact az.o jj u hu) (by simp [Value.oneCell']) (by unfold maxLen;have:=ag.o;omega) (by have:=ag.o;omega) (f.o.lt);have J:Cop (I+1) 9 1 (fun i cs W=>∀ y,(([]:List ByteArray)++[n1])[i]? = some y->RN cs y) (0+1) v2 W3:=Cop.add (B1:=W2.heap.size) v (fun i hi=>by
            obtain ⟨ds,z1,z2,z3⟩:=af i hi;exact ⟨ds,z1,z2,z3.imp fun W hW y hy=>hW y (by rw [List.getElem?_append_left (by rw [<-V.o];exact hi)] at hy;exact hy)⟩) rfl (fun W hW y hy=>by
             rw [List.getElem?_append_right (by rw [V.o];exact Nat.le_refl _),V.o,Nat.sub_self] at hy;injection hy with hy;rw [<-hy]) (f.o.lt) (fun g Z=>(AF v Z).2) C E ab
          replace n:=Aa (n.o.row v cu.o E);replace m:=Aa (BG m.o v b6.o E);replace f:=Aa (f.o.grown E (fun e=>by have h1:=(AF v e.symm).1;have h2:=ap.o;omega));obtain ⟨G,cg,F,am⟩:=AK C;subst am;obtain rfl:=BM C;replace A:=Aa J;refine AP rfl _ _ _ rfl _ _ _ _ rfl rfl Y ?_;clear Y v af C E ab J;refine xK H trivial fun B=>?_;clear H K;refine kT 6 ?_;refine rdA 7 rfl fun K H=>?_;have lc:=f.o.row 3 _ rfl;have lf:=f.o.fz 3;obtain ⟨W9,S⟩:=nm (W3.setCell ⟨I,3,none⟩ (U G (0+1) F));replace f:Hx (Bx I [M O p,.string x,zc wb,U G (0+1) F] W9):=by show Bx _ _ _;rw [S];exact f.o.set (j:=3) (by simp)
          replace n:=Aa (n.o.set (b:=I) (j:=3) (u:=U G (0+1) F) a1.o);replace A:=Aa (A.o.set (b:=I) (j:=3) (u:=U G (0+1) F) ap.o);replace m:=Aa (Aj m.o (p:=⟨I,3,none⟩) b5.o (U G (0+1) F));rw [<-S] at n A m;go_simp;rw [<-S];refine xK H trivial fun B=>?_;clear H K S lc lf;refine gE ?_;exact CS ⟨FrL.mk,G,F,f.o,A.o,n.o,m.o,al.o⟩
         ·obtain ⟨W2,T⟩:=nm (wn.alloc (ze #[.string n1] 9))
          have N:Ov wn W2:=by rw [T];exact bA _ _
          have az:Hx (Ae [.string n1] W2 wn.heap.size):=by show Ae _ _ _;rw [T];exact AW wn [.string n1] 9
          have db:Hx (I+1<=wn.heap.size):=f.o.lt;replace n:=Aa (n.o.over N);replace f:=Aa (f.o.over N);replace A:=Aa (A.o.over N);replace m:=Aa (Ac m.o (Ad (r:=some rb) N));clear N;go_simp;rw [<-T];refine xK H trivial fun B=>?_;clear H K T;refine rdA 1 rfl fun K H=>?_;have lc:=f.o.row 3 _ rfl;go_simp;refine xK H trivial fun B=>?_;clear H K lc;refine rdA 5 rfl fun K H=>?_;obtain ⟨xs,v,af⟩:=A.o;obtain ⟨v2,W3,Y,C,E,-,ab⟩:=run_append_own_at (P:=Tryz.prog) (w:=W2) (I+1) 46 46 9 i0 (.string ⟨#[]⟩) 1 16 Tryz.underlying46 hi cm cl ck rfl (by decide) _ _ _ v ⟨wn.heap.size,0,none⟩ 1 1 [.string n1] rfl (fun jj u hu=>by rw [Addr.add_lit,Nat.zero_add];exact az.o jj u hu) (by simp [Value.oneCell']) (by unfold maxLen;have:=ag.o;omega) (by have:=ag.o;omega) (f.o.lt);have J:Cop (I+1) 9 1 (fun i cs W=>∀ y,(([]:List ByteArray)++[n1])[i]? = some y->RN cs y) (0+1) v2 W3:=Cop.add (B1:=W2.heap.size) v (fun i hi=>by
            obtain ⟨ds,z1,z2,z3⟩:=af i hi;exact ⟨ds,z1,z2,z3.imp fun W hW y hy=>hW y (by rw [List.getElem?_append_left (by rw [<-V.o];exact hi)] at hy;exact hy)⟩) rfl (fun W hW y hy=>by
             rw [List.getElem?_append_right (by rw [V.o];exact Nat.le_refl _),V.o,Nat.sub_self] at hy;injection hy with hy;rw [<-hy]) (f.o.lt) (fun g Z=>(AF v Z).2) C E ab
          replace n:=Aa (n.o.row v cu.o E);replace m:=Aa (BG m.o v b6.o E);replace f:=Aa (f.o.grown E (fun e=>by have h1:=(AF v e.symm).1;have h2:=ap.o;omega));obtain ⟨G,cg,F,am⟩:=AK C;subst am;obtain rfl:=BM C;replace A:=Aa J;refine AP rfl _ _ _ rfl _ _ _ _ rfl rfl Y ?_;clear Y v af C E ab J;refine xK H trivial fun B=>?_;clear H K;refine kT 6 ?_;refine rdA 7 rfl fun K H=>?_;have lc:=f.o.row 3 _ rfl;have lf:=f.o.fz 3;obtain ⟨W9,S⟩:=nm (W3.setCell ⟨I,3,none⟩ (U G (0+1) F));replace f:Hx (Bx I [M O p,.string x,zc wb,U G (0+1) F] W9):=by show Bx _ _ _;rw [S];exact f.o.set (j:=3) (by simp)
          replace n:=Aa (n.o.set (b:=I) (j:=3) (u:=U G (0+1) F) a1.o);replace A:=Aa (A.o.set (b:=I) (j:=3) (u:=U G (0+1) F) ap.o);replace m:=Aa (Aj m.o (p:=⟨I,3,none⟩) b5.o (U G (0+1) F));rw [<-S] at n A m;go_simp;rw [<-S];refine xK H trivial fun B=>?_;clear H K S lc lf;refine gE ?_;exact CS ⟨FrL.mk,G,F,f.o,A.o,n.o,m.o,al.o⟩
       ·rintro act W9 ⟨⟨gv,gu,gt,gs,gq,gp,gn,gm,gl,gk,gj,gi,gh,gg,gf,ge,gd,gc,gb,ga,f9,f8,f7,f6,f5,f4,f3,f2,f1,f0,fy,fx,fw,fv,fu,ft,fs,fq,fp,fo,fn,fm,fl,fk,fj,fi,fh,fg,ff,fe,fd,fc,fb,fa,e9,e8,e7,e5,e4,e3,e2,rfl⟩,G,F,aj,bk,hd,av,du⟩
        clear A f n m;go_wp2_with fail;go_loopw [] (fun wr=>∃ (nacc:List ByteArray) (s6:Sg) (g2:Nat) (na:Option Addr) (nk nc:Nat),nk=nacc.length/\Bx I [M O p,.string x,zc wb,U na nk nc] wr/\Cop (I+1) 9 1 (fun i cs W=>∀ y,nacc[i]? = some y->RN cs y) nk (U na nk nc) wr/\Rq rb tv ts en w m0 s6 wr/\Ct ts g2 nacc s6=CQ ts s4/\ts.length - s6.1 < g2/\nk<=s6.1+1/\Wo.grownBy wr (some rb)/\s4.1<=s6.1) (fun wr=>mQ rb ts.length wr)
        case atStart=>exact ⟨[n1],s5,ts.length+1,G,0+1,F,rfl,aj,bk,hd,bq.o,by omega,by omega,av,du⟩
        case round=>
         clear aj bk hd av du;obtain ⟨nacc,s6,g2,na,nk,nc,c2,aj,bk,hd,a8,ha,c4,av,bl⟩:=hrel;have f:=Aa aj;have A:=Aa bk;have n:=Aa hd;replace bq:=Aa a8;have m:=Aa av;replace V:=Aa c2;have a0:=Aa bl;have dp:=Aa (And.intro ha c4);have et:=Aa (B0 ts.length hd.st);have h6:s6.1<=ts.length/\ts.length<=6000:=⟨hd.st.2.1,hd.st.2.2.1⟩;replace ag:Hx (nk<=6001):=by show _<=_;omega
         clear c2 aj bk hd a8 ha c4 av bl h6;obtain ⟨t6,g8⟩:=nm (tx ts s6 0);have el:=Aa g8;clear g8;have KT:Hx (Ro 57 #[zd (some ⟨rb,0,none⟩),M O 0] wr (.string t6)):=by rw [el.o];exact AY 0 (by omega) s6 _ n.o.st
         go_wp2_with fail;refine KT.o.mono ?_;rintro e gx ⟨rfl,hb⟩;replace A:=Aa (A.o.over hb);clear KT;replace m:=Aa (Ac m.o (Ad (r:=some rb) hb));replace f:=Aa (f.o.over hb);replace n:Hx (Rq rb tv ts en w m0 (s6) gx):=n.o.over hb;clear hb;by_cases h44:tl ts s6 0=[44]
         ·have q6:(t6.toList == [44])=true:=CZ el.o h44
          obtain ⟨g2,rfl⟩:∃ q,g2=q+1:=⟨g2 - 1,by have:=dp.o.1;omega⟩;have a8:=bq.o;rw [J1 _ _ _ h44] at a8;have cp:=(G3 (ts:=ts) (s:=s6) (k:=0) (by rw [h44];simp));have ea:=Cy cp.1 h44;obtain ⟨s7,dr⟩:=nm (Al ts [44] s6);have KN:=Aa (AO ⟨#[44]⟩ [44] rfl (by decide) s6 _ n.o.st);rw [<-dr] at KN a8 ea;obtain ⟨pn,bi⟩:=nm (AJ ts s7);have cr:Hx (∀ X,Sd rb tv ts en s7 X->Calls Tryz.prog 58 #[zd (some ⟨rb,0,none⟩)] X fun e w'=>e=zg (.string pn.1)/\Qo rb tv ts en X s7 pn.2 w'):=fun X hX=>by
           have h9:=Ce hall s7 X hX;rw [<-bi] at h9;exact h9
          rw [<-bi] at a8;obtain ⟨n8,s8⟩:=pn;dsimp only at a8 cr;replace bq:=Aa a8;have eq:=Aa (And.intro ea cp);clear a8 ea dr cp h44 bi;go_wp2_with fail;refine KN.o.mono ?_;rintro e cy ⟨rfl,Q⟩;clear KN;replace A:=Aa (A.o.keep Q.1 (by have h1:=n.o.rlt;have h2:=ct.o;omega));replace m:=Aa (Ac m.o Q.1);have Z:=Q.1;replace f:=bkp f n.o.rlt b4 Z;replace n:Hx (Rq rb tv ts en w m0 (s7) cy):=Qo.rq n.o Q;clear Z Q;clear q6;go_wp2_with fail;refine gS (fun _=>True) trivial fun B=>?_;obtain ⟨Wd,bz⟩:=nm cy.drew;have ax:Ov cy Wd:=by rw [bz];exact bD _
          replace n:=Aa (n.o.over ax);replace f:=Aa (f.o.over ax);replace A:=Aa (A.o.over ax);replace m:=Aa (Ac m.o (Ad (r:=some rb) ax));rw [<-bz];clear bz ax;refine kT 0 ?_;refine kT 2 ?_;refine rdB 1 3 rfl (fun K H=>?_) rfl fun K H=>?_
          ·have lc:=f.o.row 3 _ rfl
           go_simp;refine xK H trivial fun B=>?_;clear H K lc;refine rdA 3 rfl fun K H=>?_;go_simp;refine (cr.o _ n.o.st).mono ?_;rintro e wn ⟨rfl,Q⟩;have Z:=Q.1;replace f:=Aa (f.o.keep Z (by have h1:=n.o.rlt;have h2:=a1.o;omega));replace A:=Aa (A.o.keep Z (by have h1:=n.o.rlt;have h2:=ct.o;omega));replace m:=Aa (Ac m.o Z);have al:=Aa Q.2.2;replace n:=Aa (Qo.rq n.o Q);clear Z Q B;go_simp;refine xK H trivial fun B=>?_;clear H K;refine rdA 4 rfl fun K H=>?_;obtain ⟨W2,T⟩:=nm (wn.alloc (ze #[.string n8] 9));have N:Ov wn W2:=by rw [T];exact bA _ _
           have az:Hx (Ae [.string n8] W2 wn.heap.size):=by show Ae _ _ _;rw [T];exact AW wn [.string n8] 9
           have db:Hx (I+1<=wn.heap.size):=f.o.lt;replace n:=Aa (n.o.over N);replace f:=Aa (f.o.over N);replace A:=Aa (A.o.over N);replace m:=Aa (Ac m.o (Ad (r:=some rb) N));clear N;go_simp;rw [<-T];refine xK H trivial fun B=>?_;clear H K T;refine rdA 5 rfl fun K H=>?_;obtain ⟨xs,v,af⟩:=A.o;obtain ⟨v2,W3,Y,C,E,-,ab⟩:=run_append_own_at (P:=Tryz.prog) (w:=W2) (I+1) 46 46 9 i0 (.string ⟨#[]⟩) 1 16 Tryz.underlying46 hi cm cl ck rfl (by decide) _ _ _ v ⟨wn.heap.size,0,none⟩ 1 1 [.string n8] rfl (fun jj u hu=>by rw [Addr.add_lit,Nat.zero_add];exact az.o jj u hu) (by simp [Value.oneCell']) (by unfold maxLen;have:=ag.o;omega) (by have:=ag.o;omega) (f.o.lt);have J:Cop (I+1) 9 1 (fun i cs W=>∀ y,(nacc++[n8])[i]? = some y->RN cs y) (nk+1) v2 W3:=Cop.add (B1:=W2.heap.size) v (fun i hi=>by
             obtain ⟨ds,z1,z2,z3⟩:=af i hi;exact ⟨ds,z1,z2,z3.imp fun W hW y hy=>hW y (by rw [List.getElem?_append_left (by rw [<-V.o];exact hi)] at hy;exact hy)⟩) rfl (fun W hW y hy=>by
              rw [List.getElem?_append_right (by rw [V.o];exact Nat.le_refl _),V.o,Nat.sub_self] at hy;injection hy with hy;rw [<-hy]) (f.o.lt) (fun g Z=>(AF v Z).2) C E ab
           replace n:=Aa (n.o.row v cu.o E);replace m:=Aa (BG m.o v b6.o E);replace f:=Aa (f.o.grown E (fun e=>by have h1:=(AF v e.symm).1;have h2:=ap.o;omega));obtain ⟨G,cg,F,am⟩:=AK C;subst am;obtain rfl:=BM C;replace A:=Aa J;refine AP rfl _ _ _ rfl _ _ _ _ rfl rfl Y ?_;clear Y v af C E ab J;refine xK H trivial fun B=>?_;clear H K;refine kT 6 ?_;refine rdA 7 rfl fun K H=>?_;have lc:=f.o.row 3 _ rfl;have lf:=f.o.fz 3;obtain ⟨W9,S⟩:=nm (W3.setCell ⟨I,3,none⟩ (U G (nk+1) F));replace f:Hx (Bx I [M O p,.string x,zc wb,U G (nk+1) F] W9):=by show Bx _ _ _;rw [S];exact f.o.set (j:=3) (by simp)
           replace n:=Aa (n.o.set (b:=I) (j:=3) (u:=U G (nk+1) F) a1.o);replace A:=Aa (A.o.set (b:=I) (j:=3) (u:=U G (nk+1) F) ap.o);replace m:=Aa (Aj m.o (p:=⟨I,3,none⟩) b5.o (U G (nk+1) F));rw [<-S] at n A m;go_simp;rw [<-S];refine xK H trivial fun B=>?_;clear H K S lc lf;refine gE ?_;go_wp2_with fail;have h7:=eq.o;have h8:=al.o;have h9:=dp.o;have h5:=a0.o;have hk:=V.o;have ba:=B0 ts.length n.o.st;have hs:=n.o.st.2.1;have hh:bN s8.2<=1:=by unfold bN;split <;> omega
           have e6:bN s6.2=1:=by rw [h7.2.1];rfl
           have ho:=h7.2.2;rw [h7.1] at h8;dsimp only at h8;exact ⟨⟨nacc++[n8],s8,g2,G,nk+1,F,by rw [List.length_append,<-hk];rfl,f.o,A.o,n.o,bq.o,by omega,by omega,m.o,by omega⟩,by rw [ba,et.o,e6];omega⟩
          ·go_simp
           refine (cr.o _ n.o.st).mono ?_;rintro e wn ⟨rfl,Q⟩;have Z:=Q.1;replace f:=Aa (f.o.keep Z (by have h1:=n.o.rlt;have h2:=a1.o;omega));replace A:=Aa (A.o.keep Z (by have h1:=n.o.rlt;have h2:=ct.o;omega));replace m:=Aa (Ac m.o Z);have al:=Aa Q.2.2;replace n:=Aa (Qo.rq n.o Q);clear Z Q B;go_simp;refine xK H trivial fun B=>?_;clear H K;refine rdB 1 4 rfl (fun K H=>?_) rfl fun K H=>?_
           ·have lc:=f.o.row 3 _ rfl
            go_simp;refine xK H trivial fun B=>?_;clear H K lc;refine rdA 4 rfl fun K H=>?_;obtain ⟨W2,T⟩:=nm (wn.alloc (ze #[.string n8] 9));have N:Ov wn W2:=by rw [T];exact bA _ _
            have az:Hx (Ae [.string n8] W2 wn.heap.size):=by show Ae _ _ _;rw [T];exact AW wn [.string n8] 9
            have db:Hx (I+1<=wn.heap.size):=f.o.lt;replace n:=Aa (n.o.over N);replace f:=Aa (f.o.over N);replace A:=Aa (A.o.over N);replace m:=Aa (Ac m.o (Ad (r:=some rb) N));clear N;go_simp;rw [<-T];refine xK H trivial fun B=>?_;clear H K T;refine rdA 5 rfl fun K H=>?_;obtain ⟨xs,v,af⟩:=A.o;obtain ⟨v2,W3,Y,C,E,-,ab⟩:=run_append_own_at (P:=Tryz.prog) (w:=W2) (I+1) 46 46 9 i0 (.string ⟨#[]⟩) 1 16 Tryz.underlying46 hi cm cl ck rfl (by decide) _ _ _ v ⟨wn.heap.size,0,none⟩ 1 1 [.string n8] rfl (fun jj u hu=>by rw [Addr.add_lit,Nat.zero_add];exact az.o jj u hu) (by simp [Value.oneCell']) (by unfold maxLen;have:=ag.o;omega) (by have:=ag.o;omega) (f.o.lt);have J:Cop (I+1) 9 1 (fun i cs W=>∀ y,(nacc++[n8])[i]? = some y->RN cs y) (nk+1) v2 W3:=Cop.add (B1:=W2.heap.size) v (fun i hi=>by
              obtain ⟨ds,z1,z2,z3⟩:=af i hi;exact ⟨ds,z1,z2,z3.imp fun W hW y hy=>hW y (by rw [List.getElem?_append_left (by rw [<-V.o];exact hi)] at hy;exact hy)⟩) rfl (fun W hW y hy=>by
               rw [List.getElem?_append_right (by rw [V.o];exact Nat.le_refl _),V.o,Nat.sub_self] at hy;injection hy with hy;rw [<-hy]) (f.o.lt) (fun g Z=>(AF v Z).2) C E ab
            replace n:=Aa (n.o.row v cu.o E);replace m:=Aa (BG m.o v b6.o E);replace f:=Aa (f.o.grown E (fun e=>by have h1:=(AF v e.symm).1;have h2:=ap.o;omega));obtain ⟨G,cg,F,am⟩:=AK C;subst am;obtain rfl:=BM C;replace A:=Aa J;refine AP rfl _ _ _ rfl _ _ _ _ rfl rfl Y ?_;clear Y v af C E ab J;refine xK H trivial fun B=>?_;clear H K;refine kT 6 ?_;refine rdA 7 rfl fun K H=>?_;have lc:=f.o.row 3 _ rfl;have lf:=f.o.fz 3;obtain ⟨W9,S⟩:=nm (W3.setCell ⟨I,3,none⟩ (U G (nk+1) F));replace f:Hx (Bx I [M O p,.string x,zc wb,U G (nk+1) F] W9):=by show Bx _ _ _;rw [S];exact f.o.set (j:=3) (by simp)
            replace n:=Aa (n.o.set (b:=I) (j:=3) (u:=U G (nk+1) F) a1.o);replace A:=Aa (A.o.set (b:=I) (j:=3) (u:=U G (nk+1) F) ap.o);replace m:=Aa (Aj m.o (p:=⟨I,3,none⟩) b5.o (U G (nk+1) F));rw [<-S] at n A m;go_simp;rw [<-S];refine xK H trivial fun B=>?_;clear H K S lc lf;refine gE ?_;go_wp2_with fail;have h7:=eq.o;have h8:=al.o;have h9:=dp.o;have h5:=a0.o;have hk:=V.o;have ba:=B0 ts.length n.o.st;have hs:=n.o.st.2.1;have hh:bN s8.2<=1:=by unfold bN;split <;> omega
            have e6:bN s6.2=1:=by rw [h7.2.1];rfl
            have ho:=h7.2.2;rw [h7.1] at h8;dsimp only at h8;exact ⟨⟨nacc++[n8],s8,g2,G,nk+1,F,by rw [List.length_append,<-hk];rfl,f.o,A.o,n.o,bq.o,by omega,by omega,m.o,by omega⟩,by rw [ba,et.o,e6];omega⟩
           ·obtain ⟨W2,T⟩:=nm (wn.alloc (ze #[.string n8] 9))
            have N:Ov wn W2:=by rw [T];exact bA _ _
            have az:Hx (Ae [.string n8] W2 wn.heap.size):=by show Ae _ _ _;rw [T];exact AW wn [.string n8] 9
            have db:Hx (I+1<=wn.heap.size):=f.o.lt;replace n:=Aa (n.o.over N);replace f:=Aa (f.o.over N);replace A:=Aa (A.o.over N);replace m:=Aa (Ac m.o (Ad (r:=some rb) N));clear N;go_simp;rw [<-T];refine xK H trivial fun B=>?_;clear H K T;refine rdA 1 rfl fun K H=>?_;have lc:=f.o.row 3 _ rfl;go_simp;refine xK H trivial fun B=>?_;clear H K lc;refine rdA 5 rfl fun K H=>?_;obtain ⟨xs,v,af⟩:=A.o;obtain ⟨v2,W3,Y,C,E,-,ab⟩:=run_append_own_at (P:=Tryz.prog) (w:=W2) (I+1) 46 46 9 i0 (.string ⟨#[]⟩) 1 16 Tryz.underlying46 hi cm cl ck rfl (by decide) _ _ _ v ⟨wn.heap.size,0,none⟩ 1 1 [.string n8] rfl (fun jj u hu=>by rw [Addr.add_lit,Nat.zero_add];exact az.o jj u hu) (by simp [Value.oneCell']) (by unfold maxLen;have:=ag.o;omega) (by have:=ag.o;omega) (f.o.lt);have J:Cop (I+1) 9 1 (fun i cs W=>∀ y,(nacc++[n8])[i]? = some y->RN cs y) (nk+1) v2 W3:=Cop.add (B1:=W2.heap.size) v (fun i hi=>by
              obtain ⟨ds,z1,z2,z3⟩:=af i hi;exact ⟨ds,z1,z2,z3.imp fun W hW y hy=>hW y (by rw [List.getElem?_append_left (by rw [<-V.o];exact hi)] at hy;exact hy)⟩) rfl (fun W hW y hy=>by
               rw [List.getElem?_append_right (by rw [V.o];exact Nat.le_refl _),V.o,Nat.sub_self] at hy;injection hy with hy;rw [<-hy]) (f.o.lt) (fun g Z=>(AF v Z).2) C E ab
            replace n:=Aa (n.o.row v cu.o E);replace m:=Aa (BG m.o v b6.o E);replace f:=Aa (f.o.grown E (fun e=>by have h1:=(AF v e.symm).1;have h2:=ap.o;omega));obtain ⟨G,cg,F,am⟩:=AK C;subst am;obtain rfl:=BM C;replace A:=Aa J;refine AP rfl _ _ _ rfl _ _ _ _ rfl rfl Y ?_;clear Y v af C E ab J;refine xK H trivial fun B=>?_;clear H K;refine kT 6 ?_;refine rdA 7 rfl fun K H=>?_;have lc:=f.o.row 3 _ rfl;have lf:=f.o.fz 3;obtain ⟨W9,S⟩:=nm (W3.setCell ⟨I,3,none⟩ (U G (nk+1) F));replace f:Hx (Bx I [M O p,.string x,zc wb,U G (nk+1) F] W9):=by show Bx _ _ _;rw [S];exact f.o.set (j:=3) (by simp)
            replace n:=Aa (n.o.set (b:=I) (j:=3) (u:=U G (nk+1) F) a1.o);replace A:=Aa (A.o.set (b:=I) (j:=3) (u:=U G (nk+1) F) ap.o);replace m:=Aa (Aj m.o (p:=⟨I,3,none⟩) b5.o (U G (nk+1) F));rw [<-S] at n A m;go_simp;rw [<-S];refine xK H trivial fun B=>?_;clear H K S lc lf;refine gE ?_;go_wp2_with fail;have h7:=eq.o;have h8:=al.o;have h9:=dp.o;have h5:=a0.o;have hk:=V.o;have ba:=B0 ts.length n.o.st;have hs:=n.o.st.2.1;have hh:bN s8.2<=1:=by unfold bN;split <;> omega
            have e6:bN s6.2=1:=by rw [h7.2.1];rfl
            have ho:=h7.2.2;rw [h7.1] at h8;dsimp only at h8;exact ⟨⟨nacc++[n8],s8,g2,G,nk+1,F,by rw [List.length_append,<-hk];rfl,f.o,A.o,n.o,bq.o,by omega,by omega,m.o,by omega⟩,by rw [ba,et.o,e6];omega⟩
         ·have q6:(t6.toList == [44])=false:=Bh el.o h44
          have c3:CQ ts s4=(nacc,s6):=by rw [<-bq.o];exact J2 _ _ _ h44
          have dn:=Aa c3;clear h44 c3;go_wp2_with fail;exact df.o _ _ FrL.mk ⟨nacc,s6,na,nk,nc,V.o,ag.o,dn.o,f.o,A.o,n.o,m.o,a0.o⟩
    clear eg
    cases wb with
    | false=>
     have au:s4=Al ts [58] s3:=by rw [eo.o,if_neg (of_decide_eq_false ep.o.symm)]
     have KN:=Aa (AO ⟨#[58]⟩ [58] rfl (by decide) s3 _ n.o.st);rw [<-au] at KN;clear au;obtain ⟨be,bd,bc,bb⟩:=rc4 f.o.row;obtain ⟨b3,b2,b1,b0⟩:=fz4 f.o.fz;go_wp2_with fail;clear b0 b1 b2 b3 bb bc bd be;refine KN.o.mono ?_;rintro e d3 ⟨rfl,Q⟩;clear KN;have a5:=Aa Q.2.2;replace m:=Aa (Ac m.o Q.1);have Z:=Q.1;replace f:=bkp f n.o.rlt b4 Z;replace n:Hx (Rq rb tv ts en w m0 (s4) d3):=Qo.rq n.o Q;clear Z Q;go_wp2_with fail;exact d2.o _ _ FrL.mk f.o n.o m.o a5.o
    | true=>
     have au:s4=Al ts [33] s3:=by rw [eo.o,if_pos (of_decide_eq_true ep.o.symm)]
     have KN:=Aa (AO ⟨#[33]⟩ [33] rfl (by decide) s3 _ n.o.st);rw [<-au] at KN;clear au;obtain ⟨be,bd,bc,bb⟩:=rc4 f.o.row;obtain ⟨b3,b2,b1,b0⟩:=fz4 f.o.fz;go_wp2_with fail;clear b0 b1 b2 b3 bb bc bd be;refine KN.o.mono ?_;rintro e d3 ⟨rfl,Q⟩;clear KN;have a5:=Aa Q.2.2;replace m:=Aa (Ac m.o Q.1);have Z:=Q.1;replace f:=bkp f n.o.rlt b4 Z;replace n:Hx (Rq rb tv ts en w m0 (s4) d3):=Qo.rq n.o Q;clear Z Q;go_wp2_with fail;exact d2.o _ _ FrL.mk f.o n.o m.o a5.o
end
end Go.Proofs.YtipngnjffjajpaaGreatDoor.Tx
