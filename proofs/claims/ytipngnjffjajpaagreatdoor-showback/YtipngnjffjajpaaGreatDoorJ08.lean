/- Package tree's reader: commands one behind the other; a block. -/
import Derived.Test.YtipngnjffjajpaaGreatDoorJ07
import Derived.ArgAppend
set_option linter.unusedVariables false
set_option maxHeartbeats 8000000
set_option maxRecDepth 100000
namespace Go.Proofs.YtipngnjffjajpaaGreatDoor.Tx
open Go.RowKit
open Go.Value renaming int -> I, slice -> zc, bool -> zd, pointer -> zf, agg -> zg, tuple -> zi
open Go.IntKind renaming i64 -> O
open Go.Obj renaming cells -> ze
open Go.Ending renaming returned -> zh
theorem Tryz.infoStm:(Tryz.prog.info? 55).map (fun i=>(i.zero,i.size,i.bytes))=some (some (zg #[I O 0,I O 0,.string ⟨#[]⟩,.string ⟨#[]⟩,I O 0,I O 0,I O 0,.string ⟨#[]⟩,zc none 0 0,zc none 0 0,zc none 0 0,zc none 0 0]),12,184):=by kernel_rfl
section
variable {rb:Nat} {tv:Value} {ts:List Tok} {en:Nat}
theorem Rd.row {w V V':World} {n B T s k:Nat} {v:Value} {xs:List Value} (h:Rd rb tv ts en w n V) (ho:V.ownsRow B T s v k xs) (hB:w.heap.size<=B) (hg:V.grownBy V' v.ownBlock):Rd rb tv ts en w n V':=by
 obtain ⟨j,g⟩:=h.st0;have hr:=g.lt;have b:∀ i,i < w.heap.size->some i≠v.ownBlock:=fun i f e=>by have:=(AO ho e.symm).1;omega
 have a:=h.gr;have c:w.grownBy V' (some rb):=⟨hg.os.trans a.os,hg.tape.trans a.tape,hg.output.trans a.output,Nat.le_trans a.size hg.size,fun i f l=>(hg.block i (Nat.lt_of_lt_of_le f a.size) (b i f)).trans (a.block i f l)⟩;exact ⟨⟨j,g⟩,g.keep c (by rw [hg.block rb (Nat.lt_of_lt_of_le hr a.size) (b rb hr)];exact h.st.1) h.st.2.1,c⟩
theorem ME (x:ByteArray) (l:List UInt8) (hl:x.data.toList=l) (n:Nat) (w:World) (h:St rb tv ts en n w):Calls Tryz.prog 51 #[zf (some ⟨rb,0,none⟩),.string x] w fun e w'=>e=zh (zd (isT ts n l))/\w.grownBy w' (some rb)/\St rb tv ts en n w':=by
 rw [<-hl];exact Rc x n w h
theorem M0 (f:Nat) (hS:∀ f',f' < f->Lx rb tv ts en f'):CM rb tv ts en f:=by
 intro n w h hf;obtain ⟨i0,hi,bo,bn,bm⟩:=info_parts Tryz.infoStm;obtain ⟨H,K⟩:=nm (AL ts en f [] n);rw [<-K];have HR:=Aa K;have HS:=Aa hS;have b6:=Aa (Rd.start h);have b2:=Aa hf;clear h K hS hf;go_enter Tryz.func99,Tryz.ntmps99;go_wp2_with fail;go_loopw [3] (fun l wr=>∃ (acc:List D) (m f':Nat),Cop w.heap.size 55 12 (fun i cs W=>∀ x,acc[i]? = some x->XC W f cs x) acc.length l wr/\Rd rb tv ts en w m wr/\AL ts en f' acc m=H/\2*(ts.length - m)+2<=f'/\f'<=f/\acc.length<=m) (fun _ wr=>ts.length - nOf rb wr)
 case atStart=>exact ⟨[],n,f,Cop.nil,b6.o,HR.o.symm,b2.o,Nat.le_refl _,Nat.zero_le _⟩
 case round=>
  obtain ⟨acc,m,f',j,hd,hp,ao,an,ap⟩:=hrel;obtain ⟨f1,rfl⟩:∃ f1,f'=f1+1:=⟨f' - 1,by omega⟩;rw [Jx] at hp;have J:=hd.st;have ak:m<=6000:=Nat.le_trans J.2.1 J.2.2.1;have K1:=Aa (ME ⟨#[125]⟩ [125] rfl m wr J);obtain ⟨la,lc,bs,-⟩:=j.cells (by decide);subst bs;have HN:=Aa (FW J);have a0:=Aa j;have HD:=Aa hd;have af:=Aa hp;have HF:=Aa (And.intro ao (And.intro an (And.intro ap ak)));obtain ⟨k,hk⟩:=nm acc.length;rw [<-hk] at a0 ⊢;have U:=Aa hk;clear j hd hp J ao an ap ak hk;go_wp2_with fail;refine K1.o.mono ?_;rintro e w1 ⟨rfl,r,R⟩;have Q:=Aa (a0.o.keep r HD.o.rlt);have N:=Aa (HD.o.call r R);have am:=r;have ay:=Aa r;clear r R am K1
  cases hq:isT ts m [125] with
  | true=>
   have HE:Hx (H=.inl (acc,m)):=by
    show _=_;rw [<-af.o,if_pos (Or.inl hq)]
   have L:acc.length<=6000:=by have:=HF.o;omega
   have B:=Q.o;rw [U.o] at B;obtain ⟨a,c,hv,b⟩:=Cop.ls B (by decide) (by omega);injection hv with v1 Z v3;subst v1 v3;have v:=Aa b;have ag:=Aa L;clear hq B b L Z;go_wp2_with fail;go_ret;rw [HE.o];exact ⟨la,lc,by rw [U.o];rfl,v.o,ag.o,N.o.gr,N.o.st⟩
  | false=>
   have K2:=Aa (ME ⟨#[114,101,116,117,114,110]⟩ [114,101,116,117,114,110] rfl m w1 N.o.st);have HQ:=Aa hq;clear hq;go_wp2_with fail;refine K2.o.mono ?_;rintro e w2 ⟨rfl,r,R⟩;have P:=Aa (Q.o.keep r HD.o.rlt);have G:=Aa (N.o.call r R);have cc:=Aa (Ab ay.o r);clear r R K2 Q N
   cases hq:isT ts m [114,101,116,117,114,110] with
   | true=>
    have HE:Hx (H=.inl (acc,m)):=by
     show _=_;rw [<-af.o,if_pos (Or.inr hq)]
    have L:acc.length<=6000:=by have:=HF.o;omega
    have B:=P.o;rw [U.o] at B;obtain ⟨a,c,hv,b⟩:=Cop.ls B (by decide) (by omega);injection hv with v1 Z v3;subst v1 v3;have v:=Aa b;have ag:=Aa L;clear hq B b L Z;go_wp2_with fail;go_ret;rw [HE.o];exact ⟨la,lc,by rw [U.o];rfl,v.o,ag.o,G.o.gr,G.o.st⟩
   | false=>
    have hr:=af.o;rw [if_neg (by rw [HQ.o,hq];simp)] at hr;have av:Hx (H=Ar (BZ ts en f1 m) fun s n1=>AL ts en f1 (acc++[s]) n1):=hr.symm;have KS:=Aa (HS.o f1 (by have:=HF.o;omega) m w2 G.o.st (by have:=HF.o;omega));clear hr hq;go_wp2_with fail;refine KS.o.mono ?_;rintro e w3 S;obtain ⟨m1,ho⟩ | ⟨d,n1,ho⟩:=Aj (BZ ts en f1 m)
    ·rw [ho] at S
     obtain ⟨rfl,r⟩:=S;have HO:Hx (H=.inr m1):=by show _=_;rw [av.o,ho];rfl
     have HG:=Aa (Ab G.o.gr r);clear r ho;unfold Ai;go_wp2_with fail;refine ⟨rfl,?_⟩;rw [HO.o];exact ⟨rfl,HG.o⟩
    rw [ho] at S;obtain ⟨kd,a,x,y,e0,e1,e2,e3,q0,q1,q2,q3,q4,q5,q6,q7,q8,q9,r0,r1,rfl,b,al,r,R⟩:=S;have hr:=av.o;rw [ho,Al] at hr;have bw:=Aa hr;have Y:=P.o.keep r HD.o.rlt;have ad:=G.o.call r R;obtain ⟨W4,F⟩:=nm (w3.alloc (ze #[I O kd,I O a,.string x,.string y,I O e0,I O e1,I O e2,.string e3,zc q0 q1 q2,zc q3 q4 q5,zc q6 q7 q8,zc q9 r0 r1] 55));have M:Ov w3 W4:=by rw [F];exact bA _ _
    obtain ⟨xs,C,X⟩:=Y.over M;have b0:Hx (Af [I O kd,I O a,.string x,.string y,I O e0,I O e1,I O e2,.string e3,zc q0 q1 q2,zc q3 q4 q5,zc q6 q7 q8,zc q9 r0 r1] W4 w3.heap.size):=by show Af _ _ _;rw [F];exact Ax w3 [I O kd,I O a,.string x,.string y,I O e0,I O e1,I O e2,.string e3,zc q0 q1 q2,zc q3 q4 q5,zc q6 q7 q8,zc q9 r0 r1] 55
    have v:=Aa (b.over M);have aq:w.heap.size<=W4.heap.size:=Nat.le_trans ad.size M.size;have V:∀ g,(Value.slice la k lc).ownBlock=some g->g < w2.heap.size:=fun g r=>by
     obtain ⟨ys,h1,-⟩:=P.o;exact (AO h1 r).2
    have aw:=Aa V;have ax:=Aa X;have b5:=Aa (ad.over M);have b1:=Aa (And.intro al R.2.1);have au:=Aa G.o.size;have co:k<=6000:=by have h1:=HF.o;have h2:=U.o;omega
    clear hr ho b al r R Y ad M X V KS;go_wp2_with (at_builtin;(try rw [<-F]);refine wpList_append_own_at _ rfl _ _ 23 rfl w.heap.size 55 i0 (zg #[I O 0,I O 0,.string ⟨#[]⟩,.string ⟨#[]⟩,I O 0,I O 0,I O 0,.string ⟨#[]⟩,zc none 0 0,zc none 0 0,zc none 0 0,zc none 0 0]) 12 184 Tryz.underlying23 hi bo bn bm rfl (by decide) _ _ _ rfl C ⟨w3.heap.size,0,none⟩ 1 1 [I O kd,I O a,.string x,.string y,I O e0,I O e1,I O e2,.string e3,zc q0 q1 q2,zc q3 q4 q5,zc q6 q7 q8,zc q9 r0 r1] rfl rfl (fun jj u hu=>by rw [Addr.add_lit,Nat.zero_add];exact b0.o jj u hu) (by simp [Value.oneCell']) (by unfold maxLen;omega) (by omega) aq ?_);intro Z W5 A E _ T;rw [<-F] at E;have aj:W4.heap.size=w3.heap.size+1:=by rw [F];simp
    replace T:Z.ownBlock=(Value.slice la k lc).ownBlock\/Z.ownBlock=some W4.heap.size:=by rw [aj];simpa using T
    have j:Cop w.heap.size 55 12 (fun i cs W=>∀ x,(acc++[d])[i]? = some x->XC W f cs x) (k+1) Z W5:=Cop.add (B1:=w2.heap.size) C (fun i hi=>by
      obtain ⟨ds,z1,z2,z3⟩:=ax.o i hi;exact ⟨ds,z1,z2,z3.imp fun W hW x hx=>hW x (by rw [List.getElem?_append_left (by rw [<-U.o];exact hi)] at hx;exact hx)⟩) rfl (v.o.imp fun W hW x hx=>by
       rw [List.getElem?_append_right (by rw [U.o];exact Nat.le_refl _),U.o,Nat.sub_self] at hx;injection hx with hx;rw [<-hx];exact XC.mono (by have:=HF.o;omega) hW) au.o aw.o A E T
    have ac:=b5.o.row C (Nat.le_refl _) E;obtain ⟨cj,ch,ci,bp⟩:=AP A;subst bp;have az:=Aa j;have b4:=Aa ac;have bz:=Aa (FW ac.st);clear j ac C A E T aq aj F;go_wp2_with fail;have hF:=HF.o;have hL:=b1.o;have hN:=HN.o;have cp:=bz.o;refine ⟨⟨acc++[d],n1,f1,?_,b4.o,bw.o.symm,by omega,by omega,by simp;omega⟩,by omega⟩;have:=az.o;rw [U.o] at this;simpa using this
theorem Gn (f:Nat) (hS:CM rb tv ts en f) (n:Nat) (w:World) (h:St rb tv ts en n w) (hf:2*(ts.length - n)<=f) :
  Calls Tryz.prog 54 #[zf (some ⟨rb,0,none⟩)] w (Am ts en (Be ts (fun n=>AL ts en f [] n) n) (fun l n1 e w'=>∃ a c,e=zh (zc a l.length c)/\Off w.heap.size none w' (fun W=>LS 12 (XC W f) W (zc a l.length c) l)/\l.length<=6000/\w.grownBy w' (some rb)/\St rb tv ts en n1 w') (fun w'=>w.grownBy w' (some rb))):=by
 obtain ⟨B,x⟩:=nm (Be ts (fun n=>AL ts en f [] n) n);rw [<-x];have i:Hx (B=Ar (Aq ts [123] n) fun _ n1=>Ar (AL ts en f [] n1) fun l n2=>Ar (Aq ts [125] n2) fun _ M=>.inl (l,M)):=x;have r:=Aa (Rd.start h);have V:=Aa hS;have X:=Aa hf;have Q:=Aa (Bs ⟨#[123]⟩ (by decide) n w h);clear h x hS hf;go_enter Tryz.func54,Tryz.ntmps54;go_wp2_with fail;refine Q.o.mono ?_;rintro e J b;obtain ⟨m,g⟩ | ⟨Z,n1,g⟩:=Aj (Aq ts [123] n)
 ·replace b:Am ts en (Aq ts [123] n) _ _ e J:=b
  rw [g] at b;obtain ⟨rfl,j⟩:=b;have G:Hx (B=.inr m):=by show _=_;rw [i.o,g];rfl
  have I:=Aa (Ab r.o.gr j);clear j g;unfold Ai;go_wp2_with fail;refine ⟨rfl,?_⟩;rw [G.o];exact ⟨rfl,I.o⟩
 replace b:Am ts en (Aq ts [123] n) _ _ e J:=b;rw [g] at b;obtain ⟨rfl,j,C⟩:=b;have hr:=i.o;rw [g,Al] at hr;replace i:=Aa hr;have v:=Aa g;clear hr g;have O:=Aa (show n+1<=n1 from Bk v.o);clear v;replace r:Hx (Rd rb tv ts en w (n1) J):=r.o.call j C;clear j C;have P:=Aa (V.o n1 _ r.o.st (by have:=X.o;have:=O.o;have:=r.o.st.2.1;omega));clear Q;go_wp2_with fail;obtain ⟨z,N⟩:=nm J.heap.size;have F:Hx (w.heap.size<=z):=by show _<=_;rw [N];exact r.o.size
 refine P.o.mono ?_;rintro e L b;obtain ⟨m,g⟩ | ⟨l,n2,g⟩:=Aj (AL ts en f [] n1)
 ·replace b:Am ts en (AL ts en f [] n1) _ _ e L:=b
  rw [g] at b;obtain ⟨rfl,j⟩:=b;have G:Hx (B=.inr m):=by show _=_;rw [i.o,g];rfl
  have I:=Aa (Ab r.o.gr j);clear j g;unfold Ai;go_wp2_with fail;refine ⟨rfl,?_⟩;rw [G.o];exact ⟨rfl,I.o⟩
 replace b:Am ts en (AL ts en f [] n1) _ _ e L:=b;rw [g] at b;obtain ⟨S,R,rfl,y,E,j,C⟩:=b;have hr:=i.o;rw [g,Al] at hr;replace i:=Aa hr;have v:=Aa g;clear hr g;obtain ⟨Y,u⟩:=nm l.length;rw [<-u,<-N] at y;rw [<-u];have A:=Aa y;have H:=Aa (And.intro u E);clear y E u N;clear v;replace r:Hx (Rd rb tv ts en w (n2) L):=r.o.call j C;clear j C;have U:=Aa (Bs ⟨#[125]⟩ (by decide) n2 _ r.o.st);clear P;go_wp2_with fail;refine U.o.mono ?_;rintro e K b;obtain ⟨m,g⟩ | ⟨T,M,g⟩:=Aj (Aq ts [125] n2)
 ·replace b:Am ts en (Aq ts [125] n2) _ _ e K:=b
  rw [g] at b;obtain ⟨rfl,j⟩:=b;have G:Hx (B=.inr m):=by show _=_;rw [i.o,g];rfl
  have I:=Aa (Ab r.o.gr j);clear j g;unfold Ai;go_wp2_with fail;refine ⟨rfl,?_⟩;rw [G.o];exact ⟨rfl,I.o⟩
 replace b:Am ts en (Aq ts [125] n2) _ _ e K:=b;rw [g] at b;obtain ⟨rfl,j,C⟩:=b;have hr:=i.o;rw [g,Al] at hr;replace i:=Aa hr;have v:=Aa g;clear hr g;clear v;replace A:=Aa (A.o.keep j (by have:=r.o.rlt;have:=F.o;omega));replace r:Hx (Rd rb tv ts en w (M) K):=r.o.call j C;clear j C;go_wp2_with fail;go_ret;rw [i.o];have u:=H.o.1;subst u;exact ⟨S,R,rfl,A.o.base F.o,H.o.2,r.o.gr,r.o.st⟩
end
theorem Tryz.infoTE:(Tryz.prog.info? 49).map (fun i=>(i.zero,i.size,i.bytes))=some (some (zg #[I O 0,I O 0,I O 0,.string ⟨#[]⟩,zc none 0 0]),5,64):=by kernel_rfl
def PS (Qn:Act->World->Prop):Exit->Act->World->Prop
 | .normal,a,w=>Qn a w
 | _,_,_=>False
theorem GB {P:Program} {id:Nat} {ops:Array Oper} {dr:Bool} {Q:Exit->Act->World->Prop} {a:Act} {w:World} (R:Act->World->Prop) (h:(Code.region id ops dr).wp P (PS R) a w) (hq:∀ a w,R a w->Q .normal a w):(Code.region id ops dr).wp P Q a w:=
 wp_mono h fun e a w h=>by cases e <;> first | exact hq _ _ h | exact h.elim
theorem C1 {R:Act->World->Prop} {a:Act} {w:World} (h:R a w):PS R .normal a w:=h
theorem Ep {W:World} {B e s n g cap i:Nat} {xs:List Value} {u:Value} (h:W.ownsRow B e s (zc (some ⟨g,0,none⟩) n cap) n xs) (hi:i < n*s):(W.setCell ⟨g,i,none⟩ u).ownsRow B e s (zc (some ⟨g,0,none⟩) n cap) n (xs.set i u):=by
 obtain ⟨H,⟨G,-⟩ | ⟨J,x,a,A,F,v,r,E,l,C⟩⟩:=h
 ·cases G
 injection A with b I y;injection b with b;injection b with b;subst b y;have f:i < a.size:=by rw [l];exact Nat.lt_of_lt_of_le hi (Nat.mul_le_mul_right _ r)
 refine ⟨by simp [H],Or.inr ⟨g,cap,a.set i u f,rfl,F,?_,r,E,by simp [l],?_⟩⟩
 ·have c:g < W.heap.size:=(Array.getElem?_eq_some_iff.1 v).1
  have j:W.heap[g]=.cells a e:=by
   have:=Array.getElem?_eq_getElem c;rw [v] at this;injection this with this;exact this.symm
  simp only [World.setCell];rw [Array.getElem?_eq_getElem (by simpa using c),Array.getElem_modify_self,j];simp [Array.setIfInBounds,f]
 ·rw [Array.toList_set,List.take_set,C]
theorem Off.row2 {B:Nat} {v v':Value} {w w':World} {P:World->Prop} (h:Off B v.ownBlock w P) (hg:∀ k,B<=k->k < w.heap.size->some k≠v.ownBlock->w'.heap[k]? = w.heap[k]?) (hs:w.heap.size<=w'.heap.size) (hv:v'.ownBlock=v.ownBlock\/v'.ownBlock=some w.heap.size):Off B v'.ownBlock w' P:=fun W hW=>h W fun k h1 h2 h3=>
 (hW k h1 (Nat.lt_of_lt_of_le h2 hs) (by
  rcases hv with e | e
  ·rw [e];exact h3
  ·rw [e];intro q;injection q with q;omega)).trans (hg k h1 h2 h3)
structure Ed (w0 wz:World) (rb:Nat) (tv:Value) (ts:List Tok) (en sb b1 b2 B:Nat) (c0 c1 c2 c3 c4 c5 c6 c7 c8 cT cE:Value) (acc:List D) (n:Nat) (w:World):Prop where
 rd:Rd rb tv ts en w0 n w
 s0:w0.heap.size<=sb
 s1:sb < B
 p0:w0.heap.size<=b1
 p1:b1 < B
 q0:w0.heap.size<=b2
 q1:b2 < B
 n1:sb≠b1
 n2:sb≠b2
 sz:B<=w.heap.size
 r1:Bx b1 [zf (some ⟨rb,0,none⟩)] w
 r2:Bx b2 [zf (some ⟨sb,0,none⟩)] w
 few:acc.length<=n
 fr:∀ k,k < B->k≠rb->k≠sb->w.heap[k]? = wz.heap[k]?
 row:∃ v,Bx sb [c0,c1,c2,c3,c4,c5,c6,c7,c8,v,cT,cE] w/\Cop B 49 5 (fun i cs W=>∀ x,acc[i]? = some x->XE W 61 cs x) acc.length v w
section
variable {w0 wz:World} {rb:Nat} {tv:Value} {ts:List Tok} {en sb b1 b2 B:Nat} {c0 c1 c2 c3 c4 c5 c6 c7 c8 cT cE:Value} {acc:List D} {n n1:Nat} {w w1 W2 W:World} {v v2:Value} {xs cs:List Value} {a:D}
theorem Ed.move (h:Ed w0 wz rb tv ts en sb b1 b2 B c0 c1 c2 c3 c4 c5 c6 c7 c8 cT cE acc n w) (hn:n<=n1) (hg:w.grownBy w1 (some rb)) (hs:St rb tv ts en n1 w1):Ed w0 wz rb tv ts en sb b1 b2 B c0 c1 c2 c3 c4 c5 c6 c7 c8 cT cE acc n1 w1:=by
 obtain ⟨v,c,f⟩:=h.row;have hr:=h.rd.rlt;have r:=h.s0;have l:=h.p0;have j:=h.q0;have i:=h.s1;refine ⟨h.rd.call hg hs,h.s0,h.s1,h.p0,h.p1,h.q0,h.q1,h.n1,h.n2,Nat.le_trans h.sz hg.size,h.r1.keep hg (by omega),h.r2.keep hg (by omega),Nat.le_trans h.few hn,fun k b a g=>?_,v,c.keep hg (by omega),f.keep hg (by omega)⟩;rw [hg.block k (Nat.lt_of_lt_of_le b h.sz) (fun e=>by injection e with e;exact a e)];exact h.fr k b a g
theorem Ed.app (h:Ed w0 wz rb tv ts en sb b1 b2 B c0 c1 c2 c3 c4 c5 c6 c7 c8 cT cE acc n w) (hv:w.cell? ⟨sb,9,none⟩=some v) (hg:w.grownBy w1 (some rb)) (hb:Ov w1 W2):∃ xs,W2.ownsRow B 49 5 v acc.length xs/\(∀ i,i < acc.length->∃ cs:List Value,cs.length=5/\(∀ j u,cs[j]? = some u->xs[i*5+j]? = some u)/\Off B v.ownBlock W2 (fun W=>∀ x,acc[i]? = some x->XE W 61 cs x))/\∀ k,v.ownBlock=some k->k < w.heap.size:=by
 obtain ⟨y,a,b⟩:=h.row;have:=a.row 9 _ rfl;rw [hv] at this;injection this with this;subst this;have hr:=h.rd.rlt;have C:=h.s0;have A:=h.s1;obtain ⟨xs,l,g⟩:=(b.keep hg (by omega)).over hb;obtain ⟨r,f,-⟩:=b;exact ⟨xs,l,g,fun k c=>(AO f c).2⟩
theorem Ed.fin (h:Ed w0 wz rb tv ts en sb b1 b2 B c0 c1 c2 c3 c4 c5 c6 c7 c8 cT cE acc n w) (hg:w.grownBy w1 (some rb)) (hs:St rb tv ts en n1 w1) (hn:n+1<=n1) (hb:Ov w1 W2)
  (hown:W2.ownsRow B 49 5 v acc.length xs) (hel:∀ i,i < acc.length->∃ cs:List Value,cs.length=5/\(∀ j u,cs[j]? = some u->xs[i*5+j]? = some u)/\Off B v.ownBlock W2 (fun W=>∀ x,acc[i]? = some x->XE W 61 cs x)) (hrow:∀ k,v.ownBlock=some k->k < w.heap.size)
  (hl:cs.length=5) (hoff:Off w.heap.size none w1 (fun W=>XE W 61 cs a)) (hW:∀ k,k < W2.heap.size->some k≠v.ownBlock->k≠sb->W.heap[k]? = W2.heap[k]?) (hWs:W2.heap.size<=W.heap.size) (ho1:W.os=W2.os) (ho2:W.tape=W2.tape) (ho3:W.output=W2.output)
  (hbx:Bx sb [c0,c1,c2,c3,c4,c5,c6,c7,c8,v2,cT,cE] W) (hown3:W.ownsRow B 49 5 v2 (acc.length+1) (xs++cs)) (hat:v2.ownBlock=v.ownBlock\/v2.ownBlock=some W2.heap.size) :
  Ed w0 wz rb tv ts en sb b1 b2 B c0 c1 c2 c3 c4 c5 c6 c7 c8 cT cE (acc++[a]) n1 W:=by
 have r:=h.move (Nat.le_of_lt hn) hg hs;have hr:=h.rd.rlt;have e0:=h.s0;have e1:=h.p0;have e2:=h.q0;have e3:=h.s1;have Z:=h.p1;have Y:=h.q1;have K:∀ k,k < B->some k≠v.ownBlock:=fun k E e=>by have:=(AO hown e.symm).1;omega
 have V:B<=W2.heap.size:=Nat.le_trans r.sz hb.size;have c:∀ k,k < B->k≠sb->W.heap[k]? = w1.heap[k]?:=fun k E M=>by
  rw [hW k (by omega) (K k E) M,hb.block k (Nat.lt_of_lt_of_le E r.sz)]
 have f:=r.rd.gr;have F:w0.grownBy W (some rb):=⟨(ho1.trans hb.os).trans f.os,(ho2.trans hb.tape).trans f.tape,(ho3.trans hb.output).trans f.output,Nat.le_trans (Nat.le_trans f.size hb.size) hWs,fun k E l=>(c k (by omega) (by omega)).trans (f.block k E l)⟩;obtain ⟨S,A⟩:=r.rd.st0;have J:St rb tv ts en n1 W:=A.keep F (by rw [c rb (by omega) (by omega)];exact hs.1) hs.2.1;have G:∀ {b:Nat} {ds:List Value},Bx b ds w1->b < B->b≠sb->Bx b ds W:=fun {b ds} g C l=>⟨fun j u y=>(World.cell?_of_block (a:=⟨b,j,none⟩) (c b C l)).trans (g.row j u y),fun j=>(World.frozen?_of_block (a:=⟨b,j,none⟩) (c b C l)).trans (g.fz j),by omega⟩;refine ⟨⟨⟨S,A⟩,J,F⟩,h.s0,h.s1,h.p0,h.p1,h.q0,h.q1,h.n1,h.n2,by omega,G r.r1 Z (fun e=>h.n1 e.symm),G r.r2 Y (fun e=>h.n2 e.symm),?_,fun k P X O=>?_,v2,hbx,?_⟩
 ·have:=h.few
  simp;omega
 ·rw [c k P O];exact r.fr k P X O
 ·refine ⟨xs++cs,by rw [List.length_append];exact hown3,fun i U=>?_⟩
  by_cases hia:i < acc.length
  ·obtain ⟨ds,q1,R,Q⟩:=hel i hia
   refine ⟨ds,q1,fun j u y=>?_,Off.row2 (Q.imp fun W hW x g=>hW x (by rw [List.getElem?_append_left hia] at g;exact g)) (fun k T I H=>hW k I H (by omega)) hWs hat⟩;have:=R j u y;rw [List.getElem?_append_left (List.getElem?_eq_some_iff.1 this).1];exact this
  ·have N:i=acc.length:=by simp at U;omega
   subst N;have L:Off B v.ownBlock W2 (fun W=>∀ x,(acc++[a])[acc.length]? = some x->XE W 61 cs x):=((hoff.over hb).weak h.sz hrow).imp fun W hW x g=>by
    rw [List.getElem?_append_right (Nat.le_refl _),Nat.sub_self] at g;injection g with g;rw [<-g];exact hW
   refine ⟨cs,hl,fun j u y=>?_,Off.row2 L (fun k T I H=>hW k I H (by omega)) hWs hat⟩;rw [List.getElem?_append_right (by rw [hown.1];omega),hown.1,Nat.add_sub_cancel_left];exact y
theorem DJ {xs zs:List Value} {m j:Nat} {u:Value} (hm:xs.length=m):(xs++zs).set (m+j) u=xs++zs.set j u:=by
 rw [List.set_append,if_neg (by omega),hm,Nat.add_sub_cancel_left]
theorem Mr {W:World} {k g vn vc:Nat} {z0 z1 z2 z3 z4 u0 u1 u2 u3 u4:Value} (h:W.ownsRow B 49 5 (zc (some ⟨g,0,none⟩) vn vc) (k+1) (xs++[z0,z1,z2,z3,z4])) (hx:xs.length=k*5) :
  (((((W.setCell ⟨g,k*5,none⟩ u0).setCell ⟨g,k*5+1,none⟩ u1).setCell ⟨g,k*5+2,none⟩ u2).setCell ⟨g,k*5+3,none⟩ u3).setCell ⟨g,k*5+4,none⟩ u4).ownsRow B 49 5 (zc (some ⟨g,0,none⟩) vn vc) (k+1) (xs++[u0,u1,u2,u3,u4]):=by
 have a:=CY h;subst a;have l:=Ep (i:=k*5+0) (u:=u0) h (by omega);rw [DJ hx] at l;have j:=Ep (i:=k*5+1) (u:=u1) l (by omega);rw [DJ hx] at j;have f:=Ep (i:=k*5+2) (u:=u2) j (by omega);rw [DJ hx] at f;have c:=Ep (i:=k*5+3) (u:=u3) f (by omega);rw [DJ hx] at c;have b:=Ep (i:=k*5+4) (u:=u4) c (by omega);rw [DJ hx] at b;exact b
theorem Bf (V:World) (p:Addr) (u:Value):(V.setCell p u).os=V.os/\(V.setCell p u).tape=V.tape/\(V.setCell p u).output=V.output/\(V.setCell p u).heap.size=V.heap.size:=⟨rfl,rfl,rfl,by simp [World.setCell]⟩
theorem Ed.inplace {W3:World} {k g vn vc:Nat} {z0 z1 z2 z3 z4 u0 u1 u2 u3 u4:Value} (h:Ed w0 wz rb tv ts en sb b1 b2 B c0 c1 c2 c3 c4 c5 c6 c7 c8 cT cE acc n w) (hg:w.grownBy w1 (some rb)) (hs:St rb tv ts en n1 w1) (hn:n+1<=n1) (hb:Ov w1 W2)
  (hown:W2.ownsRow B 49 5 v acc.length xs) (hel:∀ i,i < acc.length->∃ cs:List Value,cs.length=5/\(∀ j u,cs[j]? = some u->xs[i*5+j]? = some u)/\Off B v.ownBlock W2 (fun W=>∀ x,acc[i]? = some x->XE W 61 cs x)) (hrow:∀ k,v.ownBlock=some k->k < w.heap.size)
  (hoff:Off w.heap.size none w1 (fun W=>XE W 61 [u0,u1,u2,u3,u4] a)) (hgr:W2.grownBy W3 v.ownBlock) (hbx:Bx sb [c0,c1,c2,c3,c4,c5,c6,c7,c8,v,cT,cE] W3)
  (hown3:W3.ownsRow B 49 5 (zc (some ⟨g,0,none⟩) vn vc) (acc.length+1) (xs++[z0,z1,z2,z3,z4])) (hat:(Value.slice (some ⟨g,0,none⟩) vn vc).ownBlock=v.ownBlock\/(Value.slice (some ⟨g,0,none⟩) vn vc).ownBlock=some W2.heap.size) (hk:k=acc.length) (hgb:B<=g) :
  Ed w0 wz rb tv ts en sb b1 b2 B c0 c1 c2 c3 c4 c5 c6 c7 c8 cT cE (acc++[a]) n1 ((((((W3.setCell ⟨sb,9,none⟩ (zc (some ⟨g,0,none⟩) vn vc)).setCell ⟨g,k*5,none⟩ u0).setCell ⟨g,k*5+1,none⟩ u1).setCell ⟨g,k*5+2,none⟩ u2).setCell ⟨g,k*5+3,none⟩ u3).setCell ⟨g,k*5+4,none⟩ u4):=by
 subst hk;have f:=h.s1;have c:sb≠g:=by omega
 have l:∀ k',k' < W2.heap.size->some k'≠v.ownBlock->k'≠g:=fun k' E C e=>by
  subst e;rcases hat with e | e
  ·exact C e
  ·have y:some k'=some W2.heap.size:=e
   injection y with y;omega
 refine h.fin (v:=v) (cs:=[u0,u1,u2,u3,u4]) hg hs hn hb hown hel hrow rfl hoff (fun k' q1 r A=>?_) (by rw [(Bf _ _ _).2.2.2,(Bf _ _ _).2.2.2,(Bf _ _ _).2.2.2,(Bf _ _ _).2.2.2,(Bf _ _ _).2.2.2,(Bf _ _ _).2.2.2];exact hgr.size) (by rw [(Bf _ _ _).1,(Bf _ _ _).1,(Bf _ _ _).1,(Bf _ _ _).1,(Bf _ _ _).1,(Bf _ _ _).1];exact hgr.os) (by rw [(Bf _ _ _).2.1,(Bf _ _ _).2.1,(Bf _ _ _).2.1,(Bf _ _ _).2.1,(Bf _ _ _).2.1,(Bf _ _ _).2.1];exact hgr.tape) (by rw [(Bf _ _ _).2.2.1,(Bf _ _ _).2.2.1,(Bf _ _ _).2.2.1,(Bf _ _ _).2.2.1,(Bf _ _ _).2.2.1,(Bf _ _ _).2.2.1];exact hgr.output) ?_ ?_ hat
 ·have b:=l k' q1 r
  rw [Below.heap_setCell _ _ _ _ b,Below.heap_setCell _ _ _ _ b,Below.heap_setCell _ _ _ _ b,Below.heap_setCell _ _ _ _ b,Below.heap_setCell _ _ _ _ b,Below.heap_setCell _ _ _ _ A];exact hgr.block k' q1 r
 ·exact (((((hbx.set (j:=9) (by simp)).far c).far c).far c).far c).far c
 ·exact Mr (ownsRow_setCell_below hown3 f _) hown.1
end
end Go.Proofs.YtipngnjffjajpaaGreatDoor.Tx
