/- The document's reader in memory: lists; expressions in brackets. -/
import Derived.Test.YtipngnjffjajpaaGreatDoorH28
set_option linter.unusedVariables false
set_option maxHeartbeats 8000000
set_option maxRecDepth 100000
namespace Go.Proofs.YtipngnjffjajpaaGreatDoor.Tx
open Go.RowKit
open Go.Value renaming int -> M, slice -> U, bool -> zc, pointer -> zd, agg -> zf, tuple -> zh
open Go.IntKind renaming i64 -> O
open Go.Obj renaming cells -> ze
open Go.Ending renaming returned -> zg
section
variable {rb:Nat} {tv:Value} {ts:List Tok} {en:Nat}
def fOf (rb:Nat) (w:World):Nat:=match w.cell? ⟨rb,3,none⟩ with | some (zc true)=>0 | _=>1
def mQ (rb L:Nat) (w:World):Nat:=(L - nOf rb w)+fOf rb w
def bN (b:Bool):Nat:=if b=true then 0 else 1
theorem B0 {s:Sg} {w:World} (L:Nat) (h:Sd rb tv ts en s w):mQ rb L w=(L - s.1)+bN s.2:=by
 obtain ⟨-,c,-,a,-,-⟩:=h.cells;unfold mQ nOf fOf bN;rw [c,a];obtain ⟨n,b⟩:=s;cases b <;> simp
theorem Mt (hall:ts.all An=true) (s:Sg):(rX ts en s).2.2=true\/s.1+1<=(rX ts en s).2.1:=by
 obtain ⟨n,b⟩:=s
 cases b with
 | true=>rw [x_f];exact Or.inl rfl
 | false=>
  have h:=Ee ts en (Eo hall) n;revert h
  cases hp:pX ts en n with
  | inl p=>
   obtain ⟨a,n1⟩:=p;intro h;have e:rX ts en (n,false)=(a,(n1,false)):=h;rw [e];exact Or.inr (DT 61 0 n a n1 hp).2
  | inr m=>
   intro h;have e:(rX ts en (n,false)).2=(m,true):=h;rw [e];exact Or.inl rfl
def EN (rb:Nat) (tv:Value) (ts:List Tok) (en sz:Nat) (R:World->List Value->D->Prop) (w:World) (s:Sg) (r:List D × Sg) (e:Ending) (w':World):Prop:=∃ a c,e=zg (U a r.1.length c)/\Off w.heap.size none w' (fun W=>LS sz (R W) W (U a r.1.length c) r.1)/\r.1.length<=6001/\Qo rb tv ts en w s r.2 w'
theorem BT {L k g:Nat} {s s4:Sg} (h1:s.2=true\/L - s.1 < g+1) (hf:s.2=false) (hk:k+bN s.2<=s.1+1) (hle:s.1<=s4.1) (hlt:s4.2=true\/s.1+1<=s4.1) (h7:s4.1<=L):(s4.2=true\/L - s4.1 < g)/\k+1+bN s4.2<=s4.1+1/\(L - s4.1)+bN s4.2 < (L - s.1)+bN s.2:=by
 have f:L - s.1 < g+1:=h1.elim (fun h=>by rw [h] at hf;cases hf) id
 rw [hf] at hk ⊢;have a:bN false=1:=rfl;have b:bN true=0:=rfl;rw [a] at hk ⊢
 cases h4:s4.2 with
 | true=>exact ⟨Or.inl rfl,by rw [b];omega,by rw [b];omega⟩
 | false=>
  rw [h4] at hlt;have c:s.1+1<=s4.1:=hlt.elim (fun h=>by cases h) id
  exact ⟨Or.inr (by omega),by rw [a];omega,by rw [a];omega⟩
theorem Cy {s:Sg} {x:List UInt8} (h:s.2=false) (h2:tl ts s 0=x):Al ts x s=(s.1+1,false):=by
 unfold Al;rw [if_neg (by rw [h];simp),if_pos h2]
theorem D7 (x:List UInt8) (s:Sg):s.1<=(Al ts x s).1:=by
 unfold Al;split
 ·exact Nat.le_refl _
 ·split
  ·exact Nat.le_succ _
  ·exact Nat.le_refl _
theorem Ie (g:Nat) (acc:List D) (s:Sg) (h:s.2=false) (h2:¬ tl ts s 0=[41]):Bz ts en (g+1) acc s=Bz ts en g (acc++[(rX ts en (if 0 < acc.length then Al ts [44] s else s)).1]) (if tl ts (rX ts en (if 0 < acc.length then Al ts [44] s else s)).2 0≠[44]/\tl ts (rX ts en (if 0 < acc.length then Al ts [44] s else s)).2 0≠[41] then Ci (rX ts en (if 0 < acc.length then Al ts [44] s else s)).2 else (rX ts en (if 0 < acc.length then Al ts [44] s else s)).2):=by
 rw [Bz,if_pos ⟨h,h2⟩]
theorem Fl (g:Nat) (acc:List D) (s:Sg) (h:s.2=true\/tl ts s 0=[41]):Bz ts en g acc s=(acc,s):=by
 cases g with
 | zero=>rfl
 | succ g=>
  rw [Bz,if_neg];rintro ⟨a,b⟩;rcases h with h | h
  ·rw [h] at a;cases a
  ·exact b h
theorem Mh (hall:ts.all An=true) (s:Sg) (w:World) (h:Sd rb tv ts en s w):Calls Tryz.prog 138 #[zd (some ⟨rb,0,none⟩)] w (EN rb tv ts en 5 (fun W=>XE W 61) w s (Dg ts en s)):=by
 obtain ⟨i0,hi,cd,cc,cb⟩:=info_parts Tryz.infoTE;obtain ⟨cx,a4⟩:=nm (Dg ts en s);rw [<-a4];obtain ⟨V,al⟩:=nm (Bz ts en (ts.length+2) [] (Al ts [40] s));have aw:Hx (cx=(V.1,Al ts [41] V.2)):=by show _=_;rw [a4,al];rfl
 have j:=Aa al;obtain ⟨m0,bw⟩:=nm s.1;have b:Hx (Rq rb tv ts en w m0 (s) w):=by show Rq _ _ _ _ _ _ _ _;rw [bw];exact Rq.start h
 have cj:=Aa bw;have m:=Aa (Af w (some rb));clear a4 al bw h;go_enter Tryz.func138,Tryz.ntmps138;obtain ⟨s1,bk⟩:=nm (Al ts [40] s);have KN:=Aa (AO ⟨#[40]⟩ [40] rfl (by decide) s _ b.o.st);rw [<-bk] at KN;rw [<-bk] at j;have di:=Aa bk;clear bk;go_wp2_with fail;refine KN.o.mono ?_;rintro e w1 ⟨rfl,A⟩;clear KN;replace m:=Aa (Ac m.o A.1);have hg:=A.1;replace b:Hx (Rq rb tv ts en w m0 (s1) w1):=Qo.rq b.o A;clear hg A;go_wp2_with fail;go_loopw [3] (fun l wr=>∃ (acc:List D) (s2:Sg) (g:Nat),Cop w.heap.size 49 5 (fun i cs W=>∀ x,acc[i]? = some x->XE W 61 cs x) acc.length l wr/\Rq rb tv ts en w m0 s2 wr/\Bz ts en g acc s2=V/\(s2.2=true\/ts.length - s2.1 < g)/\acc.length+bN s2.2<=s2.1+1) (fun _ wr=>mQ rb ts.length wr)
 case atStart=>exact ⟨[],s1,ts.length+2,Cop.nil,b.o,j.o.symm,Or.inr (by omega),by simp [bN];split <;> omega⟩
 case round=>
  obtain ⟨acc,s2,g,F,hd,hp,cf,cg⟩:=hrel;have bi:=hd.st;have ce:s2.1<=ts.length/\ts.length<=6000:=⟨bi.2.1,bi.2.2.1⟩;obtain ⟨la,lc,c4,-⟩:=F.cells (by decide);subst c4;replace b:=Aa hd;have ar:=Aa F;replace j:=Aa hp;have ax:=Aa (B0 ts.length bi);have HF:=Aa (And.intro cf (And.intro cg ce));replace m:=Aa (Af wr (some rb));obtain ⟨k,hk⟩:=nm acc.length;rw [<-hk] at ar ⊢;have T:=Aa hk;clear F hd hp bi cf cg ce hk
  cases hfl:s2.2 with
  | true=>
   have HE:Hx (V=(acc,s2)):=by show _=_;rw [<-j.o];exact Fl _ _ _ (Or.inl hfl)
   obtain ⟨a0,az,rc2,ai,-,-⟩:=b.o.st.cells;rw [hfl] at ai;clear hfl;have y:=aw.o;rw [HE.o] at y;dsimp only at y;replace aw:=Aa y;clear y;obtain ⟨s9,ak⟩:=nm (Al ts [41] s2);have KN:=Aa (AO ⟨#[41]⟩ [41] rfl (by decide) s2 _ b.o.st);rw [<-ak] at KN;have b2:=Aa ak;clear ak;go_wp2_with fail;clear ai rc2 az a0;refine KN.o.mono ?_;rintro e bg ⟨rfl,A⟩;clear KN;replace m:=Aa (Ac m.o A.1);have hg:=A.1;replace b:Hx (Rq rb tv ts en w m0 (s9) bg):=Qo.rq b.o A;clear hg A;have y:=aw.o;rw [<-b2.o] at y;have ao:=ar.o;rw [T.o] at ao;have a6:acc.length<=6001:=by have:=HF.o;unfold bN at this;omega
   obtain ⟨a,c,hv,n⟩:=Cop.ls ao (by decide) (by omega);injection hv with v1 v2 v3;subst v1 v3;have bd:=Aa (n.keep m.o b.o.rlt);have b6:=Aa a6;have bb:=Aa y;clear ao n a6 v2 y;go_wp2_with fail;go_ret;rw [bb.o];exact ⟨la,lc,by rw [T.o];rfl,bd.o,b6.o,b.o.gr,b.o.st,by rw [<-cj.o];exact b.o.le⟩
  | false=>
   obtain ⟨a0,az,rc2,ai,-,-⟩:=b.o.st.cells;rw [hfl] at ai;have ag:=Aa hfl;clear hfl;obtain ⟨t,ht⟩:=nm (tx ts s2 0);have KT:Hx (Ro 57 #[zd (some ⟨rb,0,none⟩),M O 0] wr (.string t)):=by rw [ht];exact AY 0 (by omega) s2 _ b.o.st
   have Ht:=Aa ht;clear ht;go_wp2_with fail;clear ai rc2 az a0;refine KT.o.mono ?_;rintro e bg ⟨rfl,Y⟩;clear KT;replace m:=Aa (Ac m.o (Ad (r:=some rb) Y));replace b:Hx (Rq rb tv ts en w m0 (s2) bg):=b.o.over Y;clear Y;by_cases h41:tl ts s2 0=[41]
   ·have HE:Hx (V=(acc,s2)):=by show _=_;rw [<-j.o];exact Fl _ _ _ (Or.inr h41)
    have q1:(t.toList == [41])=true:=CZ Ht.o h41;clear h41;have y:=aw.o;rw [HE.o] at y;dsimp only at y;replace aw:=Aa y;clear y;obtain ⟨s9,ak⟩:=nm (Al ts [41] s2);have KN:=Aa (AO ⟨#[41]⟩ [41] rfl (by decide) s2 _ b.o.st);rw [<-ak] at KN;have b2:=Aa ak;clear ak;go_wp2_with fail;refine KN.o.mono ?_;rintro e N ⟨rfl,A⟩;clear KN;replace m:=Aa (Ac m.o A.1);have hg:=A.1;replace b:Hx (Rq rb tv ts en w m0 (s9) N):=Qo.rq b.o A;clear hg A;have y:=aw.o;rw [<-b2.o] at y;have ao:=ar.o;rw [T.o] at ao;have a6:acc.length<=6001:=by have:=HF.o;unfold bN at this;omega
    obtain ⟨a,c,hv,n⟩:=Cop.ls ao (by decide) (by omega);injection hv with v1 v2 v3;subst v1 v3;have bd:=Aa (n.keep m.o b.o.rlt);have b6:=Aa a6;have bb:=Aa y;clear ao n a6 v2 y;go_wp2_with fail;go_ret;rw [bb.o];exact ⟨la,lc,by rw [T.o];rfl,bd.o,b6.o,b.o.gr,b.o.st,by rw [<-cj.o];exact b.o.le⟩
   ·have q1:(t.toList == [41])=false:=Bh Ht.o h41
    obtain ⟨g,rfl⟩:∃ g',g=g' + 1:=⟨g - 1,by have h1:=HF.o.1;rw [ag.o] at h1;simp at h1;omega⟩;have hr:=j.o;rw [Ie _ _ _ ag.o h41] at hr;replace j:Hx (_=V):=hr;clear hr h41;by_cases h0:k=0
    ·have hr:=j.o
     rw [if_neg (by rw [<-T.o,h0];omega)] at hr;replace j:=Aa hr;clear hr;have bz:¬ (0:Int) < (k:Int):=by omega
     clear h0;have aq:Hx (s2.1<=s2.1):=Nat.le_refl _;obtain ⟨pd,am⟩:=nm (rX ts en s2);have G:=Aa (Mt (en:=en) hall s2);have KE:=Aa (CY (rb:=rb) (tv:=tv) (en:=en) hall 61 0 rfl (by omega) s2 _ b.o.st);have aa:A4 ts en 61 0 s2=pd:=am.symm;rw [aa] at KE;rw [<-am] at j G;obtain ⟨d,s4⟩:=pd;dsimp only at j G;clear am aa;go_wp2_with fail;clear bz;obtain ⟨z,hz⟩:=nm bg.heap.size;have b3:Hx (w.heap.size<=z):=by show _<=_;rw [hz];exact b.o.size
     have b4:Hx (wr.heap.size<=z):=by show _<=_;rw [hz];exact m.o.size
     refine KE.o.mono ?_;rintro e N ⟨e0,e1,e2,e3,e4,e5,e6,rfl,n,A⟩;dsimp only at n A;rw [<-hz] at n;have bc:=Aa n;have S:=Aa A.2.2;clear KE n hz;replace m:=Aa (Ac m.o A.1);have hg:=A.1;replace b:Hx (Rq rb tv ts en w m0 (s4) N):=Qo.rq b.o A;clear hg A;obtain ⟨W4,I⟩:=nm (N.alloc (ze #[M O e0,M O e1,M O e2,.string e3,U e4 e5 e6] 49));have H:Ov N W4:=by rw [I];exact bA _ _
     obtain ⟨xs,C,ab⟩:=(ar.o.keep (Ac m.o (Ad (r:=some rb) H)) b.o.rlt);have be:Hx (Ae [M O e0,M O e1,M O e2,.string e3,U e4 e5 e6] W4 N.heap.size):=by show Ae _ _ _;rw [I];exact AW N [M O e0,M O e1,M O e2,.string e3,U e4 e5 e6] 49
     have af:=Aa (bc.o.over H);have a9:w.heap.size<=W4.heap.size:=Nat.le_trans b.o.size H.size;have ad:Hx (∀ g,(Value.slice la k lc).ownBlock=some g->g < z):=fun g hg=>by
      obtain ⟨ys,h1,-⟩:=ar.o;exact Nat.lt_of_lt_of_le (AF h1 hg).2 b4.o
     have ae:=Aa ab;have bf:=Aa (b.o.over H);have b5:=Aa (Ac m.o (Ad (r:=some rb) H));have b0:k<=6001:=by have h1:=HF.o;have h2:=T.o;omega
     clear H ab;go_wp2_with (at_builtin;(try rw [<-I]);refine wpList_append_own_at _ rfl _ _ 47 rfl w.heap.size 49 i0 (zf #[M O 0,M O 0,M O 0,.string ⟨#[]⟩,U none 0 0]) 5 64 Tryz.underlying47 hi cd cc cb rfl (by decide) _ _ _ rfl C ⟨N.heap.size,0,none⟩ 1 1 [M O e0,M O e1,M O e2,.string e3,U e4 e5 e6] rfl rfl (fun jj u hu=>by rw [Addr.add_lit,Nat.zero_add];exact be.o jj u hu) (by simp [Value.oneCell']) (by unfold maxLen;omega) (by omega) a9 ?_);intro v2 W5 B E _ Z;rw [<-I] at E;have a3:W4.heap.size=N.heap.size+1:=by rw [I];simp
     replace Z:v2.ownBlock=(Value.slice la k lc).ownBlock\/v2.ownBlock=some W4.heap.size:=by rw [a3];simpa using Z
     have F:Cop w.heap.size 49 5 (fun i cs W=>∀ x,(acc++[d])[i]? = some x->XE W 61 cs x) (k+1) v2 W5:=Cop.add (B1:=z) C (fun i hi=>by
       obtain ⟨ds,z1,z2,z3⟩:=ae.o i hi;exact ⟨ds,z1,z2,z3.imp fun W hW x hx=>hW x (by rw [List.getElem?_append_left (by rw [<-T.o];exact hi)] at hx;exact hx)⟩) rfl (af.o.imp fun W hW x hx=>by
        rw [List.getElem?_append_right (by rw [T.o];exact Nat.le_refl _),T.o,Nat.sub_self] at hx;injection hx with hx;rw [<-hx];exact hW) b3.o ad.o B E Z
     have a7:=bf.o.row C (Nat.le_refl _) E;obtain ⟨cq,co,cp,bv⟩:=AK B;subst bv;replace b:=Aa a7;have f:=Aa F;clear F a7 C B E Z a9 a3 I bf b5 af ae ad be bc m b0;have K:Hx ((acc++[d]).length=k+1):=by show _=_;rw [List.length_append,T.o];rfl
     obtain ⟨t4,a2⟩:=nm (tx ts s4 0);have J:=Aa a2;clear a2;have KT:Hx (Ro 57 #[zd (some ⟨rb,0,none⟩),M O 0] W5 (.string t4)):=by rw [J.o];exact AY 0 (by omega) s4 _ b.o.st
     go_wp2_with fail;refine KT.o.mono ?_;rintro e X ⟨rfl,Y⟩;replace b:=Aa (b.o.over Y);replace f:=Aa (f.o.over Y);clear KT Y;by_cases h44:tl ts s4 0=[44]
     ·have q4:(t4.toList == [44])=true:=CZ J.o h44
      have hr:=j.o;rw [if_neg (fun e=>e.1 h44)] at hr;have R:=Aa hr;clear hr j;go_wp2_with fail
      skip
      have a5:=aq.o;have ac:=S.o;have Q:=B0 ts.length b.o.st;have v:=BT (L:=ts.length) (k:=k) (g:=g) (s:=s2) (s4:=s4) HF.o.1 ag.o (by rw [T.o];exact HF.o.2.1) (by omega) (G.o.imp id (fun h=>by omega)) b.o.st.2.1;exact ⟨⟨acc++[d],s4,g,by rw [K.o];exact f.o,b.o,R.o,v.1,by rw [K.o];exact v.2.1⟩,by rw [Q,ax.o];exact v.2.2⟩
     ·have q4:(t4.toList == [44])=false:=Bh J.o h44
      have KT:Hx (Ro 57 #[zd (some ⟨rb,0,none⟩),M O 0] X (.string t4)):=by rw [J.o];exact AY 0 (by omega) s4 _ b.o.st
      go_wp2_with fail;refine KT.o.mono ?_;rintro e bu ⟨rfl,Y⟩;replace b:=Aa (b.o.over Y);replace f:=Aa (f.o.over Y);clear KT Y;by_cases h41:tl ts s4 0=[41]
      ·have q5:(t4.toList == [41])=true:=CZ J.o h41
       have hr:=j.o;rw [if_neg (fun e=>e.2 h41)] at hr;have R:=Aa hr;clear hr j;go_wp2_with fail
       skip
       have a5:=aq.o;have ac:=S.o;have Q:=B0 ts.length b.o.st;have v:=BT (L:=ts.length) (k:=k) (g:=g) (s:=s2) (s4:=s4) HF.o.1 ag.o (by rw [T.o];exact HF.o.2.1) (by omega) (G.o.imp id (fun h=>by omega)) b.o.st.2.1;exact ⟨⟨acc++[d],s4,g,by rw [K.o];exact f.o,b.o,R.o,v.1,by rw [K.o];exact v.2.1⟩,by rw [Q,ax.o];exact v.2.2⟩
      ·have q5:(t4.toList == [41])=false:=Bh J.o h41
       obtain ⟨a0,az,rc2,ai,cw,cv⟩:=b.o.st.cells;have P:=b.o.st.fail;obtain ⟨Vf,a8⟩:=nm (bu.setCell ⟨rb,3,none⟩ (zc true));rw [<-a8] at P;replace b:Hx (Rq rb tv ts en w m0 (Ci s4) Vf):=b.o.call P.2 P.1 (Nat.le_refl _);replace f:=Aa (f.o.keep P.2 b.o.rlt);clear P;have hr:=j.o;rw [if_pos ⟨h44,h41⟩] at hr;have R:=Aa hr;clear hr j;go_wp2_with fail;rw [<-a8];have a5:=aq.o;have ac:=S.o;have Q:=B0 ts.length b.o.st;have v:=BT (L:=ts.length) (k:=k) (g:=g) (s:=s2) (s4:=(Ci s4)) HF.o.1 ag.o (by rw [T.o];exact HF.o.2.1) (by show s2.1<=s4.1;omega) (Or.inl rfl) b.o.st.2.1;exact ⟨⟨acc++[d],(Ci s4),g,by rw [K.o];exact f.o,b.o,R.o,v.1,by rw [K.o];exact v.2.1⟩,by rw [Q,ax.o];exact v.2.2⟩
    ·have hr:=j.o
     rw [if_pos (by rw [<-T.o];omega)] at hr;replace j:=Aa hr;clear hr;have bz:(0:Int) < (k:Int):=by omega
     clear h0;obtain ⟨s3,bj⟩:=nm (Al ts [44] s2);have KN:=Aa (AO ⟨#[44]⟩ [44] rfl (by decide) s2 _ b.o.st);rw [<-bj] at KN;rw [<-bj] at j;have c9:=Aa bj;clear bj;go_wp2_with fail;refine KN.o.mono ?_;rintro e N ⟨rfl,A⟩;clear KN;replace m:=Aa (Ac m.o A.1);have hg:=A.1;replace b:Hx (Rq rb tv ts en w m0 (s3) N):=Qo.rq b.o A;clear hg A;have aq:Hx (s2.1<=s3.1):=by show _<=_;rw [c9.o];exact D7 _ _
     obtain ⟨pd,am⟩:=nm (rX ts en s3);have G:=Aa (Mt (en:=en) hall s3);have KE:=Aa (CY (rb:=rb) (tv:=tv) (en:=en) hall 61 0 rfl (by omega) s3 _ b.o.st);have aa:A4 ts en 61 0 s3=pd:=am.symm;rw [aa] at KE;rw [<-am] at j G;obtain ⟨d,s4⟩:=pd;dsimp only at j G;clear am aa;go_wp2_with fail;clear bz;obtain ⟨z,hz⟩:=nm N.heap.size;have b3:Hx (w.heap.size<=z):=by show _<=_;rw [hz];exact b.o.size
     have b4:Hx (wr.heap.size<=z):=by show _<=_;rw [hz];exact m.o.size
     refine KE.o.mono ?_;rintro e X ⟨e0,e1,e2,e3,e4,e5,e6,rfl,n,A⟩;dsimp only at n A;rw [<-hz] at n;have bc:=Aa n;have S:=Aa A.2.2;clear KE n hz;replace m:=Aa (Ac m.o A.1);have hg:=A.1;replace b:Hx (Rq rb tv ts en w m0 (s4) X):=Qo.rq b.o A;clear hg A;obtain ⟨W4,I⟩:=nm (X.alloc (ze #[M O e0,M O e1,M O e2,.string e3,U e4 e5 e6] 49));have H:Ov X W4:=by rw [I];exact bA _ _
     obtain ⟨xs,C,ab⟩:=(ar.o.keep (Ac m.o (Ad (r:=some rb) H)) b.o.rlt);have be:Hx (Ae [M O e0,M O e1,M O e2,.string e3,U e4 e5 e6] W4 X.heap.size):=by show Ae _ _ _;rw [I];exact AW X [M O e0,M O e1,M O e2,.string e3,U e4 e5 e6] 49
     have af:=Aa (bc.o.over H);have a9:w.heap.size<=W4.heap.size:=Nat.le_trans b.o.size H.size;have ad:Hx (∀ g,(Value.slice la k lc).ownBlock=some g->g < z):=fun g hg=>by
      obtain ⟨ys,h1,-⟩:=ar.o;exact Nat.lt_of_lt_of_le (AF h1 hg).2 b4.o
     have ae:=Aa ab;have bf:=Aa (b.o.over H);have b5:=Aa (Ac m.o (Ad (r:=some rb) H));have b0:k<=6001:=by have h1:=HF.o;have h2:=T.o;omega
     clear H ab;go_wp2_with (at_builtin;(try rw [<-I]);refine wpList_append_own_at _ rfl _ _ 47 rfl w.heap.size 49 i0 (zf #[M O 0,M O 0,M O 0,.string ⟨#[]⟩,U none 0 0]) 5 64 Tryz.underlying47 hi cd cc cb rfl (by decide) _ _ _ rfl C ⟨X.heap.size,0,none⟩ 1 1 [M O e0,M O e1,M O e2,.string e3,U e4 e5 e6] rfl rfl (fun jj u hu=>by rw [Addr.add_lit,Nat.zero_add];exact be.o jj u hu) (by simp [Value.oneCell']) (by unfold maxLen;omega) (by omega) a9 ?_);intro v2 W5 B E _ Z;rw [<-I] at E;have a3:W4.heap.size=X.heap.size+1:=by rw [I];simp
     replace Z:v2.ownBlock=(Value.slice la k lc).ownBlock\/v2.ownBlock=some W4.heap.size:=by rw [a3];simpa using Z
     have F:Cop w.heap.size 49 5 (fun i cs W=>∀ x,(acc++[d])[i]? = some x->XE W 61 cs x) (k+1) v2 W5:=Cop.add (B1:=z) C (fun i hi=>by
       obtain ⟨ds,z1,z2,z3⟩:=ae.o i hi;exact ⟨ds,z1,z2,z3.imp fun W hW x hx=>hW x (by rw [List.getElem?_append_left (by rw [<-T.o];exact hi)] at hx;exact hx)⟩) rfl (af.o.imp fun W hW x hx=>by
        rw [List.getElem?_append_right (by rw [T.o];exact Nat.le_refl _),T.o,Nat.sub_self] at hx;injection hx with hx;rw [<-hx];exact hW) b3.o ad.o B E Z
     have a7:=bf.o.row C (Nat.le_refl _) E;obtain ⟨cq,co,cp,bv⟩:=AK B;subst bv;replace b:=Aa a7;have f:=Aa F;clear F a7 C B E Z a9 a3 I bf b5 af ae ad be bc m b0;have K:Hx ((acc++[d]).length=k+1):=by show _=_;rw [List.length_append,T.o];rfl
     obtain ⟨t4,a2⟩:=nm (tx ts s4 0);have J:=Aa a2;clear a2;have KT:Hx (Ro 57 #[zd (some ⟨rb,0,none⟩),M O 0] W5 (.string t4)):=by rw [J.o];exact AY 0 (by omega) s4 _ b.o.st
     go_wp2_with fail;refine KT.o.mono ?_;rintro e bu ⟨rfl,Y⟩;replace b:=Aa (b.o.over Y);replace f:=Aa (f.o.over Y);clear KT Y;by_cases h44:tl ts s4 0=[44]
     ·have q4:(t4.toList == [44])=true:=CZ J.o h44
      have hr:=j.o;rw [if_neg (fun e=>e.1 h44)] at hr;have R:=Aa hr;clear hr j;go_wp2_with fail
      skip
      have a5:=aq.o;have ac:=S.o;have Q:=B0 ts.length b.o.st;have v:=BT (L:=ts.length) (k:=k) (g:=g) (s:=s2) (s4:=s4) HF.o.1 ag.o (by rw [T.o];exact HF.o.2.1) (by omega) (G.o.imp id (fun h=>by omega)) b.o.st.2.1;exact ⟨⟨acc++[d],s4,g,by rw [K.o];exact f.o,b.o,R.o,v.1,by rw [K.o];exact v.2.1⟩,by rw [Q,ax.o];exact v.2.2⟩
     ·have q4:(t4.toList == [44])=false:=Bh J.o h44
      have KT:Hx (Ro 57 #[zd (some ⟨rb,0,none⟩),M O 0] bu (.string t4)):=by rw [J.o];exact AY 0 (by omega) s4 _ b.o.st
      go_wp2_with fail;refine KT.o.mono ?_;rintro e cn ⟨rfl,Y⟩;replace b:=Aa (b.o.over Y);replace f:=Aa (f.o.over Y);clear KT Y;by_cases h41:tl ts s4 0=[41]
      ·have q5:(t4.toList == [41])=true:=CZ J.o h41
       have hr:=j.o;rw [if_neg (fun e=>e.2 h41)] at hr;have R:=Aa hr;clear hr j;go_wp2_with fail
       skip
       have a5:=aq.o;have ac:=S.o;have Q:=B0 ts.length b.o.st;have v:=BT (L:=ts.length) (k:=k) (g:=g) (s:=s2) (s4:=s4) HF.o.1 ag.o (by rw [T.o];exact HF.o.2.1) (by omega) (G.o.imp id (fun h=>by omega)) b.o.st.2.1;exact ⟨⟨acc++[d],s4,g,by rw [K.o];exact f.o,b.o,R.o,v.1,by rw [K.o];exact v.2.1⟩,by rw [Q,ax.o];exact v.2.2⟩
      ·have q5:(t4.toList == [41])=false:=Bh J.o h41
       obtain ⟨a0,az,rc2,ai,cw,cv⟩:=b.o.st.cells;have P:=b.o.st.fail;obtain ⟨Vf,a8⟩:=nm (cn.setCell ⟨rb,3,none⟩ (zc true));rw [<-a8] at P;replace b:Hx (Rq rb tv ts en w m0 (Ci s4) Vf):=b.o.call P.2 P.1 (Nat.le_refl _);replace f:=Aa (f.o.keep P.2 b.o.rlt);clear P;have hr:=j.o;rw [if_pos ⟨h44,h41⟩] at hr;have R:=Aa hr;clear hr j;go_wp2_with fail;rw [<-a8];have a5:=aq.o;have ac:=S.o;have Q:=B0 ts.length b.o.st;have v:=BT (L:=ts.length) (k:=k) (g:=g) (s:=s2) (s4:=(Ci s4)) HF.o.1 ag.o (by rw [T.o];exact HF.o.2.1) (by show s2.1<=s4.1;omega) (Or.inl rfl) b.o.st.2.1;exact ⟨⟨acc++[d],(Ci s4),g,by rw [K.o];exact f.o,b.o,R.o,v.1,by rw [K.o];exact v.2.1⟩,by rw [Q,ax.o];exact v.2.2⟩
end
section
variable {rb:Nat} {tv:Value} {ts:List Tok} {en:Nat}
def CV (rb:Nat) (tv:Value) (ts:List Tok) (en f:Nat) (w:World) (s:Sg) (r:D × Sg) (e:Ending) (w':World):Prop:=∃ (kd a:Int) (x y:ByteArray) (e0 e1 e2:Int) (e3:ByteArray) (q0:Option Addr) (q1 q2:Nat) (q3:Option Addr) (q4 q5:Nat) (q6:Option Addr) (q7 q8:Nat) (q9:Option Addr) (r0 r1:Nat),e=zg (zf #[M O kd,M O a,.string x,.string y,M O e0,M O e1,M O e2,.string e3,U q0 q1 q2,U q3 q4 q5,U q6 q7 q8,U q9 r0 r1])/\Off w.heap.size none w' (fun W=>XC W f [M O kd,M O a,.string x,.string y,M O e0,M O e1,M O e2,.string e3,U q0 q1 q2,U q3 q4 q5,U q6 q7 q8,U q9 r0 r1] r.1)/\(r.2.2=true\/s.1+1<=r.2.1)/\Qo rb tv ts en w s r.2 w'
def JB (rb:Nat) (tv:Value) (ts:List Tok) (en f:Nat):Prop:=∀ (s:Sg) (w:World),Sd rb tv ts en s w->s.2=false->2*(ts.length - s.1)+1<=f->Calls Tryz.prog 102 #[zd (some ⟨rb,0,none⟩)] w (CV rb tv ts en f w s (CE ts en f s))
def Da (rb:Nat) (tv:Value) (ts:List Tok) (en f:Nat):Prop:=∀ (x:ByteArray) (xl:List UInt8),x.data.toList=xl->∀ (s:Sg) (w:World),Sd rb tv ts en s w->(s.2=true\/2*(ts.length - s.1)+2<=f)->Calls Tryz.prog 59 #[zd (some ⟨rb,0,none⟩),.string x] w (EN rb tv ts en 12 (fun W=>XC W f) w s (AN ts en f xl [] s))
theorem FB (g:Nat) (x:List UInt8) (acc:List D) (s:Sg) (h:s.2=true\/tl ts s 0=x):AN ts en g x acc s=(acc,s):=by
 match g with
 | 0=>rfl
 | 1=>rfl
 | g+2=>
  rw [AN,if_neg];rintro ⟨a,b⟩;rcases h with h | h
  ·rw [h] at a;cases a
  ·exact b h
theorem Iu (g:Nat) (hg:1<=g) (x:List UInt8) (acc:List D) (s:Sg) (h:s.2=false) (h2:¬ tl ts s 0=x):AN ts en (g+1) x acc s=AN ts en g x (acc++[(CE ts en g s).1]) (CE ts en g s).2:=by
 obtain ⟨g,rfl⟩:∃ q,g=q+1:=⟨g - 1,by omega⟩;rw [AN,if_pos ⟨h,h2⟩];rfl
theorem LG {L k g:Nat} {s s4:Sg} (h1:s.2=true\/2*(L - s.1)+2<=g+1) (hf:s.2=false) (hk:k+bN s.2<=s.1+1) (hle:s.1<=s4.1) (hlt:s4.2=true\/s.1+1<=s4.1) (h7:s4.1<=L):(s4.2=true\/2*(L - s4.1)+2<=g)/\k+1+bN s4.2<=s4.1+1/\(L - s4.1)+bN s4.2 < (L - s.1)+bN s.2:=by
 have f:2*(L - s.1)+2<=g+1:=h1.elim (fun h=>by rw [h] at hf;cases hf) id;rw [hf] at hk ⊢;have a:bN false=1:=rfl;have b:bN true=0:=rfl;rw [a] at hk ⊢
 cases h4:s4.2 with
 | true=>exact ⟨Or.inl rfl,by rw [b];omega,by rw [b];omega⟩
 | false=>
  rw [h4] at hlt;have c:s.1+1<=s4.1:=hlt.elim (fun h=>by cases h) id;exact ⟨Or.inr (by omega),by rw [a];omega,by rw [a];omega⟩
theorem LY (f:Nat) (hS:∀ g,g < f->JB rb tv ts en g):Da rb tv ts en f:=by
 intro x xl am s w h hf;obtain ⟨i0,hi,b1,b0,bz⟩:=info_parts Tryz.infoStm;obtain ⟨P,H⟩:=nm (AN ts en f xl [] s);rw [<-H];have B:=Aa H;have ay:=Aa am;have HS:=Aa hS;have cj:=Aa hf;obtain ⟨m0,ac⟩:=nm s.1;have j:Hx (Rq rb tv ts en w m0 (s) w):=by show Rq _ _ _ _ _ _ _ _;rw [ac];exact Rq.start h
 have a2:=Aa ac;clear H ac h am hS hf;go_enter Tryz.func59,Tryz.ntmps59;go_wp2_with fail;go_loopw [5] (fun l wr=>∃ (acc:List D) (s2:Sg) (g:Nat),Cop w.heap.size 55 12 (fun i cs W=>∀ x,acc[i]? = some x->XC W f cs x) acc.length l wr/\Rq rb tv ts en w m0 s2 wr/\AN ts en g xl acc s2=P/\(s2.2=true\/2*(ts.length - s2.1)+2<=g)/\g<=f/\acc.length+bN s2.2<=s2.1+1) (fun _ wr=>mQ rb ts.length wr)
 case atStart=>exact ⟨[],s,f,Cop.nil,j.o,B.o.symm,cj.o,Nat.le_refl _,by simp [bN];split <;> omega⟩
 case round=>
  obtain ⟨acc,s2,g,n,hd,hp,ar,aq,av⟩:=hrel;have R:=hd.st;have ap:s2.1<=ts.length/\ts.length<=6000:=⟨R.2.1,R.2.2.1⟩;obtain ⟨la,lc,b6,-⟩:=n.cells (by decide);subst b6;replace j:=Aa hd;have K:=Aa n;replace B:=Aa hp;have cg:=Aa (B0 ts.length R);have af:=Aa aq;have HF:=Aa (And.intro ar (And.intro av ap));have m:=Aa (Af wr (some rb));obtain ⟨k,hk⟩:=nm acc.length;rw [<-hk] at K ⊢;have N:=Aa hk;clear n hd hp R ar av ap hk aq
  cases hfl:s2.2 with
  | true=>
   have HE:Hx (P=(acc,s2)):=by show _=_;rw [<-B.o];exact FB _ _ _ _ (Or.inl hfl)
   obtain ⟨al,ak,rc2,Q,-,-⟩:=j.o.st.cells;rw [hfl] at Q;clear hfl;have A:=K.o;rw [N.o] at A;have I:acc.length<=6001:=by have:=HF.o;unfold bN at this;omega
   obtain ⟨a,c,hv,b⟩:=Cop.ls A (by decide) (by omega);injection hv with v1 v2 v3;subst v1 v3;have J:=Aa (b.keep m.o j.o.rlt);have ag:=Aa I;clear A b I v2;go_wp2_with fail;go_ret;rw [HE.o];exact ⟨la,lc,by rw [N.o];rfl,J.o,ag.o,j.o.gr,j.o.st,by rw [<-a2.o];exact j.o.le⟩
  | false=>
   obtain ⟨al,ak,rc2,Q,-,-⟩:=j.o.st.cells;rw [hfl] at Q;have T:=Aa hfl;clear hfl;obtain ⟨t,ht⟩:=nm (tx ts s2 0);have KT:Hx (Ro 57 #[zd (some ⟨rb,0,none⟩),M O 0] wr (.string t)):=by rw [ht];exact AY 0 (by omega) s2 _ j.o.st
   have Ht:=Aa ht;clear ht;go_wp2_with fail;clear Q rc2 ak al;refine KT.o.mono ?_;rintro e aj ⟨rfl,hb⟩;clear KT;replace m:=Aa (Ac m.o (Ad (r:=some rb) hb));replace j:Hx (Rq rb tv ts en w m0 (s2) aj):=j.o.over hb;clear hb;by_cases hx1:tl ts s2 0=xl
   ·have HE:Hx (P=(acc,s2)):=by show _=_;rw [<-B.o];exact FB _ _ _ _ (Or.inr hx1)
    have q1:(t.toList == x.toList)=true:=by rw [teq,Ht.o,ay.o];exact decide_eq_true hx1
    clear hx1;have A:=K.o;rw [N.o] at A;have I:acc.length<=6001:=by have:=HF.o;unfold bN at this;omega
    obtain ⟨a,c,hv,b⟩:=Cop.ls A (by decide) (by omega);injection hv with v1 v2 v3;subst v1 v3;have J:=Aa (b.keep m.o j.o.rlt);have ag:=Aa I;clear A b I v2;go_wp2_with fail;go_ret;rw [HE.o];exact ⟨la,lc,by rw [N.o];rfl,J.o,ag.o,j.o.gr,j.o.st,by rw [<-a2.o];exact j.o.le⟩
   ·have q1:(t.toList == x.toList)=false:=by rw [teq,Ht.o,ay.o];exact decide_eq_false hx1
    have b9:2*(ts.length - s2.1)+2<=g:=HF.o.1.elim (fun h=>by rw [T.o] at h;cases h) id;obtain ⟨g,rfl⟩:∃ g',g=g' + 1:=⟨g - 1,by omega⟩;have hr:=B.o;rw [Iu _ (by omega) _ _ _ T.o hx1] at hr;obtain ⟨pd,ao⟩:=nm (CE ts en g s2);have KE:=Aa (HS.o g (by have:=af.o;omega) s2 _ j.o.st T.o (by omega));rw [<-ao] at KE hr;obtain ⟨d,s4⟩:=pd;dsimp only at hr;replace B:Hx (_=P):=hr;clear hr hx1 ao b9;go_wp2_with fail;clear q1;obtain ⟨z,hz⟩:=nm aj.heap.size;have cf:Hx (w.heap.size<=z):=by show _<=_;rw [hz];exact j.o.size
    have ch:Hx (wr.heap.size<=z):=by show _<=_;rw [hz];exact m.o.size
    refine KE.o.mono ?_;rintro e v ⟨kd,a9,x9,y9,e0,e1,e2,e3,q0,q1,q2,q3,q4,q5,q6,q7,q8,q9,r0,r1,rfl,b,ad,hq⟩;dsimp only at b hq ad;rw [<-hz] at b;have az:=Aa b;have a3:=Aa ad;have a4:=Aa hq.2.2;clear KE b hz ad;replace m:=Aa (Ac m.o hq.1);have hg:=hq.1;replace j:Hx (Rq rb tv ts en w m0 (s4) v):=Qo.rq j.o hq;clear hg hq;obtain ⟨W4,G⟩:=nm (v.alloc (ze #[M O kd,M O a9,.string x9,.string y9,M O e0,M O e1,M O e2,.string e3,U q0 q1 q2,U q3 q4 q5,U q6 q7 q8,U q9 r0 r1] 55));have F:Ov v W4:=by rw [G];exact bA _ _
    obtain ⟨xs,C,V⟩:=(K.o.keep (Ac m.o (Ad (r:=some rb) F)) j.o.rlt);have a1:Hx (Ae [M O kd,M O a9,.string x9,.string y9,M O e0,M O e1,M O e2,.string e3,U q0 q1 q2,U q3 q4 q5,U q6 q7 q8,U q9 r0 r1] W4 v.heap.size):=by show Ae _ _ _;rw [G];exact AW v [M O kd,M O a9,.string x9,.string y9,M O e0,M O e1,M O e2,.string e3,U q0 q1 q2,U q3 q4 q5,U q6 q7 q8,U q9 r0 r1] 55
    have Z:=Aa (az.o.over F);have aw:w.heap.size<=W4.heap.size:=Nat.le_trans j.o.size F.size;have X:Hx (∀ g,(Value.slice la k lc).ownBlock=some g->g < z):=fun g hg=>by
     obtain ⟨ys,h1,-⟩:=K.o;exact Nat.lt_of_lt_of_le (AF h1 hg).2 ch.o
    have Y:=Aa V;have a5:=Aa (j.o.over F);have ci:=Aa (Ac m.o (Ad (r:=some rb) F));have b7:k<=6001:=by have h1:=HF.o;have h2:=N.o;omega
    clear F V;go_wp2_with (at_builtin;(try rw [<-G]);refine wpList_append_own_at _ rfl _ _ 23 rfl w.heap.size 55 i0 (zf #[M O 0,M O 0,.string ⟨#[]⟩,.string ⟨#[]⟩,M O 0,M O 0,M O 0,.string ⟨#[]⟩,U none 0 0,U none 0 0,U none 0 0,U none 0 0]) 12 184 Tryz.underlying23 hi b1 b0 bz rfl (by decide) _ _ _ rfl C ⟨v.heap.size,0,none⟩ 1 1 [M O kd,M O a9,.string x9,.string y9,M O e0,M O e1,M O e2,.string e3,U q0 q1 q2,U q3 q4 q5,U q6 q7 q8,U q9 r0 r1] rfl rfl (fun jj u hu=>by rw [Addr.add_lit,Nat.zero_add];exact a1.o jj u hu) (by simp [Value.oneCell']) (by unfold maxLen;omega) (by omega) aw ?_);intro v2 W5 y E _ S;rw [<-G] at E;have an:W4.heap.size=v.heap.size+1:=by rw [G];simp
    replace S:v2.ownBlock=(Value.slice la k lc).ownBlock\/v2.ownBlock=some W4.heap.size:=by rw [an];simpa using S
    have n:Cop w.heap.size 55 12 (fun i cs W=>∀ x,(acc++[d])[i]? = some x->XC W f cs x) (k+1) v2 W5:=Cop.add (B1:=z) C (fun i hi=>by
      obtain ⟨ds,z1,z2,z3⟩:=Y.o i hi;exact ⟨ds,z1,z2,z3.imp fun W hW x hx=>hW x (by rw [List.getElem?_append_left (by rw [<-N.o];exact hi)] at hx;exact hx)⟩) rfl (Z.o.imp fun W hW x hx=>by
       rw [List.getElem?_append_right (by rw [N.o];exact Nat.le_refl _),N.o,Nat.sub_self] at hx;injection hx with hx;rw [<-hx];exact XC.mono (by have:=af.o;omega) hW) cf.o X.o y E S
    have au:=a5.o.row C (Nat.le_refl _) E;obtain ⟨cw,cu,cv,b2⟩:=AK y;subst b2;replace j:=Aa au;have a6:=Aa n;clear n au C y E S aw an G a5 ci Z Y X a1 az m b7;have a0:Hx ((acc++[d]).length=k+1):=by show _=_;rw [List.length_append,N.o];rfl
    go_wp2_with fail;have b5:=B0 ts.length j.o.st;have ae:=LG (L:=ts.length) (k:=k) (g:=g) (s:=s2) (s4:=s4) HF.o.1 T.o (by rw [N.o];exact HF.o.2.1) a4.o a3.o j.o.st.2.1;exact ⟨⟨acc++[d],s4,g,by rw [a0.o];exact a6.o,j.o,B.o,ae.1,by have:=af.o;omega,by rw [a0.o];exact ae.2.1⟩,by rw [b5,cg.o];exact ae.2.2⟩
theorem EM (f:Nat) (hS:Da rb tv ts en f) (s:Sg) (w:World) (h:Sd rb tv ts en s w) (hf:s.2=true\/2*(ts.length - s.1)<=f):Calls Tryz.prog 27 #[zd (some ⟨rb,0,none⟩)] w (EN rb tv ts en 12 (fun W=>XC W f) w s (A6 ts (fun s=>AN ts en f [125] [] s) s)):=by
 obtain ⟨G,i⟩:=nm (A6 ts (fun s=>AN ts en f [125] [] s) s);rw [<-i];have j:Hx (G=(fun p:List D × Sg=>(p.1,Al ts [125] p.2)) (AN ts en f [125] [] (Al ts [123] s))):=i;obtain ⟨E,r⟩:=nm s.1;have c:Hx (Rq rb tv ts en w E (s) w):=by show Rq _ _ _ _ _ _ _ _;rw [r];exact Rq.start h
 have K:=Aa r;have X:=Aa hS;have Y:=Aa hf;clear i r h hS hf;go_enter Tryz.func27,Tryz.ntmps27;obtain ⟨s1,b⟩:=nm (Al ts [123] s);have u:=Aa (AO ⟨#[123]⟩ [123] rfl (by decide) s _ c.o.st);rw [<-b] at u;rw [<-b] at j;have J:=Aa b;clear b;go_wp2_with fail;refine u.o.mono ?_;rintro e M ⟨rfl,g⟩;clear u;have y:=g.1;replace c:Hx (Rq rb tv ts en w E (s1) M):=Qo.rq c.o g;clear y g;have b:s1.2=true\/2*(ts.length - s1.1)+2<=f:=by
  have A:=J.o;have h2:=Y.o;have N:=c.o.st.2.1;unfold Al at A;split at A
  ·rename_i U
   rw [A];exact Or.inl U
  ·split at A
   ·rw [A] at N ⊢
    rcases h2 with h2 | h2
    ·contradiction
    ·right
     dsimp only at N ⊢;omega
   ·rw [A];exact Or.inl rfl
 obtain ⟨R,B⟩:=nm (AN ts en f [125] [] s1);have I:=Aa (X.o ⟨#[125]⟩ [125] rfl s1 _ c.o.st b);rw [<-B] at I j;obtain ⟨l,F⟩:=R;dsimp only at j;clear B b;go_wp2_with fail;obtain ⟨z,H⟩:=nm M.heap.size;have C:Hx (w.heap.size<=z):=by show _<=_;rw [H];exact c.o.size
 refine I.o.mono ?_;rintro e P ⟨T,S,rfl,a,n,g⟩;dsimp only at a g n;rw [<-H] at a;obtain ⟨Z,m⟩:=nm l.length;rw [<-m] at a n;try dsimp only
 rw [<-m];have x:=Aa m;have v:=Aa a;have L:=Aa n;clear I a H m n;have y:=g.1;replace c:Hx (Rq rb tv ts en w E (F) P):=Qo.rq c.o g;clear y g;obtain ⟨Q,k⟩:=nm (Al ts [125] F);have u:=Aa (AO ⟨#[125]⟩ [125] rfl (by decide) F _ c.o.st);rw [<-k] at u;rw [<-k] at j;have V:=Aa k;clear k;go_wp2_with fail;refine u.o.mono ?_;rintro e O ⟨rfl,g⟩;clear u;have y:=g.1;replace v:=Aa (v.o.keep y (by have:=c.o.rlt;have:=C.o;omega));replace c:Hx (Rq rb tv ts en w E (Q) O):=Qo.rq c.o g;clear y g;go_wp2_with fail;go_ret;rw [j.o];exact ⟨T,S,by rw [x.o];rfl,by dsimp only;rw [<-x.o];exact v.o.base C.o,by dsimp only;rw [<-x.o];exact L.o,c.o.gr,c.o.st,by rw [<-K.o];exact c.o.le⟩
end
end Go.Proofs.YtipngnjffjajpaaGreatDoor.Tx
