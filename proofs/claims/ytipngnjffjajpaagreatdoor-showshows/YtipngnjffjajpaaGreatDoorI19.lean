/- The document's reader in memory: lists; expressions in brackets. -/
import Derived.Test.YtipngnjffjajpaaGreatDoorI18
set_option linter.unusedVariables false
set_option maxHeartbeats 8000000
set_option maxRecDepth 100000
namespace Go.Proofs.YtipngnjffjajpaaGreatDoor.Tx
open Go.RowKit
open Go.Value renaming int -> A, slice -> O, bool -> zc, agg -> ze, pointer -> zf, tuple -> zh
open Go.IntKind renaming i64 -> J
open Go.Obj renaming cells -> zd
open Go.Ending renaming returned -> zg
section
variable {rb:Nat} {tv:Value} {ts:List Tok} {en:Nat}
def fOf (rb:Nat) (w:World):Nat:=match w.cell? ⟨rb,3,none⟩ with | some (zc true)=>0 | _=>1
def mQ (rb L:Nat) (w:World):Nat:=(L - nOf rb w)+fOf rb w
def bN (b:Bool):Nat:=if b=true then 0 else 1
theorem BK {s:Sg} {w:World} (L:Nat) (h:Sd rb tv ts en s w):mQ rb L w=(L - s.1)+bN s.2:=by
 obtain ⟨-,c,-,a,-,-⟩:=h.cells;unfold mQ nOf fOf bN;rw [c,a];obtain ⟨n,b⟩:=s;cases b <;> simp
theorem N5 (hall:ts.all Ak=true) (s:Sg):(rX ts en s).2.2=true\/s.1+1<=(rX ts en s).2.1:=by
 obtain ⟨n,b⟩:=s
 cases b with
 | true=>rw [x_f];exact Or.inl rfl
 | false=>
  have h:=Eb ts en (En hall) n;revert h
  cases hp:pX ts en n with
  | inl p=>
   obtain ⟨a,c⟩:=p;intro h;have e:rX ts en (n,false)=(a,(c,false)):=h;rw [e];exact Or.inr (FT 61 0 n a c hp).2
  | inr m=>
   intro h;have e:(rX ts en (n,false)).2=(m,true):=h;rw [e];exact Or.inl rfl
def EW (rb:Nat) (tv:Value) (ts:List Tok) (en sz:Nat) (R:World->List Value->D->Prop) (w:World) (s:Sg) (r:List D × Sg) (e:Ending) (w':World):Prop:=∃ a c,e=zg (O a r.1.length c)/\Off w.heap.size none w' (fun W=>LS sz (R W) W (O a r.1.length c) r.1)/\r.1.length<=6001/\Qo rb tv ts en w s r.2 w'
theorem BE {L k g:Nat} {s s4:Sg} (h1:s.2=true\/L - s.1 < g+1) (hf:s.2=false) (hk:k+bN s.2<=s.1+1) (hle:s.1<=s4.1) (hlt:s4.2=true\/s.1+1<=s4.1) (h7:s4.1<=L):(s4.2=true\/L - s4.1 < g)/\k+1+bN s4.2<=s4.1+1/\(L - s4.1)+bN s4.2 < (L - s.1)+bN s.2:=by
 have f:L - s.1 < g+1:=h1.elim (fun h=>by rw [h] at hf;cases hf) id;rw [hf] at hk ⊢;have a:bN false=1:=rfl;have b:bN true=0:=rfl;rw [a] at hk ⊢
 cases h4:s4.2 with
 | true=>exact ⟨Or.inl rfl,by rw [b];omega,by rw [b];omega⟩
 | false=>
  rw [h4] at hlt;have c:s.1+1<=s4.1:=hlt.elim (fun h=>by cases h) id;exact ⟨Or.inr (by omega),by rw [a];omega,by rw [a];omega⟩
theorem Cl {s:Sg} {x:List UInt8} (h:s.2=false) (h2:tl ts s 0=x):Af ts x s=(s.1+1,false):=by
 unfold Af;rw [if_neg (by rw [h];simp),if_pos h2]
theorem D4 (x:List UInt8) (s:Sg):s.1<=(Af ts x s).1:=by
 unfold Af;split
 ·exact Nat.le_refl _
 ·split
  ·exact Nat.le_succ _
  ·exact Nat.le_refl _
theorem IJ (g:Nat) (acc:List D) (s:Sg) (h:s.2=false) (h2:¬ tl ts s 0=[41]):Bl ts en (g+1) acc s=Bl ts en g (acc++[(rX ts en (if 0 < acc.length then Af ts [44] s else s)).1]) (if tl ts (rX ts en (if 0 < acc.length then Af ts [44] s else s)).2 0≠[44]/\tl ts (rX ts en (if 0 < acc.length then Af ts [44] s else s)).2 0≠[41] then B8 (rX ts en (if 0 < acc.length then Af ts [44] s else s)).2 else (rX ts en (if 0 < acc.length then Af ts [44] s else s)).2):=by
 rw [Bl,if_pos ⟨h,h2⟩]
theorem Fm (g:Nat) (acc:List D) (s:Sg) (h:s.2=true\/tl ts s 0=[41]):Bl ts en g acc s=(acc,s):=by
 cases g with
 | zero=>rfl
 | succ g=>
  rw [Bl,if_neg];rintro ⟨a,b⟩;rcases h with h | h
  ·rw [h] at a;cases a
  ·exact b h
theorem NI (hall:ts.all Ak=true) (s:Sg) (w:World) (h:Sd rb tv ts en s w):Calls Tryz.prog 138 #[zf (some ⟨rb,0,none⟩)] w (EW rb tv ts en 5 (fun W=>XE W 61) w s (C7 ts en s)):=by
 obtain ⟨i0,hi,cc,cb,ca⟩:=info_parts Tryz.infoTE;obtain ⟨cw,a3⟩:=nm (C7 ts en s);rw [<-a3];obtain ⟨V,al⟩:=nm (Bl ts en (ts.length+2) [] (Af ts [40] s));have av:Hx (cw=(V.1,Af ts [41] V.2)):=by show _=_;rw [a3,al];rfl
 have j:=Aa al;obtain ⟨m0,bv⟩:=nm s.1;have b:Hx (Rq rb tv ts en w m0 (s) w):=by show Rq _ _ _ _ _ _ _ _;rw [bv];exact Rq.start h
 have ci:=Aa bv;have n:=Aa (Ad w (some rb));clear a3 al bv h;go_enter Tryz.func138,Tryz.ntmps138;obtain ⟨s1,bj⟩:=nm (Af ts [40] s);have KN:=Aa (AD ⟨#[40]⟩ [40] rfl (by decide) s _ b.o.st);rw [<-bj] at KN;rw [<-bj] at j;have dj:=Aa bj;clear bj;go_wp2_with fail;refine KN.o.mono ?_;rintro e w1 ⟨rfl,B⟩;clear KN;replace n:=Aa (Ae n.o B.1);have hg:=B.1;replace b:Hx (Rq rb tv ts en w m0 (s1) w1):=Qo.rq b.o B;clear hg B;go_wp2_with fail;go_loopw [3] (fun l wr=>∃ (acc:List D) (s2:Sg) (g:Nat),Cop w.heap.size 49 5 (fun i cs W=>∀ x,acc[i]? = some x->XE W 61 cs x) acc.length l wr/\Rq rb tv ts en w m0 s2 wr/\Bl ts en g acc s2=V/\(s2.2=true\/ts.length - s2.1 < g)/\acc.length+bN s2.2<=s2.1+1) (fun _ wr=>mQ rb ts.length wr)
 case atStart=>exact ⟨[],s1,ts.length+2,Cop.nil,b.o,j.o.symm,Or.inr (by omega),by simp [bN];split <;> omega⟩
 case round=>
  obtain ⟨acc,s2,g,G,hd,hp,ce,cf⟩:=hrel;have bh:=hd.st;have cd:s2.1<=ts.length/\ts.length<=6000:=⟨bh.2.1,bh.2.2.1⟩;obtain ⟨la,lc,c3,-⟩:=G.cells (by decide);subst c3;replace b:=Aa hd;have ar:=Aa G;replace j:=Aa hp;have aw:=Aa (BK ts.length bh);have HF:=Aa (And.intro ce (And.intro cf cd));replace n:=Aa (Ad wr (some rb));obtain ⟨k,hk⟩:=nm acc.length;rw [<-hk] at ar ⊢;have U:=Aa hk;clear G hd hp bh ce cf cd hk
  cases hfl:s2.2 with
  | true=>
   have HE:Hx (V=(acc,s2)):=by show _=_;rw [<-j.o];exact Fm _ _ _ (Or.inl hfl)
   obtain ⟨az,ay,rc2,ai,-,-⟩:=b.o.st.cells;rw [hfl] at ai;clear hfl;have y:=av.o;rw [HE.o] at y;dsimp only at y;replace av:=Aa y;clear y;obtain ⟨s9,ak⟩:=nm (Af ts [41] s2);have KN:=Aa (AD ⟨#[41]⟩ [41] rfl (by decide) s2 _ b.o.st);rw [<-ak] at KN;have b1:=Aa ak;clear ak;go_wp2_with fail;clear ai rc2 ay az;refine KN.o.mono ?_;rintro e bf ⟨rfl,B⟩;clear KN;replace n:=Aa (Ae n.o B.1);have hg:=B.1;replace b:Hx (Rq rb tv ts en w m0 (s9) bf):=Qo.rq b.o B;clear hg B;have y:=av.o;rw [<-b1.o] at y;have ao:=ar.o;rw [U.o] at ao;have a5:acc.length<=6001:=by have:=HF.o;unfold bN at this;omega
   obtain ⟨a,c,hv,q⟩:=Cop.ls ao (by decide) (by omega);injection hv with v1 v2 v3;subst v1 v3;have bc:=Aa (q.keep n.o b.o.rlt);have b5:=Aa a5;have ba:=Aa y;clear ao q a5 v2 y;go_wp2_with fail;go_ret;rw [ba.o];exact ⟨la,lc,by rw [U.o];rfl,bc.o,b5.o,b.o.gr,b.o.st,by rw [<-ci.o];exact b.o.le⟩
  | false=>
   obtain ⟨az,ay,rc2,ai,-,-⟩:=b.o.st.cells;rw [hfl] at ai;have ag:=Aa hfl;clear hfl;obtain ⟨t,ht⟩:=nm (tx ts s2 0);have KT:Hx (Ro 57 #[zf (some ⟨rb,0,none⟩),A J 0] wr (.string t)):=by rw [ht];exact AP 0 (by omega) s2 _ b.o.st
   have Ht:=Aa ht;clear ht;go_wp2_with fail;clear ai rc2 ay az;refine KT.o.mono ?_;rintro e bf ⟨rfl,Y⟩;clear KT;replace n:=Aa (Ae n.o (Ag (r:=some rb) Y));replace b:Hx (Rq rb tv ts en w m0 (s2) bf):=b.o.over Y;clear Y;by_cases h41:tl ts s2 0=[41]
   ·have HE:Hx (V=(acc,s2)):=by show _=_;rw [<-j.o];exact Fm _ _ _ (Or.inr h41)
    have q1:(t.toList == [41])=true:=CO Ht.o h41;clear h41;have y:=av.o;rw [HE.o] at y;dsimp only at y;replace av:=Aa y;clear y;obtain ⟨s9,ak⟩:=nm (Af ts [41] s2);have KN:=Aa (AD ⟨#[41]⟩ [41] rfl (by decide) s2 _ b.o.st);rw [<-ak] at KN;have b1:=Aa ak;clear ak;go_wp2_with fail;refine KN.o.mono ?_;rintro e P ⟨rfl,B⟩;clear KN;replace n:=Aa (Ae n.o B.1);have hg:=B.1;replace b:Hx (Rq rb tv ts en w m0 (s9) P):=Qo.rq b.o B;clear hg B;have y:=av.o;rw [<-b1.o] at y;have ao:=ar.o;rw [U.o] at ao;have a5:acc.length<=6001:=by have:=HF.o;unfold bN at this;omega
    obtain ⟨a,c,hv,q⟩:=Cop.ls ao (by decide) (by omega);injection hv with v1 v2 v3;subst v1 v3;have bc:=Aa (q.keep n.o b.o.rlt);have b5:=Aa a5;have ba:=Aa y;clear ao q a5 v2 y;go_wp2_with fail;go_ret;rw [ba.o];exact ⟨la,lc,by rw [U.o];rfl,bc.o,b5.o,b.o.gr,b.o.st,by rw [<-ci.o];exact b.o.le⟩
   ·have q1:(t.toList == [41])=false:=A9 Ht.o h41
    obtain ⟨g,rfl⟩:∃ g',g=g' + 1:=⟨g - 1,by have h1:=HF.o.1;rw [ag.o] at h1;simp at h1;omega⟩;have hr:=j.o;rw [IJ _ _ _ ag.o h41] at hr;replace j:Hx (_=V):=hr;clear hr h41;by_cases h0:k=0
    ·have hr:=j.o
     rw [if_neg (by rw [<-U.o,h0];omega)] at hr;replace j:=Aa hr;clear hr;have bw:¬ (0:Int) < (k:Int):=by omega
     clear h0;have aq:Hx (s2.1<=s2.1):=Nat.le_refl _;obtain ⟨pd,am⟩:=nm (rX ts en s2);have H:=Aa (N5 (en:=en) hall s2);have KE:=Aa (CL (rb:=rb) (tv:=tv) (en:=en) hall 61 0 rfl (by omega) s2 _ b.o.st);have aa:AQ ts en 61 0 s2=pd:=am.symm;rw [aa] at KE;rw [<-am] at j H;obtain ⟨d,s4⟩:=pd;dsimp only at j H;clear am aa;go_wp2_with fail;clear bw;obtain ⟨z,hz⟩:=nm bf.heap.size;have b2:Hx (w.heap.size<=z):=by show _<=_;rw [hz];exact b.o.size
     have b3:Hx (wr.heap.size<=z):=by show _<=_;rw [hz];exact n.o.size
     refine KE.o.mono ?_;rintro e P ⟨e0,e1,e2,e3,e4,e5,e6,rfl,q,B⟩;dsimp only at q B;rw [<-hz] at q;have bb:=Aa q;have T:=Aa B.2.2;clear KE q hz;replace n:=Aa (Ae n.o B.1);have hg:=B.1;replace b:Hx (Rq rb tv ts en w m0 (s4) P):=Qo.rq b.o B;clear hg B;obtain ⟨W4,K⟩:=nm (P.alloc (zd #[A J e0,A J e1,A J e2,.string e3,O e4 e5 e6] 49));have I:Ov P W4:=by rw [K];exact bA _ _
     obtain ⟨xs,E,ab⟩:=(ar.o.keep (Ae n.o (Ag (r:=some rb) I)) b.o.rlt);have bd:Hx (Ac [A J e0,A J e1,A J e2,.string e3,O e4 e5 e6] W4 P.heap.size):=by show Ac _ _ _;rw [K];exact Ai P [A J e0,A J e1,A J e2,.string e3,O e4 e5 e6] 49
     have af:=Aa (bb.o.over I);have a8:w.heap.size<=W4.heap.size:=Nat.le_trans b.o.size I.size;have ad:Hx (∀ g,(Value.slice la k lc).ownBlock=some g->g < z):=fun g hg=>by
      obtain ⟨ys,h1,-⟩:=ar.o;exact Nat.lt_of_lt_of_le (AK h1 hg).2 b3.o
     have ae:=Aa ab;have be:=Aa (b.o.over I);have b4:=Aa (Ae n.o (Ag (r:=some rb) I));have bz:k<=6001:=by have h1:=HF.o;have h2:=U.o;omega
     clear I ab;go_wp2_with (at_builtin;(try rw [<-K]);refine wpList_append_own_at _ rfl _ _ 47 rfl w.heap.size 49 i0 (ze #[A J 0,A J 0,A J 0,.string ⟨#[]⟩,O none 0 0]) 5 64 Tryz.underlying47 hi cc cb ca rfl (by decide) _ _ _ rfl E ⟨P.heap.size,0,none⟩ 1 1 [A J e0,A J e1,A J e2,.string e3,O e4 e5 e6] rfl rfl (fun jj u hu=>by rw [Addr.add_lit,Nat.zero_add];exact bd.o jj u hu) (by simp [Value.oneCell']) (by unfold maxLen;omega) (by omega) a8 ?_);intro v2 W5 C F _ Z;rw [<-K] at F;have a2:W4.heap.size=P.heap.size+1:=by rw [K];simp
     replace Z:v2.ownBlock=(Value.slice la k lc).ownBlock\/v2.ownBlock=some W4.heap.size:=by rw [a2];simpa using Z
     have G:Cop w.heap.size 49 5 (fun i cs W=>∀ x,(acc++[d])[i]? = some x->XE W 61 cs x) (k+1) v2 W5:=Cop.add (B1:=z) E (fun i hi=>by
       obtain ⟨ds,z1,z2,z3⟩:=ae.o i hi;exact ⟨ds,z1,z2,z3.imp fun W hW x hx=>hW x (by rw [List.getElem?_append_left (by rw [<-U.o];exact hi)] at hx;exact hx)⟩) rfl (af.o.imp fun W hW x hx=>by
        rw [List.getElem?_append_right (by rw [U.o];exact Nat.le_refl _),U.o,Nat.sub_self] at hx;injection hx with hx;rw [<-hx];exact hW) b2.o ad.o C F Z
     have a6:=be.o.row E (Nat.le_refl _) F;obtain ⟨cp,cn,co,bu⟩:=Be C;subst bu;replace b:=Aa a6;have f:=Aa G;clear G a6 E C F Z a8 a2 K be b4 af ae ad bd bb n bz;have N:Hx ((acc++[d]).length=k+1):=by show _=_;rw [List.length_append,U.o];rfl
     obtain ⟨t4,a1⟩:=nm (tx ts s4 0);have M:=Aa a1;clear a1;have KT:Hx (Ro 57 #[zf (some ⟨rb,0,none⟩),A J 0] W5 (.string t4)):=by rw [M.o];exact AP 0 (by omega) s4 _ b.o.st
     go_wp2_with fail;refine KT.o.mono ?_;rintro e X ⟨rfl,Y⟩;replace b:=Aa (b.o.over Y);replace f:=Aa (f.o.over Y);clear KT Y;by_cases h44:tl ts s4 0=[44]
     ·have q4:(t4.toList == [44])=true:=CO M.o h44
      have hr:=j.o;rw [if_neg (fun e=>e.1 h44)] at hr;have S:=Aa hr;clear hr j;go_wp2_with fail
      skip
      have a4:=aq.o;have ac:=T.o;have R:=BK ts.length b.o.st;have v:=BE (L:=ts.length) (k:=k) (g:=g) (s:=s2) (s4:=s4) HF.o.1 ag.o (by rw [U.o];exact HF.o.2.1) (by omega) (H.o.imp id (fun h=>by omega)) b.o.st.2.1;exact ⟨⟨acc++[d],s4,g,by rw [N.o];exact f.o,b.o,S.o,v.1,by rw [N.o];exact v.2.1⟩,by rw [R,aw.o];exact v.2.2⟩
     ·have q4:(t4.toList == [44])=false:=A9 M.o h44
      have KT:Hx (Ro 57 #[zf (some ⟨rb,0,none⟩),A J 0] X (.string t4)):=by rw [M.o];exact AP 0 (by omega) s4 _ b.o.st
      go_wp2_with fail;refine KT.o.mono ?_;rintro e bt ⟨rfl,Y⟩;replace b:=Aa (b.o.over Y);replace f:=Aa (f.o.over Y);clear KT Y;by_cases h41:tl ts s4 0=[41]
      ·have q5:(t4.toList == [41])=true:=CO M.o h41
       have hr:=j.o;rw [if_neg (fun e=>e.2 h41)] at hr;have S:=Aa hr;clear hr j;go_wp2_with fail
       skip
       have a4:=aq.o;have ac:=T.o;have R:=BK ts.length b.o.st;have v:=BE (L:=ts.length) (k:=k) (g:=g) (s:=s2) (s4:=s4) HF.o.1 ag.o (by rw [U.o];exact HF.o.2.1) (by omega) (H.o.imp id (fun h=>by omega)) b.o.st.2.1;exact ⟨⟨acc++[d],s4,g,by rw [N.o];exact f.o,b.o,S.o,v.1,by rw [N.o];exact v.2.1⟩,by rw [R,aw.o];exact v.2.2⟩
      ·have q5:(t4.toList == [41])=false:=A9 M.o h41
       obtain ⟨az,ay,rc2,ai,cv,cu⟩:=b.o.st.cells;have Q:=b.o.st.fail;obtain ⟨Vf,a7⟩:=nm (bt.setCell ⟨rb,3,none⟩ (zc true));rw [<-a7] at Q;replace b:Hx (Rq rb tv ts en w m0 (B8 s4) Vf):=b.o.call Q.2 Q.1 (Nat.le_refl _);replace f:=Aa (f.o.keep Q.2 b.o.rlt);clear Q;have hr:=j.o;rw [if_pos ⟨h44,h41⟩] at hr;have S:=Aa hr;clear hr j;go_wp2_with fail;rw [<-a7];have a4:=aq.o;have ac:=T.o;have R:=BK ts.length b.o.st;have v:=BE (L:=ts.length) (k:=k) (g:=g) (s:=s2) (s4:=(B8 s4)) HF.o.1 ag.o (by rw [U.o];exact HF.o.2.1) (by show s2.1<=s4.1;omega) (Or.inl rfl) b.o.st.2.1;exact ⟨⟨acc++[d],(B8 s4),g,by rw [N.o];exact f.o,b.o,S.o,v.1,by rw [N.o];exact v.2.1⟩,by rw [R,aw.o];exact v.2.2⟩
    ·have hr:=j.o
     rw [if_pos (by rw [<-U.o];omega)] at hr;replace j:=Aa hr;clear hr;have bw:(0:Int) < (k:Int):=by omega
     clear h0;obtain ⟨s3,bi⟩:=nm (Af ts [44] s2);have KN:=Aa (AD ⟨#[44]⟩ [44] rfl (by decide) s2 _ b.o.st);rw [<-bi] at KN;rw [<-bi] at j;have c8:=Aa bi;clear bi;go_wp2_with fail;refine KN.o.mono ?_;rintro e P ⟨rfl,B⟩;clear KN;replace n:=Aa (Ae n.o B.1);have hg:=B.1;replace b:Hx (Rq rb tv ts en w m0 (s3) P):=Qo.rq b.o B;clear hg B;have aq:Hx (s2.1<=s3.1):=by show _<=_;rw [c8.o];exact D4 _ _
     obtain ⟨pd,am⟩:=nm (rX ts en s3);have H:=Aa (N5 (en:=en) hall s3);have KE:=Aa (CL (rb:=rb) (tv:=tv) (en:=en) hall 61 0 rfl (by omega) s3 _ b.o.st);have aa:AQ ts en 61 0 s3=pd:=am.symm;rw [aa] at KE;rw [<-am] at j H;obtain ⟨d,s4⟩:=pd;dsimp only at j H;clear am aa;go_wp2_with fail;clear bw;obtain ⟨z,hz⟩:=nm P.heap.size;have b2:Hx (w.heap.size<=z):=by show _<=_;rw [hz];exact b.o.size
     have b3:Hx (wr.heap.size<=z):=by show _<=_;rw [hz];exact n.o.size
     refine KE.o.mono ?_;rintro e X ⟨e0,e1,e2,e3,e4,e5,e6,rfl,q,B⟩;dsimp only at q B;rw [<-hz] at q;have bb:=Aa q;have T:=Aa B.2.2;clear KE q hz;replace n:=Aa (Ae n.o B.1);have hg:=B.1;replace b:Hx (Rq rb tv ts en w m0 (s4) X):=Qo.rq b.o B;clear hg B;obtain ⟨W4,K⟩:=nm (X.alloc (zd #[A J e0,A J e1,A J e2,.string e3,O e4 e5 e6] 49));have I:Ov X W4:=by rw [K];exact bA _ _
     obtain ⟨xs,E,ab⟩:=(ar.o.keep (Ae n.o (Ag (r:=some rb) I)) b.o.rlt);have bd:Hx (Ac [A J e0,A J e1,A J e2,.string e3,O e4 e5 e6] W4 X.heap.size):=by show Ac _ _ _;rw [K];exact Ai X [A J e0,A J e1,A J e2,.string e3,O e4 e5 e6] 49
     have af:=Aa (bb.o.over I);have a8:w.heap.size<=W4.heap.size:=Nat.le_trans b.o.size I.size;have ad:Hx (∀ g,(Value.slice la k lc).ownBlock=some g->g < z):=fun g hg=>by
      obtain ⟨ys,h1,-⟩:=ar.o;exact Nat.lt_of_lt_of_le (AK h1 hg).2 b3.o
     have ae:=Aa ab;have be:=Aa (b.o.over I);have b4:=Aa (Ae n.o (Ag (r:=some rb) I));have bz:k<=6001:=by have h1:=HF.o;have h2:=U.o;omega
     clear I ab;go_wp2_with (at_builtin;(try rw [<-K]);refine wpList_append_own_at _ rfl _ _ 47 rfl w.heap.size 49 i0 (ze #[A J 0,A J 0,A J 0,.string ⟨#[]⟩,O none 0 0]) 5 64 Tryz.underlying47 hi cc cb ca rfl (by decide) _ _ _ rfl E ⟨X.heap.size,0,none⟩ 1 1 [A J e0,A J e1,A J e2,.string e3,O e4 e5 e6] rfl rfl (fun jj u hu=>by rw [Addr.add_lit,Nat.zero_add];exact bd.o jj u hu) (by simp [Value.oneCell']) (by unfold maxLen;omega) (by omega) a8 ?_);intro v2 W5 C F _ Z;rw [<-K] at F;have a2:W4.heap.size=X.heap.size+1:=by rw [K];simp
     replace Z:v2.ownBlock=(Value.slice la k lc).ownBlock\/v2.ownBlock=some W4.heap.size:=by rw [a2];simpa using Z
     have G:Cop w.heap.size 49 5 (fun i cs W=>∀ x,(acc++[d])[i]? = some x->XE W 61 cs x) (k+1) v2 W5:=Cop.add (B1:=z) E (fun i hi=>by
       obtain ⟨ds,z1,z2,z3⟩:=ae.o i hi;exact ⟨ds,z1,z2,z3.imp fun W hW x hx=>hW x (by rw [List.getElem?_append_left (by rw [<-U.o];exact hi)] at hx;exact hx)⟩) rfl (af.o.imp fun W hW x hx=>by
        rw [List.getElem?_append_right (by rw [U.o];exact Nat.le_refl _),U.o,Nat.sub_self] at hx;injection hx with hx;rw [<-hx];exact hW) b2.o ad.o C F Z
     have a6:=be.o.row E (Nat.le_refl _) F;obtain ⟨cp,cn,co,bu⟩:=Be C;subst bu;replace b:=Aa a6;have f:=Aa G;clear G a6 E C F Z a8 a2 K be b4 af ae ad bd bb n bz;have N:Hx ((acc++[d]).length=k+1):=by show _=_;rw [List.length_append,U.o];rfl
     obtain ⟨t4,a1⟩:=nm (tx ts s4 0);have M:=Aa a1;clear a1;have KT:Hx (Ro 57 #[zf (some ⟨rb,0,none⟩),A J 0] W5 (.string t4)):=by rw [M.o];exact AP 0 (by omega) s4 _ b.o.st
     go_wp2_with fail;refine KT.o.mono ?_;rintro e bt ⟨rfl,Y⟩;replace b:=Aa (b.o.over Y);replace f:=Aa (f.o.over Y);clear KT Y;by_cases h44:tl ts s4 0=[44]
     ·have q4:(t4.toList == [44])=true:=CO M.o h44
      have hr:=j.o;rw [if_neg (fun e=>e.1 h44)] at hr;have S:=Aa hr;clear hr j;go_wp2_with fail
      skip
      have a4:=aq.o;have ac:=T.o;have R:=BK ts.length b.o.st;have v:=BE (L:=ts.length) (k:=k) (g:=g) (s:=s2) (s4:=s4) HF.o.1 ag.o (by rw [U.o];exact HF.o.2.1) (by omega) (H.o.imp id (fun h=>by omega)) b.o.st.2.1;exact ⟨⟨acc++[d],s4,g,by rw [N.o];exact f.o,b.o,S.o,v.1,by rw [N.o];exact v.2.1⟩,by rw [R,aw.o];exact v.2.2⟩
     ·have q4:(t4.toList == [44])=false:=A9 M.o h44
      have KT:Hx (Ro 57 #[zf (some ⟨rb,0,none⟩),A J 0] bt (.string t4)):=by rw [M.o];exact AP 0 (by omega) s4 _ b.o.st
      go_wp2_with fail;refine KT.o.mono ?_;rintro e cm ⟨rfl,Y⟩;replace b:=Aa (b.o.over Y);replace f:=Aa (f.o.over Y);clear KT Y;by_cases h41:tl ts s4 0=[41]
      ·have q5:(t4.toList == [41])=true:=CO M.o h41
       have hr:=j.o;rw [if_neg (fun e=>e.2 h41)] at hr;have S:=Aa hr;clear hr j;go_wp2_with fail
       skip
       have a4:=aq.o;have ac:=T.o;have R:=BK ts.length b.o.st;have v:=BE (L:=ts.length) (k:=k) (g:=g) (s:=s2) (s4:=s4) HF.o.1 ag.o (by rw [U.o];exact HF.o.2.1) (by omega) (H.o.imp id (fun h=>by omega)) b.o.st.2.1;exact ⟨⟨acc++[d],s4,g,by rw [N.o];exact f.o,b.o,S.o,v.1,by rw [N.o];exact v.2.1⟩,by rw [R,aw.o];exact v.2.2⟩
      ·have q5:(t4.toList == [41])=false:=A9 M.o h41
       obtain ⟨az,ay,rc2,ai,cv,cu⟩:=b.o.st.cells;have Q:=b.o.st.fail;obtain ⟨Vf,a7⟩:=nm (cm.setCell ⟨rb,3,none⟩ (zc true));rw [<-a7] at Q;replace b:Hx (Rq rb tv ts en w m0 (B8 s4) Vf):=b.o.call Q.2 Q.1 (Nat.le_refl _);replace f:=Aa (f.o.keep Q.2 b.o.rlt);clear Q;have hr:=j.o;rw [if_pos ⟨h44,h41⟩] at hr;have S:=Aa hr;clear hr j;go_wp2_with fail;rw [<-a7];have a4:=aq.o;have ac:=T.o;have R:=BK ts.length b.o.st;have v:=BE (L:=ts.length) (k:=k) (g:=g) (s:=s2) (s4:=(B8 s4)) HF.o.1 ag.o (by rw [U.o];exact HF.o.2.1) (by show s2.1<=s4.1;omega) (Or.inl rfl) b.o.st.2.1;exact ⟨⟨acc++[d],(B8 s4),g,by rw [N.o];exact f.o,b.o,S.o,v.1,by rw [N.o];exact v.2.1⟩,by rw [R,aw.o];exact v.2.2⟩
end
section
variable {rb:Nat} {tv:Value} {ts:List Tok} {en:Nat}
def CG (rb:Nat) (tv:Value) (ts:List Tok) (en f:Nat) (w:World) (s:Sg) (r:D × Sg) (e:Ending) (w':World):Prop:=∃ (kd a:Int) (x y:ByteArray) (e0 e1 e2:Int) (e3:ByteArray) (q0:Option Addr) (q1 q2:Nat) (q3:Option Addr) (q4 q5:Nat) (q6:Option Addr) (q7 q8:Nat) (q9:Option Addr) (r0 r1:Nat),e=zg (ze #[A J kd,A J a,.string x,.string y,A J e0,A J e1,A J e2,.string e3,O q0 q1 q2,O q3 q4 q5,O q6 q7 q8,O q9 r0 r1])/\Off w.heap.size none w' (fun W=>XC W f [A J kd,A J a,.string x,.string y,A J e0,A J e1,A J e2,.string e3,O q0 q1 q2,O q3 q4 q5,O q6 q7 q8,O q9 r0 r1] r.1)/\(r.2.2=true\/s.1+1<=r.2.1)/\Qo rb tv ts en w s r.2 w'
def J4 (rb:Nat) (tv:Value) (ts:List Tok) (en f:Nat):Prop:=∀ (s:Sg) (w:World),Sd rb tv ts en s w->s.2=false->2*(ts.length - s.1)+1<=f->Calls Tryz.prog 102 #[zf (some ⟨rb,0,none⟩)] w (CG rb tv ts en f w s (Ct ts en f s))
def C0 (rb:Nat) (tv:Value) (ts:List Tok) (en f:Nat):Prop:=∀ (x:ByteArray) (xl:List UInt8),x.data.toList=xl->∀ (s:Sg) (w:World),Sd rb tv ts en s w->(s.2=true\/2*(ts.length - s.1)+2<=f)->Calls Tryz.prog 59 #[zf (some ⟨rb,0,none⟩),.string x] w (EW rb tv ts en 12 (fun W=>XC W f) w s (AC ts en f xl [] s))
theorem FG (g:Nat) (x:List UInt8) (acc:List D) (s:Sg) (h:s.2=true\/tl ts s 0=x):AC ts en g x acc s=(acc,s):=by
 match g with
 | 0=>rfl
 | 1=>rfl
 | g+2=>
  rw [AC,if_neg];rintro ⟨a,b⟩;rcases h with h | h
  ·rw [h] at a;cases a
  ·exact b h
theorem IY (g:Nat) (hg:1<=g) (x:List UInt8) (acc:List D) (s:Sg) (h:s.2=false) (h2:¬ tl ts s 0=x):AC ts en (g+1) x acc s=AC ts en g x (acc++[(Ct ts en g s).1]) (Ct ts en g s).2:=by
 obtain ⟨g,rfl⟩:∃ q,g=q+1:=⟨g - 1,by omega⟩;rw [AC,if_pos ⟨h,h2⟩];rfl
theorem MA {L k g:Nat} {s s4:Sg} (h1:s.2=true\/2*(L - s.1)+2<=g+1) (hf:s.2=false) (hk:k+bN s.2<=s.1+1) (hle:s.1<=s4.1) (hlt:s4.2=true\/s.1+1<=s4.1) (h7:s4.1<=L):(s4.2=true\/2*(L - s4.1)+2<=g)/\k+1+bN s4.2<=s4.1+1/\(L - s4.1)+bN s4.2 < (L - s.1)+bN s.2:=by
 have f:2*(L - s.1)+2<=g+1:=h1.elim (fun h=>by rw [h] at hf;cases hf) id;rw [hf] at hk ⊢;have a:bN false=1:=rfl;have b:bN true=0:=rfl;rw [a] at hk ⊢
 cases h4:s4.2 with
 | true=>exact ⟨Or.inl rfl,by rw [b];omega,by rw [b];omega⟩
 | false=>
  rw [h4] at hlt;have c:s.1+1<=s4.1:=hlt.elim (fun h=>by cases h) id;exact ⟨Or.inr (by omega),by rw [a];omega,by rw [a];omega⟩
theorem M6 (f:Nat) (hS:∀ g,g < f->J4 rb tv ts en g):C0 rb tv ts en f:=by
 intro x xl an s w h hf;obtain ⟨i0,hi,b4,b3,b2⟩:=info_parts Tryz.infoStm;obtain ⟨Q,I⟩:=nm (AC ts en f xl [] s);rw [<-I];have C:=Aa I;have az:=Aa an;have HS:=Aa hS;have cm:=Aa hf;obtain ⟨m0,ad⟩:=nm s.1;have j:Hx (Rq rb tv ts en w m0 (s) w):=by show Rq _ _ _ _ _ _ _ _;rw [ad];exact Rq.start h
 have a3:=Aa ad;clear I ad h an hS hf;go_enter Tryz.func59,Tryz.ntmps59;go_wp2_with fail;go_loopw [5] (fun l wr=>∃ (acc:List D) (s2:Sg) (g:Nat),Cop w.heap.size 55 12 (fun i cs W=>∀ x,acc[i]? = some x->XC W f cs x) acc.length l wr/\Rq rb tv ts en w m0 s2 wr/\AC ts en g xl acc s2=Q/\(s2.2=true\/2*(ts.length - s2.1)+2<=g)/\g<=f/\acc.length+bN s2.2<=s2.1+1) (fun _ wr=>mQ rb ts.length wr)
 case atStart=>exact ⟨[],s,f,Cop.nil,j.o,C.o.symm,cm.o,Nat.le_refl _,by simp [bN];split <;> omega⟩
 case round=>
  obtain ⟨acc,s2,g,q,hd,hp,au,ar,aw⟩:=hrel;have S:=hd.st;have aq:s2.1<=ts.length/\ts.length<=6000:=⟨S.2.1,S.2.2.1⟩;obtain ⟨la,lc,b9,-⟩:=q.cells (by decide);subst b9;replace j:=Aa hd;have N:=Aa q;replace C:=Aa hp;have cj:=Aa (BK ts.length S);have ag:=Aa ar;have HF:=Aa (And.intro au (And.intro aw aq));have n:=Aa (Ad wr (some rb));obtain ⟨k,hk⟩:=nm acc.length;rw [<-hk] at N ⊢;have P:=Aa hk;clear q hd hp S au aw aq hk ar
  cases hfl:s2.2 with
  | true=>
   have HE:Hx (Q=(acc,s2)):=by show _=_;rw [<-C.o];exact FG _ _ _ _ (Or.inl hfl)
   obtain ⟨am,al,rc2,R,-,-⟩:=j.o.st.cells;rw [hfl] at R;clear hfl;have B:=N.o;rw [P.o] at B;have K:acc.length<=6001:=by have:=HF.o;unfold bN at this;omega
   obtain ⟨a,c,hv,b⟩:=Cop.ls B (by decide) (by omega);injection hv with v1 v2 v3;subst v1 v3;have M:=Aa (b.keep n.o j.o.rlt);have ah:=Aa K;clear B b K v2;go_wp2_with fail;go_ret;rw [HE.o];exact ⟨la,lc,by rw [P.o];rfl,M.o,ah.o,j.o.gr,j.o.st,by rw [<-a3.o];exact j.o.le⟩
  | false=>
   obtain ⟨am,al,rc2,R,-,-⟩:=j.o.st.cells;rw [hfl] at R;have U:=Aa hfl;clear hfl;obtain ⟨t,ht⟩:=nm (tx ts s2 0);have KT:Hx (Ro 57 #[zf (some ⟨rb,0,none⟩),A J 0] wr (.string t)):=by rw [ht];exact AP 0 (by omega) s2 _ j.o.st
   have Ht:=Aa ht;clear ht;go_wp2_with fail;clear R rc2 al am;refine KT.o.mono ?_;rintro e ak ⟨rfl,hb⟩;clear KT;replace n:=Aa (Ae n.o (Ag (r:=some rb) hb));replace j:Hx (Rq rb tv ts en w m0 (s2) ak):=j.o.over hb;clear hb;by_cases hx1:tl ts s2 0=xl
   ·have HE:Hx (Q=(acc,s2)):=by show _=_;rw [<-C.o];exact FG _ _ _ _ (Or.inr hx1)
    have q1:(t.toList == x.toList)=true:=by rw [teq,Ht.o,az.o];exact decide_eq_true hx1
    clear hx1;have B:=N.o;rw [P.o] at B;have K:acc.length<=6001:=by have:=HF.o;unfold bN at this;omega
    obtain ⟨a,c,hv,b⟩:=Cop.ls B (by decide) (by omega);injection hv with v1 v2 v3;subst v1 v3;have M:=Aa (b.keep n.o j.o.rlt);have ah:=Aa K;clear B b K v2;go_wp2_with fail;go_ret;rw [HE.o];exact ⟨la,lc,by rw [P.o];rfl,M.o,ah.o,j.o.gr,j.o.st,by rw [<-a3.o];exact j.o.le⟩
   ·have q1:(t.toList == x.toList)=false:=by rw [teq,Ht.o,az.o];exact decide_eq_false hx1
    have cc:2*(ts.length - s2.1)+2<=g:=HF.o.1.elim (fun h=>by rw [U.o] at h;cases h) id;obtain ⟨g,rfl⟩:∃ g',g=g' + 1:=⟨g - 1,by omega⟩;have hr:=C.o;rw [IY _ (by omega) _ _ _ U.o hx1] at hr;obtain ⟨pd,ap⟩:=nm (Ct ts en g s2);have KE:=Aa (HS.o g (by have:=ag.o;omega) s2 _ j.o.st U.o (by omega));rw [<-ap] at KE hr;obtain ⟨d,s4⟩:=pd;dsimp only at hr;replace C:Hx (_=Q):=hr;clear hr hx1 ap cc;go_wp2_with fail;clear q1;obtain ⟨z,hz⟩:=nm ak.heap.size;have ci:Hx (w.heap.size<=z):=by show _<=_;rw [hz];exact j.o.size
    have ck:Hx (wr.heap.size<=z):=by show _<=_;rw [hz];exact n.o.size
    refine KE.o.mono ?_;rintro e v ⟨kd,a9,x9,y9,e0,e1,e2,e3,q0,q1,q2,q3,q4,q5,q6,q7,q8,q9,r0,r1,rfl,b,ae,hq⟩;dsimp only at b hq ae;rw [<-hz] at b;have a0:=Aa b;have a4:=Aa ae;have a5:=Aa hq.2.2;clear KE b hz ae;replace n:=Aa (Ae n.o hq.1);have hg:=hq.1;replace j:Hx (Rq rb tv ts en w m0 (s4) v):=Qo.rq j.o hq;clear hg hq;obtain ⟨W4,H⟩:=nm (v.alloc (zd #[A J kd,A J a9,.string x9,.string y9,A J e0,A J e1,A J e2,.string e3,O q0 q1 q2,O q3 q4 q5,O q6 q7 q8,O q9 r0 r1] 55));have G:Ov v W4:=by rw [H];exact bA _ _
    obtain ⟨xs,E,V⟩:=(N.o.keep (Ae n.o (Ag (r:=some rb) G)) j.o.rlt);have a2:Hx (Ac [A J kd,A J a9,.string x9,.string y9,A J e0,A J e1,A J e2,.string e3,O q0 q1 q2,O q3 q4 q5,O q6 q7 q8,O q9 r0 r1] W4 v.heap.size):=by show Ac _ _ _;rw [H];exact Ai v [A J kd,A J a9,.string x9,.string y9,A J e0,A J e1,A J e2,.string e3,O q0 q1 q2,O q3 q4 q5,O q6 q7 q8,O q9 r0 r1] 55
    have Z:=Aa (a0.o.over G);have ax:w.heap.size<=W4.heap.size:=Nat.le_trans j.o.size G.size;have X:Hx (∀ g,(Value.slice la k lc).ownBlock=some g->g < z):=fun g hg=>by
     obtain ⟨ys,h1,-⟩:=N.o;exact Nat.lt_of_lt_of_le (AK h1 hg).2 ck.o
    have Y:=Aa V;have a6:=Aa (j.o.over G);have cl:=Aa (Ae n.o (Ag (r:=some rb) G));have ca:k<=6001:=by have h1:=HF.o;have h2:=P.o;omega
    clear G V;go_wp2_with (at_builtin;(try rw [<-H]);refine wpList_append_own_at _ rfl _ _ 23 rfl w.heap.size 55 i0 (ze #[A J 0,A J 0,.string ⟨#[]⟩,.string ⟨#[]⟩,A J 0,A J 0,A J 0,.string ⟨#[]⟩,O none 0 0,O none 0 0,O none 0 0,O none 0 0]) 12 184 Tryz.underlying23 hi b4 b3 b2 rfl (by decide) _ _ _ rfl E ⟨v.heap.size,0,none⟩ 1 1 [A J kd,A J a9,.string x9,.string y9,A J e0,A J e1,A J e2,.string e3,O q0 q1 q2,O q3 q4 q5,O q6 q7 q8,O q9 r0 r1] rfl rfl (fun jj u hu=>by rw [Addr.add_lit,Nat.zero_add];exact a2.o jj u hu) (by simp [Value.oneCell']) (by unfold maxLen;omega) (by omega) ax ?_);intro v2 W5 y F _ T;rw [<-H] at F;have ao:W4.heap.size=v.heap.size+1:=by rw [H];simp
    replace T:v2.ownBlock=(Value.slice la k lc).ownBlock\/v2.ownBlock=some W4.heap.size:=by rw [ao];simpa using T
    have q:Cop w.heap.size 55 12 (fun i cs W=>∀ x,(acc++[d])[i]? = some x->XC W f cs x) (k+1) v2 W5:=Cop.add (B1:=z) E (fun i hi=>by
      obtain ⟨ds,z1,z2,z3⟩:=Y.o i hi;exact ⟨ds,z1,z2,z3.imp fun W hW x hx=>hW x (by rw [List.getElem?_append_left (by rw [<-P.o];exact hi)] at hx;exact hx)⟩) rfl (Z.o.imp fun W hW x hx=>by
       rw [List.getElem?_append_right (by rw [P.o];exact Nat.le_refl _),P.o,Nat.sub_self] at hx;injection hx with hx;rw [<-hx];exact XC.mono (by have:=ag.o;omega) hW) ci.o X.o y F T
    have av:=a6.o.row E (Nat.le_refl _) F;obtain ⟨cy,cw,cx,b5⟩:=Be y;subst b5;replace j:=Aa av;have a7:=Aa q;clear q av E y F T ax ao H a6 cl Z Y X a2 a0 n ca;have a1:Hx ((acc++[d]).length=k+1):=by show _=_;rw [List.length_append,P.o];rfl
    go_wp2_with fail;have b8:=BK ts.length j.o.st;have af:=MA (L:=ts.length) (k:=k) (g:=g) (s:=s2) (s4:=s4) HF.o.1 U.o (by rw [P.o];exact HF.o.2.1) a5.o a4.o j.o.st.2.1;exact ⟨⟨acc++[d],s4,g,by rw [a1.o];exact a7.o,j.o,C.o,af.1,by have:=ag.o;omega,by rw [a1.o];exact af.2.1⟩,by rw [b8,cj.o];exact af.2.2⟩
theorem EU (f:Nat) (hS:C0 rb tv ts en f) (s:Sg) (w:World) (h:Sd rb tv ts en s w) (hf:s.2=true\/2*(ts.length - s.1)<=f):Calls Tryz.prog 27 #[zf (some ⟨rb,0,none⟩)] w (EW rb tv ts en 12 (fun W=>XC W f) w s (AU ts (fun s=>AC ts en f [125] [] s) s)):=by
 obtain ⟨H,i⟩:=nm (AU ts (fun s=>AC ts en f [125] [] s) s);rw [<-i];have j:Hx (H=(fun p:List D × Sg=>(p.1,Af ts [125] p.2)) (AC ts en f [125] [] (Af ts [123] s))):=i;obtain ⟨F,t⟩:=nm s.1;have c:Hx (Rq rb tv ts en w F (s) w):=by show Rq _ _ _ _ _ _ _ _;rw [t];exact Rq.start h
 have L:=Aa t;have Y:=Aa hS;have Z:=Aa hf;clear i t h hS hf;go_enter Tryz.func27,Tryz.ntmps27;obtain ⟨B,b⟩:=nm (Af ts [123] s);have u:=Aa (AD ⟨#[123]⟩ [123] rfl (by decide) s _ c.o.st);rw [<-b] at u;rw [<-b] at j;have K:=Aa b;clear b;go_wp2_with fail;refine u.o.mono ?_;rintro e N ⟨rfl,g⟩;clear u;have y:=g.1;replace c:Hx (Rq rb tv ts en w F (B) N):=Qo.rq c.o g;clear y g;have b:B.2=true\/2*(ts.length - B.1)+2<=f:=by
  have A:=K.o;have h2:=Z.o;have O:=c.o.st.2.1;unfold Af at A;split at A
  ·rename_i V
   rw [A];exact Or.inl V
  ·split at A
   ·rw [A] at O ⊢
    rcases h2 with h2 | h2
    ·contradiction
    ·right
     dsimp only at O ⊢;omega
   ·rw [A];exact Or.inl rfl
 obtain ⟨S,C⟩:=nm (AC ts en f [125] [] B);have J:=Aa (Y.o ⟨#[125]⟩ [125] rfl B _ c.o.st b);rw [<-C] at J j;obtain ⟨l,G⟩:=S;dsimp only at j;clear C b;go_wp2_with fail;obtain ⟨z,I⟩:=nm N.heap.size;have E:Hx (w.heap.size<=z):=by show _<=_;rw [I];exact c.o.size
 refine J.o.mono ?_;rintro e Q ⟨U,T,rfl,a,r,g⟩;dsimp only at a g r;rw [<-I] at a;obtain ⟨lk,q⟩:=nm l.length;rw [<-q] at a r;try dsimp only
 rw [<-q];have x:=Aa q;have v:=Aa a;have M:=Aa r;clear J a I q r;have y:=g.1;replace c:Hx (Rq rb tv ts en w F (G) Q):=Qo.rq c.o g;clear y g;obtain ⟨R,n⟩:=nm (Af ts [125] G);have u:=Aa (AD ⟨#[125]⟩ [125] rfl (by decide) G _ c.o.st);rw [<-n] at u;rw [<-n] at j;have X:=Aa n;clear n;go_wp2_with fail;refine u.o.mono ?_;rintro e P ⟨rfl,g⟩;clear u;have y:=g.1;replace v:=Aa (v.o.keep y (by have:=c.o.rlt;have:=E.o;omega));replace c:Hx (Rq rb tv ts en w F (R) P):=Qo.rq c.o g;clear y g;go_wp2_with fail;go_ret;rw [j.o];exact ⟨U,T,by rw [x.o];rfl,by dsimp only;rw [<-x.o];exact v.o.base E.o,by dsimp only;rw [<-x.o];exact M.o,c.o.gr,c.o.st,by rw [<-L.o];exact c.o.le⟩
end
end Go.Proofs.YtipngnjffjajpaaGreatDoor.Tx
