/- The document's reader in memory: lists; expressions in brackets. -/
import Derived.Test.YtipngnjffjajpaaGreatDoorK20
set_option linter.unusedVariables false
set_option maxHeartbeats 8000000
set_option maxRecDepth 100000
namespace Go.Proofs.YtipngnjffjajpaaGreatDoor.Tx
open Go.RowKit
open Go.Value renaming int -> O, slice -> zd, bool -> ze, agg -> zf, pointer -> zh, tuple -> zj
open Go.IntKind renaming i64 -> zc
open Go.Obj renaming cells -> zg
open Go.Ending renaming returned -> zi
section
variable {rb:Nat} {tv:Value} {ts:List Tok} {en:Nat}
def fOf (rb:Nat) (w:World):Nat:=match w.cell? ⟨rb,3,none⟩ with | some (ze true)=>0 | _=>1
def mQ (rb L:Nat) (w:World):Nat:=(L - nOf rb w)+fOf rb w
def bN (b:Bool):Nat:=if b=true then 0 else 1
theorem CT {s:Sg} {w:World} (L:Nat) (h:Sd rb tv ts en s w):mQ rb L w=(L - s.1)+bN s.2:=by
 obtain ⟨-,c,-,a,-,-⟩:=h.cells;unfold mQ nOf fOf bN;rw [c,a];obtain ⟨n,b⟩:=s;cases b <;> simp
theorem RQ (hall:ts.all Ai=true) (s:Sg):(rX ts en s).2.2=true\/s.1+1<=(rX ts en s).2.1:=by
 obtain ⟨n,b⟩:=s
 cases b with
 | true=>rw [x_f];exact Or.inl rfl
 | false=>
  have h:=Fk ts en (Gz hall) n;revert h
  cases hp:pX ts en n with
  | inl p=>
   obtain ⟨a,n1⟩:=p;intro h;have e:rX ts en (n,false)=(a,(n1,false)):=h;rw [e];exact Or.inr (EO 61 0 n a n1 hp).2
  | inr m=>
   intro h;have e:(rX ts en (n,false)).2=(m,true):=h;rw [e];exact Or.inl rfl
def F1 (rb:Nat) (tv:Value) (ts:List Tok) (en sz:Nat) (R:World->List Value->D->Prop) (w:World) (s:Sg) (r:List D × Sg) (e:Ending) (w':World):Prop:=∃ a c,e=zi (zd a r.1.length c)/\Off w.heap.size none w' (fun W=>LS sz (R W) W (zd a r.1.length c) r.1)/\r.1.length<=6001/\Qo rb tv ts en w s r.2 w'
theorem Du {L k g:Nat} {s s4:Sg} (h1:s.2=true\/L - s.1 < g+1) (hf:s.2=false) (hk:k+bN s.2<=s.1+1) (hle:s.1<=s4.1) (hlt:s4.2=true\/s.1+1<=s4.1) (h7:s4.1<=L):(s4.2=true\/L - s4.1 < g)/\k+1+bN s4.2<=s4.1+1/\(L - s4.1)+bN s4.2 < (L - s.1)+bN s.2:=by
 have f:L - s.1 < g+1:=h1.elim (fun h=>by rw [h] at hf;cases hf) id;rw [hf] at hk ⊢;have a:bN false=1:=rfl;have b:bN true=0:=rfl;rw [a] at hk ⊢
 cases h4:s4.2 with
 | true=>exact ⟨Or.inl rfl,by rw [b];omega,by rw [b];omega⟩
 | false=>
  rw [h4] at hlt;have c:s.1+1<=s4.1:=hlt.elim (fun h=>by cases h) id;exact ⟨Or.inr (by omega),by rw [a];omega,by rw [a];omega⟩
theorem CQ {s:Sg} {x:List UInt8} (h:s.2=false) (h2:tl ts s 0=x):Ak ts x s=(s.1+1,false):=by
 unfold Ak;rw [if_neg (by rw [h];simp),if_pos h2]
theorem Fc (x:List UInt8) (s:Sg):s.1<=(Ak ts x s).1:=by
 unfold Ak;split
 ·exact Nat.le_refl _
 ·split
  ·exact Nat.le_succ _
  ·exact Nat.le_refl _
theorem Kp (g:Nat) (acc:List D) (s:Sg) (h:s.2=false) (h2:¬ tl ts s 0=[41]):BN ts en (g+1) acc s=BN ts en g (acc++[(rX ts en (if 0 < acc.length then Ak ts [44] s else s)).1]) (if tl ts (rX ts en (if 0 < acc.length then Ak ts [44] s else s)).2 0≠[44]/\tl ts (rX ts en (if 0 < acc.length then Ak ts [44] s else s)).2 0≠[41] then CM (rX ts en (if 0 < acc.length then Ak ts [44] s else s)).2 else (rX ts en (if 0 < acc.length then Ak ts [44] s else s)).2):=by
 rw [BN,if_pos ⟨h,h2⟩]
theorem Gt (g:Nat) (acc:List D) (s:Sg) (h:s.2=true\/tl ts s 0=[41]):BN ts en g acc s=(acc,s):=by
 cases g with
 | zero=>rfl
 | succ g=>
  rw [BN,if_neg];rintro ⟨a,b⟩;rcases h with h | h
  ·rw [h] at a;cases a
  ·exact b h
theorem Qb (hall:ts.all Ai=true) (s:Sg) (w:World) (h:Sd rb tv ts en s w):Calls Tryz.prog 138 #[zh (some ⟨rb,0,none⟩)] w (F1 rb tv ts en 5 (fun W=>XE W 61) w s (DW ts en s)):=by
 obtain ⟨i0,hi,b9,b8,b7⟩:=info_parts Tryz.infoTE;obtain ⟨b6,Y⟩:=nm (DW ts en s);rw [<-Y];obtain ⟨C,G⟩:=nm (BN ts en (ts.length+2) [] (Ak ts [40] s));have U:Hx (b6=(C.1,Ak ts [41] C.2)):=by show _=_;rw [Y,G];rfl
 have f:=Aa G;obtain ⟨m0,a3⟩:=nm s.1;have b:=qst a3 h;have bl:=Aa a3;have j:=Aa (BJ w (some rb));clear Y G a3 h;go_enter Tryz.func138,Tryz.ntmps138;obtain ⟨s1,cj,S⟩:=ned ⟨#[40]⟩ [40] rfl (by decide) b;rw [<-cj.o] at f;go_wp2_with fail;refine mo S.o fun w1 B=>?_;clear S;replace j:=Aa (Ac j.o B.1);replace b:=zrq b B;clear B;go_wp2_with fail;go_loopw [3] (fun l wr=>∃ (acc:List D) (s2:Sg) (g:Nat),Cop w.heap.size 49 5 (fun i cs W=>∀ x,acc[i]? = some x->XE W 61 cs x) acc.length l wr/\Rq rb tv ts en w m0 s2 wr/\BN ts en g acc s2=C/\(s2.2=true\/ts.length - s2.1 < g)/\acc.length+bN s2.2<=s2.1+1) (fun _ wr=>mQ rb ts.length wr)
 case atStart=>exact ⟨[],s1,ts.length+2,Cop.nil,b.o,f.o.symm,Or.inr (by omega),by simp [bN];split <;> omega⟩
 case round=>
  obtain ⟨acc,s2,g,E,hd,hp,bc,be⟩:=hrel;have an:=hd.st;have a9:s2.1<=ts.length/\ts.length<=6000:=⟨an.2.1,an.2.2.1⟩;obtain ⟨la,lc,cd,-⟩:=E.cells (by decide);subst cd;replace b:=Aa hd;have ai:=Aa E;replace f:=Aa hp;have a5:=Aa (CT ts.length an);have HF:=Aa (And.intro bc (And.intro be a9));replace j:=Aa (BJ wr (some rb));obtain ⟨k,hk⟩:=nm acc.length;rw [<-hk] at ai ⊢;have N:=Aa hk;clear E hd hp an bc be a9 hk
  cases hfl:s2.2 with
  | true=>
   have HE:Hx (C=(acc,s2)):=by show _=_;rw [<-f.o];exact Gt _ _ _ (Or.inl hfl)
   obtain ⟨am,al,rc2,P,-,-⟩:=b.o.st.cells;rw [hfl] at P;clear hfl;have n:=U.o;rw [HE.o] at n;dsimp only at n;replace U:=Aa n;clear n;obtain ⟨s9,F⟩:=nm (Ak ts [41] s2);have S:=Aa (DH ⟨#[41]⟩ [41] rfl (by decide) s2 _ b.o.st);rw [<-F] at S;have a4:=Aa F;clear F;go_wp2_with fail;clear P rc2 al am;refine mo S.o fun b3 B=>?_;clear S;replace j:=Aa (Ac j.o B.1);replace b:=zrq b B;clear B;have n:=U.o;rw [<-a4.o] at n;have I:=ai.o;rw [N.o] at I;have ab:acc.length<=6001:=by have:=HF.o;unfold bN at this;omega
   obtain ⟨a,c,hv,v⟩:=Cop.ls I (by decide) (by omega);injection hv with v1 v2 v3;subst v1 v3;have af:=Aa (v.keep j.o b.o.rlt);have a6:=Aa ab;have ae:=Aa n;clear I v ab v2 n;go_wp2_with fail;go_ret;rw [ae.o];exact ⟨la,lc,by rw [N.o];rfl,af.o,a6.o,b.o.gr,b.o.st,by rw [<-bl.o];exact b.o.le⟩
  | false=>
   obtain ⟨am,al,rc2,P,-,-⟩:=b.o.st.cells;rw [hfl] at P;have ah:=Aa hfl;clear hfl;obtain ⟨t,ht⟩:=nm (tx ts s2 0);have KT:=ztq b ht;have Ht:=Aa ht;clear ht;go_wp2_with fail;clear P rc2 al am;refine mo KT.o fun b3 hb=>?_;clear KT;replace j:=Aa (Ac j.o (Ae (r:=some rb) hb));replace b:=Aa (b.o.over hb);clear hb;by_cases h41:tl ts s2 0=[41]
   ·have HE:Hx (C=(acc,s2)):=by show _=_;rw [<-f.o];exact Gt _ _ _ (Or.inr h41)
    have q1:(t.toList == [41])=true:=DN Ht.o h41;clear h41;have n:=U.o;rw [HE.o] at n;dsimp only at n;replace U:=Aa n;clear n;obtain ⟨s9,F⟩:=nm (Ak ts [41] s2);have S:=Aa (DH ⟨#[41]⟩ [41] rfl (by decide) s2 _ b.o.st);rw [<-F] at S;have a4:=Aa F;clear F;go_wp2_with fail;refine mo S.o fun az B=>?_;clear S;replace j:=Aa (Ac j.o B.1);replace b:=zrq b B;clear B;have n:=U.o;rw [<-a4.o] at n;have I:=ai.o;rw [N.o] at I;have ab:acc.length<=6001:=by have:=HF.o;unfold bN at this;omega
    obtain ⟨a,c,hv,v⟩:=Cop.ls I (by decide) (by omega);injection hv with v1 v2 v3;subst v1 v3;have af:=Aa (v.keep j.o b.o.rlt);have a6:=Aa ab;have ae:=Aa n;clear I v ab v2 n;go_wp2_with fail;go_ret;rw [ae.o];exact ⟨la,lc,by rw [N.o];rfl,af.o,a6.o,b.o.gr,b.o.st,by rw [<-bl.o];exact b.o.le⟩
   ·have q1:(t.toList == [41])=false:=Br Ht.o h41
    obtain ⟨g,rfl⟩:∃ g',g=g' + 1:=⟨g - 1,by have h1:=HF.o.1;rw [ah.o] at h1;simp at h1;omega⟩;have hr:=f.o;rw [Kp _ _ _ ah.o h41] at hr;replace f:Hx (_=C):=hr;clear hr h41;by_cases h0:k=0;have hr:=f.o;rw [if_neg (by rw [<-N.o,h0];omega)] at hr;replace f:=Aa hr;clear hr;have bb:¬ (0:Int) < (k:Int):=by omega
    clear h0;obtain ⟨s3,ao⟩:∃ s3,s3=s2:=⟨s2,rfl⟩;rw [<-ao] at f;replace b:=b.o;rw [<-ao] at b;replace b:=Aa b;have aq:Hx (s2.1<=s3.1):=by show _<=_;rw [ao];exact Nat.le_refl _
    clear ao
    rename World=>az
    rotate_left;have hr:=f.o;rw [if_pos (by rw [<-N.o];omega)] at hr;replace f:=Aa hr;clear hr;have bb:(0:Int) < (k:Int):=by omega
    clear h0;obtain ⟨s3,bi,S⟩:=ned ⟨#[44]⟩ [44] rfl (by decide) b;rw [<-bi.o] at f;go_wp2_with fail;refine mo S.o fun az B=>?_;clear S;replace j:=Aa (Ac j.o B.1);replace b:=zrq b B;clear B;have aq:Hx (s2.1<=s3.1):=by show _<=_;rw [bi.o];exact Fc _ _
    all_goals
     obtain ⟨pd,a2⟩:=nm (rX ts en s3);have M:=Aa (RQ (en:=en) hall s3);have KE:=Aa (D0 (rb:=rb) (tv:=tv) (en:=en) hall 61 0 rfl (by omega) s3 _ b.o.st);have ar:Ba ts en 61 0 s3=pd:=a2.symm;rw [ar] at KE;rw [<-a2] at f M;obtain ⟨d,s4⟩:=pd;dsimp only at f M;clear a2 ar;go_wp2_with fail;clear bb;obtain ⟨z,hz⟩:=nm az.heap.size;have ck:=zsq b hz;have cl:Hx (wr.heap.size<=z):=by show _<=_;rw [hz];exact j.o.size
     refine KE.o.mono ?_;rintro e X ⟨e0,e1,e2,e3,e4,e5,e6,rfl,v,B⟩;dsimp only at v B;rw [<-hz] at v;have bj:=Aa v;have ag:=Aa B.2.2;clear KE v hz;replace j:=Aa (Ac j.o B.1);replace b:=zrq b B;clear B;obtain ⟨W4,R⟩:=nm (X.alloc (zg #[O zc e0,O zc e1,O zc e2,.string e3,zd e4 e5 e6] 49));have Q:=(aov R).o;obtain ⟨xs,J,au⟩:=(ai.o.keep (Ac j.o (Ae (r:=some rb) Q)) b.o.rlt);have bk:Hx (Ad [O zc e0,O zc e1,O zc e2,.string e3,zd e4 e5 e6] W4 X.heap.size):=by show Ad _ _ _;rw [R];exact A5 X [O zc e0,O zc e1,O zc e2,.string e3,zd e4 e5 e6] 49
     have ay:=Aa (bj.o.over Q);have bg:w.heap.size<=W4.heap.size:=Nat.le_trans b.o.size Q.size;have aw:Hx (∀ g,(Value.slice la k lc).ownBlock=some g->g < z):=fun g hg=>by
      obtain ⟨ys,h1,-⟩:=ai.o;exact Nat.lt_of_lt_of_le (AL h1 hg).2 cl.o
     have ax:=Aa au;have bm:=Aa (b.o.over Q);have cm:=Aa (Ac j.o (Ae (r:=some rb) Q));have ce:k<=6001:=by have h1:=HF.o;have h2:=N.o;omega
     clear Q au;go_wp2_with (at_builtin;(try rw [<-R]);refine wpList_append_own_at _ rfl _ _ 47 rfl w.heap.size 49 i0 (zf #[O zc 0,O zc 0,O zc 0,.string ⟨#[]⟩,zd none 0 0]) 5 64 Tryz.underlying47 hi b9 b8 b7 rfl (by decide) _ _ _ rfl J ⟨X.heap.size,0,none⟩ 1 1 [O zc e0,O zc e1,O zc e2,.string e3,zd e4 e5 e6] rfl rfl (fun jj u hu=>by rw [Addr.add_lit,Nat.zero_add];exact bk.o jj u hu) (by simp [Value.oneCell']) (by unfold maxLen;omega) (by omega) bg ?_);intro v2 W5 H K _ ap;rw [<-R] at K;have a8:W4.heap.size=X.heap.size+1:=by rw [R];simp
     replace ap:v2.ownBlock=(Value.slice la k lc).ownBlock\/v2.ownBlock=some W4.heap.size:=by rw [a8];simpa using ap
     have E:Cop w.heap.size 49 5 (fun i cs W=>∀ x,(acc++[d])[i]? = some x->XE W 61 cs x) (k+1) v2 W5:=Cop.add (B1:=z) J (fun i hi=>by
       obtain ⟨ds,z1,z2,z3⟩:=ax.o i hi;exact ⟨ds,z1,z2,z3.imp fun W hW x hx=>hW x (by rw [List.getElem?_append_left (by rw [<-N.o];exact hi)] at hx;exact hx)⟩) rfl (ay.o.imp fun W hW x hx=>by
        rw [List.getElem?_append_right (by rw [N.o];exact Nat.le_refl _),N.o,Nat.sub_self] at hx;injection hx with hx;rw [<-hx];exact hW) ck.o aw.o H K ap
     have bd:=bm.o.row J (Nat.le_refl _) K;obtain ⟨cz,cx,cy,ca⟩:=AP H;subst ca;replace b:=Aa bd;have y:=Aa E;clear E bd J H K ap bg a8 R bm cm ay ax aw bk bj j ce;have V:Hx ((acc++[d]).length=k+1):=by show _=_;rw [List.length_append,N.o];rfl
     obtain ⟨t4,a7⟩:=nm (tx ts s4 0);have T:=Aa a7;clear a7;have KT:=ztq b T.o;go_wp2_with fail;refine mo KT.o fun cw hb=>?_;replace b:=Aa (b.o.over hb);replace y:=Aa (y.o.over hb);clear KT hb;by_cases h44:tl ts s4 0=[44]
     ·have q4:(t4.toList == [44])=true:=DN T.o h44
      have hr:=f.o;rw [if_neg (fun e=>e.1 h44)] at hr;have ad:=Aa hr;clear hr f;go_wp2_with fail
      skip
      have ba:=aq.o;have av:=ag.o;have aa:=CT ts.length b.o.st;have A:=Du (L:=ts.length) (k:=k) (g:=g) (s:=s2) (s4:=s4) HF.o.1 ah.o (by rw [N.o];exact HF.o.2.1) (by omega) (M.o.imp id (fun h=>by omega)) b.o.st.2.1;exact ⟨⟨acc++[d],s4,g,by rw [V.o];exact y.o,b.o,ad.o,A.1,by rw [V.o];exact A.2.1⟩,by rw [aa,a5.o];exact A.2.2⟩
     ·have q4:(t4.toList == [44])=false:=Br T.o h44
      have KT:=ztq b T.o;go_wp2_with fail;refine mo KT.o fun b2 hb=>?_;replace b:=Aa (b.o.over hb);replace y:=Aa (y.o.over hb);clear KT hb;by_cases h41:tl ts s4 0=[41]
      ·have q5:(t4.toList == [41])=true:=DN T.o h41
       have hr:=f.o;rw [if_neg (fun e=>e.2 h41)] at hr;have ad:=Aa hr;clear hr f;go_wp2_with fail
       skip
       have ba:=aq.o;have av:=ag.o;have aa:=CT ts.length b.o.st;have A:=Du (L:=ts.length) (k:=k) (g:=g) (s:=s2) (s4:=s4) HF.o.1 ah.o (by rw [N.o];exact HF.o.2.1) (by omega) (M.o.imp id (fun h=>by omega)) b.o.st.2.1;exact ⟨⟨acc++[d],s4,g,by rw [V.o];exact y.o,b.o,ad.o,A.1,by rw [V.o];exact A.2.1⟩,by rw [aa,a5.o];exact A.2.2⟩
      ·have q5:(t4.toList == [41])=false:=Br T.o h41
       obtain ⟨am,al,rc2,P,c2,c1⟩:=b.o.st.cells;have Z:=b.o.st.fail;obtain ⟨Vf,bf⟩:=nm (b2.setCell ⟨rb,3,none⟩ (ze true));rw [<-bf] at Z;replace b:Hx (Rq rb tv ts en w m0 (CM s4) Vf):=b.o.call Z.2 Z.1 (Nat.le_refl _);replace y:=Aa (y.o.keep Z.2 b.o.rlt);clear Z;have hr:=f.o;rw [if_pos ⟨h44,h41⟩] at hr;have ad:=Aa hr;clear hr f;go_wp2_with fail;rw [<-bf];have ba:=aq.o;have av:=ag.o;have aa:=CT ts.length b.o.st;have A:=Du (L:=ts.length) (k:=k) (g:=g) (s:=s2) (s4:=(CM s4)) HF.o.1 ah.o (by rw [N.o];exact HF.o.2.1) (by show s2.1<=s4.1;omega) (Or.inl rfl) b.o.st.2.1;exact ⟨⟨acc++[d],(CM s4),g,by rw [V.o];exact y.o,b.o,ad.o,A.1,by rw [V.o];exact A.2.1⟩,by rw [aa,a5.o];exact A.2.2⟩
end
section
variable {rb:Nat} {tv:Value} {ts:List Tok} {en:Nat}
def Dk (rb:Nat) (tv:Value) (ts:List Tok) (en f:Nat) (w:World) (s:Sg) (r:D × Sg) (e:Ending) (w':World):Prop:=∃ (kd a:Int) (x y:ByteArray) (e0 e1 e2:Int) (e3:ByteArray) (q0:Option Addr) (q1 q2:Nat) (q3:Option Addr) (q4 q5:Nat) (q6:Option Addr) (q7 q8:Nat) (q9:Option Addr) (r0 r1:Nat),e=zi (zf #[O zc kd,O zc a,.string x,.string y,O zc e0,O zc e1,O zc e2,.string e3,zd q0 q1 q2,zd q3 q4 q5,zd q6 q7 q8,zd q9 r0 r1])/\Off w.heap.size none w' (fun W=>XC W f [O zc kd,O zc a,.string x,.string y,O zc e0,O zc e1,O zc e2,.string e3,zd q0 q1 q2,zd q3 q4 q5,zd q6 q7 q8,zd q9 r0 r1] r.1)/\(r.2.2=true\/s.1+1<=r.2.1)/\Qo rb tv ts en w s r.2 w'
def MA (rb:Nat) (tv:Value) (ts:List Tok) (en f:Nat):Prop:=∀ (s:Sg) (w:World),Sd rb tv ts en s w->s.2=false->2*(ts.length - s.1)+1<=f->Calls Tryz.prog 102 #[zh (some ⟨rb,0,none⟩)] w (Dk rb tv ts en f w s (C4 ts en f s))
def DL (rb:Nat) (tv:Value) (ts:List Tok) (en f:Nat):Prop:=∀ (x:ByteArray) (xl:List UInt8),x.data.toList=xl->∀ (s:Sg) (w:World),Sd rb tv ts en s w->(s.2=true\/2*(ts.length - s.1)+2<=f)->Calls Tryz.prog 59 #[zh (some ⟨rb,0,none⟩),.string x] w (F1 rb tv ts en 12 (fun W=>XC W f) w s (AH ts en f xl [] s))
theorem GT (g:Nat) (x:List UInt8) (acc:List D) (s:Sg) (h:s.2=true\/tl ts s 0=x):AH ts en g x acc s=(acc,s):=by
 match g with
 | 0=>rfl
 | 1=>rfl
 | g+2=>
  rw [AH,if_neg];rintro ⟨a,b⟩;rcases h with h | h
  ·rw [h] at a;cases a
  ·exact b h
theorem Lg (g:Nat) (hg:1<=g) (x:List UInt8) (acc:List D) (s:Sg) (h:s.2=false) (h2:¬ tl ts s 0=x):AH ts en (g+1) x acc s=AH ts en g x (acc++[(C4 ts en g s).1]) (C4 ts en g s).2:=by
 obtain ⟨g,rfl⟩:∃ q,g=q+1:=⟨g - 1,by omega⟩;rw [AH,if_pos ⟨h,h2⟩];rfl
theorem OT {L k g:Nat} {s s4:Sg} (h1:s.2=true\/2*(L - s.1)+2<=g+1) (hf:s.2=false) (hk:k+bN s.2<=s.1+1) (hle:s.1<=s4.1) (hlt:s4.2=true\/s.1+1<=s4.1) (h7:s4.1<=L):(s4.2=true\/2*(L - s4.1)+2<=g)/\k+1+bN s4.2<=s4.1+1/\(L - s4.1)+bN s4.2 < (L - s.1)+bN s.2:=by
 have f:2*(L - s.1)+2<=g+1:=h1.elim (fun h=>by rw [h] at hf;cases hf) id;rw [hf] at hk ⊢;have a:bN false=1:=rfl;have b:bN true=0:=rfl;rw [a] at hk ⊢
 cases h4:s4.2 with
 | true=>exact ⟨Or.inl rfl,by rw [b];omega,by rw [b];omega⟩
 | false=>
  rw [h4] at hlt;have c:s.1+1<=s4.1:=hlt.elim (fun h=>by cases h) id;exact ⟨Or.inr (by omega),by rw [a];omega,by rw [a];omega⟩
theorem Pu (f:Nat) (hS:∀ g,g < f->MA rb tv ts en g):DL rb tv ts en f:=by
 intro x xl aj s w h hf;obtain ⟨i0,hi,bz,bw,bv⟩:=info_parts Tryz.infoStm;obtain ⟨P,I⟩:=nm (AH ts en f xl [] s);rw [<-I];have B:=Aa I;have av:=Aa aj;have HS:=Aa hS;have cg:=Aa hf;obtain ⟨m0,ab⟩:=nm s.1;have j:=qst ab h;have az:=Aa ab;clear I ab h aj hS hf;go_enter Tryz.func59,Tryz.ntmps59;go_wp2_with fail;go_loopw [5] (fun l wr=>∃ (acc:List D) (s2:Sg) (g:Nat),Cop w.heap.size 55 12 (fun i cs W=>∀ x,acc[i]? = some x->XC W f cs x) acc.length l wr/\Rq rb tv ts en w m0 s2 wr/\AH ts en g xl acc s2=P/\(s2.2=true\/2*(ts.length - s2.1)+2<=g)/\g<=f/\acc.length+bN s2.2<=s2.1+1) (fun _ wr=>mQ rb ts.length wr)
 case atStart=>exact ⟨[],s,f,Cop.nil,j.o,B.o.symm,cg.o,Nat.le_refl _,by simp [bN];split <;> omega⟩
 case round=>
  obtain ⟨acc,s2,g,v,hd,hp,ap,ao,ar⟩:=hrel;have R:=hd.st;have an:s2.1<=ts.length/\ts.length<=6000:=⟨R.2.1,R.2.2.1⟩;obtain ⟨la,lc,b4,-⟩:=v.cells (by decide);subst b4;replace j:=Aa hd;have M:=Aa v;replace B:=Aa hp;have cd:=Aa (CT ts.length R);have ae:=Aa ao;have HF:=Aa (And.intro ap (And.intro ar an));have n:=Aa (BJ wr (some rb));obtain ⟨k,hk⟩:=nm acc.length;rw [<-hk] at M ⊢;have N:=Aa hk;clear v hd hp R ap ar an hk ao
  cases hfl:s2.2 with
  | true=>
   have HE:Hx (P=(acc,s2)):=by show _=_;rw [<-B.o];exact GT _ _ _ _ (Or.inl hfl)
   obtain ⟨ai,ah,rc2,Q,-,-⟩:=j.o.st.cells;rw [hfl] at Q;clear hfl;have A:=M.o;rw [N.o] at A;have J:acc.length<=6001:=by have:=HF.o;unfold bN at this;omega
   obtain ⟨a,c,hv,b⟩:=Cop.ls A (by decide) (by omega);injection hv with v1 Z v3;subst v1 v3;have K:=Aa (b.keep n.o j.o.rlt);have af:=Aa J;clear A b J Z;go_wp2_with fail;go_ret;rw [HE.o];exact ⟨la,lc,by rw [N.o];rfl,K.o,af.o,j.o.gr,j.o.st,by rw [<-az.o];exact j.o.le⟩
  | false=>
   obtain ⟨ai,ah,rc2,Q,-,-⟩:=j.o.st.cells;rw [hfl] at Q;have T:=Aa hfl;clear hfl;obtain ⟨t,ht⟩:=nm (tx ts s2 0);have KT:=ztq j ht;have Ht:=Aa ht;clear ht;go_wp2_with fail;clear Q rc2 ah ai;refine mo KT.o fun bs hb=>?_;clear KT;replace n:=Aa (Ac n.o (Ae (r:=some rb) hb));replace j:=Aa (j.o.over hb);clear hb;by_cases hx1:tl ts s2 0=xl
   ·have HE:Hx (P=(acc,s2)):=by show _=_;rw [<-B.o];exact GT _ _ _ _ (Or.inr hx1)
    have q1:(t.toList == x.toList)=true:=by rw [teq,Ht.o,av.o];exact decide_eq_true hx1
    clear hx1;have A:=M.o;rw [N.o] at A;have J:acc.length<=6001:=by have:=HF.o;unfold bN at this;omega
    obtain ⟨a,c,hv,b⟩:=Cop.ls A (by decide) (by omega);injection hv with v1 Z v3;subst v1 v3;have K:=Aa (b.keep n.o j.o.rlt);have af:=Aa J;clear A b J Z;go_wp2_with fail;go_ret;rw [HE.o];exact ⟨la,lc,by rw [N.o];rfl,K.o,af.o,j.o.gr,j.o.st,by rw [<-az.o];exact j.o.le⟩
   ·have q1:(t.toList == x.toList)=false:=by rw [teq,Ht.o,av.o];exact decide_eq_false hx1
    have b7:2*(ts.length - s2.1)+2<=g:=HF.o.1.elim (fun h=>by rw [T.o] at h;cases h) id;obtain ⟨g,rfl⟩:∃ g',g=g' + 1:=⟨g - 1,by omega⟩;have hr:=B.o;rw [Lg _ (by omega) _ _ _ T.o hx1] at hr;obtain ⟨pd,am⟩:=nm (C4 ts en g s2);have KE:=Aa (HS.o g (by have:=ae.o;omega) s2 _ j.o.st T.o (by omega));rw [<-am] at KE hr;obtain ⟨d,s4⟩:=pd;dsimp only at hr;replace B:Hx (_=P):=hr;clear hr hx1 am b7;go_wp2_with fail;clear q1;obtain ⟨z,hz⟩:=nm bs.heap.size;have cc:=zsq j hz;have ce:Hx (wr.heap.size<=z):=by show _<=_;rw [hz];exact n.o.size
    refine KE.o.mono ?_;rintro e H ⟨kd,a9,x9,y9,e0,e1,e2,e3,q0,q1,q2,q3,q4,q5,q6,q7,q8,q9,r0,r1,rfl,b,ac,hq⟩;dsimp only at b hq ac;rw [<-hz] at b;have aw:=Aa b;have a0:=Aa ac;have a1:=Aa hq.2.2;clear KE b hz ac;replace n:=Aa (Ac n.o hq.1);replace j:=zrq j hq;clear hq;obtain ⟨W4,G⟩:=nm (H.alloc (zg #[O zc kd,O zc a9,.string x9,.string y9,O zc e0,O zc e1,O zc e2,.string e3,zd q0 q1 q2,zd q3 q4 q5,zd q6 q7 q8,zd q9 r0 r1] 55));have F:=(aov G).o;obtain ⟨xs,C,U⟩:=(M.o.keep (Ac n.o (Ae (r:=some rb) F)) j.o.rlt);have ay:Hx (Ad [O zc kd,O zc a9,.string x9,.string y9,O zc e0,O zc e1,O zc e2,.string e3,zd q0 q1 q2,zd q3 q4 q5,zd q6 q7 q8,zd q9 r0 r1] W4 H.heap.size):=by show Ad _ _ _;rw [G];exact A5 H [O zc kd,O zc a9,.string x9,.string y9,O zc e0,O zc e1,O zc e2,.string e3,zd q0 q1 q2,zd q3 q4 q5,zd q6 q7 q8,zd q9 r0 r1] 55
    have Y:=Aa (aw.o.over F);have au:w.heap.size<=W4.heap.size:=Nat.le_trans j.o.size F.size;have V:Hx (∀ g,(Value.slice la k lc).ownBlock=some g->g < z):=fun g hg=>by
     obtain ⟨ys,h1,-⟩:=M.o;exact Nat.lt_of_lt_of_le (AL h1 hg).2 ce.o
    have X:=Aa U;have a2:=Aa (j.o.over F);have cf:=Aa (Ac n.o (Ae (r:=some rb) F));have b5:k<=6001:=by have h1:=HF.o;have h2:=N.o;omega
    clear F U;go_wp2_with (at_builtin;(try rw [<-G]);refine wpList_append_own_at _ rfl _ _ 23 rfl w.heap.size 55 i0 (zf #[O zc 0,O zc 0,.string ⟨#[]⟩,.string ⟨#[]⟩,O zc 0,O zc 0,O zc 0,.string ⟨#[]⟩,zd none 0 0,zd none 0 0,zd none 0 0,zd none 0 0]) 12 184 Tryz.underlying23 hi bz bw bv rfl (by decide) _ _ _ rfl C ⟨H.heap.size,0,none⟩ 1 1 [O zc kd,O zc a9,.string x9,.string y9,O zc e0,O zc e1,O zc e2,.string e3,zd q0 q1 q2,zd q3 q4 q5,zd q6 q7 q8,zd q9 r0 r1] rfl rfl (fun jj u hu=>by rw [Addr.add_lit,Nat.zero_add];exact ay.o jj u hu) (by simp [Value.oneCell']) (by unfold maxLen;omega) (by omega) au ?_);intro Z W5 y E _ S;rw [<-G] at E;have ak:W4.heap.size=H.heap.size+1:=by rw [G];simp
    replace S:Z.ownBlock=(Value.slice la k lc).ownBlock\/Z.ownBlock=some W4.heap.size:=by rw [ak];simpa using S
    have v:Cop w.heap.size 55 12 (fun i cs W=>∀ x,(acc++[d])[i]? = some x->XC W f cs x) (k+1) Z W5:=Cop.add (B1:=z) C (fun i hi=>by
      obtain ⟨ds,z1,z2,z3⟩:=X.o i hi;exact ⟨ds,z1,z2,z3.imp fun W hW x hx=>hW x (by rw [List.getElem?_append_left (by rw [<-N.o];exact hi)] at hx;exact hx)⟩) rfl (Y.o.imp fun W hW x hx=>by
       rw [List.getElem?_append_right (by rw [N.o];exact Nat.le_refl _),N.o,Nat.sub_self] at hx;injection hx with hx;rw [<-hx];exact XC.mono (by have:=ae.o;omega) hW) cc.o V.o y E S
    have aq:=a2.o.row C (Nat.le_refl _) E;obtain ⟨cr,cp,cq,b0⟩:=AP y;subst b0;replace j:=Aa aq;have a3:=Aa v;clear v aq C y E S au ak G a2 cf Y X V ay aw n b5;have ax:Hx ((acc++[d]).length=k+1):=by show _=_;rw [List.length_append,N.o];rfl
    go_wp2_with fail;have b3:=CT ts.length j.o.st;have ad:=OT (L:=ts.length) (k:=k) (g:=g) (s:=s2) (s4:=s4) HF.o.1 T.o (by rw [N.o];exact HF.o.2.1) a1.o a0.o j.o.st.2.1;exact ⟨⟨acc++[d],s4,g,by rw [ax.o];exact a3.o,j.o,B.o,ad.1,by have:=ae.o;omega,by rw [ax.o];exact ad.2.1⟩,by rw [b3,cd.o];exact ad.2.2⟩
theorem GI (f:Nat) (hS:DL rb tv ts en f) (s:Sg) (w:World) (h:Sd rb tv ts en s w) (hf:s.2=true\/2*(ts.length - s.1)<=f):Calls Tryz.prog 27 #[zh (some ⟨rb,0,none⟩)] w (F1 rb tv ts en 12 (fun W=>XC W f) w s (Bd ts (fun s=>AH ts en f [125] [] s) s)):=by
 obtain ⟨F,c⟩:=nm (Bd ts (fun s=>AH ts en f [125] [] s) s);rw [<-c];have g:Hx (F=(fun p:List D × Sg=>(p.1,Ak ts [125] p.2)) (AH ts en f [125] [] (Ak ts [123] s))):=c;obtain ⟨Y,r⟩:=nm s.1;have b:=qst r h;have J:=Aa r;have R:=Aa hS;have S:=Aa hf;clear c r h hS hf;go_enter Tryz.func27,Tryz.ntmps27;obtain ⟨s1,C,B⟩:=ned ⟨#[123]⟩ [123] rfl (by decide) b;rw [<-C.o] at g;go_wp2_with fail;refine mo B.o fun M i=>?_;clear B;replace b:=zrq b i;clear i;have y:s1.2=true\/2*(ts.length - s1.1)+2<=f:=by
  have x:=C.o;have h2:=S.o;have L:=b.o.st.2.1;unfold Ak at x;split at x
  ·rename_i Q
   rw [x];exact Or.inl Q
  ·split at x
   ·rw [x] at L ⊢
    rcases h2 with h2 | h2
    ·contradiction
    ·right
     dsimp only at L ⊢;omega
   ·rw [x];exact Or.inl rfl
 obtain ⟨N,A⟩:=nm (AH ts en f [125] [] s1);have H:=Aa (R.o ⟨#[125]⟩ [125] rfl s1 _ b.o.st y);rw [<-A] at H g;obtain ⟨l,X⟩:=N;dsimp only at g;clear A y;go_wp2_with fail;obtain ⟨z,G⟩:=nm M.heap.size;have E:=zsq b G;refine H.o.mono ?_;rintro e U ⟨P,O,rfl,a,n,i⟩;dsimp only at a i n;rw [<-G] at a;obtain ⟨Z,j⟩:=nm l.length;rw [<-j] at a n;try dsimp only
 rw [<-j];have v:=Aa j;have u:=Aa a;have K:=Aa n;clear H a G j n;replace b:=zrq b i;clear i;obtain ⟨V,I,B⟩:=ned ⟨#[125]⟩ [125] rfl (by decide) b;rw [<-I.o] at g;go_wp2_with fail;refine mo B.o fun T i=>?_;clear B;replace u:=zdq u i b E;replace b:=zrq b i;clear i;go_wp2_with fail;go_ret;rw [g.o];exact ⟨P,O,by rw [v.o];rfl,by dsimp only;rw [<-v.o];exact u.o.base E.o,by dsimp only;rw [<-v.o];exact K.o,b.o.gr,b.o.st,by rw [<-J.o];exact b.o.le⟩
end
end Go.Proofs.YtipngnjffjajpaaGreatDoor.Tx
