/- A run of any program: every command. -/
import Derived.Test.YtfffpjkcfnekaaaGreatE10
import Derived.Laws.EntriesVeiled
import Derived.Laws.OwnMore
set_option linter.unusedVariables false
set_option maxHeartbeats 8000000
set_option maxRecDepth 100000
namespace Go.Proofs.YtfffpjkcfnekaaaGreat.Ex
open Go.RowKit
open Go.Value renaming slice -> O, int -> zd, bool -> zg, agg -> zh, pointer -> zi, tuple -> zk
open Go.IntKind renaming i64 -> U
open Go.Obj renaming cells -> ze
open Go.Ending renaming returned -> zj
theorem Sl (K kf:Nat) (fs) (F:Nat) (ins) (ob:Ob) (g k:Nat) (d:D) (l:List D) (a:Int) (dp:Nat) (st:RSt):rn K kf fs F ins ob (g+1) 1 k (d::l) a dp st =
   if Ag d=2 then A0 (rn K kf fs F ins ob g 0 kf (BV fs (Ae d)).body (A2 kf (fs.take (Ae d).toNat)) dp (st.args K fs d)) (fun st1=>A0 (Bq ob 3 a dp d st1) (fun st'=>(true,st'.setv (Ap d) (AC st'.vars K (BV fs (Ae d)).res))))
   else if Ag d=7 then (if AC st.vars K (Am d)=0 then rn K kf fs F ins ob g 0 (k - 1) (Ao d) (a+1+AI (k - 1) (Aj d)) (dp+1) st else rn K kf fs F ins ob g 0 (k - 1) (Aj d) (a+1) (dp+1) st)
   else if Ag d=8 then rn K kf fs F ins ob g 2 k [d] a dp st
   else (true,DR K ins d a st):=by
 simp only [rn]
theorem Qf {ins:List (List Int)} (h:∀ x∈ins,∀ y∈x,I32 y) (st:RSt) (c:Int):I32 (Dj ins st c):=by
 unfold Dj;rw [List.getD_eq_getElem?_getD,List.getD_eq_getElem?_getD];have z:I32 0:=⟨by omega,by omega⟩
 cases hc:ins[c.toNat]? with
 | none=>simpa using z
 | some l=>
  simp only [Option.getD_some]
  cases hy:l[(st.taken.getD c.toNat 0).toNat]? with
  | none=>simpa using z
  | some y=>simpa using h l (List.mem_of_getElem? hc) y (List.mem_of_getElem? hy)
theorem OP (I:Ca) (K kf:Nat) (m:Int) (ga gn gc sa sn sc ya yn yc oa on oc va vn vc fa fn fc ba bn bc xa xn xc) (F fln c3:Nat) (br b1 b2 b3:Nat) (fl fs ins) (w0:World) (g:Nat) (X:PT I K kf m ga gn gc sa sn sc ya yn yc oa on oc va vn vc fa fn fc ba bn bc xa xn xc F fln c3 br b1 b2 b3 fl fs ins w0) (HS:∀ g',g' < g->Mx I K kf m ga gn gc sa sn sc ya yn yc oa on oc va vn vc fa fn fc ba bn bc xa xn xc F fln c3 br b1 b2 b3 fl fs ins w0 g'):RH I K kf m ga gn gc sa sn sc ya yn yc oa on oc va vn vc fa fn fc ba bn bc xa xn xc F fln c3 br b1 b2 b3 fl fs ins w0 g:=by
 intro k cs d c a l st ev w ao hc bd ha c5 cx ag h V ay hg;obtain ⟨C,rfl⟩:∃ C,k=C + 1:=by
  cases k with
  | zero=>exact ao.elim
  | succ k=>exact ⟨k,rfl⟩
 obtain ⟨g2,rfl⟩:∃ g2,g=g2+1:=⟨g - 1,by omega⟩;have cy:CY (C + 1) d=1+AI C (Aj d)+AI C (Ao d):=rfl;have b:=V.ok;have p:st.vars.length=vn:=b.vl;have av:=bd;obtain ⟨R,Q,P,N,O,T,S,H,G,M,L,rfl,-,-,-,hX,hA,hT,hE,-,-,-⟩:=ao.form;obtain ⟨⟨⟨k1,k8⟩,t,a3,be,aw,-,-⟩,au,bb⟩:=bd;have ad:=hX.over ag;have J:(Ag d=1\/4<=Ag d)->okX st.vars.length K (Am d):=fun hk=>by rw [p];exact EK hX (aw hk)
 have ax:(Ag d=1\/4<=Ag d)->I32 (AC st.vars K (Am d)):=fun hk=>Fv b.i32 K _ (J hk);have hF:=X.fuel;have u:=X.vars;have co:st.steps<=F:=b.sb;have a2:st.ev.length<=2000:=by have:=b.el;omega
 rw [Sl];rcases (by omega:Ag d=1\/Ag d=2\/Ag d=3\/Ag d=4\/Ag d=5\/Ag d=6\/Ag d=7\/Ag d=8) with hk | hk | hk | hk | hk | hk | hk | hk
 ·rw [if_neg (by omega),if_neg (by omega),if_neg (by omega)]
  obtain ⟨v0,v1⟩:=t (by omega);obtain ⟨n,hn⟩:=Int.eq_ofNat_of_zero_le v0;have he:DR K ins d a st=st.setv (Ap d) (AC st.vars K (Am d)):=by unfold DR;rw [if_pos hk]
  rw [he,hk,hn];refine (RY m ga gn gc sa sn sc ya yn yc oa on oc va vn vc fa fn fc ba bn bc xa xn xc F fln c3 w0.heap.size br b1 b2 b3 fl l st ev K (Am d) n (Ae d) R Q P N O T (Ai d).length S H (Aj d).length G M (Ao d).length L a w h ad (J (by omega)) b.i32 (by rw [p];omega) (by rw [p];exact u)).mono ?_;rintro e w' ⟨h1,h2,h3⟩;exact ⟨h1,⟨ev,h2,h3⟩,b.setv (ax (by omega))⟩
 ·rw [if_pos hk]
  obtain ⟨v0,v1⟩:=t (by omega);obtain ⟨n,hn⟩:=Int.eq_ofNat_of_zero_le v0;obtain ⟨⟨o0,o1⟩,b4,a4⟩:=a3 hk;obtain ⟨f,ab⟩:=Int.eq_ofNat_of_zero_le o0;have A:f < fs.length:=by omega
  obtain ⟨-,c8,ch,b6,bh⟩:=X.funcs;injection b6 with e1 e2 e3;obtain ⟨fb,ah,b7,a1⟩:=bh (by intro hz;rw [hz] at A;simp at A);have cd:=e1.trans b7;subst cd;obtain ⟨vP,vB,x0,x1,x2,f0,f1,f2,f3,f4,hp,⟨cp,qa,qc,bv,cq⟩,bl,hx⟩:=a1 f A;subst bv;have bk:=bl;obtain ⟨-,za,zc,bx,-⟩:=bk;subst bx;obtain ⟨ra,rc,a9⟩:=hx.form;simp only [List.cons.injEq,and_true] at a9;obtain ⟨rfl,rfl,rfl⟩:=a9;obtain ⟨c2,ca,b8,b9⟩:=X.body f A;have bi:BV fs (Ae d)=fs[f]:=by rw [ab];simp [BV,A]
  have b5:fs[f].ps.length=(Ai d).length:=b4 _ (by rw [ab];simp [A]);have bf:(Ae d).toNat=f:=by rw [ab];rfl
  have bg:fl[f]? = some ((A2 kf (fs.take f):Nat):Int):=by
   rw [X.flE,List.getElem?_map,List.getElem?_range (by omega)];rfl
  have cz:A2 kf (fs.take f)+AI kf fs[f].body<=50:=by
   have h1:=DF (k:=kf) A;have h2:A2 kf fs=A2 kf (fs.take (f + 1))+A2 kf (fs.drop (f + 1)):=by
    unfold A2;rw [<-List.sum_append,<-List.map_append,List.take_append_drop]
   have:=X.cnt;omega
  have bm:∀ x∈Ai d,okX vn K x:=fun x an=>by
   obtain ⟨j,hj⟩:=List.mem_iff_getElem?.1 an;obtain ⟨-,df,de,c4,bo⟩:=hA;obtain ⟨eb,eo,cv,a5⟩:=bo (by intro hz;rw [hz] at an;cases an);obtain ⟨cs,-,-,bz⟩:=a5 j x hj;exact EK bz (a4 x an)
  have b0:rn K kf fs F ins I.ob g2 0 kf (BV fs (Ae d)).body (A2 kf (fs.take (Ae d).toNat)) l (st.args K fs d)=rn K kf fs F ins I.ob g2 0 kf fs[f].body (A2 kf (fs.take f)) l { st with vars:=BP st.vars (fs[f].ps.zip ((Ai d).map (AC st.vars K))) }:=by
   unfold RSt.args;rw [bi,bf]
  have y:=ao;rw [hk,hn,ab] at y;rw [b0,bi,hk,hn,ab];refine RV m ga gn gc sa sn sc ya yn yc oa on oc va vn vc (some ⟨fb,ah,none⟩) fn fc ba bn bc xa xn xc F fln c3 w0.heap.size br b1 b2 b3 fl l st ev (n:Int) (f:Int) R Q P N O T (Ai d).length S H (Aj d).length G M (Ao d).length L a _ w0 w h ag (Aa fun W hW q=>?_);exact Tj m ga gn gc sa sn sc ya yn yc oa on oc va vn vc fn fc ba bn bc xa xn xc F fln c3 br b1 b2 b3 fl l d K kf g2 fs[f].ps (Ai d) fs[f].res _ n f fb ah R Q P N O T (Ai d).length S H (Aj d).length G M (Ao d).length L a qa fs[f].ps.length qc za fs[f].body.length zc (AQ fs[f].res) (Bk fs[f].res) ra (A4 fs[f].res).length rc w0 (fun st=>rn K kf fs F ins I.ob g2 0 kf fs[f].body (A2 kf (fs.take f)) l st)
   (by rw [X.fnE];exact A) (by omega) u (by rw [X.fnE];exact X.fn5) f0 f1 f2 f3 f4 hp ca b5 hA bm (by omega) hx (EK hx b9) bg (by rw [X.flE,X.flN];simp)
   (Aa fun s B W2 E i Z a0=>HS g2 (by omega) kf _ fs[f].body (f:Int) _ l s B W2 bl (by omega) b8 (by omega) (by omega) (by omega) i E Z a0)
   (Aa fun s B W2 E i=>Ff m ga gn gc sa sn sc ya yn yc oa on oc va vn vc (some ⟨fb,ah,none⟩) fn fc ba bn bc xa xn xc F fln c3 w0.heap.size br b1 b2 b3 fl l s B K (C + 1) fs w0 3 a 2 (n:Int) (f:Int) R Q P N O T (Ai d).length S H (Aj d).length G M (Ao d).length L d c W2 X.may i E y hc av ha (by omega) (by omega) (Or.inr (Or.inr ⟨rfl,hk⟩)))
   st ev W hW q b (by omega)
 ·rw [if_neg (by omega),if_neg (by omega),if_neg (by omega)]
  obtain ⟨v0,v1⟩:=t (by omega);obtain ⟨n,hn⟩:=Int.eq_ofNat_of_zero_le v0;have he:DR K ins d a st=(st.took (Ae d)).setv (Ap d) (Dj ins st (Ae d)):=by unfold DR;rw [if_neg (by omega),if_pos hk]
  obtain ⟨o0,o1⟩:=be hk;rw [he,hk,hn];refine (RU m ga gn gc sa sn sc ya yn yc oa on oc va vn vc fa fn fc ba bn bc xa xn xc F fln c3 w0.heap.size br b1 b2 b3 fl l st ev n (Ae d) R Q P N O T (Ai d).length S H (Aj d).length G M (Ao d).length L a ins w0 w h ag h.lo.2.2 X.lists o0 (by rw [X.many];exact o1) (by rw [X.many];exact b.tl.symm) (fun x hx=>⟨(b.tk x hx).1,by have:=(b.tk x hx).2;omega⟩) X.long (by rw [p];omega) (by rw [p];exact u)).mono ?_;rintro e w' ⟨h1,h2,h3⟩;exact ⟨h1,⟨ev,h2,h3⟩,(V.took _).setv (Qf X.num _ _)⟩
 ·rw [if_neg (by omega),if_neg (by omega),if_neg (by omega)]
  have he:DR K ins d a st=st.tell (1,a,Ae d,AC st.vars K (Am d)):=by unfold DR;rw [if_neg (by omega),if_neg (by omega),if_pos hk]
  rw [he,hk];refine (RT m ga gn gc sa sn sc ya yn yc oa on oc va vn vc fa fn fc ba bn bc xa xn xc F fln c3 w0.heap.size br b1 b2 b3 fl l st ev K (Am d) (Ap d) (Ae d) R Q P N O T (Ai d).length S H (Aj d).length G M (Ao d).length L a w h ad (J (by omega)) b.i32 a2).mono ?_;rintro e w' ⟨h1,ev',h2,h3⟩;exact ⟨h1,⟨ev',h2,h3⟩,V.tell _⟩
 ·rw [if_neg (by omega),if_neg (by omega),if_neg (by omega)]
  obtain ⟨v0,v1⟩:=t (by omega);obtain ⟨n,hn⟩:=Int.eq_ofNat_of_zero_le v0;have he:DR K ins d a st=(st.setv (Ap d) (AC st.vars K (Am d))).tell (2,a,Ap d,AC st.vars K (Am d)):=by unfold DR;rw [if_neg (by omega),if_neg (by omega),if_neg (by omega),if_pos hk]
  rw [he,hk,hn];refine (RR m ga gn gc sa sn sc ya yn yc oa on oc va vn vc fa fn fc ba bn bc xa xn xc F fln c3 w0.heap.size br b1 b2 b3 fl l st ev K (Am d) n (Ae d) R Q P N O T (Ai d).length S H (Aj d).length G M (Ao d).length L a w h ad (J (by omega)) b.i32 (by rw [p];omega) (by rw [p];exact u) a2).mono ?_;rintro e w' ⟨h1,ev',h2,h3⟩;exact ⟨h1,⟨ev',h2,h3⟩,(V.setv (ax (by omega))).tell _⟩
 ·rw [if_neg (by omega),if_neg (by omega),if_neg (by omega)]
  obtain ⟨v0,v1⟩:=t (by omega);obtain ⟨n,hn⟩:=Int.eq_ofNat_of_zero_le v0;have he:DR K ins d a st=(st.setv (Ap d) (AC st.vars K (Am d))).tell (3,a,Ap d,AC st.vars K (Am d)):=by unfold DR;rw [if_neg (by omega),if_neg (by omega),if_neg (by omega),if_neg (by omega),if_pos hk]
  rw [he,hk,hn];refine (RQ m ga gn gc sa sn sc ya yn yc oa on oc va vn vc fa fn fc ba bn bc xa xn xc F fln c3 w0.heap.size br b1 b2 b3 fl l st ev K (Am d) n (Ae d) R Q P N O T (Ai d).length S H (Aj d).length G M (Ao d).length L a w h ad (J (by omega)) b.i32 (by rw [p];omega) (by rw [p];exact u) a2).mono ?_;rintro e w' ⟨h1,ev',h2,h3⟩;exact ⟨h1,⟨ev',h2,h3⟩,(V.setv (ax (by omega))).tell _⟩
 ·rw [if_neg (by omega),if_pos hk]
  rw [hk];exact RP m ga gn gc sa sn sc ya yn yc oa on oc va vn vc fa fn fc ba bn bc xa xn xc F fln c3 w0.heap.size br b1 b2 b3 fl l st ev K (Am d) (Ap d) (Ae d) R Q P N O T (Ai d).length S H (Aj d).length G M (Ao d).length L a (AI C (Aj d):Nat) _ _ w0 w h ag ad (J (by omega)) b.i32 (by omega) (by omega)
   (Aa fun W hW q=>(Jz m ga gn gc sa sn sc ya yn yc oa on oc va vn vc fa fn fc ba bn bc xa xn xc F fln c3 w0.heap.size br b1 b2 b3 fl l st ev H (Aj d).length G (a+1) _ W (by omega) (ay (Or.inl hk)) hW (Aa fun W3 ae af=>HS g2 (by omega) C _ (Aj d) c (a+1) (l+1) st ev W3 hT hc au (by omega) (by omega) (by omega) (q.trans af) ae b (by omega))).mono (fun e w' hh=>⟨hh.1,hh.2.1,hh.2.2.1⟩))
   (Aa fun W hW q=>(Jz m ga gn gc sa sn sc ya yn yc oa on oc va vn vc fa fn fc ba bn bc xa xn xc F fln c3 w0.heap.size br b1 b2 b3 fl l st ev M (Ao d).length L (a+1+(AI C (Aj d):Nat)) _ W (by omega) (ay (Or.inl hk)) hW (Aa fun W3 ae af=>HS g2 (by omega) C _ (Ao d) c (a+1+(AI C (Aj d):Nat)) (l+1) st ev W3 hE hc bb (by omega) (by omega) (by omega) (q.trans af) ae b (by omega))).mono (fun e w' hh=>⟨hh.1,hh.2.1,hh.2.2.1⟩))
   (Aa fun W q=>FD K C _ (Aj d) W (hT.over q) (by omega))
 ·rw [if_neg (by omega),if_neg (by omega),if_pos hk]
  have y:=ao;rw [hk] at y;rw [hk];exact RO m ga gn gc sa sn sc ya yn yc oa on oc va vn vc fa fn fc ba bn bc xa xn xc F fln c3 w0.heap.size br b1 b2 b3 fl l st ev (Ap d) (Ae d) R Q P N O T (Ai d).length S H (Aj d).length G M (Ao d).length L a _ w0 w h ag
   (Aa fun W hW q=>Tg m ga gn gc sa sn sc ya yn yc oa on oc va vn vc fa fn fc ba bn bc xa xn xc F fln c3 w0.heap.size br b1 b2 b3 fl l K kf (C + 1) g2 fs ins d (Ap d) (Ae d) R Q P N O T (Ai d).length S H (Aj d).length G M (Ao d).length L a w0 hF (by omega) hX (EK hX (aw (by omega)))
    (Aa fun g' cu s B W2 E U i Z a0=>(Jz m ga gn gc sa sn sc ya yn yc oa on oc va vn vc fa fn fc ba bn bc xa xn xc F fln c3 w0.heap.size br b1 b2 b3 fl l s B H (Aj d).length G (a+1) _ W2 (by omega) U E (Aa fun W3 ae af=>HS g' (by omega) C _ (Aj d) c (a+1) (l+1) s B W3 hT hc au (by omega) (by omega) (by omega) (i.trans af) ae Z a0)))
    (Aa fun s B W2 E U i=>Ff m ga gn gc sa sn sc ya yn yc oa on oc va vn vc fa fn fc ba bn bc xa xn xc F fln c3 w0.heap.size br b1 b2 b3 fl l s B K (C + 1) fs w0 2 a 8 (Ap d) (Ae d) R Q P N O T (Ai d).length S H (Aj d).length G M (Ao d).length L d c W2 X.may i E y hc av ha (by omega) (by omega) (Or.inr (Or.inl ⟨rfl,hk,U⟩)))
    st ev W (ay (Or.inr hk)) rfl hW q b (by omega))
theorem Na (I:Ca) (K kf:Nat) (m:Int) (ga gn gc sa sn sc ya yn yc oa on oc va vn vc fa fn fc ba bn bc xa xn xc) (F fln c3:Nat) (br b1 b2 b3:Nat) (fl fs ins) (w0:World) (X:PT I K kf m ga gn gc sa sn sc ya yn yc oa on oc va vn vc fa fn fc ba bn bc xa xn xc F fln c3 br b1 b2 b3 fl fs ins w0):∀ g,Mx I K kf m ga gn gc sa sn sc ya yn yc oa on oc va vn vc fa fn fc ba bn bc xa xn xc F fln c3 br b1 b2 b3 fl fs ins w0 g:=by
 intro g
 induction g using Nat.strongRecOn with
 | ind g ih=>exact RN I K kf m ga gn gc sa sn sc ya yn yc oa on oc va vn vc fa fn fc ba bn bc xa xn xc F fln c3 br b1 b2 b3 fl fs ins w0 g X (Aa fun h e=>OP I K kf m ga gn gc sa sn sc ya yn yc oa on oc va vn vc fa fn fc ba bn bc xa xn xc F fln c3 br b1 b2 b3 fl fs ins w0 h X (fun f b=>ih f (Nat.lt_trans b e)))
def DZ (kf:Nat) (fs:List FnD) (j:Nat):List Int:=(List.range (j+1)).map (fun i=>((A2 kf (fs.take i):Nat):Int))
theorem NQ (kf:Nat) (fs) (j:Nat):DZ kf fs (j+1)=DZ kf fs j++[((A2 kf (fs.take (j+1)):Nat):Int)]:=by
 unfold DZ;rw [List.range_succ,List.map_append];rfl
theorem F9 (kf:Nat) (fs) (j:Nat):(DZ kf fs j)[j]? = some ((A2 kf (fs.take j):Nat):Int):=by
 unfold DZ;rw [List.getElem?_map,List.getElem?_range (by omega)];rfl
theorem Pn {w w':World} {a0 a1:Addr} {v0 v1:Value} (h:w.cell? a0=some v0/\w.cell? a1=some v1) (hb:Ov w w'):w'.cell? a0=some v0/\w'.cell? a1=some v1:=⟨Ab hb _ _ h.1,Ab hb _ _ h.2⟩
theorem Nr {W:World} {B e:Nat} {v:Value} {n:Nat} {xs:List Value} (h:W.ownsRow B e 1 v n xs) (hn:0 < n):∃ g cap,v=O (some ⟨g,0,none⟩) n cap/\B<=g/\g < W.heap.size/\Ad xs W g:=by
 rcases h.2 with ⟨_,y⟩ | ⟨g,cap,l,b,k,i,t,s,q,p⟩
 ·omega
 ·refine ⟨g,cap,b,k,(Array.getElem?_eq_some_iff.1 i).1,fun j u f=>?_⟩
  have:=h.cells (g:=g) (by rw [b];rfl) j u f
  rwa [Addr.add_lit,Nat.zero_add] at this
section
variable {ops:Array Oper} {o:Oper} {a:Act} {W:World} {K:Act->World->Prop} {Q:Exit->Act->World->Prop} {E:Prop}
theorem Nb (hg:o.guard=none) (s x:Operand) (hop:o.op=Op.call { callee:=Callee.builtin Builtin.append,args:=#[s,x],argTypes:=#[25,25] })
  (B b g cap n:Nat) (xs:List Value) (z:Int) (hs:a.eval s=O (some ⟨g,0,none⟩) n cap) (hx:a.eval x=O (some ⟨b,0,none⟩) 1 1)
  (hown:W.ownsRow B 3 1 (O (some ⟨g,0,none⟩) n cap) n xs) (hb:W.cell? ⟨b,0,none⟩=some (zd U z)) (hk:n<=1000) (hB:B<=W.heap.size)
  (h:∀ v' W',W'.ownsRow B 3 1 v' (n+1) (xs++[zd U z])->W.grownBy W' (some g)->(∀ j u,xs[j]? = some u->W'.cell? ⟨g,j,none⟩=some u)->K (a.put o.dst v') W') :
  if Region.wanted o (yielded ops a.tmps)=true then Oper.wp Tryz.prog o a W K Q else E:=by
 have hw:Region.wanted o (yielded ops a.tmps)=true:=by simp [Region.wanted,hg]
 rw [if_pos hw];obtain ⟨i,hi,C,y,A⟩:=info_parts Tryz.infoI;have e:∀ (j:Nat) (u:Value),([zd U z]:List Value)[j]? = some u->W.cell? ((⟨b,0,none⟩:Addr).add j)=some u:=by
  intro j u f;rw [Addr.add_lit]
  match j,f with
  | 0,f=>simp at f;subst f;simpa using hb
  | j+1,f=>simp at f
 have V:∀ u∈([zd U z]:List Value),u.oneCell'=true:=by intro u f;simp at f;subst f;rfl
 obtain ⟨v',M,H,T,h4,h5,h6⟩:=run_append_own_at (P:=Tryz.prog) W B 25 o.type 3 i _ 1 8 Tryz.underlying25 hi C y A (by rfl) (by decide) _ n xs hown ⟨b,0,none⟩ 1 1 [zd U z] rfl e V (by simp only [maxLen];omega) (by omega) hB;have p:∀ j u,xs[j]? = some u->M.cell? ⟨g,j,none⟩=some u:=by
  intro j u f;have F:(xs++[zd U z])[j]? = some u:=by rw [List.getElem?_append_left (List.getElem?_eq_some_iff.1 f).1];exact f
  have t:=hown.1;rcases hown.2 with ⟨C,_⟩ | ⟨g',Z,L,hv,ae,I,ac,ad,J,G⟩
  ·cases C
  ·injection hv with q q2 q3
   injection q with q;injection q with q;subst q;subst q3;by_cases hroom:n+1<=cap
   ·have k:=run_append_room (P:=Tryz.prog) W 25 o.type 3 i Tryz.underlying25 hi g n cap L I ⟨b,0,none⟩ 1 1 [zd U z] (by rw [y];rfl) e V hroom (by rw [y,J];simp;omega)
    rw [H] at k;injection k with R N;have:=T.cells (g:=g) (by rw [R];rfl) j u F
    rwa [Addr.add_lit,Nat.zero_add] at this
   ·have l:=hown.cells (g:=g) rfl
    have k:=run_append_grow (P:=Tryz.prog) W 25 o.type 3 i _ Tryz.underlying25 hi C ⟨g,0,none⟩ n cap xs (by rw [y];exact t) l ⟨b,0,none⟩ 1 1 [zd U z] (by rw [y];rfl) e (by omega) (by omega) (growslice_fits (by omega) (by rw [A];omega));rw [H] at k;injection k with R N;have S:=l j u f;rw [Addr.add_lit,Nat.zero_add] at S;rw [N];exact Ab ((bD W).alloc (Nat.le_refl _) _) _ _ S
 have hK:=h v' M T h4 p;unfold Oper.wp execOp;simp only [hop,resolve,invoke,builtin,Sem.run_bind,Sem.run_pure,Result.andThen_ok,List.map_toArray,List.map_cons,List.map_nil,hs,hx,H];exact hK
end
theorem L9 (K kf:Nat) (m:Int) (ga gn gc sa sn sc ya yn yc oa on oc va vn vc) (fa fn fc) (ba bn bc fs) (w:World) (hf:Bv w K kf (O fa fn fc) fs) (hcnt:A2 kf fs<=50) (hfn:fn<=5) :
  Calls Tryz.prog 118 #[zh #[zd U m,O ga gn gc,O sa sn sc,O ya yn yc,O oa on oc,O va vn vc,O fa fn fc,O ba bn bc]] w fun e w'=>∃ g cap,e=zj (O (some ⟨g,0,none⟩) (fs.length+1) cap)/\w.heap.size<=g/\g < w'.heap.size/\Ad (Cj (DZ kf fs fs.length)) w' g/\Ov w w':=by
 obtain ⟨i0,hi,b6,b5,b4⟩:=info_parts Tryz.infoI;have u:Ov w (w.alloc (ze #[zd U m,O ga gn gc,O sa sn sc,O ya yn yc,O oa on oc,O va vn vc,O fa fn fc,O ba bn bc] 31)):=bA w _;have bd:Ov w ((w.alloc (ze #[zd U m,O ga gn gc,O sa sn sc,O ya yn yc,O oa on oc,O va vn vc,O fa fn fc,O ba bn bc] 31)).alloc (ze #[zd U 0] 3)):=u.alloc (by simp) _;have hE:fn=fs.length:=by obtain ⟨-,a,c,he,-⟩:=hf;injection he
 have HE:=Aa hE;have HF:=Aa hf;have HC:=Aa hcnt;have S:Hx (((w.alloc (ze #[zd U m,O ga gn gc,O sa sn sc,O ya yn yc,O oa on oc,O va vn vc,O fa fn fc,O ba bn bc] 31)).alloc (ze #[zd U 0] 3)).ownsRow (w.heap.size+1) 3 1 (O (some ⟨w.heap.size+1,0,none⟩) 1 1) 1 (Cj (DZ kf fs 0))):=by
  have:=World.ownsRow_lit (base:=w.heap.size+1) (e:=3) (size:=1) (w.alloc (ze #[zd U m,O ga gn gc,O sa sn sc,O ya yn yc,O oa on oc,O va vn vc,O fa fn fc,O ba bn bc] 31)) #[zd U 0] 1 (by simp) (by unfold maxLen;omega) rfl;show World.ownsRow _ _ _ _ _ _ _;simpa [DZ,A2] using this
 have HB:Hx (Below (w.heap.size+1) (w.alloc (ze #[zd U m,O ga gn gc,O sa sn sc,O ya yn yc,O oa on oc,O va vn vc,O fa fn fc,O ba bn bc] 31)) ((w.alloc (ze #[zd U m,O ga gn gc,O sa sn sc,O ya yn yc,O oa on oc,O va vn vc,O fa fn fc,O ba bn bc] 31)).alloc (ze #[zd U 0] 3))):=(Below.refl _ _).alloc (by simp) _;have aq:=Aa u;clear bd hf hcnt hE;go_enter Tryz.func118,Tryz.ntmps118;go_wp2_with fail;go_loopw [3,10] (fun s i wr=>∃ j:Nat,j<=fn/\i=zd U j/\wr.ownsRow (w.heap.size+1) 3 1 s (j+1) (Cj (DZ kf fs j))/\Below (w.heap.size+1) (w.alloc (ze #[zd U m,O ga gn gc,O sa sn sc,O ya yn yc,O oa on oc,O va vn vc,O fa fn fc,O ba bn bc] 31)) wr) (fun _ i _=>fn - (intOf i).toNat)
 case atStart=>exact ⟨0,Nat.zero_le _,rfl,S.o,HB.o⟩
 case round=>
  clear S HB;obtain ⟨j,hj,rfl,f,hB⟩:=hrel;have l:Ov w wr:=aq.o.trans (hB.mono (by omega));obtain ⟨J1,F⟩:=nm (j+1);rw [<-F] at f;obtain ⟨g,cap,rfl,ca,a9,B⟩:=Nr f (by omega);have b9:(j:Int) < (J1:Int):=by omega
  have cc:J1<=10:=by omega
  have al:=Aa F;clear F;have am:=Aa B;have ak:=Aa f;have bk:=Aa hB;have bj:=Aa l;by_cases hjl:j < fn
  ·have p:j < fs.length:=by rw [<-HE.o];exact hjl
   obtain ⟨-,ao,bv,he,ab⟩:=HF.o;injection he with e1 e2 e3;obtain ⟨b,off,ac,t⟩:=ab (by intro hz;rw [hz] at p;simp at p);obtain ⟨vP,vB,x0,x1,x2,f0,f1,f2,f3,f4,-,⟨-,pa,pc,a4,-⟩,E,hx⟩:=t j p;have bf:=e1.trans ac;subst bf;subst a4;have ad:=E;obtain ⟨-,J,I,a5,-⟩:=ad;subst a5;obtain ⟨ra,rc,P⟩:=hx.form;simp only [List.cons.injEq,and_true] at P;obtain ⟨rfl,rfl,rfl⟩:=P;have C:=DF (k:=kf) p;have a6:A2 kf (fs.take (j+1))<=50:=by
    have y:A2 kf fs=A2 kf (fs.take (j+1))+A2 kf (fs.drop (j+1)):=by
     unfold A2;rw [<-List.sum_append,<-List.map_append,List.take_append_drop]
    have:=HC.o;omega
   have KM:=Aa fun W (hW:Ov w W)=>FD K kf _ fs[j].body W (E.over hW) (by omega);obtain ⟨m0,m1,m2,m3,m4⟩:=co5 l f0 f1 f2 f3 f4;obtain ⟨pl,aa⟩:=nm (fs[j].ps.length);obtain ⟨H,L⟩:=nm (fs[j].body.length);obtain ⟨rk,V⟩:=nm (AQ fs[j].res);obtain ⟨rN,Z⟩:=nm (Bk fs[j].res);obtain ⟨rl,T⟩:=nm ((A4 fs[j].res).length);rw [<-aa] at m0;rw [<-L] at m1 KM;rw [<-V] at m2;rw [<-Z] at m3;rw [<-T] at m4;obtain ⟨N,hN⟩:∃ N:Nat,N=AI kf fs[j].body:=⟨_,rfl⟩;obtain ⟨M,hM⟩:∃ M:Nat,M=A2 kf (fs.take j):=⟨_,rfl⟩;rw [<-hN,<-hM] at C;rw [<-hN] at KM;have cb:M+N<=50:=by omega
   have bi:=Aa C;have l0:wr.cell? ⟨g,j,none⟩=some (zd U (M:Int)):=by rw [hM];exact B j _ (by simp [F9])
   have q:=bA wr (ze #[O pa pl pc,O J H I,zd U rk,zd U rN,O ra rl rc] 105);have l1:=Ab q _ _ l0;have t1:(wr.alloc (ze #[O pa pl pc,O J H I,zd U rk,zd U rN,O ra rl rc] 105)).cell? ⟨wr.heap.size,1,none⟩=some (O J H I):=by simp [go_sem]
   have af:=l.trans (q.mono l.size);have ai:=Aa fun W (hW:Ov (wr.alloc (ze #[O pa pl pc,O J H I,zd U rk,zd U rN,O ra rl rc] 105)) W)=>KM.o W (af.trans (hW.mono af.size));have Q:w.heap.size+1<=wr.heap.size:=by have:=hB.size;simpa using this
   have bh:Hx ((Cj (DZ kf fs j))[j]? = some (zd U (M:Int))):=by
    show _=_;rw [hM];simp [F9]
   have a8:wr.heap.size≠g:=by omega
   clear ab t f0 f1 f2 f3 f4 E hx C a6 aa L V Z T hN hM e1 e2 e3 ac f hB l B KM l0;go_wp2_with fail;have R:Hx (∀ W,Ov wr W->W.ownsRow (w.heap.size+1) 3 1 (O (some ⟨g,0,none⟩) J1 cap) J1 (Cj (DZ kf fs j))):=fun W hW=>Bw ak.o hW;have bg:=Aa (ai.o _ (below_drewN (Below.refl _ _) 1));have G:=Aa q;have A:Hx (IntKind.i64.wrap ((M:Int)+(N:Int))=((M+N:Nat):Int)):=by
    show _=_;rw [IntWalk.i64_in _ (by omega)];omega
   clear ai am m0 m1 m2 m3 m4;go_region_held3 (fun W=>W.cell? ⟨g,j,none⟩=some (zd U (M:Int))/\W.cell? ⟨wr.heap.size,1,none⟩=some (O J H I)) (first | assumption | exact ⟨l1,t1⟩ | exact Pn (by assumption) hbp | exact Pn (by assumption) (bA _ _) | exact ⟨hkeep j _ bh.o,Bo hgr2 (by assumption:_/\_).2 a8⟩ | fail) (first | (go_at_call 181;refine (bg.o).mono ?_;rintro e wp ⟨rfl,hbp⟩) | (refine Nb rfl _ _ rfl (w.heap.size+1) wp.heap.size g cap J1 (Cj (DZ kf fs j)) (IntKind.i64.wrap ((M:Int)+(N:Int))) rfl rfl (R.o _ (Ac (Ac G.o.drew hbp) (bA _ _))) (by simp [go_sem]) (by omega) (Nat.le_trans (Nat.le_trans Q (Ac G.o.drew hbp).size) (bA _ _).size) ?_;intro v2 W2 h hgr2 hkeep));have ag:Below (w.heap.size+1) (w.alloc (ze #[zd U m,O ga gn gc,O sa sn sc,O ya yn yc,O oa on oc,O va vn vc,O (some ⟨b,off,none⟩) fn fc,O ba bn bc] 31)) W2:=by
    have hs:=hgr2.size;have h1:=Ac (Ac (G.o.drew) hbp) (bA wp (ze #[zd U (IntKind.i64.wrap ((M:Int)+(N:Int)))] 3));have y:=bk.o.trans (h1.mono Q);exact ⟨hgr2.os.trans y.os,hgr2.tape.trans y.tape,hgr2.output.trans y.output,Nat.le_trans y.size hs,fun k hk=>(hgr2.block k (by have:=h1.size;omega) (fun e=>by have:=Option.some.inj e;omega)).trans (y.block k hk)⟩
   have an:=Aa (And.intro h ag);clear h hgr2 hkeep ag hbp l1 t1 q;go_wp2_with fail;refine ⟨⟨j+1,by omega,by go_num,?_,an.o.2⟩,by simp [intOf];omega⟩;have h1:=an.o.1;rw [A.o] at h1;have y:=al.o;rw [NQ,bi.o,<-y];simpa [Cj] using h1
  ·have a7:j=fn:=by omega
   subst a7;go_wp2_with fail;go_ret;have hE:=HE.o;have hJ:=al.o;refine ⟨g,cap,?_,by omega,a9,?_,bj.o⟩
   ·rw [<-hE,<-hJ];rfl
   ·rw [<-hE]
    exact am.o
def CW (n:Nat):Array Value:=(List.replicate n (Value.int U 0)).toArray
theorem Rx (n:Nat) (hn:n<=100) (w:World):(Instr.makeSlice 25 (zd U n) (zd U n)).run Tryz.prog w=.ok (O (some ⟨w.heap.size,0,none⟩) n n) (w.alloc (.cells (CW n) 3)):=by
 obtain ⟨i,hi,g,f,b⟩:=info_parts Tryz.infoI;have:=run_make (P:=Tryz.prog) w 25 3 i (zd U 0) Tryz.underlying25 hi g U U (n:Int) (n:Int) (by omega) (by omega) (by rw [b];omega) (by omega);rw [this,f];simp only [Int.toNat_natCast,Nat.mul_one];have e:madeCells (Value.int U 0).cells n=CW n:=by
  unfold CW;apply Array.ext
  ·simp [madeCells]
  ·intro j f b
   simp [madeCells,Value.cells,Nat.mod_one]
 rw [e]
def st0 (vn yn:Nat) (o:WSt):RSt:=⟨[],List.replicate vn 0,List.replicate yn 0,0,0,0,o⟩
theorem Sg (vn yn F:Nat) (o:WSt):Bh vn yn F (st0 vn yn o):=by
 refine ⟨by simp [st0],by simp [st0],fun x b=>?_,fun x b=>?_,by simp [st0],by simp [st0]⟩
 ·have:=List.eq_of_mem_replicate b
  subst this;exact ⟨by omega,by omega⟩
 ·have:=List.eq_of_mem_replicate b
  subst this;simp [st0]
structure Ik (B:Nat) (R:List Value) (br b1 b2 b3:Nat) (fl:List Int) (vn yn:Nat) (w:World):Prop where
 row:Ad (O none 0 0::O (some ⟨b1,0,none⟩) vn vn::O (some ⟨b2,0,none⟩) yn yn::zd U 0::zd U 0::zd U 0::(R++[zd U 0,.nilFunc])) w br
 vars:Ad (Cj (List.replicate vn 0)) w b1
 taken:Ad (Cj (List.replicate yn 0)) w b2
 first:Ad (Cj fl) w b3
 z0:∀ j,w.frozen? ⟨br,j,none⟩=false
 z1:∀ j,w.frozen? ⟨b1,j,none⟩=false
 z2:∀ j,w.frozen? ⟨b2,j,none⟩=false
 apart:br≠b1/\br≠b2/\b1≠b2/\b3≠br/\b3≠b1/\b3≠b2
 lo:B<=br/\B<=b1/\B<=b2/\B<=b3
 hi:br < w.heap.size/\b1 < w.heap.size/\b2 < w.heap.size/\b3 < w.heap.size/\B<=w.heap.size
theorem Ik.over {B:Nat} {R:List Value} {br b1 b2 b3:Nat} {fl:List Int} {vn yn:Nat} {w w':World} (h:Ik B R br b1 b2 b3 fl vn yn w) (hb:Ov w w'):Ik B R br b1 b2 b3 fl vn yn w':=by
 obtain ⟨f,b⟩:=An hb;have e:=hb.size;have hi:=h.hi;exact ⟨h.row.over hb,h.vars.over hb,h.taken.over hb,h.first.over hb,fun j=>(b _ _ hi.1).trans (h.z0 j),fun j=>(b _ _ hi.2.1).trans (h.z1 j),fun j=>(b _ _ hi.2.2.1).trans (h.z2 j),h.apart,h.lo,⟨by omega,by omega,by omega,by omega,by omega⟩⟩
theorem Ik.new (B:Nat) (R:List Value) (w:World) (g:Nat) (fl) (vn yn:Nat) (hB:B<=w.heap.size) (hg:g < w.heap.size) (hgB:B<=g) (hr:Ad (Cj fl) w g) :
  Ik B R w.heap.size (w.heap.size+1) (w.heap.size+1+1) g fl vn yn (((w.alloc (.cells (O none 0 0::O (some ⟨w.heap.size+1,0,none⟩) vn vn::O (some ⟨w.heap.size+1+1,0,none⟩) yn yn::zd U 0::zd U 0::zd U 0::(R++[zd U 0,.nilFunc])).toArray 127)).alloc (.cells (CW vn) 3)).alloc (.cells (CW yn) 3)):=by
 have e:=bA w (.cells (O none 0 0::O (some ⟨w.heap.size+1,0,none⟩) vn vn::O (some ⟨w.heap.size+1+1,0,none⟩) yn yn::zd U 0::zd U 0::zd U 0::(R++[zd U 0,.nilFunc])).toArray 127);have b:=fun (W:World) (ob:Obj)=>bA W ob;refine ⟨?_,?_,?_,((hr.over e).over (b _ _)).over (b _ _),fun j=>by simp [go_sem],fun j=>by simp [go_sem],fun j=>by simp [go_sem],⟨by omega,by omega,by omega,by omega,by omega,by omega⟩,⟨hB,by omega,by omega,hgB⟩,⟨by simp;omega,by simp,by simp,by simp;omega,by simp;omega⟩⟩
 ·exact ((Ad.newA (O none 0 0::O (some ⟨w.heap.size+1,0,none⟩) vn vn::O (some ⟨w.heap.size+1+1,0,none⟩) yn yn::zd U 0::zd U 0::zd U 0::(R++[zd U 0,.nilFunc])).toArray 127 w).over (b _ (.cells (CW vn) 3))).over (b _ (.cells (CW yn) 3))
 ·have:=(Ad.newA (CW vn) 3 (w.alloc (.cells (O none 0 0::O (some ⟨w.heap.size+1,0,none⟩) vn vn::O (some ⟨w.heap.size+1+1,0,none⟩) yn yn::zd U 0::zd U 0::zd U 0::(R++[zd U 0,.nilFunc])).toArray 127))).over (b _ (.cells (CW yn) 3))
  simpa [CW,Cj] using this
 ·have:=Ad.newA (CW yn) 3 ((w.alloc (.cells (O none 0 0::O (some ⟨w.heap.size+1,0,none⟩) vn vn::O (some ⟨w.heap.size+1+1,0,none⟩) yn yn::zd U 0::zd U 0::zd U 0::(R++[zd U 0,.nilFunc])).toArray 127)).alloc (.cells (CW vn) 3))
  simpa [CW,Cj] using this
theorem Ik.begin {B:Nat} {a0 a1 a2 a3 a4 a5 a6 a7 a8 a9 a10:Value} {br b1 b2 b3:Nat} {fl:List Int} {vn yn:Nat} {w:World} (h:Ik B [a0,a1,a2,a3,a4,a5,a6,a7,a8,a9,a10] br b1 b2 b3 fl vn yn w) (I:Ca) (o:WSt) (X:Nat->Prop) (hI:I.In (Yb br b1 b2 (O none 0 0)) o X w) (hlo:∀ k,X k->B<=k) (hx3:¬ X b3) (hok:I.ok 0 o) :
  RnG I B [a0,a1,a2,a3,a4,a5,a6,a7,a8,a9,a10] br b1 b2 b3 fl 0 (st0 vn yn o) ⟨O none 0 0,X⟩ (w.setCell ⟨br,18,none⟩ (.func (.func I.fn) I.fre.toArray I.cap.toArray))/\Fr br b1 b2 ⟨O none 0 0,X⟩ ⟨O none 0 0,X⟩ w (w.setCell ⟨br,18,none⟩ (.func (.func I.fn) I.fre.toArray I.cap.toArray)):=by
 obtain ⟨l,i,C,f,A,y⟩:=h.apart;have g:=Bg (w:=w) (r:=br) (j:=18) (u:=.func (.func I.fn) I.fre.toArray I.cap.toArray);have e:∀ b,¬ X b->¬ (Ow.mk (O none 0 0) X).at b:=fun b s hx=>by
  rcases hx with hx | hx
  ·simp [Value.ownBlock] at hx
  ·exact s hx
 constructor
 ·refine ⟨?_,?_,?_,h.first.other f,World.ownsRow_nil _ _ _ _,fun k=>Be.trans (h.z0 k),fun k=>Be.trans (h.z1 k),fun k=>Be.trans (h.z2 k),h.apart,⟨e _ (fun q=>(I.lt hI _ q).2 (Or.inl rfl)),e _ (fun q=>(I.lt hI _ q).2 (Or.inr (Or.inl rfl))),e _ (fun q=>(I.lt hI _ q).2 (Or.inr (Or.inr (Or.inl rfl)))),e _ hx3⟩,⟨h.lo.1,h.lo.2.1,h.lo.2.2.1⟩,by simpa [World.setCell] using h.hi,?_,hlo,hok⟩
  ·have:=h.row.set (j:=18) (v:=.func (.func I.fn) I.fre.toArray I.cap.toArray) (by simp)
   simpa [st0] using this
  ·have:=h.vars.other (j:=18) (v:=.func (.func I.fn) I.fre.toArray I.cap.toArray) (Ne.symm l)
   simpa [st0] using this
  ·have:=h.taken.other (j:=18) (v:=.func (.func I.fn) I.fre.toArray I.cap.toArray) (Ne.symm i)
   simpa [st0] using this
  ·exact I.kept hI g.os g.tape g.output g.size (fun k hk p=>g.block k hk (fun q=>p (Or.inl (Option.some.inj q)))) (fun k hk=>Or.inl hk) (fun k hk=>Nat.lt_of_lt_of_le (MJ (World.ownsRow_nil w 0 0 0) h.hi.1 h.hi.2.1 h.hi.2.2.1 k hk) g.size)
 ·exact ⟨g.os,g.tape,g.output,g.size,fun k hk t _ _ _=>g.block k hk (by simpa using t),fun k hk=>Or.inl hk⟩
def QS (K kf:Nat) (m:Int) (ga:Option Addr) (gn gc:Nat) (sa:Option Addr) (sn sc:Nat) (ya:Option Addr) (yn yc:Nat) (oa:Option Addr) (on oc:Nat) (va:Option Addr) (vn vc:Nat) (fa:Option Addr) (fn fc:Nat) (ba:Option Addr) (bn bc:Nat) (xa:Option Addr) (xn xc:Nat) (ins:List (List Int)) (fuel:Int) (gs:List (Int × Int)) (sp:List Int) (ls ms:List Lab) (vs:List (Bool × Lab)) (fs:List FnD) (l:List D) (w:World) (e:Ending) (w':World):Prop:=
 ∃ why:Int,(why=0 ↔ okR K kf m vn yn on sn gs sp ls ms vs fs l ins fuel)/\Ov w w'/\((why≠0/\e=zj (zk #[zi none,zd U why]))\/(why=0/\∃ br b1 b2 b3 c3,e=zj (zk #[zi (some ⟨br,0,none⟩),zd U 0])/\Ik w.heap.size [zd U m,O ga gn gc,O sa sn sc,O ya yn yc,O oa on oc,O va vn vc,O fa fn fc,O ba bn bc,O xa xn xc,zd U fuel,O (some ⟨b3,0,none⟩) (fs.length+1) c3] br b1 b2 b3 (DZ kf fs fs.length) vn yn w'))
theorem QR (K kf:Nat) (m:Int) (ga gn gc sa sn sc ya yn yc oa on oc va vn vc fa fn fc ba bn bc) (xa xn xc) (ins) (fuel:Int) (gs sp ls ms vs fs l) (w:World) (h:BD K kf m ga gn gc sa sn sc ya yn yc oa on oc va vn vc fa fn fc ba bn bc gs sp ls ms vs fs l w) (hx:A8 w (O xa xn xc) ins) :
  Calls Tryz.prog 61 #[zh #[zd U m,O ga gn gc,O sa sn sc,O ya yn yc,O oa on oc,O va vn vc,O fa fn fc,O ba bn bc],O xa xn xc,zd U fuel] w (QS K kf m ga gn gc sa sn sc ya yn yc oa on oc va vn vc fa fn fc ba bn bc xa xn xc ins fuel gs sp ls ms vs fs l w):=by
 have f:Ov w (w.alloc (ze #[zd U m,O ga gn gc,O sa sn sc,O ya yn yc,O oa on oc,O va vn vc,O fa fn fc,O ba bn bc] 31)):=bA w _;have N:=Aa (h.over f);have K1:=Aa (Jl K kf m ga gn gc sa sn sc ya yn yc oa on oc va vn vc fa fn fc ba bn bc xa xn xc ins fuel gs sp ls ms vs fs l _ N.o (hx.over f));obtain ⟨c0,c1,c2,c3,c4,c5,c6,c7⟩:=rc8 (B3 w [zd U m,O ga gn gc,O sa sn sc,O ya yn yc,O oa on oc,O va vn vc,O fa fn fc,O ba bn bc] 31);have C:fn=fs.length:=by obtain ⟨-,a,c,he,-⟩:=h.funcs;injection he
 have P:=Aa C;clear h hx C;go_enter Tryz.func61,Tryz.ntmps61;go_wp2_with fail;refine (K1.o).mono ?_;rintro e w1 ⟨s,rfl,k,p⟩;obtain ⟨d0,Z,V,L,T,J,S,R⟩:=co8 p c0 c1 c2 c3 c4 c5 c6 c7;have M:=Aa (N.o.over p);have q:=f.trans (p.mono f.size);have Q:=Aa q;have u:=Aa k;clear K1 c0 c1 c2 c3 c4 c5 c6 c7 p N k f;by_cases hw:s=0;rotate_left
 ·have am:(s == 0)=false:=by simpa using hw
  clear q;go_wp2_with fail
  go_ret2
  exact ⟨s,u.o,Q.o,Or.inl ⟨hw,rfl⟩⟩
 subst hw;have k:=u.o.1 rfl;have i:=k.prog.ok;have E:=i.many;have A:=i.vars;have G:=i.ins;have KF:=Aa (L9 K kf m ga gn gc sa sn sc ya yn yc oa on oc va vn vc fa fn fc ba bn bc fs w1.drew (M.o.funcs.over (below_drewN (Below.refl _ _) 1)) (by omega) (by rw [P.o];exact i.funcs));have al:=Rx vn (by omega);have ak:=Rx yn (by omega);have b:=q.drew;clear k i E A G q;go_wp2_with fail;go_region_held3 (fun W=>W.cell? ⟨w.heap.size,0,none⟩=some (zd U m)/\W.cell? ⟨w.heap.size,1,none⟩=some (O ga gn gc)/\W.cell? ⟨w.heap.size,2,none⟩=some (O sa sn sc)/\W.cell? ⟨w.heap.size,3,none⟩=some (O ya yn yc)/\W.cell? ⟨w.heap.size,4,none⟩=some (O oa on oc)/\W.cell? ⟨w.heap.size,5,none⟩=some (O va vn vc)/\W.cell? ⟨w.heap.size,6,none⟩=some (O fa fn fc)/\W.cell? ⟨w.heap.size,7,none⟩=some (O ba bn bc)/\Ov w W) (first | assumption | exact ⟨d0,Z,V,L,T,J,S,R,b⟩ | exact Pv (by assumption) hbp | exact Pv (by assumption) (bA _ _) | fail) (first | (go_at_call 118;refine (KF.o).mono ?_;rintro e y ⟨g,cap,rfl,hg,I,B,hbp⟩));obtain ⟨e3,e5⟩:=co2 hbp L J;have H:=bL e3;have an:w.heap.size≠y.heap.size:=Nat.ne_of_lt H;have t:=b.trans (hbp.mono b.size);have HR:=Aa (Ik.new w.heap.size [zd U m,O ga gn gc,O sa sn sc,O ya yn yc,O oa on oc,O va vn vc,O fa fn fc,O ba bn bc,O xa xn xc,zd U fuel,O (some ⟨g,0,none⟩) (fs.length+1) cap] y g (DZ kf fs fs.length) vn yn t.size I (Nat.le_trans b.size hg) B);have F:=Aa t;clear d0 Z V L T J S R hbp b B t KF;go_wp2_with fail
 go_ret2
 have hs:=F.o.size;refine ⟨0,by simpa using u.o,?_,Or.inr ⟨rfl,y.heap.size,y.heap.size+1,y.heap.size+1+1,g,cap,rfl,?_⟩⟩
 ·exact (((F.o).alloc (by omega) _).alloc (by simp;omega) _).alloc (by simp;omega) _
 ·exact HR.o
def QI (r:Bool × RSt):RSt:=if r.1=true then { r.2 with en:=1 } else r.2
def Jk (K kf:Nat) (fs:List FnD) (F:Nat) (ins:List (List Int)) (ob:Ob) (l:List D) (vn yn:Nat) (o:WSt):RSt:=QI (rn K kf fs F ins ob 6001 0 kf l (A2 kf fs:Nat) 0 (st0 vn yn o))
theorem QH (kf:Nat) (fs):(DZ kf fs fs.length)[fs.length]? = some ((A2 kf fs:Nat):Int):=by
 rw [F9,List.take_length]
theorem doR (I:Ca) (K kf:Nat) (m:Int) (ga gn gc sa sn sc ya yn yc oa on oc va vn vc fa fn fc) (ba bn bc) (xa xn xc) (F fln c3:Nat) (br b1 b2 b3:Nat) (fl fs ins l) (o:WSt) (X0:Nat->Prop) (w0 w:World) (X:PT I K kf m ga gn gc sa sn sc ya yn yc oa on oc va vn vc fa fn fc ba bn bc xa xn xc F fln c3 br b1 b2 b3 fl fs ins w0) (hl:Bj w0 K kf (O ba bn bc) l) (hok:∀ s∈l,okS K vn yn on (fs.length:Int) fs kf s) (hcn:A2 kf fs+AI kf l<=50)
  (h:Ik w0.heap.size [zd U m,O ga gn gc,O sa sn sc,O ya yn yc,O oa on oc,O va vn vc,O fa fn fc,O ba bn bc,O xa xn xc,zd U (F:Int),O (some ⟨b3,0,none⟩) fln c3] br b1 b2 b3 fl vn yn w) (hB0:Ov w0 w) (hI:I.In (Yb br b1 b2 (O none 0 0)) o X0 w) (hlo:∀ k,X0 k->w0.heap.size<=k) (hx3:¬ X0 b3) (hok0:I.ok 0 o) :
  Calls Tryz.prog 63 #[zi (some ⟨br,0,none⟩),.func (.func I.fn) I.fre.toArray I.cap.toArray] w fun e w'=>e=zj (zk #[])/\∃ ev,RnG I w0.heap.size [zd U m,O ga gn gc,O sa sn sc,O ya yn yc,O oa on oc,O va vn vc,O fa fn fc,O ba bn bc,O xa xn xc,zd U (F:Int),O (some ⟨b3,0,none⟩) fln c3] br b1 b2 b3 fl 0 (Jk K kf fs F ins I.ob l vn yn o) ev w'/\Fr br b1 b2 ⟨O none 0 0,X0⟩ ev w w'/\Bh vn yn F (Jk K kf fs F ins I.ob l vn yn o):=by
 obtain ⟨J,f⟩:=h.begin I o X0 hI hlo hx3 hok0;have hF:=X.fuel;have S:Ov w0 (w.setCell ⟨br,18,none⟩ (.func (.func I.fn) I.fre.toArray I.cap.toArray)):=hB0.trans ⟨f.os,f.tape,f.output,f.size,fun k hk=>f.block k (Nat.lt_of_lt_of_le hk hB0.size) (by have:=h.lo;omega) (by have:=h.lo;omega) (by have:=h.lo;omega) (fun hx=>by have:=(J.ev' k hx).1;omega)⟩;have Q:fl=DZ kf fs fs.length:=X.flE;have H:fl[fs.length]? = some ((A2 kf fs:Nat):Int):=by rw [Q];exact QH kf fs
 have L:=Aa (Na I K kf m ga gn gc sa sn sc ya yn yc oa on oc va vn vc fa fn fc ba bn bc xa xn xc F fln c3 br b1 b2 b3 fl fs ins w0 X 6001 kf _ l (fs.length:Int) (A2 kf fs:Nat) 0 (st0 vn yn o) _ (w.setCell ⟨br,18,none⟩ (.func (.func I.fn) I.fre.toArray I.cap.toArray)).drew hl (Int.le_refl _) hok (by omega) (by omega) (by omega) S.drew (J.drewN 1) (Sg vn yn F o) (by show 3*(F - 0)+1<=6001;omega));have am:=h.row 18 _ rfl;have ag:=h.z0 18;have l0:=h.hi.1;have t:=J.row 12 _ rfl;have y:=J.row 13 _ rfl;have u:=J.row 16 _ rfl;have p:CE (w.setCell ⟨br,18,none⟩ (.func (.func I.fn) I.fre.toArray I.cap.toArray)) b3 fs.length (zd U ((A2 kf fs:Nat):Int)):=J.first fs.length _ (by simp [H]);have ac:=X.fnE;subst ac;have P:=X.flN;have ad:(fs.length:Int) < (fln:Int):=by omega
 have V:=Aa f;have B:Jk K kf fs F ins I.ob l vn yn o=QI (rn K kf fs F ins I.ob 6001 0 kf l (A2 kf fs:Nat) 0 (st0 vn yn o)):=rfl;rw [B];obtain ⟨T,hT⟩:=nm (rn K kf fs F ins I.ob 6001 0 kf l (A2 kf fs:Nat) 0 (st0 vn yn o));rw [<-hT] at L ⊢;have N:Hx (∀ W st ev,RnG I w0.heap.size [zd U m,O ga gn gc,O sa sn sc,O ya yn yc,O oa on oc,O va vn vc,O fa fs.length fc,O ba bn bc,O xa xn xc,zd U (F:Int),O (some ⟨b3,0,none⟩) fln c3] br b1 b2 b3 fl 0 st ev W->(CE W br 12 (O fa fs.length fc)/\CE W br 13 (O ba bn bc)/\CE W br 16 (O (some ⟨b3,0,none⟩) fln c3)/\CE W b3 fs.length (zd U ((A2 kf fs:Nat):Int)))):=fun W st ev hr=>⟨hr.row 12 _ rfl,hr.row 13 _ rfl,hr.row 16 _ rfl,hr.first fs.length _ (by simp [H])⟩;obtain ⟨C,hC⟩:∃ C:Int,C=((A2 kf fs:Nat):Int):=⟨_,rfl⟩;rw [<-hC] at L N p;obtain ⟨i,E⟩:=nm fs.length;rw [<-E] at L N p t ad ⊢;clear J f S Q H hT hC hl hok hcn P X h E B hI hlo hx3 hok0;obtain ⟨tb,Z⟩:=T
 cases tb with
 | false=>
  go_enter Tryz.func63,Tryz.ntmps63;go_wp2_with fail;go_region_held3 (fun W=>W.cell? ⟨br,12,none⟩=some (O fa i fc)/\W.cell? ⟨br,13,none⟩=some (O ba bn bc)/\W.cell? ⟨br,16,none⟩=some (O (some ⟨b3,0,none⟩) fln c3)/\W.cell? ⟨b3,i,none⟩=some (zd U C)) (first | assumption | exact ⟨t,y,u,p⟩ | exact N.o _ _ _ hr2 | fail) (first | (go_at_call 119;refine (L.o).mono ?_;rintro e wp ⟨R,⟨q,hr2,f⟩,g⟩;dsimp only at R;subst R));have b:RnG I w0.heap.size [zd U m,O ga gn gc,O sa sn sc,O ya yn yc,O oa on oc,O va vn vc,O fa i fc,O ba bn bc,O xa xn xc,zd U (F:Int),O (some ⟨b3,0,none⟩) fln c3] br b1 b2 b3 fl 0 Z q wp:=hr2;have d4:=b.row 4 _ rfl;have y4:=b.z0 4;have y0:=b.hi.1;have G:=Aa (show Bh vn yn F Z from g);have M:=Aa ((V.o.over (below_drewN (Below.refl _ _) 1)).trans f);have A:=Aa b;clear hr2 b f g L N t y u p;go_wp2_with fail;go_end0;exact ⟨rfl,q,A.o,M.o,G.o⟩
 | true=>
  go_enter Tryz.func63,Tryz.ntmps63;go_wp2_with fail;go_region_held3 (fun W=>W.cell? ⟨br,12,none⟩=some (O fa i fc)/\W.cell? ⟨br,13,none⟩=some (O ba bn bc)/\W.cell? ⟨br,16,none⟩=some (O (some ⟨b3,0,none⟩) fln c3)/\W.cell? ⟨b3,i,none⟩=some (zd U C)) (first | assumption | exact ⟨t,y,u,p⟩ | exact N.o _ _ _ hr2 | fail) (first | (go_at_call 119;refine (L.o).mono ?_;rintro e wp ⟨R,⟨q,hr2,f⟩,g⟩;dsimp only at R;subst R));have b:RnG I w0.heap.size [zd U m,O ga gn gc,O sa sn sc,O ya yn yc,O oa on oc,O va vn vc,O fa i fc,O ba bn bc,O xa xn xc,zd U (F:Int),O (some ⟨b3,0,none⟩) fln c3] br b1 b2 b3 fl 0 Z q wp:=hr2;have d4:=b.row 4 _ rfl;have y4:=b.z0 4;have y0:=b.hi.1;have G:=Aa (show Bh vn yn F Z from g);have M:=Aa ((V.o.over (below_drewN (Below.refl _ _) 1)).trans f);have A:=Aa b;clear hr2 b f g L N t y u p;go_wp2_with fail;go_end0;exact ⟨rfl,q,A.o.setEnd 1,M.o.trans (DX A.o _ _),⟨G.o.vl,G.o.tl,G.o.i32,G.o.tk,G.o.el,G.o.sb⟩⟩
structure WK where
 n:Nat
 K:Nat
 ins:List Lev
 outs:List Lev
 known:List Bool
 bound:List Lev
 fs:List FnD
 fl:List (Int × Int)
section
variable (c:WK)
def WSt.enter (s:WSt) (dp:Nat) (p:Lev):WSt:=⟨s.vs,s.ps.take (dp+1)++[p]⟩
def Cr (s:WSt) (p:Lev) (v:Int) (l:Lev):Bool:=Av p (s.vs.getD v.toNat Ah) c.n && (!c.known.getD v.toNat false || Av l (c.bound.getD v.toNat Ah) c.n)
def CC (s:WSt) (p:Lev) (v:Int) (l:Lev):Bool × WSt:=if Cr c s p v l=true then (true,⟨s.vs.set v.toNat l,s.ps⟩) else (false,s)
def withX (s:WSt) (p:Lev) (e:D):Lev:=A6 c.n s.vs p (AG c.K e)
def E3 (a:Int) (d:D):Bool:=c.known.getD (Ap d).toNat false && !c.fl.any (fun f=>decide (f.1=a) && (decide (f.2=6) || decide (f.2=7)))
def C6 (s:WSt) (p:Lev) (d:D):List (Int × Lev):=(BV c.fs (Ae d)).ps.zip ((Ai d).map (withX c s p))
def setLev (vs:List Lev) (q:List (Int × Lev)):List Lev:=q.foldl (fun vs x=>vs.set x.1.toNat x.2) vs
def Es (s:WSt) (p:Lev) (d:D):Bool × WSt:=if (C6 c s p d).all (fun x=>Cr c s p x.1 x.2)=true then (true,⟨setLev s.vs (C6 c s p d),s.ps⟩) else (false,s)
def doX (s:WSt) (a:Int) (d:D) (p:Lev):Bool × WSt:=
 if Ag d=2 then Es c s p d
 else if Ag d=3 then (if Av p (c.ins.getD (Ae d).toNat Ah) c.n=true then CC c s p (Ap d) (BA (c.ins.getD (Ae d).toNat Ah) p c.n) else (false,s))
 else if Ag d=4 then (Av (withX c s p (Am d)) (c.outs.getD (Ae d).toNat Ah) c.n,s)
 else if Ag d=5 then (if E3 c a d=true then CC c s p (Ap d) ⟨(c.bound.getD (Ap d).toNat Ah).r,(withX c s p (Am d)).w⟩ else (false,s))
 else if Ag d=6 then (if E3 c a d=true then CC c s p (Ap d) ⟨(withX c s p (Am d)).r,(c.bound.getD (Ap d).toNat Ah).w⟩ else (false,s))
 else CC c s p (Ap d) (withX c s p (Am d))
def obW:Ob:=fun kind a dp d s=>
 if kind=2 then (true,s.enter dp (withX c s (s.ps.getD (dp+1) Ah) (Am d)))
 else if kind=3 then CC c s (s.ps.getD dp Ah) (Ap d) (withX c s (s.ps.getD dp Ah) (BV c.fs (Ae d)).res)
 else if Ag d=7\/Ag d=8 then (true,s.enter dp (withX c s (s.ps.getD dp Ah) (Am d)))
 else doX c s a d (s.ps.getD dp Ah)
def FN (s:WSt):Prop:=∀ i,c.known.getD i false=true->i < s.vs.length->Av (s.vs.getD i Ah) (c.bound.getD i Ah) c.n=true
end
section
variable {c:WK}
theorem DE {l:List Lev} {i j:Nat} {x:Lev}:(l.set i x).getD j Ah=if i=j/\j < l.length then x else l.getD j Ah:=C9
theorem FN.set {s:WSt} (h:FN c s) {v:Int} {l:Lev} (hm:c.known.getD v.toNat false=true->Av l (c.bound.getD v.toNat Ah) c.n=true):FN c ⟨s.vs.set v.toNat l,s.ps⟩:=by
 intro i hk hi;have b:i < s.vs.length:=by simpa using hi
 show Av ((s.vs.set v.toNat l).getD i Ah) _ _=true;rw [DE];split
 ·rename_i e
  rw [e.1] at hm;exact hm hk
 ·exact h i hk b
theorem Br {s:WSt} {p:Lev} {v:Int} {l:Lev} (h:Cr c s p v l=true):c.known.getD v.toNat false=true->Av l (c.bound.getD v.toNat Ah) c.n=true:=by
 intro hk;unfold Cr at h;rw [hk] at h;simp at h;simpa using h.2
theorem Eu (s:WSt) (p) (v:Int) (l):(CC c s p v l).2.vs.length=s.vs.length:=by
 unfold CC;split
 ·simp
 ·rfl
end
theorem AD {W W':World} {B e s n:Nat} {v:Value} {xs:List Value} (h:W.ownsRow B e s v n xs) (hb:∀ g,v.ownBlock=some g->W'.heap[g]? = W.heap[g]?):W'.ownsRow B e s v n xs:=by
 refine ⟨h.1,?_⟩;rcases h.2 with l | ⟨g,cap,b,f,k,i,r⟩
 ·exact Or.inl l
 ·exact Or.inr ⟨g,cap,b,f,k,(hb g (by rw [f];rfl)).trans i,r⟩
def BE (n:Nat) (X:World->Nat->Prop) (B:Nat) (W:World) (v:Value) (Ls:List Lev):Prop:=
 ∃ us:List Value,W.ownsRow B 50 2 v Ls.length us/\∀ i (h:i < Ls.length),∃ x y,us[i*2]? = some x/\us[i*2+1]? = some y/\Aw n X W (zh #[x,y]) Ls[i]
section
variable {n B:Nat} {X:World->Nat->Prop} {W W':World} {v:Value} {Ls:List Lev}
theorem Ns (n:Nat) (X:World->Nat->Prop) (B:Nat) (W:World):BE n X B W (O none 0 0) []:=⟨[],World.ownsRow_nil ..,fun i h=>absurd h (by simp)⟩
theorem BE.lt (h:BE n X B W v Ls):∀ g,v.ownBlock=some g->B<=g/\g < W.heap.size:=by
 obtain ⟨e,b,-⟩:=h;exact b.lt
theorem BE.keep (n1:1<=n) (h:BE n X B W v Ls) (hf:FrW X W W') (hb:∀ g,v.ownBlock=some g->W'.heap[g]? = W.heap[g]?):BE n X B W' v Ls:=by
 obtain ⟨e,f,b⟩:=h;refine ⟨e,AD f hb,fun i hi=>?_⟩;obtain ⟨x,y,l,k,hl⟩:=b i hi;exact ⟨x,y,l,k,hl.keep n1 hf⟩
theorem BE.over (hX:XOk X) (h:BE n X B W v Ls) (hb:Ov W W'):BE n X B W' v Ls:=by
 obtain ⟨e,f,b⟩:=id h;refine ⟨e,AD f (fun g k=>hb.block g (h.lt g k).2),fun i hi=>?_⟩;obtain ⟨x,y,p,l,hl⟩:=b i hi;exact ⟨x,y,p,l,hl.over hX hb⟩
theorem BE.form (h:BE n X B W v Ls) (hne:0 < Ls.length):∃ g cap,v=O (some ⟨g,0,none⟩) Ls.length cap/\cap<=maxLen:=by
 obtain ⟨k,e,-⟩:=h;rcases e.2 with ⟨-,h⟩ | ⟨g,cap,i,b,-,-,-,f,-⟩
 ·omega
 ·exact ⟨g,cap,b,f⟩
theorem BE.cells (h:BE n X B W v Ls) {i:Nat} (hi:i < Ls.length):∃ g cap a1 a2 a3 a4 a5 a6,v=O (some ⟨g,0,none⟩) Ls.length cap/\W.cell? ⟨g,i*2,none⟩=some (O a1 a2 a3)/\W.cell? ⟨g,i*2+1,none⟩=some (O a4 a5 a6)/\Aw n X W (zh #[O a1 a2 a3,O a4 a5 a6]) Ls[i]:=by
 obtain ⟨g,cap,f,-⟩:=h.form (by omega);obtain ⟨p,b,e⟩:=h;obtain ⟨x,y,l,k,hl⟩:=e i hi;obtain ⟨a1,a2,a3,a4,a5,a6,rfl,rfl⟩:=AX hl.at_;rw [f] at b;exact ⟨g,cap,a1,a2,a3,a4,a5,a6,f,(b.cellAt _ (by omega)).trans l,(b.cellAt _ (by omega)).trans k,hl⟩
theorem BE.levs (h:BE n X B W v Ls):A9 n X W v Ls:=by
 by_cases hne:0 < Ls.length
 ·obtain ⟨g,cap,b,-⟩:=h.form hne
  refine ⟨some ⟨g,0,none⟩,cap,b,fun _=>⟨g,0,rfl,fun i hi=>?_⟩⟩;obtain ⟨t,k,H,G,F,E,C,A,e,c0,c1,hl⟩:=h.cells hi;rw [b] at e;injection e with f y u;injection f with f;injection f with f;subst f;exact ⟨_,_,by rw [Nat.zero_add];exact c0,by rw [Nat.zero_add];exact c1,hl⟩
 ·have p:Ls=[]:=List.length_eq_zero_iff.1 (by omega)
  subst p;obtain ⟨s,l,-⟩:=h;rcases l.2 with ⟨b,-⟩ | ⟨g,cap,q,b,-⟩
  ·exact ⟨none,0,b,fun h=>absurd rfl h⟩
  ·exact ⟨some ⟨g,0,none⟩,cap,b,fun h=>absurd rfl h⟩
theorem BE.take {g cap m:Nat} (h:BE n X B W (O (some ⟨g,0,none⟩) Ls.length cap) Ls) (hm:m<=Ls.length):BE n X B W (O (some ⟨g,0,none⟩) m cap) (Ls.take m):=by
 obtain ⟨s,p,e⟩:=h;have hl:(Ls.take m).length=m:=by simp;omega
 refine ⟨s.take (m*2),⟨by rw [List.length_take,p.1,hl];omega,Or.inr ?_⟩,fun i hi=>?_⟩
 ·rcases p.2 with ⟨h,-⟩ | ⟨I,q,l,t,E,C,H,k,f,u⟩
  ·cases h
  ·injection t with b J F
   injection b with b;injection b with b;subst b F;refine ⟨g,cap,l,by rw [hl],E,C,by omega,k,f,?_⟩;rw [hl,<-u,List.take_take];congr 1;omega
 ·have A:i < m:=by omega
  obtain ⟨x,y,G,b,hl⟩:=e i (by omega);refine ⟨x,y,by rw [List.getElem?_take_of_lt (by omega)];exact G,by rw [List.getElem?_take_of_lt (by omega)];exact b,?_⟩;rw [List.getElem_take];exact hl
theorem BE.set {g cap i:Nat} {x y:Value} {l:Lev} (n1:1<=n) (h:BE n X B W (O (some ⟨g,0,none⟩) Ls.length cap) Ls) (hi:i < Ls.length) (hf:FrW X W ((W.setCell ⟨g,i*2,none⟩ x).setCell ⟨g,i*2+1,none⟩ y)) (hl:Aw n X W (zh #[x,y]) l) :
  BE n X B ((W.setCell ⟨g,i*2,none⟩ x).setCell ⟨g,i*2+1,none⟩ y) (O (some ⟨g,0,none⟩) (Ls.set i l).length cap) (Ls.set i l):=by
 obtain ⟨t,k,f⟩:=h;rw [List.length_set];have p:=k.1;refine ⟨(t.set (i*2) x).set (i*2+1) y,by rw [List.length_set];exact ((k.stored _ _).1.stored _ _).1,fun j u=>?_⟩;have e:j < Ls.length:=by simpa using u
 by_cases hij:i=j
 ·subst hij
  refine ⟨x,y,?_,?_,?_⟩
  ·rw [List.getElem?_set_ne (by omega),List.getElem?_set_self (by omega)]
  ·rw [List.getElem?_set_self (by rw [List.length_set];omega)]
  ·rw [List.getElem_set_self]
   exact hl.keep n1 hf
 ·obtain ⟨s,q,C,A,b⟩:=f j e
  refine ⟨s,q,?_,?_,?_⟩
  ·rw [List.getElem?_set_ne (by omega),List.getElem?_set_ne (by omega)];exact C
  ·rw [List.getElem?_set_ne (by omega),List.getElem?_set_ne (by omega)];exact A
  ·rw [List.getElem_set_ne hij]
   exact b.keep n1 hf
theorem BE.snoc {v':Value} {x y:Value} {l:Lev} {us:List Value} (n1:1<=n) (hel:∀ i (h:i < Ls.length),∃ x y,us[i*2]? = some x/\us[i*2+1]? = some y/\Aw n X W (zh #[x,y]) Ls[i]) (hus:us.length=Ls.length*2) (hl:Aw n X W (zh #[x,y]) l) (ho':W'.ownsRow B 50 2 v' (Ls.length+1) (us++[x,y])) (hf:FrW X W W'):BE n X B W' v' (Ls++[l]):=by
 refine ⟨us++[x,y],by rw [List.length_append];exact ho',fun i hi=>?_⟩;rw [List.length_append,List.length_singleton] at hi;by_cases hii:i < Ls.length
 ·obtain ⟨g,f,p,k,b⟩:=hel i hii
  refine ⟨g,f,?_,?_,?_⟩
  ·rw [List.getElem?_append_left (by omega)];exact p
  ·rw [List.getElem?_append_left (by omega)];exact k
  ·rw [List.getElem_append_left hii];exact b.keep n1 hf
 ·have e:i=Ls.length:=by omega
  subst e;refine ⟨x,y,?_,?_,?_⟩
  ·rw [List.getElem?_append_right (by omega),hus,Nat.sub_self];rfl
  ·rw [List.getElem?_append_right (by omega),hus,show Ls.length*2+1 - Ls.length*2=1 by omega];rfl
  ·rw [List.getElem_append_right (by omega)]
   simp;exact hl.keep n1 hf
end
structure WX where
 c:WC
 bw:Nat
 rv:Value
 fv:Value
 fl:List (Int × Int)
 Y:Nat->Prop
abbrev WX.lv (x:WX):Value:=O x.c.la x.c.ln x.c.lc
def XV (x:WX) (W:World) (k:Nat):Prop:=W.heap.size<=x.bw\/k=x.bw\/x.lv.ownBlock=some k\/∃ v,W.cell? ⟨x.bw,11,none⟩=some v/\v.ownBlock=some k
def XW (x:WX) (W:World) (k:Nat):Prop:=x.Y k\/XV x W k
theorem Bx (x):XOk (XV x):=⟨fun W W' hb k h=>by
 by_cases hlt:W.heap.size<=x.bw
 ·exact Or.inl hlt
 ·rcases h with h | h | h | ⟨v,hv,ho⟩
  ·exact absurd (Nat.le_trans hb.size h) hlt
  ·exact Or.inr (Or.inl h)
  ·exact Or.inr (Or.inr (Or.inl h))
  ·refine Or.inr (Or.inr (Or.inr ⟨v,?_,ho⟩))
   rw [<-hv];exact (World.cell?_of_block (a:=⟨x.bw,11,none⟩) (hb.block x.bw (by omega))).symm⟩
theorem A5 (x):XOk (XW x):=⟨fun W W' hb k h=>h.imp id ((Bx x).below W W' hb k)⟩
theorem L8 {x:WX} {W W':World} (h:FrW (XV x) W W'):FrW (XW x) W W':=⟨h.os,h.tape,h.output,h.size,fun k hk hx=>h.block k hk (fun e=>hx (Or.inr e)),fun k hk hx=>hx.imp id (h.mov k hk)⟩
structure WtI (x:WX) (w0:World) (s:WSt) (pv:Value) (W:World):Prop where
 below:Ov w0 W
 row:Ad (x.rv::(x.c.cs++[pv,x.fv])) W x.bw
 fz:∀ j,W.frozen? ⟨x.bw,j,none⟩=false
 lo:w0.heap.size<=x.bw/\x.bw < W.heap.size
 yk:∀ k,x.Y k->w0.heap.size<=k/\k < W.heap.size
 yb:¬ x.Y x.bw
 lev:BE x.c.n (XW x) w0.heap.size W x.lv s.vs
 pls:BE x.c.n (XW x) w0.heap.size W pv s.ps
 flt:W.ownsRow w0.heap.size 89 2 x.fv x.fl.length (Cc x.fl)
 apL:x.lv.ownBlock≠some x.bw
 apP:pv.ownBlock≠some x.bw
 apLP:∀ g,x.lv.ownBlock=some g->pv.ownBlock≠some g
 apF:∀ g,x.fv.ownBlock=some g->g≠x.bw/\x.lv.ownBlock≠some g/\pv.ownBlock≠some g/\¬ x.Y g
 yL:∀ g,x.lv.ownBlock=some g->¬ x.Y g
 yP:∀ g,pv.ownBlock=some g->¬ x.Y g
section
variable {x:WX} {w0 W W':World} {s:WSt} {pv:Value}
theorem WtI.cw (h:WtI x w0 s pv W) {j:Nat} {u:Value} (hj:x.c.cs[j]? = some u):W.cell? ⟨x.bw,j+1,none⟩=some u:=h.row (j+1) u (by rw [List.getElem?_cons_succ,List.getElem?_append_left (List.getElem?_eq_some_iff.1 hj).1];exact hj)
theorem WtI.c11 (h:WtI x w0 s pv W):W.cell? ⟨x.bw,11,none⟩=some pv:=h.row 11 _ rfl
theorem WtI.c12 (h:WtI x w0 s pv W):W.cell? ⟨x.bw,12,none⟩=some x.fv:=h.row 12 _ rfl
theorem WtI.over (h:WtI x w0 s pv W) (hb:Ov W W'):WtI x w0 s pv W':=
 ⟨h.below.trans (hb.mono h.below.size),h.row.over hb,fun j=>((An hb).2 _ _ h.lo.2).trans (h.fz j),⟨h.lo.1,Nat.lt_of_lt_of_le h.lo.2 hb.size⟩,fun k hk=>⟨(h.yk k hk).1,Nat.lt_of_lt_of_le (h.yk k hk).2 hb.size⟩,h.yb,h.lev.over (A5 x) hb,h.pls.over (A5 x) hb,AD h.flt (fun g hg=>hb.block g (h.flt.lt g hg).2),h.apL,h.apP,h.apLP,h.apF,h.yL,h.yP⟩
theorem WtI.xv (h:WtI x w0 s pv W) {k:Nat}:XV x W k ↔ (k=x.bw\/x.lv.ownBlock=some k\/pv.ownBlock=some k):=by
 constructor
 ·rintro (e | e | e | ⟨v,b,e⟩)
  ·exact absurd h.lo.2 (by omega)
  ·exact Or.inl e
  ·exact Or.inr (Or.inl e)
  ·rw [h.c11] at b
   injection b with b;subst b;exact Or.inr (Or.inr e)
 ·rintro (e | e | e)
  ·exact Or.inr (Or.inl e)
  ·exact Or.inr (Or.inr (Or.inl e))
  ·exact Or.inr (Or.inr (Or.inr ⟨pv,h.c11,e⟩))
theorem WtI.vlt (h:WtI x w0 s pv W):∀ k,XV x W k->w0.heap.size<=k/\k < W.heap.size:=fun k hk=>by
 rcases h.xv.1 hk with e | e | e
 ·rw [e];exact h.lo
 ·exact h.lev.lt k e
 ·exact h.pls.lt k e
theorem WtI.xlt (h:WtI x w0 s pv W):∀ k,XW x W k->w0.heap.size<=k/\k < W.heap.size:=fun k hk=>hk.elim (h.yk k) (h.vlt k)
theorem WtI.setLev (n1:1<=x.c.n) (h:WtI x w0 s pv W) {g:Nat} (hg:x.c.la=some ⟨g,0,none⟩) {i:Nat} (hi:i < s.vs.length) {u v:Value} {l:Lev} (hl:Aw x.c.n (XW x) W (zh #[u,v]) l) :
  WtI x w0 ⟨s.vs.set i l,s.ps⟩ pv ((W.setCell ⟨g,i*2,none⟩ u).setCell ⟨g,i*2+1,none⟩ v)/\FrW (XV x) W ((W.setCell ⟨g,i*2,none⟩ u).setCell ⟨g,i*2+1,none⟩ v):=by
 have b:x.lv.ownBlock=some g:=by unfold WX.lv;rw [hg];rfl
 have y:g≠x.bw:=fun e=>h.apL (by rw [b,e]);have hk:∀ k,k≠g->((W.setCell ⟨g,i*2,none⟩ u).setCell ⟨g,i*2+1,none⟩ v).heap[k]? = W.heap[k]?:=fun k hk=>by rw [Au (Ne.symm hk),Au (Ne.symm hk)]
 have p:((W.setCell ⟨g,i*2,none⟩ u).setCell ⟨g,i*2+1,none⟩ v).heap.size=W.heap.size:=by simp [World.setCell]
 have E:FrW (XV x) W ((W.setCell ⟨g,i*2,none⟩ u).setCell ⟨g,i*2+1,none⟩ v):=by
  refine ⟨rfl,rfl,rfl,by rw [p];exact Nat.le_refl _,fun k _ B=>hk k (fun e=>B (Or.inr (Or.inr (Or.inl (by rw [b,e]))))),fun k _ B=>?_⟩;rcases B with e | e | e | ⟨q,t,e⟩
  ·rw [p] at e;exact Or.inl e
  ·exact Or.inr (Or.inl e)
  ·exact Or.inr (Or.inr (Or.inl e))
  ·exact Or.inr (Or.inr (Or.inr ⟨q,(World.cell?_of_block (a:=⟨x.bw,11,none⟩) (hk x.bw (Ne.symm y))).symm.trans t,e⟩))
 have A:=L8 E;refine ⟨⟨h.below.trans ((Below.refl _ W).mono h.below.size |>.setCell (h.lev.lt g b).1 _ |>.setCell (h.lev.lt g b).1 _),fun j q t=>(World.cell?_of_block (a:=⟨x.bw,j,none⟩) (hk x.bw (Ne.symm y))).trans (h.row j q t),fun j=>(World.frozen?_of_block (a:=⟨x.bw,j,none⟩) (hk x.bw (Ne.symm y))).trans (h.fz j),by rw [p];exact h.lo,by rw [p];exact h.yk,h.yb,?_,h.pls.keep n1 A (fun q t=>hk q (fun e=>h.apLP g b (by rw [<-e];exact t))),AD h.flt (fun q t=>hk q (fun e=>(h.apF q t).2.1 (by rw [b,e]))),h.apL,h.apP,h.apLP,h.apF,h.yL,h.yP⟩,E⟩;have f:=h.lev;obtain ⟨L,G,H⟩:=id f;have C:x.c.ln=s.vs.length:=by
  rcases G.2 with ⟨e,-⟩ | ⟨M,cap,J,e,-⟩
  ·unfold WX.lv at e;rw [hg] at e;cases e
  ·unfold WX.lv at e;injection e
 have F:x.lv=O (some ⟨g,0,none⟩) s.vs.length x.c.lc:=by unfold WX.lv;rw [hg,C]
 have I:x.lv=O (some ⟨g,0,none⟩) (s.vs.set i l).length x.c.lc:=by rw [List.length_set];exact F
 rw [I];rw [F] at f;exact f.set n1 hi A hl
theorem WtI.newPls (n1:1<=x.c.n) (h:WtI x w0 s pv W) {v' u v:Value} {ps:List Lev} {us:List Value} {l:Lev} (hel:∀ i (h:i < ps.length),∃ a b,us[i*2]? = some a/\us[i*2+1]? = some b/\Aw x.c.n (XW x) W (zh #[a,b]) ps[i]) (hus:us.length=ps.length*2) (hl:Aw x.c.n (XW x) W (zh #[u,v]) l) (ho:W'.ownsRow w0.heap.size 50 2 v' (ps.length+1) (us++[u,v])) (hg:W.grownBy W' pv.ownBlock) (hat:v'.ownBlock=pv.ownBlock\/v'.ownBlock=some W.heap.size) :
  WtI x w0 ⟨s.vs,ps++[l]⟩ v' (W'.setCell ⟨x.bw,11,none⟩ v')/\FrW (XV x) W (W'.setCell ⟨x.bw,11,none⟩ v'):=by
 have F:W'.heap[x.bw]? = W.heap[x.bw]?:=hg.block x.bw h.lo.2 (fun e=>h.apP e.symm);have t:(W'.setCell ⟨x.bw,11,none⟩ v').heap.size=W'.heap.size:=by simp [World.setCell]
 have f:∀ g,v'.ownBlock=some g->pv.ownBlock=some g\/g=W.heap.size:=fun g e=>by
  rcases hat with e1 | e1
  ·exact Or.inl (by rw [<-e1];exact e)
  ·rw [e1] at e;injection e with e;exact Or.inr e.symm
 have hk:∀ k,k < W.heap.size->k≠x.bw->pv.ownBlock≠some k->(W'.setCell ⟨x.bw,11,none⟩ v').heap[k]? = W.heap[k]?:=fun k hk N M=>by rw [Au (Ne.symm N)];exact hg.block k hk (fun e=>M e.symm)
 have B:Ad (x.rv::(x.c.cs++[pv,x.fv])) W' x.bw:=fun j u L=>(World.cell?_of_block (a:=⟨x.bw,j,none⟩) F).trans (h.row j u L);have p:Ad (x.rv::(x.c.cs++[v',x.fv])) (W'.setCell ⟨x.bw,11,none⟩ v') x.bw:=by
  have r:=BK (j:=11) (v:=v') B (by simp);simpa using r
 have J:CE (W'.setCell ⟨x.bw,11,none⟩ v') x.bw 11 v':=p 11 _ rfl;have C:FrW (XV x) W (W'.setCell ⟨x.bw,11,none⟩ v'):=by
  refine ⟨hg.os,hg.tape,hg.output,by rw [t];exact hg.size,fun k y H=>hk k y (fun e=>H (Or.inr (Or.inl e))) (fun e=>H (h.xv.2 (Or.inr (Or.inr e)))),fun k y H=>h.xv.2 ?_⟩;rcases H with e | e | e | ⟨q,I,e⟩
  ·rw [t] at e;have:=hg.size;have:=h.lo.2;omega
  ·exact Or.inl e
  ·exact Or.inr (Or.inl e)
  ·rw [J] at I
   injection I with I;subst I;rcases f k e with e | e
   ·exact Or.inr (Or.inr e)
   ·omega
 have G:=L8 C;have O:=hg.size;have E:v'.ownBlock≠some x.bw:=fun e=>by
  rcases f _ e with e | e
  ·exact h.apP e
  ·have:=h.lo.2;omega
 have A:Ov w0 (W'.setCell ⟨x.bw,11,none⟩ v'):=h.below.trans ⟨C.os,C.tape,C.output,C.size,fun k y=>C.block k (Nat.lt_of_lt_of_le y h.below.size) (fun e=>by have:=(h.vlt k e).1;omega)⟩;refine ⟨⟨A,p,fun j=>?_,⟨h.lo.1,by rw [t];have:=h.lo.2;omega⟩,fun k e=>⟨(h.yk k e).1,by rw [t];have:=(h.yk k e).2;omega⟩,h.yb,h.lev.keep n1 G (fun g e=>hk g (h.lev.lt g e).2 (fun q=>h.apL (by rw [e,q])) (fun q=>h.apLP g e q)),?_,AD h.flt (fun g e=>hk g (h.flt.lt g e).2 (h.apF g e).1 (h.apF g e).2.2.1),h.apL,E,fun g e q=>?_,fun g e=>⟨(h.apF g e).1,(h.apF g e).2.1,fun q=>?_,(h.apF g e).2.2.2⟩,h.yL,fun g e q=>?_⟩,C⟩
 ·have e1:(W'.setCell ⟨x.bw,11,none⟩ v').frozen? ⟨x.bw,j,none⟩=W'.frozen? ⟨x.bw,j,none⟩:=by simp [go_sem]
  rw [e1,World.frozen?_of_block (a:=⟨x.bw,j,none⟩) F];exact h.fz j
 ·exact BE.snoc n1 hel hus hl (AD ho (fun g e=>Au (fun q=>E (by rw [e,q])) v')) G
 ·rcases f g q with q | q
  ·exact h.apLP g e q
  ·have:=(h.lev.lt g e).2;omega
 ·rcases f g q with q | q
  ·exact (h.apF g e).2.2.1 q
  ·have:=(h.flt.lt g e).2;omega
 ·rcases f g e with e | e
  ·exact h.yP g e q
  ·have:=(h.yk g q).2;omega
end
structure WtS (x:WX) (w0:World) (K kf:Nat) (gs:List (Int × Int)) (ls ms:List Lab) (vs:List (Bool × Lab)) (fs:List FnD):Prop where
 n1:1<=x.c.n
 n6:x.c.n<=6
 gr:AA w0 (O x.c.ga x.c.gn x.c.gc) gs
 chk:AR x.c.n gs=0
 vars:Bs w0 (O x.c.va x.c.vn x.c.vc) vs
 ins:AW w0 (O x.c.ya x.c.yn x.c.yc) ls
 outs:AW w0 (O x.c.oa x.c.on x.c.oc) ms
 funcs:Bv w0 K kf (O x.c.fa x.c.fn x.c.fc) fs
 vchk:∀ v∈vs,Bb x.c.n gs v.2=0
 ichk:∀ b∈ls,Bb x.c.n gs b=0
 ochk:∀ b∈ms,Bb x.c.n gs b=0
 v16:vs.length<=16
 i5:ls.length<=5
 o5:ms.length<=5
 f5:fs.length<=5
 fl:x.fl.length<=1000
 body:∀ i (h:i < fs.length),okF K vs.length ls.length ms.length (i:Int) fs kf fs[i]
theorem MK {x:WX} {W:World} {b:Nat} {u v:Value} (hne:x.bw≠b) {k:Nat} (h:XW x (BC W b u v) k):XW x W k:=by
 rcases h with h | h | h | h | ⟨q,e,f⟩
 ·exact Or.inl h
 ·rw [H3] at h;exact Or.inr (Or.inl h)
 ·exact Or.inr (Or.inr (Or.inl h))
 ·exact Or.inr (Or.inr (Or.inr (Or.inl h)))
 ·exact Or.inr (Or.inr (Or.inr (Or.inr ⟨q,(World.cell?_of_block (a:=⟨x.bw,11,none⟩) (Ck hne)).symm.trans e,f⟩)))
theorem Dm {x:WX} {n b:Nat} {W:World} {v:Value} {l:Lev} (h:Aw n (XW x) W v l) (hz:ZB b W) (hne:x.bw≠b) (u q:Value):Aw n (XW x) (BC W b u q) v l:=by
 obtain ⟨y,w,g,i,hw⟩:=h.off;have f:(W.setCell ⟨b,0,none⟩ u).cell? ⟨b,1,none⟩=some (O none 0 0):=by rw [World.cell?_setCell_other _ _ _ _ (by simp)];exact hz.c1
 exact ⟨Cz f (Cz hz.c0 h.at_ _) _,h.len,y,w,g,fun a m c e p=>i a m c e (MK hne p),fun a m c e p=>hw a m c e (MK hne p)⟩
abbrev Rb (x:WX) (bv ov i:Nat) (pa1:Option Addr) (pn1 pc1:Nat) (pa2:Option Addr) (pn2 pc2:Nat) (Wz:World):Prop:=Wz.cell? ⟨x.bw,1,none⟩=some (zd U (x.c.n:Int))/\Wz.cell? ⟨x.bw,2,none⟩=some (O x.c.ga x.c.gn x.c.gc)/\Wz.cell? ⟨x.bw,3,none⟩=some (O x.c.sa x.c.sn x.c.sc)/\Wz.cell? ⟨x.bw,4,none⟩=some (O x.c.ya x.c.yn x.c.yc)/\Wz.cell? ⟨x.bw,5,none⟩=some (O x.c.oa x.c.on x.c.oc)/\Wz.cell? ⟨x.bw,6,none⟩=some (O (some ⟨bv,ov,none⟩) x.c.vn x.c.vc)/\Wz.cell? ⟨x.bw,7,none⟩=some (O x.c.fa x.c.fn x.c.fc)/\Wz.cell? ⟨x.bw,8,none⟩=some (O x.c.ba x.c.bn x.c.bc)/\Wz.cell? ⟨x.bw,9,none⟩=some (O x.c.la x.c.ln x.c.lc)/\Wz.cell? ⟨x.bw,10,none⟩=some (O x.c.ka x.c.kn x.c.kc)/\Wz.cell? ⟨bv,ov+i*3+1,none⟩=some (O pa1 pn1 pc1)/\Wz.cell? ⟨bv,ov+i*3+2,none⟩=some (O pa2 pn2 pc2)
theorem Ms (x) (w0:World) (K kf:Nat) (gs ls ms vs fs) (S:WtS x w0 K kf gs ls ms vs fs) (s:WSt) (pv:Value) (W:World) (h:WtI x w0 s pv W) (i:Nat) (hi:i < vs.length) :
  Calls Tryz.prog 188 #[zi (some ⟨x.bw,0,none⟩),zd U (i:Int)] W fun e W'=>∃ a1 a2 a3 a4 a5 a6,e=zj (zh #[O a1 a2 a3,O a4 a5 a6])/\Aw x.c.n (XW x) W' (zh #[O a1 a2 a3,O a4 a5 a6]) (Ar (Ax gs) x.c.n vs[i].2)/\Ov W W':=by
 obtain ⟨ar,be,bd,au,g⟩:=S.vars;injection au with v1 v2 v3;obtain ⟨bv,Z,aa,g⟩:=g (by rintro rfl;simp at hi);obtain ⟨pr,pw,g0,g1,g2,N,M⟩:=g i hi;obtain ⟨L,G,I,rfl⟩:=Az N;obtain ⟨J,F,H,rfl⟩:=Az M;have Q:x.c.va=some ⟨bv,Z,none⟩:=v1.trans aa;have ab:x.c.vn=vs.length:=v2;have ac:=S.v16;have bj:(i:Int) < (x.c.vn:Int):=by omega
 have bi:x.c.vn<=16:=by omega
 have af:x.c.v=(zh #[zd U (x.c.n:Int),O x.c.ga x.c.gn x.c.gc,O x.c.sa x.c.sn x.c.sc,O x.c.ya x.c.yn x.c.yc,O x.c.oa x.c.on x.c.oc,O (some ⟨bv,Z,none⟩) x.c.vn x.c.vc,O x.c.fa x.c.fn x.c.fc,O x.c.ba x.c.bn x.c.bc,O x.c.la x.c.ln x.c.lc,O x.c.ka x.c.kn x.c.kc]):=by show Value.agg #[zd U (x.c.n:Int),O x.c.ga x.c.gn x.c.gc,O x.c.sa x.c.sn x.c.sc,O x.c.ya x.c.yn x.c.yc,O x.c.oa x.c.on x.c.oc,O x.c.va x.c.vn x.c.vc,O x.c.fa x.c.fn x.c.fc,O x.c.ba x.c.bn x.c.bc,O x.c.la x.c.ln x.c.lc,O x.c.ka x.c.kn x.c.kc]=_;rw [Q]
 have R:=S.vchk vs[i] (List.getElem_mem hi);have t:Hx ((Ar (Ax gs) x.c.n vs[i].2).len x.c.n):=Dl _ _ _;generalize vs[i]=vb at R N M g0 t ⊢;have ag:Ov W (W.alloc (ze #[O none 0 0,O none 0 0] 50)):=bA W _;have HI:=Aa h;have P:Hx (Ov W (W.alloc (ze #[O none 0 0,O none 0 0] 50)).drew):=ag.drew;have KL:Hx (∀ (W2:World),Ov W W2->Calls Tryz.prog 114 #[(zh #[zd U (x.c.n:Int),O x.c.ga x.c.gn x.c.gc,O x.c.sa x.c.sn x.c.sc,O x.c.ya x.c.yn x.c.yc,O x.c.oa x.c.on x.c.oc,O (some ⟨bv,Z,none⟩) x.c.vn x.c.vc,O x.c.fa x.c.fn x.c.fc,O x.c.ba x.c.bn x.c.bc,O x.c.la x.c.ln x.c.lc,O x.c.ka x.c.kn x.c.kc]),zh #[O L G I,O J F H]] W2 fun e w'=>∃ vj,e=zj vj/\A1 W2 w' vj (Ar (Ax gs) x.c.n vb.2)/\Ov W2 w'):=fun W2 f=>by
  have b:=h.over f;have:=Hh x.c gs (O L G I) (O J F H) vb.2 W2 (Af S.gr b.below) (Ak N b.below) (Ak M b.below) R;rw [af] at this;exact this
 have HS:Hx (∀ (W2:World),Ov W W2->Rb x bv Z i L G I J F H W2):=fun W2 f=>by
  have b:=h.over f;exact ⟨b.cw (j:=0) rfl,b.cw (j:=1) rfl,b.cw (j:=2) rfl,b.cw (j:=3) rfl,b.cw (j:=4) rfl,by rw [<-Q];exact b.cw (j:=5) rfl,b.cw (j:=6) rfl,b.cw (j:=7) rfl,b.cw (j:=8) rfl,b.cw (j:=9) rfl,Ab b.below _ _ g1,Ab b.below _ _ g2⟩
 generalize Ar (Ax gs) x.c.n vb.2=lb at KL t ⊢;clear ag h S ar g v1 v2 v3 aa Q ab ac g0 g1 g2 N M af R hi;go_enter Tryz.func188,Tryz.ntmps188;go_wp2_with fail;refine gS (Rb x bv Z i L G I J F H) (HS.o _ P.o) fun q=>?_;refine kT 0 ?_;refine kT 1 ?_;refine kT 2 ?_;refine kT 3 ?_;refine kT 4 ?_;refine kT 5 ?_;refine kT 6 ?_;refine kT 7 ?_;refine kT 8 ?_;refine kT 9 ?_;refine kT 10 ?_;refine kT 11 ?_;refine kT 12 ?_;refine kT 13 ?_;refine rdA 14 rfl fun K hK=>?_;go_simp;refine (KL.o _ P.o).mono ?_;rintro e W2 ⟨vj,rfl,T,f⟩;have ah:=Bm T;have aj:=Aq T;obtain ⟨v1,v2,rfl,ae,ad,-⟩:=T;obtain ⟨E,C,B,rfl⟩:=AE ae;obtain ⟨A,y,u,rfl⟩:=AE ad;have V:=Aa (Ac P.o f);have ay:=Aa (⟨aj,t.o,B8 (A5 x) V.o (fun k hk=>(HI.o.xlt k hk).2) (EL ah P.o.size)⟩:Aw x.c.n (XW x) W2 _ lb);clear ah aj ae ad;have l:=(Jc (DJ 50 W)).over f;have d0:=l.c0;have d1:=l.c1;have z0:=l.z0;have z1:=l.z1;have al:=Aa l;clear f l;go_simp;refine xK hK (HS.o _ V.o) fun q=>?_;clear hK K;refine rdA 15 rfl fun K hK=>?_;obtain ⟨W3,p⟩:=nm (BC W2 W.heap.size (O E C B) (O A y u));have an:Hx (Ov W W3):=by rw [p];exact B7 V.o (Nat.le_refl _) _ _
 have am:Hx (Ad [O E C B,O A y u] W3 W.heap.size):=by rw [p];exact al.o.fill _ _
 have ax:Hx (Aw x.c.n (XW x) W3 (zh #[O E C B,O A y u]) lb):=by rw [p];exact Dm ay.o al.o (by have:=HI.o.lo.2;omega) _ _
 unfold BC at p;go_simp;rw [<-p];clear p d0 d1 z0 z1;refine xK hK (HS.o _ an.o) fun q=>?_;clear hK K;refine gE ?_;have r0:=am.o 0 _ rfl;have r1:=am.o 1 _ rfl;go_wp2_with fail;exact bodyPost_ret (v:=zh #[O E C B,O A y u]) (by simp [results,Tryz.results188,go_sem,r0,r1]) rfl ⟨_,_,_,_,_,_,rfl,ax.o,an.o⟩
abbrev Ra (x:WX) (bv ov bl:Nat) (W:World) (p1:Option Addr) (q1 r1:Nat) (p2:Option Addr) (q2 r2:Nat) (m1:Option Addr) (m2 m3:Nat) (m4:Option Addr) (m5 m6 i:Nat) (a1:Option Addr) (a2 a3:Nat) (a4:Option Addr) (a5 a6:Nat) (kn:Bool) (Wz:World):Prop:=Wz.cell? ⟨x.bw,1,none⟩=some (zd U (x.c.n:Int))/\Wz.cell? ⟨x.bw,2,none⟩=some (O x.c.ga x.c.gn x.c.gc)/\Wz.cell? ⟨x.bw,3,none⟩=some (O x.c.sa x.c.sn x.c.sc)/\Wz.cell? ⟨x.bw,4,none⟩=some (O x.c.ya x.c.yn x.c.yc)/\Wz.cell? ⟨x.bw,5,none⟩=some (O x.c.oa x.c.on x.c.oc)/\Wz.cell? ⟨x.bw,6,none⟩=some (O (some ⟨bv,ov,none⟩) x.c.vn x.c.vc)/\Wz.cell? ⟨x.bw,7,none⟩=some (O x.c.fa x.c.fn x.c.fc)/\Wz.cell? ⟨x.bw,8,none⟩=some (O x.c.ba x.c.bn x.c.bc)/\Wz.cell? ⟨x.bw,9,none⟩=some (O (some ⟨bl,0,none⟩) x.c.ln x.c.lc)/\Wz.cell? ⟨x.bw,10,none⟩=some (O x.c.ka x.c.kn x.c.kc)/\Wz.cell? ⟨W.heap.size,0,none⟩=some (O p1 q1 r1)/\Wz.cell? ⟨W.heap.size,1,none⟩=some (O p2 q2 r2)/\Wz.cell? ⟨W.heap.size+1,0,none⟩=some (O m1 m2 m3)/\Wz.cell? ⟨W.heap.size+1,1,none⟩=some (O m4 m5 m6)/\Wz.cell? ⟨bl,i*2,none⟩=some (O a1 a2 a3)/\Wz.cell? ⟨bl,i*2+1,none⟩=some (O a4 a5 a6)/\Wz.cell? ⟨bv,ov+i*3,none⟩=some (zg kn)
theorem Hg (x) (w0:World) (K kf:Nat) (gs ls ms vs fs) (S:WtS x w0 K kf gs ls ms vs fs) (s:WSt) (pv:Value) (W:World) (h:WtI x w0 s pv W) (hvl:s.vs.length=vs.length) (v u:Value) (p l) (hp:Aw x.c.n (XW x) W v p) (hl:Aw x.c.n (XW x) W u l) (i:Nat) (hi:i < vs.length) :
  Calls Tryz.prog 186 #[zi (some ⟨x.bw,0,none⟩),v,zd U (i:Int),u] W fun e W'=>e=zj (zg (Av p (s.vs.getD i Ah) x.c.n && (!vs[i].1 || Av l (Ar (Ax gs) x.c.n vs[i].2) x.c.n)))/\Ov W W':=by
 obtain ⟨T,Q,N,R,P,M,rfl⟩:=hp.form;obtain ⟨m1,m2,m3,m4,m5,Z,rfl⟩:=hl.form;have aq:i < s.vs.length:=by omega
 have be:s.vs.getD i Ah=s.vs[i]:=by simp [List.getD_eq_getElem?_getD,aq]
 rw [be];obtain ⟨G,bz,a1,a2,a3,a4,a5,a6,I,k0,k1,bd⟩:=h.lev.cells aq;have an:x.c.la=some ⟨G,0,none⟩:=by unfold WX.lv at I;injection I
 have br:x.c.ln=s.vs.length:=by unfold WX.lv at I;injection I
 obtain ⟨bp,ca,b9,bq,C⟩:=S.vars;injection bq with v1 v2 v3;obtain ⟨L,J,a0,C⟩:=C (by rintro rfl;simp at hi);obtain ⟨pr,pw,g0,g1,g2,bb,a9⟩:=C i hi;obtain ⟨ch,cd,cf,rfl⟩:=Az bb;obtain ⟨cg,cc,ce,rfl⟩:=Az a9;have am:x.c.va=some ⟨L,J,none⟩:=v1.trans a0;have a7:x.c.vn=vs.length:=v2;have a8:=S.v16;have cl:(i:Int) < (x.c.vn:Int):=by omega
 have ck:x.c.vn<=16:=by omega
 have cj:(i:Int) < (x.c.ln:Int):=by omega
 have ci:x.c.ln<=16:=by omega
 have av:x.c.v=(zh #[zd U (x.c.n:Int),O x.c.ga x.c.gn x.c.gc,O x.c.sa x.c.sn x.c.sc,O x.c.ya x.c.yn x.c.yc,O x.c.oa x.c.on x.c.oc,O (some ⟨L,J,none⟩) x.c.vn x.c.vc,O x.c.fa x.c.fn x.c.fc,O x.c.ba x.c.bn x.c.bc,O (some ⟨G,0,none⟩) x.c.ln x.c.lc,O x.c.ka x.c.kn x.c.kc]):=by show Value.agg #[zd U (x.c.n:Int),O x.c.ga x.c.gn x.c.gc,O x.c.sa x.c.sn x.c.sc,O x.c.ya x.c.yn x.c.yc,O x.c.oa x.c.on x.c.oc,O x.c.va x.c.vn x.c.vc,O x.c.fa x.c.fn x.c.fc,O x.c.ba x.c.bn x.c.bc,O x.c.la x.c.ln x.c.lc,O x.c.ka x.c.kn x.c.kc]=_;rw [am,an]
 obtain ⟨V,q⟩:=nm (((W.alloc (ze #[O T Q N,O R P M] 50)).alloc (ze #[O m1 m2 m3,O m4 m5 Z] 50)));have F:Ov W V:=by rw [q];exact (bA W _).alloc (by simp) _
 have ra:Ad [O T Q N,O R P M] V W.heap.size:=by
  rw [q];exact (Ad.new [O T Q N,O R P M] 50 W).over (bA _ _)
 have rb:Ad [O m1 m2 m3,O m4 m5 Z] V (W.heap.size+1):=by
  rw [q];have r:=Ad.new [O m1 m2 m3,O m4 m5 Z] 50 (W.alloc (ze #[O T Q N,O R P M] 50));simpa using r
 have ay:=Aa F;have A:Hx (Ov V V.drew):=(bD _);obtain ⟨f1,au⟩:=nm (Av p s.vs[i] x.c.n);obtain ⟨f2,ar⟩:=nm (Av l (Ar (Ax gs) x.c.n vs[i].2) x.c.n);have aw:Hx (∀ (W2:World),Ov V W2->Calls Tryz.prog 57 #[(zh #[zd U (x.c.n:Int),O x.c.ga x.c.gn x.c.gc,O x.c.sa x.c.sn x.c.sc,O x.c.ya x.c.yn x.c.yc,O x.c.oa x.c.on x.c.oc,O (some ⟨L,J,none⟩) x.c.vn x.c.vc,O x.c.fa x.c.fn x.c.fc,O x.c.ba x.c.bn x.c.bc,O (some ⟨G,0,none⟩) x.c.ln x.c.lc,O x.c.ka x.c.kn x.c.kc]),zh #[O T Q N,O R P M],zh #[O a1 a2 a3,O a4 a5 a6]] W2 fun e w'=>e=zj (zg f1)/\Ov W2 w'):=fun W2 b=>by
  have k:=Ac F b;have B:=h.over k;have H:=hp.over (A5 x) k;have az:=bd.over (A5 x) k;have:=DY x.c gs _ _ _ _ W2 (Af S.gr B.below) S.chk H.at_ H.len az.at_ az.len;rw [av,<-au] at this;exact this
 have bi:Hx (∀ (W2:World),Ov V W2->Calls Tryz.prog 188 #[zi (some ⟨x.bw,0,none⟩),zd U (i:Int)] W2 fun e W'=>∃ a1 a2 a3 a4 a5 a6,e=zj (zh #[O a1 a2 a3,O a4 a5 a6])/\Aw x.c.n (XW x) W' (zh #[O a1 a2 a3,O a4 a5 a6]) (Ar (Ax gs) x.c.n vs[i].2)/\Ov W2 W'):=fun W2 b=>Ms x w0 K kf gs ls ms vs fs S s pv W2 (h.over (Ac F b)) i hi;have bh:Hx (∀ (W2:World) {y:Value},Ov V W2->Aw x.c.n (XW x) W2 y (Ar (Ax gs) x.c.n vs[i].2)->Calls Tryz.prog 57 #[(zh #[zd U (x.c.n:Int),O x.c.ga x.c.gn x.c.gc,O x.c.sa x.c.sn x.c.sc,O x.c.ya x.c.yn x.c.yc,O x.c.oa x.c.on x.c.oc,O (some ⟨L,J,none⟩) x.c.vn x.c.vc,O x.c.fa x.c.fn x.c.fc,O x.c.ba x.c.bn x.c.bc,O (some ⟨G,0,none⟩) x.c.ln x.c.lc,O x.c.ka x.c.kn x.c.kc]),zh #[O m1 m2 m3,O m4 m5 Z],y] W2 fun e w'=>e=zj (zg f2)/\Ov W2 w'):=fun W2 y b hy=>by
  have k:=Ac F b;have B:=h.over k;have H:=hl.over (A5 x) k;have:=DY x.c gs _ y _ _ W2 (Af S.gr B.below) S.chk H.at_ H.len hy.at_ hy.len;rw [av,<-ar] at this;exact this
 obtain ⟨kn,ao⟩:=nm (vs[i].1);rw [<-ao] at g0;have HS:Hx (∀ (W2:World),Ov V W2->Ra x L J G W T Q N R P M m1 m2 m3 m4 m5 Z i a1 a2 a3 a4 a5 a6 kn W2):=fun W2 b=>by
  have k:=Ac F b;have B:=h.over k;exact ⟨B.cw (j:=0) rfl,B.cw (j:=1) rfl,B.cw (j:=2) rfl,B.cw (j:=3) rfl,B.cw (j:=4) rfl,by rw [<-am];exact B.cw (j:=5) rfl,B.cw (j:=6) rfl,B.cw (j:=7) rfl,by rw [<-an];exact B.cw (j:=8) rfl,B.cw (j:=9) rfl,(ra.over b) 0 _ rfl,(ra.over b) 1 _ rfl,(rb.over b) 0 _ rfl,(rb.over b) 1 _ rfl,Ab k _ _ k0,Ab k _ _ k1,Ab B.below _ _ g0⟩
 rw [<-au,<-ar,<-ao];generalize Ar (Ax gs) x.c.n vs[i].2=lb at bi bh;clear ra rb F h S bp C v1 v2 v3 a0 am a7 a8 g0 g1 g2 bb a9 av hi aq be an br I k0 k1 bd hp hl hvl au ar ao
 cases f1 with
 | false=>
  go_enter Tryz.func186,Tryz.ntmps186;go_wp2_with fail;rw [<-q];clear q;refine gS (Ra x L J G W T Q N R P M m1 m2 m3 m4 m5 Z i a1 a2 a3 a4 a5 a6 kn) (HS.o _ A.o) fun g=>?_;refine kT 0 ?_;refine kT 1 ?_;refine kT 2 ?_;refine kT 3 ?_;refine kT 4 ?_;refine kT 5 ?_;refine kT 6 ?_;refine kT 7 ?_;refine kT 8 ?_;refine kT 9 ?_;refine kT 10 ?_;refine kT 11 ?_;refine kT 12 ?_;refine kT 13 ?_;refine rdA 14 rfl fun K E=>?_;go_simp;refine (aw.o _ A.o).mono ?_;rintro e W2 ⟨rfl,b⟩;have t:=Aa (Ac A.o b);clear b;go_simp;refine xK E (HS.o _ t.o) fun g=>?_;clear E K;refine kT 15 ?_;refine kU 16 ?_;refine kU 17 ?_;refine kU 18 ?_;refine kU 19 ?_;refine kU 20 ?_;refine kU 21 ?_;refine kU 22 ?_;refine kU 23 ?_;refine kU 24 ?_;refine kU 25 ?_;refine kU 26 ?_;refine kU 27 ?_;refine kU 28 ?_;refine kU 29 ?_;refine kU 30 ?_;refine kU 31 ?_;refine kU 32 ?_;refine kU 33 ?_;refine kU 34 ?_;refine kU 35 ?_;refine kU 36 ?_;refine kU 37 ?_;refine kT 38 ?_;refine kT 39 ?_;refine gE ?_;go_wp2_with fail;go_ret;exact ⟨by simp,Ac ay.o t.o⟩
 | true=>
  cases kn with
  | false=>
   go_enter Tryz.func186,Tryz.ntmps186;go_wp2_with fail;rw [<-q];clear q;refine gS (fun f=>f.cell? ⟨x.bw,1,none⟩=some (zd U (x.c.n:Int))/\f.cell? ⟨x.bw,2,none⟩=some (O x.c.ga x.c.gn x.c.gc)/\f.cell? ⟨x.bw,3,none⟩=some (O x.c.sa x.c.sn x.c.sc)/\f.cell? ⟨x.bw,4,none⟩=some (O x.c.ya x.c.yn x.c.yc)/\f.cell? ⟨x.bw,5,none⟩=some (O x.c.oa x.c.on x.c.oc)/\f.cell? ⟨x.bw,6,none⟩=some (O (some ⟨L,J,none⟩) x.c.vn x.c.vc)/\f.cell? ⟨x.bw,7,none⟩=some (O x.c.fa x.c.fn x.c.fc)/\f.cell? ⟨x.bw,8,none⟩=some (O x.c.ba x.c.bn x.c.bc)/\f.cell? ⟨x.bw,9,none⟩=some (O (some ⟨G,0,none⟩) x.c.ln x.c.lc)/\f.cell? ⟨x.bw,10,none⟩=some (O x.c.ka x.c.kn x.c.kc)/\f.cell? ⟨W.heap.size,0,none⟩=some (O T Q N)/\f.cell? ⟨W.heap.size,1,none⟩=some (O R P M)/\f.cell? ⟨W.heap.size+1,0,none⟩=some (O m1 m2 m3)/\f.cell? ⟨W.heap.size+1,1,none⟩=some (O m4 m5 Z)/\f.cell? ⟨G,i*2,none⟩=some (O a1 a2 a3)/\f.cell? ⟨G,i*2+1,none⟩=some (O a4 a5 a6)/\f.cell? ⟨L,J+i*3,none⟩=some (zg false)) (HS.o _ A.o) fun g=>?_;refine kT 0 ?_;refine kT 1 ?_;refine kT 2 ?_;refine kT 3 ?_;refine kT 4 ?_;refine kT 5 ?_;refine kT 6 ?_;refine kT 7 ?_;refine kT 8 ?_;refine kT 9 ?_;refine kT 10 ?_;refine kT 11 ?_;refine kT 12 ?_;refine kT 13 ?_;refine rdA 14 rfl fun K E=>?_;go_simp;refine (aw.o _ A.o).mono ?_;rintro e W2 ⟨rfl,b⟩;have t:=Aa (Ac A.o b);clear b;go_simp;refine xK E (HS.o _ t.o) fun g=>?_;clear E K;refine kT 15 ?_;refine kT 16 ?_;refine kT 17 ?_;refine kT 18 ?_;refine kT 19 ?_;refine kT 20 ?_;refine kT 21 ?_;refine kT 22 ?_;refine kT 23 ?_;refine kT 24 ?_;refine kT 25 ?_;refine kT 26 ?_;refine kT 27 ?_;refine kU 28 ?_;refine kU 29 ?_;refine kU 30 ?_;refine kU 31 ?_;refine kU 32 ?_;refine kU 33 ?_;refine kU 34 ?_;refine kU 35 ?_;refine kU 36 ?_;refine kT 37 ?_;refine kT 38 ?_;refine kT 39 ?_;refine gE ?_;go_wp2_with fail;go_ret;exact ⟨by simp,Ac ay.o t.o⟩
  | true=>
   go_enter Tryz.func186,Tryz.ntmps186;go_wp2_with fail;rw [<-q];clear q;refine gS (fun f=>f.cell? ⟨x.bw,1,none⟩=some (zd U (x.c.n:Int))/\f.cell? ⟨x.bw,2,none⟩=some (O x.c.ga x.c.gn x.c.gc)/\f.cell? ⟨x.bw,3,none⟩=some (O x.c.sa x.c.sn x.c.sc)/\f.cell? ⟨x.bw,4,none⟩=some (O x.c.ya x.c.yn x.c.yc)/\f.cell? ⟨x.bw,5,none⟩=some (O x.c.oa x.c.on x.c.oc)/\f.cell? ⟨x.bw,6,none⟩=some (O (some ⟨L,J,none⟩) x.c.vn x.c.vc)/\f.cell? ⟨x.bw,7,none⟩=some (O x.c.fa x.c.fn x.c.fc)/\f.cell? ⟨x.bw,8,none⟩=some (O x.c.ba x.c.bn x.c.bc)/\f.cell? ⟨x.bw,9,none⟩=some (O (some ⟨G,0,none⟩) x.c.ln x.c.lc)/\f.cell? ⟨x.bw,10,none⟩=some (O x.c.ka x.c.kn x.c.kc)/\f.cell? ⟨W.heap.size,0,none⟩=some (O T Q N)/\f.cell? ⟨W.heap.size,1,none⟩=some (O R P M)/\f.cell? ⟨W.heap.size+1,0,none⟩=some (O m1 m2 m3)/\f.cell? ⟨W.heap.size+1,1,none⟩=some (O m4 m5 Z)/\f.cell? ⟨G,i*2,none⟩=some (O a1 a2 a3)/\f.cell? ⟨G,i*2+1,none⟩=some (O a4 a5 a6)/\f.cell? ⟨L,J+i*3,none⟩=some (zg true)) (HS.o _ A.o) fun g=>?_;refine kT 0 ?_;refine kT 1 ?_;refine kT 2 ?_;refine kT 3 ?_;refine kT 4 ?_;refine kT 5 ?_;refine kT 6 ?_;refine kT 7 ?_;refine kT 8 ?_;refine kT 9 ?_;refine kT 10 ?_;refine kT 11 ?_;refine kT 12 ?_;refine kT 13 ?_;refine rdA 14 rfl fun K E=>?_;go_simp;refine (aw.o _ A.o).mono ?_;rintro e W2 ⟨rfl,b⟩;have t:=Aa (Ac A.o b);clear b;go_simp;refine xK E (HS.o _ t.o) fun g=>?_;clear E K;refine kT 15 ?_;refine kT 16 ?_;refine kT 17 ?_;refine kT 18 ?_;refine kT 19 ?_;refine kT 20 ?_;refine kT 21 ?_;refine kT 22 ?_;refine kT 23 ?_;refine kT 24 ?_;refine kT 25 ?_;refine kT 26 ?_;refine kT 27 ?_;refine kT 28 ?_;refine kT 29 ?_;refine kT 30 ?_;refine kT 31 ?_;refine kT 32 ?_;refine kT 33 ?_;refine kT 34 ?_;refine rdA 35 rfl fun K E=>?_;go_simp;refine (bi.o _ t.o).mono ?_;rintro e W3 ⟨b1,b2,b3,b4,b5,b6,rfl,bg,k⟩;have ax:=Aa (Ac t.o k);have bt:=Aa bg;clear k bg;go_simp;refine xK E (HS.o _ ax.o) fun g=>?_;clear E K;refine rdA 36 rfl fun K E=>?_;go_simp;refine (bh.o _ ax.o bt.o).mono ?_;rintro e W4 ⟨rfl,bf⟩;have bj:=Aa (Ac ax.o bf);clear bf;go_simp;refine xK E (HS.o _ bj.o) fun g=>?_;clear E K;refine kT 37 ?_;refine kT 38 ?_;refine kT 39 ?_;refine gE ?_;go_wp2_with fail;go_ret;exact ⟨by simp,Ac ay.o bj.o⟩
def Bc (x:WX) (K:Nat) (gs:List (Int × Int)) (ls ms:List Lab) (vs:List (Bool × Lab)) (fs:List FnD):WK:=⟨x.c.n,K,ls.map (Ar (Ax gs) x.c.n),ms.map (Ar (Ax gs) x.c.n),vs.map Prod.fst,vs.map (fun v=>Ar (Ax gs) x.c.n v.2),fs,x.fl⟩
theorem Kh (x) (K:Nat) (gs ls ms) (vs:List (Bool × Lab)) (fs) (s:WSt) (p l:Lev) {i:Nat} (hi:i < vs.length):Cr (Bc x K gs ls ms vs fs) s p (i:Int) l=(Av p (s.vs.getD i Ah) x.c.n && (!vs[i].1 || Av l (Ar (Ax gs) x.c.n vs[i].2) x.c.n)):=by
 unfold Cr Bc;simp [List.getD_eq_getElem?_getD,hi]
abbrev Oq (x:WX) (bl:Nat) (W:World) (m1:Option Addr) (m2 m3:Nat) (m4:Option Addr) (m5 m6:Nat) (Wz:World):Prop:=Wz.cell? ⟨x.bw,9,none⟩=some (O (some ⟨bl,0,none⟩) x.c.ln x.c.lc)/\CE Wz (W.heap.size+1) 0 (O m1 m2 m3)/\CE Wz (W.heap.size+1) 1 (O m4 m5 m6)
theorem FK (x) (w0:World) (K kf:Nat) (gs ls ms vs fs) (S:WtS x w0 K kf gs ls ms vs fs) (s:WSt) (pv:Value) (W:World) (h:WtI x w0 s pv W) (hvl:s.vs.length=vs.length) (v u:Value) (p l) (hp:Aw x.c.n (XW x) W v p) (hl:Aw x.c.n (XW x) W u l) (i:Nat) (hi:i < vs.length) :
  Calls Tryz.prog 121 #[zi (some ⟨x.bw,0,none⟩),v,zd U (i:Int),u] W fun e W'=>e=zj (zg (CC (Bc x K gs ls ms vs fs) s p (i:Int) l).1)/\WtI x w0 (CC (Bc x K gs ls ms vs fs) s p (i:Int) l).2 pv W'/\FrW (XV x) W W':=by
 obtain ⟨p1,q1,r1,p2,q2,r2,rfl⟩:=hp.form;obtain ⟨J,I,H,G,F,E,rfl⟩:=hl.form;unfold CC;rw [Kh x K gs ls ms vs fs s p l hi];have M:i < s.vs.length:=by omega
 obtain ⟨C,bd,a1,a2,a3,a4,a5,a6,y,k0,k1,aq⟩:=h.lev.cells M;have Z:x.c.la=some ⟨C,0,none⟩:=by unfold WX.lv at y;injection y
 have au:x.c.ln=s.vs.length:=by unfold WX.lv at y;injection y
 have T:=S.v16;have bm:(i:Int) < (x.c.ln:Int):=by omega
 have bk:x.c.ln<=16:=by omega
 obtain ⟨V1,g⟩:=nm (((W.alloc (ze #[O p1 q1 r1,O p2 q2 r2] 50)).alloc (ze #[O J I H,O G F E] 50)));have A:Ov W V1:=by rw [g];exact (bA W _).alloc (by simp) _
 have ra:Ad [O p1 q1 r1,O p2 q2 r2] V1 W.heap.size:=by
  rw [g];exact (Ad.new [O p1 q1 r1,O p2 q2 r2] 50 W).over (bA _ _)
 have rb:Ad [O J I H,O G F E] V1 (W.heap.size+1):=by
  rw [g];have r:=Ad.new [O J I H,O G F E] 50 (W.alloc (ze #[O p1 q1 r1,O p2 q2 r2] 50));simpa using r
 have Q:=Aa A;have HI:=Aa h;have a0:=Aa S.n1;have a7:=Aa hl;have az:=Aa rb;have B:=Aa Z;have ab:=Aa M;have KM:=Aa (Hg x w0 K kf gs ls ms vs fs S s pv V1 (h.over A) hvl _ _ p l (hp.over (A5 x) A) (hl.over (A5 x) A) i hi);obtain ⟨b,hb⟩:=nm ((Av p (s.vs.getD i Ah) x.c.n && (!vs[i].1 || Av l (Ar (Ax gs) x.c.n vs[i].2) x.c.n)));rw [<-hb] at KM ⊢;have u0:=ra 0 _ rfl;have u1:=ra 1 _ rfl;have u2:=rb 0 _ rfl;have u3:=rb 1 _ rfl;rw [g] at u0 u1 u2 u3;clear hb ra rb A h S hi M Z au y k0 k1 aq hp hl hvl T
 cases b with
 | false=>
  go_enter Tryz.func121,Tryz.ntmps121;go_wp2_with fail;rw [<-g];clear g u0 u1 u2 u3;refine (KM.o).mono ?_;rintro e R ⟨rfl,k⟩;have ad:=Aa (Ac Q.o k);clear k;go_wp2_with fail;go_ret;exact ⟨rfl,HI.o.over ad.o,FrW.of_below (Bx x) ad.o⟩
 | true=>
  go_enter Tryz.func121,Tryz.ntmps121;go_wp2_with fail;rw [<-g];clear g u0 u1 u2 u3;refine (KM.o).mono ?_;rintro e R ⟨rfl,k⟩;have q:Ov W R.drew:=(Ac Q.o k).drew;have h2:=HI.o.over (Ac Q.o k);have h3:=HI.o.over q;have t:=(az.o.over k).over (bD _);have u9:CE R x.bw 9 (O (some ⟨C,0,none⟩) x.c.ln x.c.lc):=by rw [<-B.o];exact h2.cw (j:=8) rfl
  have ay:Hx (Oq x C W J I H G F E R.drew):=⟨u9,t 0 _ rfl,t 1 _ rfl⟩;have f:=h3.setLev a0.o B.o ab.o (a7.o.over (A5 x) q);obtain ⟨W4,N⟩:=nm (((R.setCell ⟨C,i*2,none⟩ (O J I H)).setCell ⟨C,i*2+1,none⟩ (O G F E)).drew);have aa:(R.drew.setCell ⟨C,i*2,none⟩ (O J I H)).setCell ⟨C,i*2+1,none⟩ (O G F E)=W4:=by rw [N];rfl
  rw [aa] at f;clear aa;have a8:=Aa f.1;have a9:=Aa ((FrW.of_below (Bx x) q).trans f.2);have ax:Hx (Oq x C W J I H G F E W4):=⟨by rw [<-B.o];exact f.1.cw (j:=8) rfl,f.2.row t (fun e=>by have:=(HI.o.vlt _ ((Bx x).below _ _ q _ e)).2;omega) 0 _ rfl,f.2.row t (fun e=>by have:=(HI.o.vlt _ ((Bx x).below _ _ q _ e)).2;omega) 1 _ rfl⟩;obtain ⟨us,L,av⟩:=h2.lev;have V:x.lv=O (some ⟨C,0,none⟩) s.vs.length x.c.lc:=by
   rcases L.2 with ⟨e,-⟩ | ⟨g',cap,br,e,-⟩
   ·unfold WX.lv at e;rw [B.o] at e;cases e
   ·unfold WX.lv at e ⊢;injection e with e1 e2 e3;rw [B.o,e2]
  rw [V] at L;have ao:=L.1;have ar:=ab.o;have d0:=(L.cellAt (i*2) (by omega)).trans (List.getElem?_eq_getElem (by omega));have d1:=(L.cellAt (i*2+1) (by omega)).trans (List.getElem?_eq_getElem (by omega));have z0:=L.frozenAt (i*2);have z1:=L.frozenAt (i*2+1);generalize us[i*2]=d0v at d0;generalize us[i*2+1]=d1v at d1;clear q h2 h3 t f k L av V ao ar KM;go_wp2_with fail;refine gS (Oq x C W J I H G F E) (ay.o) fun P=>?_;refine kT 0 ?_;refine kT 1 ?_;refine kT 2 ?_;refine kT 3 ?_;refine kT 4 ?_;refine kT 5 ?_;refine kT 6 ?_;refine kT 7 ?_;refine kT 8 ?_;refine rdA 9 rfl fun K hK=>?_;go_simp;rw [<-N];clear N;refine xK hK (ax.o) fun P=>?_;clear hK K;refine gE ?_;go_wp2_with fail;go_ret;exact ⟨rfl,a8.o,a9.o⟩
theorem Tryz.infoLk:(Tryz.prog.info? 50).map (fun i=>(i.zero,i.size,i.bytes))=some (some (zh #[O none 0 0,O none 0 0]),2,48):=by kernel_rfl
theorem PE (x:WX) (w0:World) (n1:1<=x.c.n) (s:WSt) (pv:Value) (W:World) (h:WtI x w0 s pv W) (v:Value) (p) (hp:Aw x.c.n (XW x) W v p) (dp:Nat) (hd:dp < s.ps.length) (hd9:dp<=9000) :
  Calls Tryz.prog 120 #[zi (some ⟨x.bw,0,none⟩),zd U (dp:Int),v] W fun e W'=>e=zj (zk #[])/\(∃ pv',WtI x w0 (s.enter dp p) pv' W')/\FrW (XV x) W W':=by
 obtain ⟨y,q,k,t,l,i,rfl⟩:=hp.form;obtain ⟨g,cap,a0,T⟩:=h.pls.form (by omega);obtain ⟨m1,am⟩:=nm (dp+1);have a8:IntKind.i64.wrap ((dp:Int)+1)=(m1:Int):=by rw [IntKind.wrap_i64];omega
 subst a0;obtain ⟨I,Q⟩:=nm (W.alloc (ze #[O y q k,O t l i] 50));have N:Ov W I:=by rw [Q];exact bA W _
 have ra:Ad [O y q k,O t l i] I W.heap.size:=by rw [Q];exact Ad.new _ _ _
 have L:Ov W (I.drew.alloc (ze #[O y q k,O t l i] 50)):=(N.drew).alloc (by have:=N.size;exact this) _;have R:=h.over L;have ak:=hp.over (A5 x) L;obtain ⟨i0,hi,aj,ai,ah⟩:=info_parts Tryz.infoLk;have az:=R.pls.take (m:=m1) (by omega);obtain ⟨us,C,ao⟩:=az;have E:(s.ps.take m1).length=m1:=by simp;omega
 rw [E] at C;have hN:=Ad.new [O y q k,O t l i] 50 I.drew;obtain ⟨v2,V,S,B,F,-,aq⟩:=run_append_own_at (P:=Tryz.prog) (w:=(I.drew.alloc (ze #[O y q k,O t l i] 50))) w0.heap.size 42 42 50 i0 (zh #[O none 0 0,O none 0 0]) 2 48 Tryz.underlying42 hi aj ai ah rfl (by decide) _ _ _ C ⟨I.drew.heap.size,0,none⟩ 1 1 [O y q k,O t l i] rfl (fun jj u hu=>by rw [Addr.add_lit,Nat.zero_add];exact hN jj u hu) (by simp [Value.oneCell']) (by unfold maxLen;omega) (by omega) (Nat.le_trans R.below.size (Nat.le_refl _));obtain ⟨ag,ae,af,rfl⟩:=AE B;have A:=R.newPls n1 ao (by rw [C.1,E]) ak (by rw [E];exact B) F aq;have be:=(h.over N).c11;have bd:CE (I.alloc (ze #[O y q k,O t l i] 50)) x.bw 11 (O (some ⟨g,0,none⟩) s.ps.length cap):=R.c11;have J:V.heap[x.bw]? = (I.drew.alloc (ze #[O y q k,O t l i] 50)).heap[x.bw]?:=F.block x.bw R.lo.2 (fun e=>R.apP e.symm);have d2:CE V x.bw 11 (O (some ⟨g,0,none⟩) s.ps.length cap):=(World.cell?_of_block (a:=⟨x.bw,11,none⟩) J).trans R.c11;have f2:V.frozen? ⟨x.bw,11,none⟩=false:=(World.frozen?_of_block (a:=⟨x.bw,11,none⟩) J).trans (R.fz 11);have ab:=(FrW.of_below (Bx x) L).trans A.2;have al:∀ (W3:World),Ov W W3->¬ XV x W3 W.heap.size:=fun W3 a2 e=>by have:=(h.vlt _ ((Bx x).below _ _ a2 _ e)).2;omega
 have av:Hx (CE I.drew W.heap.size 0 (O y q k)/\CE I.drew W.heap.size 1 (O t l i)):=⟨ra 0 _ rfl,ra 1 _ rfl⟩;have H:Ad [O y q k,O t l i] (I.drew.alloc (ze #[O y q k,O t l i] 50)) W.heap.size:=(ra.over (bD _)).over (bA _ _);have ac:Hx (CE (I.drew.alloc (ze #[O y q k,O t l i] 50)) W.heap.size 0 (O y q k)/\CE (I.drew.alloc (ze #[O y q k,O t l i] 50)) W.heap.size 1 (O t l i)):=⟨H 0 _ rfl,H 1 _ rfl⟩;have an:(Value.slice (some ⟨g,0,none⟩) m1 cap).ownBlock≠some W.heap.size:=fun e=>by simp [Value.ownBlock] at e;have:=(h.pls.lt g (by simp [Value.ownBlock])).2;omega
 have Z:Ad [O y q k,O t l i] V W.heap.size:=fun j u hu=>(World.cell?_of_block (a:=⟨W.heap.size,j,none⟩) (F.block _ (bL (H j u hu)) (fun e=>an e.symm))).trans (H j u hu);have au:Hx (CE V W.heap.size 0 (O y q k)/\CE V W.heap.size 1 (O t l i)):=⟨Z 0 _ rfl,Z 1 _ rfl⟩;have M:=A.2.row H (al _ L);obtain ⟨W4,aa⟩:=nm (V.setCell ⟨x.bw,11,none⟩ (O ag ae af));rw [<-aa] at A ab M;have ar:Hx (CE W4 W.heap.size 0 (O y q k)/\CE W4 W.heap.size 1 (O t l i)):=⟨M 0 _ rfl,M 1 _ rfl⟩;have G:Hx (WtI x w0 (s.enter dp p) (O ag ae af) W4/\FrW (XV x) W W4):=⟨by have e:=A.1;rw [am] at e;exact e,ab⟩;have bb:m1<=cap:=by
  obtain ⟨a5,a1,-⟩:=h.pls;rcases a1.2 with ⟨e,-⟩ | ⟨g',c',bf,e,-,-,hc,-⟩
  ·cases e
  ·injection e with e1 e2 e3;omega
 have a9:cap<=9223372036854775807:=T;clear h R hp ak N L hN ao C B F aq A ab al ra H Z M an J hi aj ai ah E T am;go_enter Tryz.func120,Tryz.ntmps120;go_wp2_with fail;rw [<-Q];clear Q;refine gS (fun Wz=>CE Wz W.heap.size 0 (O y q k)/\CE Wz W.heap.size 1 (O t l i)) (av.o) fun b=>?_;refine kT 0 ?_;refine kT 1 ?_;refine kT 2 ?_;refine kT 3 ?_;refine kT 5 ?_;refine kT 6 ?_;refine kT 8 ?_;refine rdB 4 9 rfl (fun K f=>?_) rfl fun K f=>?_
 ·go_simp
  refine xK f (av.o) fun b=>?_;clear f K;refine kT 7 ?_;refine rdA 9 rfl fun K f=>?_;go_simp;refine xK f (ac.o) fun b=>?_;clear f K;refine rdA 10 rfl fun K f=>?_;refine Db rfl _ _ _ rfl _ _ _ _ rfl rfl S ?_;refine xK f (au.o) fun b=>?_;clear f K;refine kT 11 ?_;refine kT 12 ?_;refine rdA 13 rfl fun K f=>?_;go_simp;rw [<-aa];refine xK f (ar.o) fun b=>?_;clear f K;refine gE ?_;go_end0;exact ⟨rfl,⟨_,G.o.1⟩,G.o.2⟩
 ·go_simp
  refine xK f (ac.o) fun b=>?_;clear f K;refine rdA 4 rfl fun K f=>?_;go_simp;refine xK f (ac.o) fun b=>?_;clear f K;refine kT 7 ?_;refine rdA 10 rfl fun K f=>?_;refine Db rfl _ _ _ rfl _ _ _ _ rfl rfl S ?_;refine xK f (au.o) fun b=>?_;clear f K;refine kT 11 ?_;refine kT 12 ?_;refine rdA 13 rfl fun K f=>?_;go_simp;rw [<-aa];refine xK f (ar.o) fun b=>?_;clear f K;refine gE ?_;go_end0;exact ⟨rfl,⟨_,G.o.1⟩,G.o.2⟩
def PS (w:World) (v:Value) (l:List (Int × Int)):Prop:=
 ∃ ao cap,v=O ao l.length cap/\(l≠[]->∃ b,ao=some ⟨b,0,none⟩/\∀ i (h:i < l.length),w.cell? ⟨b,i*2,none⟩=some (zd U l[i].1)/\w.cell? ⟨b,i*2+1,none⟩=some (zd U l[i].2))
theorem Hy:∀ (l:List (Int × Int)) (i:Nat) (h:i < l.length),(Cc l)[i*2]? = some (zd U l[i].1)/\(Cc l)[i*2+1]? = some (zd U l[i].2)
 | [],i,h=>absurd h (by simp)
 | f::l,0,h=>⟨rfl,rfl⟩
 | f::l,i+1,h=>by
  have e:Cc (f::l)=zd U f.1::zd U f.2::Cc l:=rfl;have r:=Hy l i (by simpa using h);rw [e,show (i+1)*2=i*2+1+1 by omega];simpa using r
theorem NJ {W:World} {B e:Nat} {v:Value} {l:List (Int × Int)} (h:W.ownsRow B e 2 v l.length (Cc l)):PS W v l:=by
 rcases id h.2 with ⟨b,k⟩ | ⟨g,cap,s,b,-⟩
 ·exact ⟨none,0,by rw [b,k],fun f=>absurd (List.length_eq_zero_iff.1 k) f⟩
 ·refine ⟨some ⟨g,0,none⟩,cap,b,fun _=>⟨g,rfl,fun i hi=>?_⟩⟩
  rw [b] at h;obtain ⟨q,p⟩:=Hy l i hi;exact ⟨(h.cellAt _ (by omega)).trans q,(h.cellAt _ (by omega)).trans p⟩
theorem Qp (F:FuncId) (cap:List Value) (p:Int × Int->Bool) (v:Value) (l) (w:World) (hv:PS w v l) (hn:l.length<=1000)
  (hF:Hx (∀ (i:Nat) (h:i < l.length) (w1:World),Ov w w1->Calls Tryz.prog F (zh #[zd U l[i].1,zd U l[i].2]::cap).toArray w1 fun e w2=>e=zj (zg (p l[i]))/\Ov w1 w2))
  (hC:∀ (args:Array Value) (w:World),(callFunc F args).run Tryz.prog w=.ok (.enter F args) w) :
  Calls Tryz.prog 245 #[v,.func (.func F) #[] cap.toArray] w fun e w'=>e=zj (zd U (GH p l))/\Ov w w':=by
 obtain ⟨W,V,rfl,B⟩:=hv;go_enter Tryz.func245,Tryz.ntmps245;go_wp2_with fail;go_loopw [8] (fun i wr=>∃ k:Nat,k<=l.length/\i=zd U k/\(l.take k).all (fun g=>!p g)=true/\Ov w wr) (fun i _=>l.length - (intOf i).toNat)
 case atStart=>exact ⟨0,Nat.zero_le _,rfl,rfl,Below.refl _ w⟩
 case round=>
  obtain ⟨k,hk,rfl,s,f⟩:=hrel;by_cases hkl:k < l.length
  ·obtain ⟨b,rfl,G⟩:=B (by rintro rfl;simp at hkl)
   obtain ⟨I,H⟩:=G k hkl;obtain ⟨I,H⟩:=co2 f I H;have q:=fun (w1:World) (P:Ov w w1)=>hF.o k hkl w1 P;have E:=fun (J:p l[k]=true)=>JB hkl s J;have u:p l[k]=false->(l.take (k+1)).all (fun g=>!p g)=true:=fun J=>by
    rw [List.take_succ_eq_append_getElem hkl,List.all_append,s];simp [J]
   obtain ⟨r,M⟩:=nm (p l[k]);rw [<-M] at q E u;obtain ⟨T,A⟩:=nm (l[k].1);obtain ⟨S,y⟩:=nm (l[k].2);rw [<-A,<-y] at q;rw [<-A] at I;rw [<-y] at H;clear A y;have N:=Aa q;have R:=Aa E;have Q:=Aa u;clear M q E u G B hF
   cases r with
   | true=>
    go_wp2_with fail;refine (N.o _ f).mono ?_;rintro e w2 ⟨rfl,C⟩;have t:Ov w w2:=f.trans (C.mono f.size);go_wp2_with fail;go_ret;exact ⟨by rw [R.o (by first | rfl | trivial)];rfl,t⟩
   | false=>
    go_wp2_with fail;refine (N.o _ f).mono ?_;rintro e w2 ⟨rfl,C⟩;have t:Ov w w2:=f.trans (C.mono f.size);go_wp2_with fail;exact ⟨⟨k+1,by omega,by go_num,Q.o (by first | rfl | trivial),t⟩,by simp [intOf];omega⟩
  ·have L:k=l.length:=by omega
   rw [L,List.take_length] at s;have O:=F6 s;clear s B hF;go_wp2_with fail;go_ret;exact ⟨by rw [O];rfl,f⟩
theorem Mh (F:FuncId) (cap:List Value) (p:Int × Int->Bool) (v:Value) (l) (w:World) (hv:PS w v l) (hn:l.length<=1000)
  (hF:Hx (∀ (i:Nat) (h:i < l.length) (w1:World),Ov w w1->Calls Tryz.prog F (zh #[zd U l[i].1,zd U l[i].2]::cap).toArray w1 fun e w2=>e=zj (zg (p l[i]))/\Ov w1 w2))
  (hC:∀ (args:Array Value) (w:World),(callFunc F args).run Tryz.prog w=.ok (.enter F args) w) :
  Calls Tryz.prog 229 #[v,.func (.func F) #[] cap.toArray] w fun e w'=>e=zj (zg (l.any p))/\Ov w w':=by
 have g:=Qp F cap p v l w hv hn hF hC;have b:=Hu p l;obtain ⟨r,k⟩:=nm (GH p l);rw [<-k] at g b;rw [<-b];have q:=Aa g;clear g b k hv hC hF;go_enter Tryz.func229,Tryz.ntmps229;go_wp2_with fail;refine (q.o).mono ?_;rintro e w1 ⟨rfl,f⟩;go_wp2_with fail;go_ret;exact ⟨by simp,f⟩
theorem PH (args:Array Value) (w:World):(callFunc 228 args).run Tryz.prog w=.ok (.enter 228 args) w:=by simp [go_sem]
theorem mt1 (a f1 f2:Int) (b:Nat) (W:World) (hb:W.cell? ⟨b,0,none⟩=some (zd U a)) :
  Calls Tryz.prog 228 #[zh #[zd U f1,zd U f2],zi (some ⟨b,0,none⟩)] W fun e W'=>e=zj (zg (decide (f1=a) && (decide (f2=6) || decide (f2=7))))/\Ov W W':=by
 have f:Ov W (W.alloc (ze #[zd U f1,zd U f2] 89)):=bA W _;have l:=Ab f _ _ hb;have g:=Aa f;clear f hb;by_cases h1:f1=a
 ·subst h1
  by_cases h2:f2=6
  ·subst h2
   go_enter Tryz.func228,Tryz.ntmps228;go_wp2_with fail;go_ret;exact ⟨by simp,g.o⟩
  ·by_cases h3:f2=7
   ·subst h3
    go_enter Tryz.func228,Tryz.ntmps228;go_wp2_with fail;go_ret;exact ⟨by simp,g.o⟩
   ·have i:decide (f2=6)=false:=by simp [h2]
    have h:decide (f2=7)=false:=by simp [h3]
    rw [i,h];go_enter Tryz.func228,Tryz.ntmps228;go_wp2_with fail;go_ret;exact ⟨by simp [h2,h3],g.o⟩
 ·have k:decide (f1=a)=false:=by simp [h1]
  rw [k];go_enter Tryz.func228,Tryz.ntmps228;go_wp2_with fail;go_ret;exact ⟨by simp,g.o⟩
theorem Ki (x) (w0:World) (K kf:Nat) (gs ls ms vs fs) (S:WtS x w0 K kf gs ls ms vs fs) (s:WSt) (pv:Value) (W:World) (h:WtI x w0 s pv W) (a kd ot ek en:Int) (xa xl xc aa al ac ta tl tc ea el ec) (i:Nat) (hi:i < vs.length) :
  Calls Tryz.prog 189 #[zi (some ⟨x.bw,0,none⟩),zh #[zd U kd,zd U (i:Int),zd U ot,zd U ek,zd U en,O xa xl xc,O aa al ac,O ta tl tc,O ea el ec],zd U a] W fun e W'=>e=zj (zg (vs[i].1 && !x.fl.any (fun f=>decide (f.1=a) && (decide (f.2=6) || decide (f.2=7)))))/\Ov W W':=by
 obtain ⟨L,ag,af,M,k⟩:=S.vars;injection M with V T v3;obtain ⟨A,u,C,k⟩:=k (by rintro rfl;simp at hi);obtain ⟨pr,pw,Q,-⟩:=k i hi;have F:x.c.va=some ⟨A,u,none⟩:=V.trans C;have E:x.c.vn=vs.length:=T;have G:=S.v16;have aj:(i:Int) < (x.c.vn:Int):=by omega
 have ai:x.c.vn<=16:=by omega
 obtain ⟨B,g⟩:=nm (((W.alloc (ze #[zd U kd,zd U (i:Int),zd U ot,zd U ek,zd U en,O xa xl xc,O aa al ac,O ta tl tc,O ea el ec] 130)).alloc (ze #[zd U a] 3)));have q:Ov W B:=by rw [g];exact (bA W _).alloc (by simp) _
 have ra:Ad [zd U kd,zd U (i:Int),zd U ot,zd U ek,zd U en,O xa xl xc,O aa al ac,O ta tl tc,O ea el ec] B W.heap.size:=by
  rw [g];exact (Ad.new [zd U kd,zd U (i:Int),zd U ot,zd U ek,zd U en,O xa xl xc,O aa al ac,O ta tl tc,O ea el ec] 130 W).over (bA _ _)
 have Z:B.cell? ⟨W.heap.size+1,0,none⟩=some (zd U a):=by rw [g];simp [go_sem]
 have J:=Aa q;have p:Hx (Ov B B.drew):=(bD _);obtain ⟨r,N⟩:=nm (x.fl.any (fun f=>decide (f.1=a) && (decide (f.2=6) || decide (f.2=7))));obtain ⟨kn,y⟩:=nm (vs[i].1);rw [<-N,<-y];rw [<-y] at Q;have KC:Hx (∀ (W2:World),Ov B W2->Calls Tryz.prog 229 #[x.fv,.func (.func 228) #[] #[zi (some ⟨W.heap.size+1,0,none⟩)]] W2 fun e W'=>e=zj (zg r)/\Ov W2 W'):=fun W2 b=>by
  have H:=h.over (Ac q b);rw [N];exact Mh 228 [zi (some ⟨W.heap.size+1,0,none⟩)] _ x.fv x.fl W2 (NJ H.flt) S.fl (fun j hj w1 P=>mt1 a x.fl[j].1 x.fl[j].2 _ w1 (Ab P _ _ (Ab b _ _ Z))) PH
 have R:Hx (∀ (W2:World),Ov B W2->W2.cell? ⟨x.bw,6,none⟩=some (O (some ⟨A,u,none⟩) x.c.vn x.c.vc)/\W2.cell? ⟨x.bw,12,none⟩=some (x.fv)/\W2.cell? ⟨W.heap.size,1,none⟩=some (zd U (i:Int))/\W2.cell? ⟨A,u+i*3,none⟩=some (zg kn)):=fun W2 b=>by
  have H:=h.over (Ac q b);exact ⟨by rw [<-F];exact H.cw (j:=5) rfl,H.c12,(ra.over b) 1 _ rfl,Ab H.below _ _ Q⟩
 clear N y ra Z q h S L k V T v3 C F E G Q hi
 cases kn with
 | false=>
  go_enter Tryz.func189,Tryz.ntmps189;go_wp2_with fail;rw [<-g];clear g;refine gS (fun t=>t.cell? ⟨x.bw,6,none⟩=some (O (some ⟨A,u,none⟩) x.c.vn x.c.vc)/\t.cell? ⟨x.bw,12,none⟩=some (x.fv)/\t.cell? ⟨W.heap.size,1,none⟩=some (zd U (i:Int))/\t.cell? ⟨A,u+i*3,none⟩=some (zg false)) (R.o _ p.o) fun l=>?_;refine kT 0 ?_;refine kT 1 ?_;refine kT 2 ?_;refine kT 3 ?_;refine kT 4 ?_;refine kT 5 ?_;refine kT 6 ?_;refine kT 7 ?_;refine kT 8 ?_;refine kT 9 ?_;refine kT 10 ?_;refine kT 11 ?_;refine kU 12 ?_;refine kU 13 ?_;refine kU 14 ?_;refine kU 15 ?_;refine kU 16 ?_;refine kU 17 ?_;refine kU 18 ?_;refine kT 19 ?_;refine kT 20 ?_;refine gE ?_;go_wp2_with fail;go_ret;exact ⟨by simp,Ac J.o p.o⟩
 | true=>
  go_enter Tryz.func189,Tryz.ntmps189;go_wp2_with fail;rw [<-g];clear g;refine gS (fun t=>t.cell? ⟨x.bw,6,none⟩=some (O (some ⟨A,u,none⟩) x.c.vn x.c.vc)/\t.cell? ⟨x.bw,12,none⟩=some (x.fv)/\t.cell? ⟨W.heap.size,1,none⟩=some (zd U (i:Int))/\t.cell? ⟨A,u+i*3,none⟩=some (zg true)) (R.o _ p.o) fun l=>?_;refine kT 0 ?_;refine kT 1 ?_;refine kT 2 ?_;refine kT 3 ?_;refine kT 4 ?_;refine kT 5 ?_;refine kT 6 ?_;refine kT 7 ?_;refine kT 8 ?_;refine kT 9 ?_;refine kT 10 ?_;refine kT 11 ?_;refine kT 12 ?_;refine kT 13 ?_;refine kT 14 ?_;refine kT 15 ?_;refine kT 16 ?_;refine rdA 17 rfl fun K hK=>?_;go_simp;refine (KC.o _ p.o).mono ?_;rintro e W2 ⟨rfl,b⟩;have I:=Aa (Ac p.o b);clear b;go_simp;refine xK hK (R.o _ I.o) fun l=>?_;clear hK K;refine kT 18 ?_;refine kT 19 ?_;refine kT 20 ?_;refine gE ?_;go_wp2_with fail;go_ret;exact ⟨by simp,Ac J.o I.o⟩
end Go.Proofs.YtfffpjkcfnekaaaGreat.Ex
