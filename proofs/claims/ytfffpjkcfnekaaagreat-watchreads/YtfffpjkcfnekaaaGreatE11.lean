/- A run of any program: every command. -/
import Derived.Test.YtfffpjkcfnekaaaGreatE10
import Derived.Laws.EntriesVeiled
import Derived.Laws.OwnMore
set_option linter.unusedVariables false
set_option maxHeartbeats 8000000
set_option maxRecDepth 100000
namespace Go.Proofs.YtfffpjkcfnekaaaGreat.Ex
open Go.RowKit
open Go.Value renaming slice -> O, int -> zd, bool -> zg, agg -> zh, pointer -> zi, tuple -> zk
open Go.IntKind renaming i64 -> U
open Go.Obj renaming cells -> ze
open Go.Ending renaming returned -> zj
theorem Sl (K kf:Nat) (fs) (F:Nat) (ins) (ob:Ob) (g k:Nat) (d:D) (l:List D) (a:Int) (dp:Nat) (st:RSt):rn K kf fs F ins ob (g+1) 1 k (d::l) a dp st =
   if Ag d=2 then A0 (rn K kf fs F ins ob g 0 kf (BV fs (Ae d)).body (A2 kf (fs.take (Ae d).toNat)) dp (st.args K fs d)) (fun st1=>A0 (Bq ob 3 a dp d st1) (fun st'=>(true,st'.setv (Ap d) (AC st'.vars K (BV fs (Ae d)).res))))
   else if Ag d=7 then (if AC st.vars K (Am d)=0 then rn K kf fs F ins ob g 0 (k - 1) (Ao d) (a+1+AI (k - 1) (Aj d)) (dp+1) st else rn K kf fs F ins ob g 0 (k - 1) (Aj d) (a+1) (dp+1) st)
   else if Ag d=8 then rn K kf fs F ins ob g 2 k [d] a dp st
   else (true,DR K ins d a st):=by
 simp only [rn]
theorem Qf {ins:List (List Int)} (h:∀ x∈ins,∀ y∈x,I32 y) (st:RSt) (c:Int):I32 (Dj ins st c):=by
 unfold Dj;rw [List.getD_eq_getElem?_getD,List.getD_eq_getElem?_getD];have z:I32 0:=⟨by omega,by omega⟩;cases hc:ins[c.toNat]? with
 | none=>a using z
 | some l=>
  simp only [Option.getD_some];cases hy:l[(st.taken.getD c.toNat 0).toNat]? with
  | none=>a using z
  | some y=>a using h l (List.mem_of_getElem? hc) y (List.mem_of_getElem? hy)
theorem OP (I:Ca) (K kf:Nat) (m:Int) (ga gn gc sa sn sc ya yn yc oa on oc va vn vc fa fn fc ba bn bc xa xn xc) (F fln c3:Nat) (br b1 b2 b3:Nat) (fl fs ins) (w0:World) (g:Nat) (X:PT I K kf m ga gn gc sa sn sc ya yn yc oa on oc va vn vc fa fn fc ba bn bc xa xn xc F fln c3 br b1 b2 b3 fl fs ins w0) (HS:∀ g',g' < g->Mx I K kf m ga gn gc sa sn sc ya yn yc oa on oc va vn vc fa fn fc ba bn bc xa xn xc F fln c3 br b1 b2 b3 fl fs ins w0 g'):RH I K kf m ga gn gc sa sn sc ya yn yc oa on oc va vn vc fa fn fc ba bn bc xa xn xc F fln c3 br b1 b2 b3 fl fs ins w0 g:=by
 intro k cs d c a o f ev w ak hc a5 ha cu co Z h R ar hg;obtain ⟨z,rfl⟩:∃ z,k=z + 1:=by
  cases k with
  | zero=>exact ak.elim
  | succ k=>exact ⟨k,rfl⟩
 obtain ⟨g2,rfl⟩:∃ g2,g=g2+1:=⟨g - 1,by omega⟩;have cp:CY (z + 1) d=1+AI z (Aj d)+AI z (Ao d):=rfl;have b:=R.ok;have p:f.vars.length=vn:=b.vl;have ao:=a5;obtain ⟨N,M,L,H,J,P,O,C,B,G,E,rfl,-,-,-,hX,hA,hT,hE,-,-,-⟩:=ak.form;obtain ⟨⟨⟨k1,k8⟩,s,ax,a6,ap,-,-⟩,an,a4⟩:=a5;have U:=hX.over Z;have D:(Ag d=1\/4<=Ag d)->okX f.vars.length K (Am d):=fun hk=>by rw [p];exact EK hX (ap hk)
 have aq:(Ag d=1\/4<=Ag d)->I32 (AC f.vars K (Am d)):=fun hk=>Fv b.i32 K _ (D hk);have hF:=X.fuel;have t:=X.vars;have ch:f.steps<=F:=b.sb;have aw:f.ev.length<=2000:=by have:=b.el;omega
 rw [Sl];rcases (by omega:Ag d=1\/Ag d=2\/Ag d=3\/Ag d=4\/Ag d=5\/Ag d=6\/Ag d=7\/Ag d=8) with hk | hk | hk | hk | hk | hk | hk | hk
 ·rw [if_neg (by omega),if_neg (by omega),if_neg (by omega)]
  obtain ⟨v0,v1⟩:=s (by omega);obtain ⟨n,hn⟩:=Int.eq_ofNat_of_zero_le v0;have he:DR K ins d a f=f.setv (Ap d) (AC f.vars K (Am d)):=by unfold DR;rw [if_pos hk]
  rw [he,hk,hn];refine (RY m ga gn gc sa sn sc ya yn yc oa on oc va vn vc fa fn fc ba bn bc xa xn xc F fln c3 w0.heap.size br b1 b2 b3 fl o f ev K (Am d) n (Ae d) N M L H J P (Ai d).length O C (Aj d).length B G (Ao d).length E a w h U (D (by omega)) b.i32 (by rw [p];omega) (by rw [p];exact t)).mono ?_;rintro e w' ⟨h1,h2,h3⟩;exact ⟨h1,⟨ev,h2,h3⟩,b.setv (aq (by omega))⟩
 ·rw [if_pos hk]
  obtain ⟨v0,v1⟩:=s (by omega);obtain ⟨n,hn⟩:=Int.eq_ofNat_of_zero_le v0;obtain ⟨⟨o0,o1⟩,bt,ay⟩:=ax hk;obtain ⟨i,T⟩:=Int.eq_ofNat_of_zero_le o0;have v:i < fs.length:=by omega
  obtain ⟨-,cx,ca,bv,a9⟩:=X.funcs;injection bv with e1 e2 e3;obtain ⟨fb,ab,bw,av⟩:=a9 (by intro hz;rw [hz] at v;simp at v);have b6:=e1.trans bw;subst b6;obtain ⟨vP,vB,x0,x1,x2,f0,f1,f2,f3,f4,hp,⟨ci,qa,qc,bo,cj⟩,bf,hx⟩:=av i v;subst bo;have be:=bf;obtain ⟨-,za,zc,bp,-⟩:=be;subst bp;obtain ⟨ra,rc,a3⟩:=hx.form;simp only [List.cons.injEq,and_true] at a3;obtain ⟨rfl,rfl,rfl⟩:=a3;obtain ⟨cr,b0,bx,bz⟩:=X.body i v;have bb:BV fs (Ae d)=fs[i]:=by rw [T];simp [BV,v]
  have bu:fs[i].ps.length=(Ai d).length:=bt _ (by rw [T];simp [v]);have a7:(Ae d).toNat=i:=by rw [T];rfl
  have a8:fl[i]? = some ((A2 kf (fs.take i):Nat):Int):=by
   rw [X.flE,List.getElem?_map,List.getElem?_range (by omega)];rfl
  have cq:A2 kf (fs.take i)+AI kf fs[i].body<=50:=by
   have h1:=DF (k:=kf) v;have h2:A2 kf fs=A2 kf (fs.take (i + 1))+A2 kf (fs.drop (i + 1)):=by
    unfold A2;rw [<-List.sum_append,<-List.map_append,List.take_append_drop]
   have:=X.cnt;omega
  have bg:∀ x∈Ai d,okX vn K x:=fun x aj=>by
   obtain ⟨j,hj⟩:=List.mem_iff_getElem?.1 aj;obtain ⟨-,c7,c6,ct,bh⟩:=hA;obtain ⟨eb,eo,cn,az⟩:=bh (by intro hz;rw [hz] at aj;cases aj);obtain ⟨cs,-,-,bq⟩:=az j x hj;exact EK bq (ay x aj)
  have bs:rn K kf fs F ins I.ob g2 0 kf (BV fs (Ae d)).body (A2 kf (fs.take (Ae d).toNat)) o (f.args K fs d)=rn K kf fs F ins I.ob g2 0 kf fs[i].body (A2 kf (fs.take i)) o { f with vars:=BP f.vars (fs[i].ps.zip ((Ai d).map (AC f.vars K))) }:=by
   unfold RSt.args;rw [bb,a7]
  have u:=ak;rw [hk,hn,T] at u;rw [bs,bb,hk,hn,T];refine RV m ga gn gc sa sn sc ya yn yc oa on oc va vn vc (some ⟨fb,ab,none⟩) fn fc ba bn bc xa xn xc F fln c3 w0.heap.size br b1 b2 b3 fl o f ev (n:Int) (i:Int) N M L H J P (Ai d).length O C (Aj d).length B G (Ao d).length E a _ w0 w h Z (Aa fun W hW q=>?_);exact Tj m ga gn gc sa sn sc ya yn yc oa on oc va vn vc fn fc ba bn bc xa xn xc F fln c3 br b1 b2 b3 fl o d K kf g2 fs[i].ps (Ai d) fs[i].res _ n i fb ab N M L H J P (Ai d).length O C (Aj d).length B G (Ao d).length E a qa fs[i].ps.length qc za fs[i].body.length zc (AQ fs[i].res) (Bk fs[i].res) ra (A4 fs[i].res).length rc w0 (fun f=>rn K kf fs F ins I.ob g2 0 kf fs[i].body (A2 kf (fs.take i)) o f)
   (by rw [X.fnE];exact v) (by omega) t (by rw [X.fnE];exact X.fn5) f0 f1 f2 f3 f4 hp b0 bu hA bg (by omega) hx (EK hx bz) a8 (by rw [X.flE,X.flN];simp)
   (Aa fun r y W2 A l S au=>HS g2 (by omega) kf _ fs[i].body (i:Int) _ o r y W2 bf (by omega) bx (by omega) (by omega) (by omega) l A S au)
   (Aa fun r y W2 A l=>Ff m ga gn gc sa sn sc ya yn yc oa on oc va vn vc (some ⟨fb,ab,none⟩) fn fc ba bn bc xa xn xc F fln c3 w0.heap.size br b1 b2 b3 fl o r y K (z + 1) fs w0 3 a 2 (n:Int) (i:Int) N M L H J P (Ai d).length O C (Aj d).length B G (Ao d).length E d c W2 X.may l A u hc ao ha (by omega) (by omega) (Or.inr (Or.inr ⟨rfl,hk⟩)))
   f ev W hW q b (by omega)
 ·rw [if_neg (by omega),if_neg (by omega),if_neg (by omega)]
  obtain ⟨v0,v1⟩:=s (by omega);obtain ⟨n,hn⟩:=Int.eq_ofNat_of_zero_le v0;have he:DR K ins d a f=(f.took (Ae d)).setv (Ap d) (Dj ins f (Ae d)):=by unfold DR;rw [if_neg (by omega),if_pos hk]
  obtain ⟨o0,o1⟩:=a6 hk;rw [he,hk,hn];refine (RU m ga gn gc sa sn sc ya yn yc oa on oc va vn vc fa fn fc ba bn bc xa xn xc F fln c3 w0.heap.size br b1 b2 b3 fl o f ev n (Ae d) N M L H J P (Ai d).length O C (Aj d).length B G (Ao d).length E a ins w0 w h Z h.lo.2.2 X.lists o0 (by rw [X.many];exact o1) (by rw [X.many];exact b.tl.symm) (fun x hx=>⟨(b.tk x hx).1,by have:=(b.tk x hx).2;omega⟩) X.long (by rw [p];omega) (by rw [p];exact t)).mono ?_;rintro e w' ⟨h1,h2,h3⟩;exact ⟨h1,⟨ev,h2,h3⟩,(R.took _).setv (Qf X.num _ _)⟩
 ·rw [if_neg (by omega),if_neg (by omega),if_neg (by omega)]
  have he:DR K ins d a f=f.tell (1,a,Ae d,AC f.vars K (Am d)):=by unfold DR;rw [if_neg (by omega),if_neg (by omega),if_pos hk]
  rw [he,hk];refine (RT m ga gn gc sa sn sc ya yn yc oa on oc va vn vc fa fn fc ba bn bc xa xn xc F fln c3 w0.heap.size br b1 b2 b3 fl o f ev K (Am d) (Ap d) (Ae d) N M L H J P (Ai d).length O C (Aj d).length B G (Ao d).length E a w h U (D (by omega)) b.i32 aw).mono ?_;rintro e w' ⟨h1,ad,h2,h3⟩;exact ⟨h1,⟨ad,h2,h3⟩,R.tell _⟩
 ·rw [if_neg (by omega),if_neg (by omega),if_neg (by omega)]
  obtain ⟨v0,v1⟩:=s (by omega);obtain ⟨n,hn⟩:=Int.eq_ofNat_of_zero_le v0;have he:DR K ins d a f=(f.setv (Ap d) (AC f.vars K (Am d))).tell (2,a,Ap d,AC f.vars K (Am d)):=by unfold DR;rw [if_neg (by omega),if_neg (by omega),if_neg (by omega),if_pos hk]
  rw [he,hk,hn];refine (RR m ga gn gc sa sn sc ya yn yc oa on oc va vn vc fa fn fc ba bn bc xa xn xc F fln c3 w0.heap.size br b1 b2 b3 fl o f ev K (Am d) n (Ae d) N M L H J P (Ai d).length O C (Aj d).length B G (Ao d).length E a w h U (D (by omega)) b.i32 (by rw [p];omega) (by rw [p];exact t) aw).mono ?_;rintro e w' ⟨h1,ad,h2,h3⟩;exact ⟨h1,⟨ad,h2,h3⟩,(R.setv (aq (by omega))).tell _⟩
 ·rw [if_neg (by omega),if_neg (by omega),if_neg (by omega)]
  obtain ⟨v0,v1⟩:=s (by omega);obtain ⟨n,hn⟩:=Int.eq_ofNat_of_zero_le v0;have he:DR K ins d a f=(f.setv (Ap d) (AC f.vars K (Am d))).tell (3,a,Ap d,AC f.vars K (Am d)):=by unfold DR;rw [if_neg (by omega),if_neg (by omega),if_neg (by omega),if_neg (by omega),if_pos hk]
  rw [he,hk,hn];refine (RQ m ga gn gc sa sn sc ya yn yc oa on oc va vn vc fa fn fc ba bn bc xa xn xc F fln c3 w0.heap.size br b1 b2 b3 fl o f ev K (Am d) n (Ae d) N M L H J P (Ai d).length O C (Aj d).length B G (Ao d).length E a w h U (D (by omega)) b.i32 (by rw [p];omega) (by rw [p];exact t) aw).mono ?_;rintro e w' ⟨h1,ad,h2,h3⟩;exact ⟨h1,⟨ad,h2,h3⟩,(R.setv (aq (by omega))).tell _⟩
 ·rw [if_neg (by omega),if_pos hk]
  rw [hk];exact RP m ga gn gc sa sn sc ya yn yc oa on oc va vn vc fa fn fc ba bn bc xa xn xc F fln c3 w0.heap.size br b1 b2 b3 fl o f ev K (Am d) (Ap d) (Ae d) N M L H J P (Ai d).length O C (Aj d).length B G (Ao d).length E a (AI z (Aj d):Nat) _ _ w0 w h Z U (D (by omega)) b.i32 (by omega) (by omega)
   (Aa fun W hW q=>(Jz m ga gn gc sa sn sc ya yn yc oa on oc va vn vc fa fn fc ba bn bc xa xn xc F fln c3 w0.heap.size br b1 b2 b3 fl o f ev C (Aj d).length B (a+1) _ W (by omega) (ar (Or.inl hk)) hW (Aa fun W3 V Y=>HS g2 (by omega) z _ (Aj d) c (a+1) (o+1) f ev W3 hT hc an (by omega) (by omega) (by omega) (q.trans Y) V b (by omega))).mono (fun e w' hh=>⟨hh.1,hh.2.1,hh.2.2.1⟩))
   (Aa fun W hW q=>(Jz m ga gn gc sa sn sc ya yn yc oa on oc va vn vc fa fn fc ba bn bc xa xn xc F fln c3 w0.heap.size br b1 b2 b3 fl o f ev G (Ao d).length E (a+1+(AI z (Aj d):Nat)) _ W (by omega) (ar (Or.inl hk)) hW (Aa fun W3 V Y=>HS g2 (by omega) z _ (Ao d) c (a+1+(AI z (Aj d):Nat)) (o+1) f ev W3 hE hc a4 (by omega) (by omega) (by omega) (q.trans Y) V b (by omega))).mono (fun e w' hh=>⟨hh.1,hh.2.1,hh.2.2.1⟩))
   (Aa fun W q=>FD K z _ (Aj d) W (hT.over q) (by omega))
 ·rw [if_neg (by omega),if_neg (by omega),if_pos hk]
  have u:=ak;rw [hk] at u;rw [hk];exact RO m ga gn gc sa sn sc ya yn yc oa on oc va vn vc fa fn fc ba bn bc xa xn xc F fln c3 w0.heap.size br b1 b2 b3 fl o f ev (Ap d) (Ae d) N M L H J P (Ai d).length O C (Aj d).length B G (Ao d).length E a _ w0 w h Z
   (Aa fun W hW q=>Tg m ga gn gc sa sn sc ya yn yc oa on oc va vn vc fa fn fc ba bn bc xa xn xc F fln c3 w0.heap.size br b1 b2 b3 fl o K kf (z + 1) g2 fs ins d (Ap d) (Ae d) N M L H J P (Ai d).length O C (Aj d).length B G (Ao d).length E a w0 hF (by omega) hX (EK hX (ap (by omega)))
    (Aa fun g' cm r y W2 A Q l S au=>(Jz m ga gn gc sa sn sc ya yn yc oa on oc va vn vc fa fn fc ba bn bc xa xn xc F fln c3 w0.heap.size br b1 b2 b3 fl o r y C (Aj d).length B (a+1) _ W2 (by omega) Q A (Aa fun W3 V Y=>HS g' (by omega) z _ (Aj d) c (a+1) (o+1) r y W3 hT hc an (by omega) (by omega) (by omega) (l.trans Y) V S au)))
    (Aa fun r y W2 A Q l=>Ff m ga gn gc sa sn sc ya yn yc oa on oc va vn vc fa fn fc ba bn bc xa xn xc F fln c3 w0.heap.size br b1 b2 b3 fl o r y K (z + 1) fs w0 2 a 8 (Ap d) (Ae d) N M L H J P (Ai d).length O C (Aj d).length B G (Ao d).length E d c W2 X.may l A u hc ao ha (by omega) (by omega) (Or.inr (Or.inl ⟨rfl,hk,Q⟩)))
    f ev W (ar (Or.inr hk)) rfl hW q b (by omega))
theorem Na (I:Ca) (K kf:Nat) (m:Int) (ga gn gc sa sn sc ya yn yc oa on oc va vn vc fa fn fc ba bn bc xa xn xc) (F fln c3:Nat) (br b1 b2 b3:Nat) (fl fs ins) (w0:World) (X:PT I K kf m ga gn gc sa sn sc ya yn yc oa on oc va vn vc fa fn fc ba bn bc xa xn xc F fln c3 br b1 b2 b3 fl fs ins w0):∀ g,Mx I K kf m ga gn gc sa sn sc ya yn yc oa on oc va vn vc fa fn fc ba bn bc xa xn xc F fln c3 br b1 b2 b3 fl fs ins w0 g:=by
 intro g
 induction g using Nat.strongRecOn with
 | ind g ih=>exact RN I K kf m ga gn gc sa sn sc ya yn yc oa on oc va vn vc fa fn fc ba bn bc xa xn xc F fln c3 br b1 b2 b3 fl fs ins w0 g X (Aa fun d b=>OP I K kf m ga gn gc sa sn sc ya yn yc oa on oc va vn vc fa fn fc ba bn bc xa xn xc F fln c3 br b1 b2 b3 fl fs ins w0 d X (fun c a=>ih c (Nat.lt_trans a b)))
def DZ (kf:Nat) (fs:List FnD) (j:Nat):List Int:=(List.range (j+1)).map (fun i=>((A2 kf (fs.take i):Nat):Int))
theorem NQ (kf:Nat) (fs) (j:Nat):DZ kf fs (j+1)=DZ kf fs j++[((A2 kf (fs.take (j+1)):Nat):Int)]:=by
 unfold DZ;rw [List.range_succ,List.map_append];rfl
theorem F9 (kf:Nat) (fs) (j:Nat):(DZ kf fs j)[j]? = some ((A2 kf (fs.take j):Nat):Int):=by
 unfold DZ;rw [List.getElem?_map,List.getElem?_range (by omega)];rfl
theorem Pn {w w':World} {a0 a1:Addr} {v0 v1:Value} (h:w.cell? a0=some v0/\w.cell? a1=some v1) (hb:Ov w w'):w'.cell? a0=some v0/\w'.cell? a1=some v1:=⟨Ab hb _ _ h.1,Ab hb _ _ h.2⟩
theorem Nr {W:World} {B e:Nat} {v:Value} {n:Nat} {xs:List Value} (h:W.ownsRow B e 1 v n xs) (hn:0 < n):∃ g cap,v=O (some ⟨g,0,none⟩) n cap/\B<=g/\g < W.heap.size/\Ad xs W g:=by
 rcases h.2 with ⟨_,o⟩ | ⟨g,cap,f,a,d,c,m,l,k,i⟩
 ·omega
 ·refine ⟨g,cap,a,d,(Array.getElem?_eq_some_iff.1 c).1,fun j u b=>?_⟩
  have:=h.cells (g:=g) (by rw [a];rfl) j u b
  rwa [Addr.add_lit,Nat.zero_add] at this
section
variable {ops:Array Oper} {o:Oper} {a:Act} {W:World} {K:Act->World->Prop} {Q:Exit->Act->World->Prop} {E:Prop}
theorem Nb (hg:o.guard=none) (s x:Operand) (hop:o.op=Op.call { callee:=Callee.builtin Builtin.append,args:=#[s,x],argTypes:=#[25,25] })
  (B b g cap n:Nat) (xs:List Value) (z:Int) (hs:a.eval s=O (some ⟨g,0,none⟩) n cap) (hx:a.eval x=O (some ⟨b,0,none⟩) 1 1)
  (hown:W.ownsRow B 3 1 (O (some ⟨g,0,none⟩) n cap) n xs) (hb:W.cell? ⟨b,0,none⟩=some (zd U z)) (hk:n<=1000) (hB:B<=W.heap.size)
  (h:∀ v' W',W'.ownsRow B 3 1 v' (n+1) (xs++[zd U z])->W.grownBy W' (some g)->(∀ j u,xs[j]? = some u->W'.cell? ⟨g,j,none⟩=some u)->K (a.put o.dst v') W') :
  if Region.wanted o (yielded ops a.tmps)=true then Oper.wp Tryz.prog o a W K Q else E:=by
 have hw:Region.wanted o (yielded ops a.tmps)=true:=by simp [Region.wanted,hg]
 rw [if_pos hw];obtain ⟨i,y,r,p,q⟩:=info_parts Tryz.infoI;have c:∀ (j:Nat) (u:Value),([zd U z]:List Value)[j]? = some u->W.cell? ((⟨b,0,none⟩:Addr).add j)=some u:=by
  intro j u d;rw [Addr.add_lit]
  match j,d with
  | 0,d=>simp at d;subst d;simpa using hb
  | j+1,d=>simp at d
 have L:∀ u∈([zd U z]:List Value),u.oneCell'=true:=by intro u d;simp at d;subst d;rfl
 obtain ⟨v',F,w,J,Y,h5,h6⟩:=run_append_own_at (P:=Tryz.prog) W B 25 o.type 3 i _ 1 8 Tryz.underlying25 y r p q (by rfl) (by decide) _ n xs hown ⟨b,0,none⟩ 1 1 [zd U z] rfl c L (by simp only [maxLen];omega) (by omega) hB;have k:∀ j u,xs[j]? = some u->F.cell? ⟨g,j,none⟩=some u:=by
  intro j u d;have t:(xs++[zd U z])[j]? = some u:=by rw [List.getElem?_append_left (List.getElem?_eq_some_iff.1 d).1];exact d
  have m:=hown.1;rcases hown.2 with ⟨r,_⟩ | ⟨g',M,D,R,V,A,S,T,C,v⟩
  ·cases r
  ·injection R with l Z N
   injection l with l;injection l with l;subst l;subst N;by_cases hroom:n+1<=cap
   ·have e:=run_append_room (P:=Tryz.prog) W 25 o.type 3 i Tryz.underlying25 y g n cap D A ⟨b,0,none⟩ 1 1 [zd U z] (by rw [p];rfl) c L hroom (by rw [p,C];simp;omega)
    rw [w] at e;injection e with H G;have:=J.cells (g:=g) (by rw [H];rfl) j u t
    rwa [Addr.add_lit,Nat.zero_add] at this
   ·have f:=hown.cells (g:=g) rfl
    have e:=run_append_grow (P:=Tryz.prog) W 25 o.type 3 i _ Tryz.underlying25 y r ⟨g,0,none⟩ n cap xs (by rw [p];exact m) f ⟨b,0,none⟩ 1 1 [zd U z] (by rw [p];rfl) c (by omega) (by omega) (growslice_fits (by omega) (by rw [q];omega));rw [w] at e;injection e with H G;have I:=f j u d;rw [Addr.add_lit,Nat.zero_add] at I;rw [G];exact Ab ((bD W).alloc (Nat.le_refl _) _) _ _ I
 have X:=h v' F J Y k;unfold Oper.wp execOp;simp only [hop,resolve,invoke,builtin,Sem.run_bind,Sem.run_pure,Result.andThen_ok,List.map_toArray,List.map_cons,List.map_nil,hs,hx,w];exact X
end
theorem L9 (K kf:Nat) (m:Int) (ga gn gc sa sn sc ya yn yc oa on oc va vn vc) (fa fn fc) (ba bn bc fs) (w:World) (hf:Bv w K kf (O fa fn fc) fs) (hcnt:A2 kf fs<=50) (hfn:fn<=5) :
  Calls Tryz.prog 118 #[zh #[zd U m,O ga gn gc,O sa sn sc,O ya yn yc,O oa on oc,O va vn vc,O fa fn fc,O ba bn bc]] w fun e w'=>∃ g cap,e=zj (O (some ⟨g,0,none⟩) (fs.length+1) cap)/\w.heap.size<=g/\g < w'.heap.size/\Ad (Cj (DZ kf fs fs.length)) w' g/\Ov w w':=by
 obtain ⟨i0,hi,bx,bw,bv⟩:=info_parts Tryz.infoI;have q:Ov w (w.alloc (ze #[zd U m,O ga gn gc,O sa sn sc,O ya yn yc,O oa on oc,O va vn vc,O fa fn fc,O ba bn bc] 31)):=bA w _;have a1:Ov w ((w.alloc (ze #[zd U m,O ga gn gc,O sa sn sc,O ya yn yc,O oa on oc,O va vn vc,O fa fn fc,O ba bn bc] 31)).alloc (ze #[zd U 0] 3)):=q.alloc (by simp) _;have T:fn=fs.length:=by obtain ⟨-,a,c,he,-⟩:=hf;injection he
 have HE:=Aa T;have HF:=Aa hf;have HC:=Aa hcnt;have H:Hx (((w.alloc (ze #[zd U m,O ga gn gc,O sa sn sc,O ya yn yc,O oa on oc,O va vn vc,O fa fn fc,O ba bn bc] 31)).alloc (ze #[zd U 0] 3)).ownsRow (w.heap.size+1) 3 1 (O (some ⟨w.heap.size+1,0,none⟩) 1 1) 1 (Cj (DZ kf fs 0))):=by
  have:=World.ownsRow_lit (base:=w.heap.size+1) (e:=3) (size:=1) (w.alloc (ze #[zd U m,O ga gn gc,O sa sn sc,O ya yn yc,O oa on oc,O va vn vc,O fa fn fc,O ba bn bc] 31)) #[zd U 0] 1 (by simp) (by unfold maxLen;omega) rfl;show World.ownsRow _ _ _ _ _ _ _;simpa [DZ,A2] using this
 have HB:Hx (Below (w.heap.size+1) (w.alloc (ze #[zd U m,O ga gn gc,O sa sn sc,O ya yn yc,O oa on oc,O va vn vc,O fa fn fc,O ba bn bc] 31)) ((w.alloc (ze #[zd U m,O ga gn gc,O sa sn sc,O ya yn yc,O oa on oc,O va vn vc,O fa fn fc,O ba bn bc] 31)).alloc (ze #[zd U 0] 3))):=(Below.refl _ _).alloc (by simp) _;have af:=Aa q;clear a1 hf hcnt T;go_enter Tryz.func118,Tryz.ntmps118;go_wp2_with fail;go_loopw [3,10] (fun s i wr=>∃ j:Nat,j<=fn/\i=zd U j/\wr.ownsRow (w.heap.size+1) 3 1 s (j+1) (Cj (DZ kf fs j))/\Below (w.heap.size+1) (w.alloc (ze #[zd U m,O ga gn gc,O sa sn sc,O ya yn yc,O oa on oc,O va vn vc,O fa fn fc,O ba bn bc] 31)) wr) (fun _ i _=>fn - (intOf i).toNat)
 case atStart=>exact ⟨0,Nat.zero_le _,rfl,H.o,HB.o⟩
 case round=>
  clear H HB;obtain ⟨j,hj,rfl,d,hB⟩:=hrel;have h:Ov w wr:=af.o.trans (hB.mono (by omega));obtain ⟨J1,y⟩:=nm (j+1);rw [<-y] at d;obtain ⟨g,cap,rfl,b3,az,u⟩:=Nr d (by omega);have b2:(j:Int) < (J1:Int):=by omega
  have b5:J1<=10:=by omega
  have ac:=Aa y;clear y;have ad:=Aa u;have ab:=Aa d;have a8:=Aa hB;have a7:=Aa h;by_cases hjl:j < fn
  ·have l:j < fs.length:=by rw [<-HE.o];exact hjl
   obtain ⟨-,ao,bl,he,Q⟩:=HF.o;injection he with e1 e2 e3;obtain ⟨b,as,R,p⟩:=Q (by intro hz;rw [hz] at l;simp at l);obtain ⟨vP,vB,x0,x1,x2,f0,f1,f2,f3,f4,-,⟨-,pa,pc,au,-⟩,x,hx⟩:=p j l;have a3:=e1.trans R;subst a3;subst au;have S:=x;obtain ⟨-,C,B,av,-⟩:=S;subst av;obtain ⟨ra,rc,E⟩:=hx.form;simp only [List.cons.injEq,and_true] at E;obtain ⟨rfl,rfl,rfl⟩:=E;have v:=DF (k:=kf) l;have aw:A2 kf (fs.take (j+1))<=50:=by
    have r:A2 kf fs=A2 kf (fs.take (j+1))+A2 kf (fs.drop (j+1)):=by
     unfold A2;rw [<-List.sum_append,<-List.map_append,List.take_append_drop]
    have:=HC.o;omega
   have KM:=Aa fun W (hW:Ov w W)=>FD K kf _ fs[j].body W (x.over hW) (by omega);obtain ⟨m0,m1,m2,m3,m4⟩:=co5 h f0 f1 f2 f3 f4;obtain ⟨pl,P⟩:=nm (fs[j].ps.length);obtain ⟨A,D⟩:=nm (fs[j].body.length);obtain ⟨rk,J⟩:=nm (AQ fs[j].res);obtain ⟨rN,L⟩:=nm (Bk fs[j].res);obtain ⟨rl,I⟩:=nm ((A4 fs[j].res).length);rw [<-P] at m0;rw [<-D] at m1 KM;rw [<-J] at m2;rw [<-L] at m3;rw [<-I] at m4;obtain ⟨N,hN⟩:∃ N:Nat,N=AI kf fs[j].body:=⟨_,rfl⟩;obtain ⟨M,hM⟩:∃ M:Nat,M=A2 kf (fs.take j):=⟨_,rfl⟩;rw [<-hN,<-hM] at v;rw [<-hN] at KM;have b4:M+N<=50:=by omega
   have a6:=Aa v;have l0:wr.cell? ⟨g,j,none⟩=some (zd U (M:Int)):=by rw [hM];exact u j _ (by simp [F9])
   have n:=bA wr (ze #[O pa pl pc,O C A B,zd U rk,zd U rN,O ra rl rc] 105);have l1:=Ab n _ _ l0;have t1:(wr.alloc (ze #[O pa pl pc,O C A B,zd U rk,zd U rN,O ra rl rc] 105)).cell? ⟨wr.heap.size,1,none⟩=some (O C A B):=by simp [go_sem]
   have V:=h.trans (n.mono h.size);have Z:=Aa fun W (hW:Ov (wr.alloc (ze #[O pa pl pc,O C A B,zd U rk,zd U rN,O ra rl rc] 105)) W)=>KM.o W (V.trans (hW.mono V.size));have F:w.heap.size+1<=wr.heap.size:=by have:=hB.size;simpa using this
   have a5:Hx ((Cj (DZ kf fs j))[j]? = some (zd U (M:Int))):=by
    show _=_;rw [hM];simp [F9]
   have ay:wr.heap.size≠g:=by omega
   clear Q p f0 f1 f2 f3 f4 x hx v aw P D J L I hN hM e1 e2 e3 R d hB h u KM l0;go_wp2_with fail;have G:Hx (∀ W,Ov wr W->W.ownsRow (w.heap.size+1) 3 1 (O (some ⟨g,0,none⟩) J1 cap) J1 (Cj (DZ kf fs j))):=fun W hW=>Bw ab.o hW;have a4:=Aa (Z.o _ (below_drewN (Below.refl _ _) 1));have z:=Aa n;have t:Hx (IntKind.i64.wrap ((M:Int)+(N:Int))=((M+N:Nat):Int)):=by
    show _=_;rw [IntWalk.i64_in _ (by omega)];omega
   clear Z ad m0 m1 m2 m3 m4;go_region_held3 (fun W=>W.cell? ⟨g,j,none⟩=some (zd U (M:Int))/\W.cell? ⟨wr.heap.size,1,none⟩=some (O C A B)) (first | assumption | exact ⟨l1,t1⟩ | exact Pn (by assumption) hbp | exact Pn (by assumption) (bA _ _) | exact ⟨hkeep j _ a5.o,Bo hgr2 (by assumption:_/\_).2 ay⟩ | fail) (first | (go_at_call 181;refine (a4.o).mono ?_;rintro e wp ⟨rfl,hbp⟩) | (refine Nb rfl _ _ rfl (w.heap.size+1) wp.heap.size g cap J1 (Cj (DZ kf fs j)) (IntKind.i64.wrap ((M:Int)+(N:Int))) rfl rfl (G.o _ (Ac (Ac z.o.drew hbp) (bA _ _))) (by simp [go_sem]) (by omega) (Nat.le_trans (Nat.le_trans F (Ac z.o.drew hbp).size) (bA _ _).size) ?_;intro v2 W2 f hgr2 hkeep));have X:Below (w.heap.size+1) (w.alloc (ze #[zd U m,O ga gn gc,O sa sn sc,O ya yn yc,O oa on oc,O va vn vc,O (some ⟨b,as,none⟩) fn fc,O ba bn bc] 31)) W2:=by
    have hs:=hgr2.size;have Y:=Ac (Ac (z.o.drew) hbp) (bA wp (ze #[zd U (IntKind.i64.wrap ((M:Int)+(N:Int)))] 3));have r:=a8.o.trans (Y.mono F);exact ⟨hgr2.os.trans r.os,hgr2.tape.trans r.tape,hgr2.output.trans r.output,Nat.le_trans r.size hs,fun k hk=>(hgr2.block k (by have:=Y.size;omega) (fun e=>by have:=Option.some.inj e;omega)).trans (r.block k hk)⟩
   have ae:=Aa (And.intro f X);clear f hgr2 hkeep X hbp l1 t1 n;go_wp2_with fail;refine ⟨⟨j+1,by omega,by go_num,?_,ae.o.2⟩,by simp [intOf];omega⟩;have Y:=ae.o.1;rw [t.o] at Y;have r:=ac.o;rw [NQ,a6.o,<-r];simpa [Cj] using Y
  ·have ax:j=fn:=by omega
   subst ax;go_wp2_with fail;go_ret;have T:=HE.o;have hJ:=ac.o;refine ⟨g,cap,?_,by omega,az,?_,a7.o⟩
   ·rw [<-T,<-hJ];rfl
   ·rw [<-T]
    exact ad.o
def CW (n:Nat):Array Value:=(List.replicate n (Value.int U 0)).toArray
theorem Rx (n:Nat) (hn:n<=100) (w:World):(Instr.makeSlice 25 (zd U n) (zd U n)).run Tryz.prog w=.ok (O (some ⟨w.heap.size,0,none⟩) n n) (w.alloc (.cells (CW n) 3)):=by
 obtain ⟨i,d,c,b,a⟩:=info_parts Tryz.infoI;have:=run_make (P:=Tryz.prog) w 25 3 i (zd U 0) Tryz.underlying25 d c U U (n:Int) (n:Int) (by omega) (by omega) (by rw [a];omega) (by omega);rw [this,b];simp only [Int.toNat_natCast,Nat.mul_one];have e:madeCells (Value.int U 0).cells n=CW n:=by
  unfold CW;apply Array.ext
  ·simp [madeCells]
  ·intro j b a
   simp [madeCells,Value.cells,Nat.mod_one]
 rw [e]
def st0 (vn yn:Nat) (o:WSt):RSt:=⟨[],List.replicate vn 0,List.replicate yn 0,0,0,0,o⟩
theorem Sg (vn yn F:Nat) (o:WSt):Bh vn yn F (st0 vn yn o):=by
 refine ⟨by simp [st0],by simp [st0],fun x a=>?_,fun x a=>?_,by simp [st0],by simp [st0]⟩
 ·have:=List.eq_of_mem_replicate a
  subst this;exact ⟨by omega,by omega⟩
 ·have:=List.eq_of_mem_replicate a
  subst this;simp [st0]
structure Ik (B:Nat) (R:List Value) (br b1 b2 b3:Nat) (fl:List Int) (vn yn:Nat) (w:World):Prop where
 row:Ad (O none 0 0::O (some ⟨b1,0,none⟩) vn vn::O (some ⟨b2,0,none⟩) yn yn::zd U 0::zd U 0::zd U 0::(R++[zd U 0,.nilFunc])) w br
 vars:Ad (Cj (List.replicate vn 0)) w b1
 taken:Ad (Cj (List.replicate yn 0)) w b2
 first:Ad (Cj fl) w b3
 z0:∀ j,w.frozen? ⟨br,j,none⟩=false
 z1:∀ j,w.frozen? ⟨b1,j,none⟩=false
 z2:∀ j,w.frozen? ⟨b2,j,none⟩=false
 apart:br≠b1/\br≠b2/\b1≠b2/\b3≠br/\b3≠b1/\b3≠b2
 lo:B<=br/\B<=b1/\B<=b2/\B<=b3
 hi:br < w.heap.size/\b1 < w.heap.size/\b2 < w.heap.size/\b3 < w.heap.size/\B<=w.heap.size
theorem Ik.over {B:Nat} {R:List Value} {br b1 b2 b3:Nat} {fl:List Int} {vn yn:Nat} {w w':World} (h:Ik B R br b1 b2 b3 fl vn yn w) (hb:Ov w w'):Ik B R br b1 b2 b3 fl vn yn w':=by
 obtain ⟨c,a⟩:=An hb;have b:=hb.size;have hi:=h.hi;exact ⟨h.row.over hb,h.vars.over hb,h.taken.over hb,h.first.over hb,fun j=>(a _ _ hi.1).trans (h.z0 j),fun j=>(a _ _ hi.2.1).trans (h.z1 j),fun j=>(a _ _ hi.2.2.1).trans (h.z2 j),h.apart,h.lo,⟨by omega,by omega,by omega,by omega,by omega⟩⟩
theorem Ik.new (B:Nat) (R:List Value) (w:World) (g:Nat) (fl) (vn yn:Nat) (hB:B<=w.heap.size) (hg:g < w.heap.size) (hgB:B<=g) (hr:Ad (Cj fl) w g) :
  Ik B R w.heap.size (w.heap.size+1) (w.heap.size+1+1) g fl vn yn (((w.alloc (.cells (O none 0 0::O (some ⟨w.heap.size+1,0,none⟩) vn vn::O (some ⟨w.heap.size+1+1,0,none⟩) yn yn::zd U 0::zd U 0::zd U 0::(R++[zd U 0,.nilFunc])).toArray 127)).alloc (.cells (CW vn) 3)).alloc (.cells (CW yn) 3)):=by
 have c:=bA w (.cells (O none 0 0::O (some ⟨w.heap.size+1,0,none⟩) vn vn::O (some ⟨w.heap.size+1+1,0,none⟩) yn yn::zd U 0::zd U 0::zd U 0::(R++[zd U 0,.nilFunc])).toArray 127);have a:=fun (W:World) (b:Obj)=>bA W b;refine ⟨?_,?_,?_,((hr.over c).over (a _ _)).over (a _ _),fun j=>by simp [go_sem],fun j=>by simp [go_sem],fun j=>by simp [go_sem],⟨by omega,by omega,by omega,by omega,by omega,by omega⟩,⟨hB,by omega,by omega,hgB⟩,⟨by simp;omega,by simp,by simp,by simp;omega,by simp;omega⟩⟩
 ·exact ((Ad.newA (O none 0 0::O (some ⟨w.heap.size+1,0,none⟩) vn vn::O (some ⟨w.heap.size+1+1,0,none⟩) yn yn::zd U 0::zd U 0::zd U 0::(R++[zd U 0,.nilFunc])).toArray 127 w).over (a _ (.cells (CW vn) 3))).over (a _ (.cells (CW yn) 3))
 ·have:=(Ad.newA (CW vn) 3 (w.alloc (.cells (O none 0 0::O (some ⟨w.heap.size+1,0,none⟩) vn vn::O (some ⟨w.heap.size+1+1,0,none⟩) yn yn::zd U 0::zd U 0::zd U 0::(R++[zd U 0,.nilFunc])).toArray 127))).over (a _ (.cells (CW yn) 3))
  simpa [CW,Cj] using this
 ·have:=Ad.newA (CW yn) 3 ((w.alloc (.cells (O none 0 0::O (some ⟨w.heap.size+1,0,none⟩) vn vn::O (some ⟨w.heap.size+1+1,0,none⟩) yn yn::zd U 0::zd U 0::zd U 0::(R++[zd U 0,.nilFunc])).toArray 127)).alloc (.cells (CW vn) 3))
  simpa [CW,Cj] using this
theorem Ik.begin {B:Nat} {a0 a1 a2 a3 a4 a5 a6 a7 a8 a9 a10:Value} {br b1 b2 b3:Nat} {fl:List Int} {vn yn:Nat} {w:World} (h:Ik B [a0,a1,a2,a3,a4,a5,a6,a7,a8,a9,a10] br b1 b2 b3 fl vn yn w) (I:Ca) (o:WSt) (X:Nat->Prop) (hI:I.In (Yb br b1 b2 (O none 0 0)) o X w) (hlo:∀ k,X k->B<=k) (hx3:¬ X b3) (hok:I.ok 0 o) :
  RnG I B [a0,a1,a2,a3,a4,a5,a6,a7,a8,a9,a10] br b1 b2 b3 fl 0 (st0 vn yn o) ⟨O none 0 0,X⟩ (w.setCell ⟨br,18,none⟩ (.func (.func I.fn) I.fre.toArray I.cap.toArray))/\Fr br b1 b2 ⟨O none 0 0,X⟩ ⟨O none 0 0,X⟩ w (w.setCell ⟨br,18,none⟩ (.func (.func I.fn) I.fre.toArray I.cap.toArray)):=by
 obtain ⟨f,e,s,d,p,n⟩:=h.apart;have g:=Bg (w:=w) (r:=br) (j:=18) (u:=.func (.func I.fn) I.fre.toArray I.cap.toArray);have c:∀ b,¬ X b->¬ (Ow.mk (O none 0 0) X).at b:=fun b l hx=>by
  rcases hx with hx | hx
  ·simp [Value.ownBlock] at hx
  ·exact l hx
 constructor
 ·refine ⟨?_,?_,?_,h.first.other d,World.ownsRow_nil _ _ _ _,fun k=>Be.trans (h.z0 k),fun k=>Be.trans (h.z1 k),fun k=>Be.trans (h.z2 k),h.apart,⟨c _ (fun q=>(I.lt hI _ q).2 (Or.inl rfl)),c _ (fun q=>(I.lt hI _ q).2 (Or.inr (Or.inl rfl))),c _ (fun q=>(I.lt hI _ q).2 (Or.inr (Or.inr (Or.inl rfl)))),c _ hx3⟩,⟨h.lo.1,h.lo.2.1,h.lo.2.2.1⟩,by simpa [World.setCell] using h.hi,?_,hlo,hok⟩
  ·have:=h.row.set (j:=18) (v:=.func (.func I.fn) I.fre.toArray I.cap.toArray) (by simp)
   simpa [st0] using this
  ·have:=h.vars.other (j:=18) (v:=.func (.func I.fn) I.fre.toArray I.cap.toArray) (Ne.symm f)
   simpa [st0] using this
  ·have:=h.taken.other (j:=18) (v:=.func (.func I.fn) I.fre.toArray I.cap.toArray) (Ne.symm e)
   simpa [st0] using this
  ·exact I.kept hI g.os g.tape g.output g.size (fun k a i=>g.block k a (fun q=>i (Or.inl (Option.some.inj q)))) (fun k a=>Or.inl a) (fun k a=>Nat.lt_of_lt_of_le (MJ (World.ownsRow_nil w 0 0 0) h.hi.1 h.hi.2.1 h.hi.2.2.1 k a) g.size)
 ·exact ⟨g.os,g.tape,g.output,g.size,fun k a m _ _ _=>g.block k a (by simpa using m),fun k a=>Or.inl a⟩
def QS (K kf:Nat) (m:Int) (ga:Option Addr) (gn gc:Nat) (sa:Option Addr) (sn sc:Nat) (ya:Option Addr) (yn yc:Nat) (oa:Option Addr) (on oc:Nat) (va:Option Addr) (vn vc:Nat) (fa:Option Addr) (fn fc:Nat) (ba:Option Addr) (bn bc:Nat) (xa:Option Addr) (xn xc:Nat) (ins:List (List Int)) (fuel:Int) (gs:List (Int × Int)) (sp:List Int) (ls ms:List Lab) (vs:List (Bool × Lab)) (fs:List FnD) (l:List D) (w:World) (e:Ending) (w':World):Prop:=
 ∃ why:Int,(why=0 ↔ okR K kf m vn yn on sn gs sp ls ms vs fs l ins fuel)/\Ov w w'/\((why≠0/\e=zj (zk #[zi none,zd U why]))\/(why=0/\∃ br b1 b2 b3 c3,e=zj (zk #[zi (some ⟨br,0,none⟩),zd U 0])/\Ik w.heap.size [zd U m,O ga gn gc,O sa sn sc,O ya yn yc,O oa on oc,O va vn vc,O fa fn fc,O ba bn bc,O xa xn xc,zd U fuel,O (some ⟨b3,0,none⟩) (fs.length+1) c3] br b1 b2 b3 (DZ kf fs fs.length) vn yn w'))
theorem QR (K kf:Nat) (m:Int) (ga gn gc sa sn sc ya yn yc oa on oc va vn vc fa fn fc ba bn bc) (xa xn xc) (ins) (fuel:Int) (gs sp ls ms vs fs l) (w:World) (h:BD K kf m ga gn gc sa sn sc ya yn yc oa on oc va vn vc fa fn fc ba bn bc gs sp ls ms vs fs l w) (hx:A8 w (O xa xn xc) ins) :
  Calls Tryz.prog 61 #[zh #[zd U m,O ga gn gc,O sa sn sc,O ya yn yc,O oa on oc,O va vn vc,O fa fn fc,O ba bn bc],O xa xn xc,zd U fuel] w (QS K kf m ga gn gc sa sn sc ya yn yc oa on oc va vn vc fa fn fc ba bn bc xa xn xc ins fuel gs sp ls ms vs fs l w):=by
 have d:Ov w (w.alloc (ze #[zd U m,O ga gn gc,O sa sn sc,O ya yn yc,O oa on oc,O va vn vc,O fa fn fc,O ba bn bc] 31)):=bA w _;have F:=Aa (h.over d);have K1:=Aa (Jl K kf m ga gn gc sa sn sc ya yn yc oa on oc va vn vc fa fn fc ba bn bc xa xn xc ins fuel gs sp ls ms vs fs l _ F.o (hx.over d));obtain ⟨Z,Y,X,V,T,S,R,Q⟩:=rc8 (B3 w [zd U m,O ga gn gc,O sa sn sc,O ya yn yc,O oa on oc,O va vn vc,O fa fn fc,O ba bn bc] 31);have u:fn=fs.length:=by obtain ⟨-,a,c,he,-⟩:=h.funcs;injection he
 have G:=Aa u;clear h hx u;go_enter Tryz.func61,Tryz.ntmps61;go_wp2_with fail;refine (K1.o).mono ?_;rintro e w1 ⟨n,rfl,i,j⟩;obtain ⟨P,N,M,D,L,C,J,I⟩:=co8 j Z Y X V T S R Q;have E:=Aa (F.o.over j);have k:=d.trans (j.mono d.size);have H:=Aa k;have q:=Aa i;clear K1 Z Y X V T S R Q j F i d;by_cases hw:n=0;rotate_left
 ·have af:(n == 0)=false:=by simpa using hw
  clear k;go_wp2_with fail
  go_ret2
  exact ⟨n,q.o,H.o,Or.inl ⟨hw,rfl⟩⟩
 subst hw;have i:=q.o.1 rfl;have f:=i.prog.ok;have v:=f.many;have s:=f.vars;have z:=f.ins;have KF:=Aa (L9 K kf m ga gn gc sa sn sc ya yn yc oa on oc va vn vc fa fn fc ba bn bc fs w1.drew (E.o.funcs.over (below_drewN (Below.refl _ _) 1)) (by omega) (by rw [G.o];exact f.funcs));have ae:=Rx vn (by omega);have ad:=Rx yn (by omega);have b:=k.drew;clear i f v s z k;go_wp2_with fail;go_region_held3 (fun W=>W.cell? ⟨w.heap.size,0,none⟩=some (zd U m)/\W.cell? ⟨w.heap.size,1,none⟩=some (O ga gn gc)/\W.cell? ⟨w.heap.size,2,none⟩=some (O sa sn sc)/\W.cell? ⟨w.heap.size,3,none⟩=some (O ya yn yc)/\W.cell? ⟨w.heap.size,4,none⟩=some (O oa on oc)/\W.cell? ⟨w.heap.size,5,none⟩=some (O va vn vc)/\W.cell? ⟨w.heap.size,6,none⟩=some (O fa fn fc)/\W.cell? ⟨w.heap.size,7,none⟩=some (O ba bn bc)/\Ov w W) (first | assumption | exact ⟨P,N,M,D,L,C,J,I,b⟩ | exact Pv (by assumption) hbp | exact Pv (by assumption) (bA _ _) | fail) (first | (go_at_call 118;refine (KF.o).mono ?_;rintro e r ⟨g,x,rfl,hg,B,t,hbp⟩));obtain ⟨e3,e5⟩:=co2 hbp D C;have A:=bL e3;have ag:w.heap.size≠r.heap.size:=Nat.ne_of_lt A;have p:=b.trans (hbp.mono b.size);have HR:=Aa (Ik.new w.heap.size [zd U m,O ga gn gc,O sa sn sc,O ya yn yc,O oa on oc,O va vn vc,O fa fn fc,O ba bn bc,O xa xn xc,zd U fuel,O (some ⟨g,0,none⟩) (fs.length+1) x] r g (DZ kf fs fs.length) vn yn p.size B (Nat.le_trans b.size hg) t);have y:=Aa p;clear P N M D L C J I hbp b t p KF;go_wp2_with fail
 go_ret2
 have hs:=y.o.size;refine ⟨0,by simpa using q.o,?_,Or.inr ⟨rfl,r.heap.size,r.heap.size+1,r.heap.size+1+1,g,x,rfl,?_⟩⟩
 ·exact (((y.o).alloc (by omega) _).alloc (by simp;omega) _).alloc (by simp;omega) _
 ·exact HR.o
def QI (r:Bool × RSt):RSt:=if r.1=true then { r.2 with en:=1 } else r.2
def Jk (K kf:Nat) (fs:List FnD) (F:Nat) (ins:List (List Int)) (ob:Ob) (l:List D) (vn yn:Nat) (o:WSt):RSt:=QI (rn K kf fs F ins ob 6001 0 kf l (A2 kf fs:Nat) 0 (st0 vn yn o))
theorem QH (kf:Nat) (fs):(DZ kf fs fs.length)[fs.length]? = some ((A2 kf fs:Nat):Int):=by
 rw [F9,List.take_length]
theorem doR (I:Ca) (K kf:Nat) (m:Int) (ga gn gc sa sn sc ya yn yc oa on oc va vn vc fa fn fc) (ba bn bc) (xa xn xc) (F fln c3:Nat) (br b1 b2 b3:Nat) (fl fs ins l) (o:WSt) (X0:Nat->Prop) (w0 w:World) (X:PT I K kf m ga gn gc sa sn sc ya yn yc oa on oc va vn vc fa fn fc ba bn bc xa xn xc F fln c3 br b1 b2 b3 fl fs ins w0) (hl:Bj w0 K kf (O ba bn bc) l) (hok:∀ s∈l,okS K vn yn on (fs.length:Int) fs kf s) (hcn:A2 kf fs+AI kf l<=50)
  (h:Ik w0.heap.size [zd U m,O ga gn gc,O sa sn sc,O ya yn yc,O oa on oc,O va vn vc,O fa fn fc,O ba bn bc,O xa xn xc,zd U (F:Int),O (some ⟨b3,0,none⟩) fln c3] br b1 b2 b3 fl vn yn w) (hB0:Ov w0 w) (hI:I.In (Yb br b1 b2 (O none 0 0)) o X0 w) (hlo:∀ k,X0 k->w0.heap.size<=k) (hx3:¬ X0 b3) (hok0:I.ok 0 o) :
  Calls Tryz.prog 63 #[zi (some ⟨br,0,none⟩),.func (.func I.fn) I.fre.toArray I.cap.toArray] w fun e w'=>e=zj (zk #[])/\∃ ev,RnG I w0.heap.size [zd U m,O ga gn gc,O sa sn sc,O ya yn yc,O oa on oc,O va vn vc,O fa fn fc,O ba bn bc,O xa xn xc,zd U (F:Int),O (some ⟨b3,0,none⟩) fln c3] br b1 b2 b3 fl 0 (Jk K kf fs F ins I.ob l vn yn o) ev w'/\Fr br b1 b2 ⟨O none 0 0,X0⟩ ev w w'/\Bh vn yn F (Jk K kf fs F ins I.ob l vn yn o):=by
 obtain ⟨v,b⟩:=h.begin I o X0 hI hlo hx3 hok0;have hF:=X.fuel;have E:Ov w0 (w.setCell ⟨br,18,none⟩ (.func (.func I.fn) I.fre.toArray I.cap.toArray)):=hB0.trans ⟨b.os,b.tape,b.output,b.size,fun k hk=>b.block k (Nat.lt_of_lt_of_le hk hB0.size) (by have:=h.lo;omega) (by have:=h.lo;omega) (by have:=h.lo;omega) (fun Z=>by have:=(v.ev' k Z).1;omega)⟩;have B:fl=DZ kf fs fs.length:=X.flE;have u:fl[fs.length]? = some ((A2 kf fs:Nat):Int):=by rw [B];exact QH kf fs
 have x:=Aa (Na I K kf m ga gn gc sa sn sc ya yn yc oa on oc va vn vc fa fn fc ba bn bc xa xn xc F fln c3 br b1 b2 b3 fl fs ins w0 X 6001 kf _ l (fs.length:Int) (A2 kf fs:Nat) 0 (st0 vn yn o) _ (w.setCell ⟨br,18,none⟩ (.func (.func I.fn) I.fre.toArray I.cap.toArray)).drew hl (Int.le_refl _) hok (by omega) (by omega) (by omega) E.drew (v.drewN 1) (Sg vn yn F o) (by show 3*(F - 0)+1<=6001;omega));have ac:=h.row 18 _ rfl;have R:=h.z0 18;have l0:=h.hi.1;have i:=v.row 12 _ rfl;have n:=v.row 13 _ rfl;have j:=v.row 16 _ rfl;have f:CE (w.setCell ⟨br,18,none⟩ (.func (.func I.fn) I.fre.toArray I.cap.toArray)) b3 fs.length (zd U ((A2 kf fs:Nat):Int)):=v.first fs.length _ (by simp [u]);have M:=X.fnE;subst M;have A:=X.flN;have N:(fs.length:Int) < (fln:Int):=by omega
 have G:=Aa b;have q:Jk K kf fs F ins I.ob l vn yn o=QI (rn K kf fs F ins I.ob 6001 0 kf l (A2 kf fs:Nat) 0 (st0 vn yn o)):=rfl;rw [q];obtain ⟨T,P⟩:=nm (rn K kf fs F ins I.ob 6001 0 kf l (A2 kf fs:Nat) 0 (st0 vn yn o));rw [<-P] at x ⊢;have z:Hx (∀ W st ev,RnG I w0.heap.size [zd U m,O ga gn gc,O sa sn sc,O ya yn yc,O oa on oc,O va vn vc,O fa fs.length fc,O ba bn bc,O xa xn xc,zd U (F:Int),O (some ⟨b3,0,none⟩) fln c3] br b1 b2 b3 fl 0 st ev W->(CE W br 12 (O fa fs.length fc)/\CE W br 13 (O ba bn bc)/\CE W br 16 (O (some ⟨b3,0,none⟩) fln c3)/\CE W b3 fs.length (zd U ((A2 kf fs:Nat):Int)))):=fun W st ev J=>⟨J.row 12 _ rfl,J.row 13 _ rfl,J.row 16 _ rfl,J.first fs.length _ (by simp [u])⟩;obtain ⟨C,Q⟩:∃ C:Int,C=((A2 kf fs:Nat):Int):=⟨_,rfl⟩;rw [<-Q] at x z f;obtain ⟨d,r⟩:=nm fs.length;rw [<-r] at x z f i N ⊢;clear v b E B u P Q hl hok hcn A X h r q hI hlo hx3 hok0;obtain ⟨Y,H⟩:=T;cases Y with
 | false=>
  go_enter Tryz.func63,Tryz.ntmps63;go_wp2_with fail;go_region_held3 (fun W=>W.cell? ⟨br,12,none⟩=some (O fa d fc)/\W.cell? ⟨br,13,none⟩=some (O ba bn bc)/\W.cell? ⟨br,16,none⟩=some (O (some ⟨b3,0,none⟩) fln c3)/\W.cell? ⟨b3,d,none⟩=some (zd U C)) (first | assumption | exact ⟨i,n,j,f⟩ | exact z.o _ _ _ hr2 | fail) (first | (go_at_call 119;refine (x.o).mono ?_;rintro e L ⟨D,⟨g,hr2,b⟩,c⟩;dsimp only at D;subst D));have a:RnG I w0.heap.size [zd U m,O ga gn gc,O sa sn sc,O ya yn yc,O oa on oc,O va vn vc,O fa d fc,O ba bn bc,O xa xn xc,zd U (F:Int),O (some ⟨b3,0,none⟩) fln c3] br b1 b2 b3 fl 0 H g L:=hr2;have d4:=a.row 4 _ rfl;have S:=a.z0 4;have V:=a.hi.1;have t:=Aa (show Bh vn yn F H from c);have y:=Aa ((G.o.over (below_drewN (Below.refl _ _) 1)).trans b);have p:=Aa a;clear hr2 a b c x z i n j f;go_wp2_with fail;go_end0;exact ⟨rfl,g,p.o,y.o,t.o⟩
 | true=>
  go_enter Tryz.func63,Tryz.ntmps63;go_wp2_with fail;go_region_held3 (fun W=>W.cell? ⟨br,12,none⟩=some (O fa d fc)/\W.cell? ⟨br,13,none⟩=some (O ba bn bc)/\W.cell? ⟨br,16,none⟩=some (O (some ⟨b3,0,none⟩) fln c3)/\W.cell? ⟨b3,d,none⟩=some (zd U C)) (first | assumption | exact ⟨i,n,j,f⟩ | exact z.o _ _ _ hr2 | fail) (first | (go_at_call 119;refine (x.o).mono ?_;rintro e L ⟨D,⟨g,hr2,b⟩,c⟩;dsimp only at D;subst D));have a:RnG I w0.heap.size [zd U m,O ga gn gc,O sa sn sc,O ya yn yc,O oa on oc,O va vn vc,O fa d fc,O ba bn bc,O xa xn xc,zd U (F:Int),O (some ⟨b3,0,none⟩) fln c3] br b1 b2 b3 fl 0 H g L:=hr2;have d4:=a.row 4 _ rfl;have S:=a.z0 4;have V:=a.hi.1;have t:=Aa (show Bh vn yn F H from c);have y:=Aa ((G.o.over (below_drewN (Below.refl _ _) 1)).trans b);have p:=Aa a;clear hr2 a b c x z i n j f;go_wp2_with fail;go_end0;exact ⟨rfl,g,p.o.setEnd 1,y.o.trans (DX p.o _ _),⟨t.o.vl,t.o.tl,t.o.i32,t.o.tk,t.o.el,t.o.sb⟩⟩
structure WK where
 n:Nat
 K:Nat
 ins:List Lev
 outs:List Lev
 known:List Bool
 bound:List Lev
 fs:List FnD
 fl:List (Int × Int)
section
variable (c:WK)
def WSt.enter (s:WSt) (dp:Nat) (p:Lev):WSt:=⟨s.vs,s.ps.take (dp+1)++[p]⟩
def Cr (s:WSt) (p:Lev) (v:Int) (l:Lev):Bool:=Av p (s.vs.getD v.toNat Ah) c.n && (!c.known.getD v.toNat false || Av l (c.bound.getD v.toNat Ah) c.n)
def CC (s:WSt) (p:Lev) (v:Int) (l:Lev):Bool × WSt:=if Cr c s p v l=true then (true,⟨s.vs.set v.toNat l,s.ps⟩) else (false,s)
def withX (s:WSt) (p:Lev) (e:D):Lev:=A6 c.n s.vs p (AG c.K e)
def E3 (a:Int) (d:D):Bool:=c.known.getD (Ap d).toNat false && !c.fl.any (fun f=>decide (f.1=a) && (decide (f.2=6) || decide (f.2=7)))
def C6 (s:WSt) (p:Lev) (d:D):List (Int × Lev):=(BV c.fs (Ae d)).ps.zip ((Ai d).map (withX c s p))
def setLev (vs:List Lev) (q:List (Int × Lev)):List Lev:=q.foldl (fun vs x=>vs.set x.1.toNat x.2) vs
def Es (s:WSt) (p:Lev) (d:D):Bool × WSt:=if (C6 c s p d).all (fun x=>Cr c s p x.1 x.2)=true then (true,⟨setLev s.vs (C6 c s p d),s.ps⟩) else (false,s)
def doX (s:WSt) (a:Int) (d:D) (p:Lev):Bool × WSt:=
 if Ag d=2 then Es c s p d
 else if Ag d=3 then (if Av p (c.ins.getD (Ae d).toNat Ah) c.n=true then CC c s p (Ap d) (BA (c.ins.getD (Ae d).toNat Ah) p c.n) else (false,s))
 else if Ag d=4 then (Av (withX c s p (Am d)) (c.outs.getD (Ae d).toNat Ah) c.n,s)
 else if Ag d=5 then (if E3 c a d=true then CC c s p (Ap d) ⟨(c.bound.getD (Ap d).toNat Ah).r,(withX c s p (Am d)).w⟩ else (false,s))
 else if Ag d=6 then (if E3 c a d=true then CC c s p (Ap d) ⟨(withX c s p (Am d)).r,(c.bound.getD (Ap d).toNat Ah).w⟩ else (false,s))
 else CC c s p (Ap d) (withX c s p (Am d))
def obW:Ob:=fun kind a dp d s=>
 if kind=2 then (true,s.enter dp (withX c s (s.ps.getD (dp+1) Ah) (Am d)))
 else if kind=3 then CC c s (s.ps.getD dp Ah) (Ap d) (withX c s (s.ps.getD dp Ah) (BV c.fs (Ae d)).res)
 else if Ag d=7\/Ag d=8 then (true,s.enter dp (withX c s (s.ps.getD dp Ah) (Am d)))
 else doX c s a d (s.ps.getD dp Ah)
def FN (s:WSt):Prop:=∀ i,c.known.getD i false=true->i < s.vs.length->Av (s.vs.getD i Ah) (c.bound.getD i Ah) c.n=true
end
section
variable {c:WK}
theorem DE {l:List Lev} {i j:Nat} {x:Lev}:(l.set i x).getD j Ah=if i=j/\j < l.length then x else l.getD j Ah:=C9
theorem FN.set {s:WSt} (h:FN c s) {v:Int} {l:Lev} (hm:c.known.getD v.toNat false=true->Av l (c.bound.getD v.toNat Ah) c.n=true):FN c ⟨s.vs.set v.toNat l,s.ps⟩:=by
 intro i b d;have a:i < s.vs.length:=by simpa using d
 show Av ((s.vs.set v.toNat l).getD i Ah) _ _=true;rw [DE];split
 ·rename_i e
  rw [e.1] at hm;exact hm b
 ·exact h i b a
theorem Br {s:WSt} {p:Lev} {v:Int} {l:Lev} (h:Cr c s p v l=true):c.known.getD v.toNat false=true->Av l (c.bound.getD v.toNat Ah) c.n=true:=by
 intro a;unfold Cr at h;rw [a] at h;simp at h;simpa using h.2
theorem Eu (s:WSt) (p) (v:Int) (l):(CC c s p v l).2.vs.length=s.vs.length:=by
 unfold CC;split
 ·simp
 ·rfl
end
theorem AD {W W':World} {B e s n:Nat} {v:Value} {xs:List Value} (h:W.ownsRow B e s v n xs) (hb:∀ g,v.ownBlock=some g->W'.heap[g]? = W.heap[g]?):W'.ownsRow B e s v n xs:=by
 refine ⟨h.1,?_⟩;rcases h.2 with i | ⟨g,b,a,c,f,d,r⟩
 ·exact Or.inl i
 ·exact Or.inr ⟨g,b,a,c,f,(hb g (by rw [c];rfl)).trans d,r⟩
def BE (n:Nat) (X:World->Nat->Prop) (B:Nat) (W:World) (v:Value) (Ls:List Lev):Prop:=
 ∃ us:List Value,W.ownsRow B 50 2 v Ls.length us/\∀ i (h:i < Ls.length),∃ x y,us[i*2]? = some x/\us[i*2+1]? = some y/\Aw n X W (zh #[x,y]) Ls[i]
section
variable {n B:Nat} {X:World->Nat->Prop} {W W':World} {v:Value} {Ls:List Lev}
theorem Ns (n:Nat) (X:World->Nat->Prop) (B:Nat) (W:World):BE n X B W (O none 0 0) []:=⟨[],World.ownsRow_nil ..,fun i h=>absurd h (by simp)⟩
theorem BE.lt (h:BE n X B W v Ls):∀ g,v.ownBlock=some g->B<=g/\g < W.heap.size:=by
 obtain ⟨b,a,-⟩:=h;exact a.lt
theorem BE.keep (n1:1<=n) (h:BE n X B W v Ls) (hf:FrW X W W') (hb:∀ g,v.ownBlock=some g->W'.heap[g]? = W.heap[g]?):BE n X B W' v Ls:=by
 obtain ⟨b,c,a⟩:=h;refine ⟨b,AD c hb,fun i e=>?_⟩;obtain ⟨x,y,j,f,d⟩:=a i e;exact ⟨x,y,j,f,d.keep n1 hf⟩
theorem BE.over (hX:XOk X) (h:BE n X B W v Ls) (hb:Ov W W'):BE n X B W' v Ls:=by
 obtain ⟨b,c,a⟩:=id h;refine ⟨b,AD c (fun g f=>hb.block g (h.lt g f).2),fun i e=>?_⟩;obtain ⟨x,y,k,j,d⟩:=a i e;exact ⟨x,y,k,j,d.over hX hb⟩
theorem BE.form (h:BE n X B W v Ls) (hne:0 < Ls.length):∃ g cap,v=O (some ⟨g,0,none⟩) Ls.length cap/\cap<=maxLen:=by
 obtain ⟨e,b,-⟩:=h;rcases b.2 with ⟨-,h⟩ | ⟨g,cap,d,a,-,-,-,c,-⟩
 ·omega
 ·exact ⟨g,cap,a,c⟩
theorem BE.cells (h:BE n X B W v Ls) {i:Nat} (hi:i < Ls.length):∃ g cap a1 a2 a3 a4 a5 a6,v=O (some ⟨g,0,none⟩) Ls.length cap/\W.cell? ⟨g,i*2,none⟩=some (O a1 a2 a3)/\W.cell? ⟨g,i*2+1,none⟩=some (O a4 a5 a6)/\Aw n X W (zh #[O a1 a2 a3,O a4 a5 a6]) Ls[i]:=by
 obtain ⟨g,cap,c,-⟩:=h.form (by omega);obtain ⟨j,a,b⟩:=h;obtain ⟨x,y,f,e,d⟩:=b i hi;obtain ⟨a1,a2,a3,a4,a5,a6,rfl,rfl⟩:=AX d.at_;rw [c] at a;exact ⟨g,cap,a1,a2,a3,a4,a5,a6,c,(a.cellAt _ (by omega)).trans f,(a.cellAt _ (by omega)).trans e,d⟩
theorem BE.levs (h:BE n X B W v Ls):A9 n X W v Ls:=by
 by_cases hne:0 < Ls.length
 ·obtain ⟨g,a,b,-⟩:=h.form hne
  refine ⟨some ⟨g,0,none⟩,a,b,fun _=>⟨g,0,rfl,fun i k=>?_⟩⟩;obtain ⟨r,e,A,z,y,x,w,u,c,p,o,j⟩:=h.cells k;rw [b] at c;injection c with d t s;injection d with d;injection d with d;subst d;exact ⟨_,_,by rw [Nat.zero_add];exact p,by rw [Nat.zero_add];exact o,j⟩
 ·have l:Ls=[]:=List.length_eq_zero_iff.1 (by omega)
  subst l;obtain ⟨q,f,-⟩:=h;rcases f.2 with ⟨b,-⟩ | ⟨g,a,m,b,-⟩
  ·exact ⟨none,0,b,fun h=>absurd rfl h⟩
  ·exact ⟨some ⟨g,0,none⟩,a,b,fun h=>absurd rfl h⟩
theorem BE.take {g cap m:Nat} (h:BE n X B W (O (some ⟨g,0,none⟩) Ls.length cap) Ls) (hm:m<=Ls.length):BE n X B W (O (some ⟨g,0,none⟩) m cap) (Ls.take m):=by
 obtain ⟨l,j,c⟩:=h;have b:(Ls.take m).length=m:=by simp;omega
 refine ⟨l.take (m*2),⟨by rw [List.length_take,j.1,b];omega,Or.inr ?_⟩,fun i v=>?_⟩
 ·rcases j.2 with ⟨h,-⟩ | ⟨z,k,f,o,s,r,w,e,d,p⟩
  ·cases h
  ·injection o with a A t
   injection a with a;injection a with a;subst a t;refine ⟨g,cap,f,by rw [b],s,r,by omega,e,d,?_⟩;rw [b,<-p,List.take_take];congr 1;omega
 ·have q:i < m:=by omega
  obtain ⟨x,y,u,a,b⟩:=c i (by omega);refine ⟨x,y,by rw [List.getElem?_take_of_lt (by omega)];exact u,by rw [List.getElem?_take_of_lt (by omega)];exact a,?_⟩;rw [List.getElem_take];exact b
theorem BE.set {g cap i:Nat} {x y:Value} {l:Lev} (n1:1<=n) (h:BE n X B W (O (some ⟨g,0,none⟩) Ls.length cap) Ls) (hi:i < Ls.length) (hf:FrW X W ((W.setCell ⟨g,i*2,none⟩ x).setCell ⟨g,i*2+1,none⟩ y)) (hl:Aw n X W (zh #[x,y]) l) :
  BE n X B ((W.setCell ⟨g,i*2,none⟩ x).setCell ⟨g,i*2+1,none⟩ y) (O (some ⟨g,0,none⟩) (Ls.set i l).length cap) (Ls.set i l):=by
 obtain ⟨m,d,c⟩:=h;rw [List.length_set];have e:=d.1;refine ⟨(m.set (i*2) x).set (i*2+1) y,by rw [List.length_set];exact ((d.stored _ _).1.stored _ _).1,fun j o=>?_⟩;have b:j < Ls.length:=by simpa using o
 by_cases hij:i=j
 ·subst hij
  refine ⟨x,y,?_,?_,?_⟩
  ·rw [List.getElem?_set_ne (by omega),List.getElem?_set_self (by omega)]
  ·rw [List.getElem?_set_self (by rw [List.length_set];omega)]
  ·rw [List.getElem_set_self]
   exact hl.keep n1 hf
 ·obtain ⟨k,f,q,p,a⟩:=c j b
  refine ⟨k,f,?_,?_,?_⟩
  ·rw [List.getElem?_set_ne (by omega),List.getElem?_set_ne (by omega)];exact q
  ·rw [List.getElem?_set_ne (by omega),List.getElem?_set_ne (by omega)];exact p
  ·rw [List.getElem_set_ne hij]
   exact a.keep n1 hf
theorem BE.snoc {v':Value} {x y:Value} {l:Lev} {us:List Value} (n1:1<=n) (hel:∀ i (h:i < Ls.length),∃ x y,us[i*2]? = some x/\us[i*2+1]? = some y/\Aw n X W (zh #[x,y]) Ls[i]) (hus:us.length=Ls.length*2) (hl:Aw n X W (zh #[x,y]) l) (ho':W'.ownsRow B 50 2 v' (Ls.length+1) (us++[x,y])) (hf:FrW X W W'):BE n X B W' v' (Ls++[l]):=by
 refine ⟨us++[x,y],by rw [List.length_append];exact ho',fun i e=>?_⟩;rw [List.length_append,List.length_singleton] at e;by_cases hii:i < Ls.length
 ·obtain ⟨d,c,g,f,a⟩:=hel i hii
  refine ⟨d,c,?_,?_,?_⟩
  ·rw [List.getElem?_append_left (by omega)];exact g
  ·rw [List.getElem?_append_left (by omega)];exact f
  ·rw [List.getElem_append_left hii];exact a.keep n1 hf
 ·have b:i=Ls.length:=by omega
  subst b;refine ⟨x,y,?_,?_,?_⟩
  ·rw [List.getElem?_append_right (by omega),hus,Nat.sub_self];rfl
  ·rw [List.getElem?_append_right (by omega),hus,show Ls.length*2+1 - Ls.length*2=1 by omega];rfl
  ·rw [List.getElem_append_right (by omega)]
   simp;exact hl.keep n1 hf
end
structure WX where
 c:WC
 bw:Nat
 rv:Value
 fv:Value
 fl:List (Int × Int)
 Y:Nat->Prop
abbrev WX.lv (x:WX):Value:=O x.c.la x.c.ln x.c.lc
def XV (x:WX) (W:World) (k:Nat):Prop:=W.heap.size<=x.bw\/k=x.bw\/x.lv.ownBlock=some k\/∃ v,W.cell? ⟨x.bw,11,none⟩=some v/\v.ownBlock=some k
def XW (x:WX) (W:World) (k:Nat):Prop:=x.Y k\/XV x W k
theorem Bx (x):XOk (XV x):=⟨fun W W' hb k h=>by
 by_cases hlt:W.heap.size<=x.bw
 ·exact Or.inl hlt
 ·rcases h with h | h | h | ⟨v,hv,ho⟩
  ·exact absurd (Nat.le_trans hb.size h) hlt
  ·exact Or.inr (Or.inl h)
  ·exact Or.inr (Or.inr (Or.inl h))
  ·refine Or.inr (Or.inr (Or.inr ⟨v,?_,ho⟩))
   rw [<-hv];exact (World.cell?_of_block (a:=⟨x.bw,11,none⟩) (hb.block x.bw (by omega))).symm⟩
theorem A5 (x):XOk (XW x):=⟨fun W W' hb k h=>h.imp id ((Bx x).below W W' hb k)⟩
theorem L8 {x:WX} {W W':World} (h:FrW (XV x) W W'):FrW (XW x) W W':=⟨h.os,h.tape,h.output,h.size,fun k hk hx=>h.block k hk (fun e=>hx (Or.inr e)),fun k hk hx=>hx.imp id (h.mov k hk)⟩
structure WtI (x:WX) (w0:World) (s:WSt) (pv:Value) (W:World):Prop where
 below:Ov w0 W
 row:Ad (x.rv::(x.c.cs++[pv,x.fv])) W x.bw
 fz:∀ j,W.frozen? ⟨x.bw,j,none⟩=false
 lo:w0.heap.size<=x.bw/\x.bw < W.heap.size
 yk:∀ k,x.Y k->w0.heap.size<=k/\k < W.heap.size
 yb:¬ x.Y x.bw
 lev:BE x.c.n (XW x) w0.heap.size W x.lv s.vs
 pls:BE x.c.n (XW x) w0.heap.size W pv s.ps
 flt:W.ownsRow w0.heap.size 89 2 x.fv x.fl.length (Cc x.fl)
 apL:x.lv.ownBlock≠some x.bw
 apP:pv.ownBlock≠some x.bw
 apLP:∀ g,x.lv.ownBlock=some g->pv.ownBlock≠some g
 apF:∀ g,x.fv.ownBlock=some g->g≠x.bw/\x.lv.ownBlock≠some g/\pv.ownBlock≠some g/\¬ x.Y g
 yL:∀ g,x.lv.ownBlock=some g->¬ x.Y g
 yP:∀ g,pv.ownBlock=some g->¬ x.Y g
section
variable {x:WX} {w0 W W':World} {s:WSt} {pv:Value}
theorem WtI.cw (h:WtI x w0 s pv W) {j:Nat} {u:Value} (hj:x.c.cs[j]? = some u):W.cell? ⟨x.bw,j+1,none⟩=some u:=h.row (j+1) u (by rw [List.getElem?_cons_succ,List.getElem?_append_left (List.getElem?_eq_some_iff.1 hj).1];exact hj)
theorem WtI.c11 (h:WtI x w0 s pv W):W.cell? ⟨x.bw,11,none⟩=some pv:=h.row 11 _ rfl
theorem WtI.c12 (h:WtI x w0 s pv W):W.cell? ⟨x.bw,12,none⟩=some x.fv:=h.row 12 _ rfl
theorem WtI.over (h:WtI x w0 s pv W) (hb:Ov W W'):WtI x w0 s pv W':=
 ⟨h.below.trans (hb.mono h.below.size),h.row.over hb,fun j=>((An hb).2 _ _ h.lo.2).trans (h.fz j),⟨h.lo.1,Nat.lt_of_lt_of_le h.lo.2 hb.size⟩,fun k hk=>⟨(h.yk k hk).1,Nat.lt_of_lt_of_le (h.yk k hk).2 hb.size⟩,h.yb,h.lev.over (A5 x) hb,h.pls.over (A5 x) hb,AD h.flt (fun g hg=>hb.block g (h.flt.lt g hg).2),h.apL,h.apP,h.apLP,h.apF,h.yL,h.yP⟩
theorem WtI.xv (h:WtI x w0 s pv W) {k:Nat}:XV x W k ↔ (k=x.bw\/x.lv.ownBlock=some k\/pv.ownBlock=some k):=by
 constructor
 ·rintro (e | e | e | ⟨v,a,e⟩)
  ·exact absurd h.lo.2 (by omega)
  ·exact Or.inl e
  ·exact Or.inr (Or.inl e)
  ·rw [h.c11] at a
   injection a with a;subst a;exact Or.inr (Or.inr e)
 ·rintro (e | e | e)
  ·exact Or.inr (Or.inl e)
  ·exact Or.inr (Or.inr (Or.inl e))
  ·exact Or.inr (Or.inr (Or.inr ⟨pv,h.c11,e⟩))
theorem WtI.vlt (h:WtI x w0 s pv W):∀ k,XV x W k->w0.heap.size<=k/\k < W.heap.size:=fun k hk=>by
 rcases h.xv.1 hk with e | e | e
 ·rw [e];exact h.lo
 ·exact h.lev.lt k e
 ·exact h.pls.lt k e
theorem WtI.xlt (h:WtI x w0 s pv W):∀ k,XW x W k->w0.heap.size<=k/\k < W.heap.size:=fun k hk=>hk.elim (h.yk k) (h.vlt k)
theorem WtI.setLev (n1:1<=x.c.n) (h:WtI x w0 s pv W) {g:Nat} (hg:x.c.la=some ⟨g,0,none⟩) {i:Nat} (hi:i < s.vs.length) {u v:Value} {l:Lev} (hl:Aw x.c.n (XW x) W (zh #[u,v]) l) :
  WtI x w0 ⟨s.vs.set i l,s.ps⟩ pv ((W.setCell ⟨g,i*2,none⟩ u).setCell ⟨g,i*2+1,none⟩ v)/\FrW (XV x) W ((W.setCell ⟨g,i*2,none⟩ u).setCell ⟨g,i*2+1,none⟩ v):=by
 have b:x.lv.ownBlock=some g:=by unfold WX.lv;rw [hg];rfl
 have p:g≠x.bw:=fun e=>h.apL (by rw [b,e]);have m:∀ k,k≠g->((W.setCell ⟨g,i*2,none⟩ u).setCell ⟨g,i*2+1,none⟩ v).heap[k]? = W.heap[k]?:=fun k m=>by rw [Au (Ne.symm m),Au (Ne.symm m)]
 have f:((W.setCell ⟨g,i*2,none⟩ u).setCell ⟨g,i*2+1,none⟩ v).heap.size=W.heap.size:=by simp [World.setCell]
 have y:FrW (XV x) W ((W.setCell ⟨g,i*2,none⟩ u).setCell ⟨g,i*2+1,none⟩ v):=by
  refine ⟨rfl,rfl,rfl,by rw [f];exact Nat.le_refl _,fun k _ t=>m k (fun e=>t (Or.inr (Or.inr (Or.inl (by rw [b,e]))))),fun k _ t=>?_⟩;rcases t with e | e | e | ⟨q,o,e⟩
  ·rw [f] at e;exact Or.inl e
  ·exact Or.inr (Or.inl e)
  ·exact Or.inr (Or.inr (Or.inl e))
  ·exact Or.inr (Or.inr (Or.inr ⟨q,(World.cell?_of_block (a:=⟨x.bw,11,none⟩) (m x.bw (Ne.symm p))).symm.trans o,e⟩))
 have r:=L8 y;refine ⟨⟨h.below.trans ((Below.refl _ W).mono h.below.size |>.setCell (h.lev.lt g b).1 _ |>.setCell (h.lev.lt g b).1 _),fun j q o=>(World.cell?_of_block (a:=⟨x.bw,j,none⟩) (m x.bw (Ne.symm p))).trans (h.row j q o),fun j=>(World.frozen?_of_block (a:=⟨x.bw,j,none⟩) (m x.bw (Ne.symm p))).trans (h.fz j),by rw [f];exact h.lo,by rw [f];exact h.yk,h.yb,?_,h.pls.keep n1 r (fun q o=>m q (fun e=>h.apLP g b (by rw [<-e];exact o))),AD h.flt (fun q o=>m q (fun e=>(h.apF q o).2.1 (by rw [b,e]))),h.apL,h.apP,h.apLP,h.apF,h.yL,h.yP⟩,y⟩;have d:=h.lev;obtain ⟨F,A,B⟩:=id d;have w:x.c.ln=s.vs.length:=by
  rcases A.2 with ⟨e,-⟩ | ⟨G,E,D,e,-⟩
  ·unfold WX.lv at e;rw [hg] at e;cases e
  ·unfold WX.lv at e;injection e
 have z:x.lv=O (some ⟨g,0,none⟩) s.vs.length x.c.lc:=by unfold WX.lv;rw [hg,w]
 have C:x.lv=O (some ⟨g,0,none⟩) (s.vs.set i l).length x.c.lc:=by rw [List.length_set];exact z
 rw [C];rw [z] at d;exact d.set n1 hi r hl
theorem WtI.newPls (n1:1<=x.c.n) (h:WtI x w0 s pv W) {v' u v:Value} {ps:List Lev} {us:List Value} {l:Lev} (hel:∀ i (h:i < ps.length),∃ a b,us[i*2]? = some a/\us[i*2+1]? = some b/\Aw x.c.n (XW x) W (zh #[a,b]) ps[i]) (hus:us.length=ps.length*2) (hl:Aw x.c.n (XW x) W (zh #[u,v]) l) (ho:W'.ownsRow w0.heap.size 50 2 v' (ps.length+1) (us++[u,v])) (hg:W.grownBy W' pv.ownBlock) (hat:v'.ownBlock=pv.ownBlock\/v'.ownBlock=some W.heap.size) :
  WtI x w0 ⟨s.vs,ps++[l]⟩ v' (W'.setCell ⟨x.bw,11,none⟩ v')/\FrW (XV x) W (W'.setCell ⟨x.bw,11,none⟩ v'):=by
 have A:W'.heap[x.bw]? = W.heap[x.bw]?:=hg.block x.bw h.lo.2 (fun e=>h.apP e.symm);have m:(W'.setCell ⟨x.bw,11,none⟩ v').heap.size=W'.heap.size:=by simp [World.setCell]
 have d:∀ g,v'.ownBlock=some g->pv.ownBlock=some g\/g=W.heap.size:=fun g e=>by
  rcases hat with e1 | e1
  ·exact Or.inl (by rw [<-e1];exact e)
  ·rw [e1] at e;injection e with e;exact Or.inr e.symm
 have z:∀ k,k < W.heap.size->k≠x.bw->pv.ownBlock≠some k->(W'.setCell ⟨x.bw,11,none⟩ v').heap[k]? = W.heap[k]?:=fun k z H G=>by rw [Au (Ne.symm H)];exact hg.block k z (fun e=>G e.symm)
 have t:Ad (x.rv::(x.c.cs++[pv,x.fv])) W' x.bw:=fun j u F=>(World.cell?_of_block (a:=⟨x.bw,j,none⟩) A).trans (h.row j u F);have f:Ad (x.rv::(x.c.cs++[v',x.fv])) (W'.setCell ⟨x.bw,11,none⟩ v') x.bw:=by
  have r:=BK (j:=11) (v:=v') t (by simp);simpa using r
 have E:CE (W'.setCell ⟨x.bw,11,none⟩ v') x.bw 11 v':=f 11 _ rfl;have w:FrW (XV x) W (W'.setCell ⟨x.bw,11,none⟩ v'):=by
  refine ⟨hg.os,hg.tape,hg.output,by rw [m];exact hg.size,fun k o C=>z k o (fun e=>C (Or.inr (Or.inl e))) (fun e=>C (h.xv.2 (Or.inr (Or.inr e)))),fun k o C=>h.xv.2 ?_⟩;rcases C with e | e | e | ⟨q,D,e⟩
  ·rw [m] at e;have:=hg.size;have:=h.lo.2;omega
  ·exact Or.inl e
  ·exact Or.inr (Or.inl e)
  ·rw [E] at D
   injection D with D;subst D;rcases d k e with e | e
   ·exact Or.inr (Or.inr e)
   ·omega
 have B:=L8 w;have I:=hg.size;have y:v'.ownBlock≠some x.bw:=fun e=>by
  rcases d _ e with e | e
  ·exact h.apP e
  ·have:=h.lo.2;omega
 have p:Ov w0 (W'.setCell ⟨x.bw,11,none⟩ v'):=h.below.trans ⟨w.os,w.tape,w.output,w.size,fun k o=>w.block k (Nat.lt_of_lt_of_le o h.below.size) (fun e=>by have:=(h.vlt k e).1;omega)⟩;refine ⟨⟨p,f,fun j=>?_,⟨h.lo.1,by rw [m];have:=h.lo.2;omega⟩,fun k e=>⟨(h.yk k e).1,by rw [m];have:=(h.yk k e).2;omega⟩,h.yb,h.lev.keep n1 B (fun g e=>z g (h.lev.lt g e).2 (fun q=>h.apL (by rw [e,q])) (fun q=>h.apLP g e q)),?_,AD h.flt (fun g e=>z g (h.flt.lt g e).2 (h.apF g e).1 (h.apF g e).2.2.1),h.apL,y,fun g e q=>?_,fun g e=>⟨(h.apF g e).1,(h.apF g e).2.1,fun q=>?_,(h.apF g e).2.2.2⟩,h.yL,fun g e q=>?_⟩,w⟩
 ·have e1:(W'.setCell ⟨x.bw,11,none⟩ v').frozen? ⟨x.bw,j,none⟩=W'.frozen? ⟨x.bw,j,none⟩:=by simp [go_sem]
  rw [e1,World.frozen?_of_block (a:=⟨x.bw,j,none⟩) A];exact h.fz j
 ·exact BE.snoc n1 hel hus hl (AD ho (fun g e=>Au (fun q=>y (by rw [e,q])) v')) B
 ·rcases d g q with q | q
  ·exact h.apLP g e q
  ·have:=(h.lev.lt g e).2;omega
 ·rcases d g q with q | q
  ·exact (h.apF g e).2.2.1 q
  ·have:=(h.flt.lt g e).2;omega
 ·rcases d g e with e | e
  ·exact h.yP g e q
  ·have:=(h.yk g q).2;omega
end
structure WtS (x:WX) (w0:World) (K kf:Nat) (gs:List (Int × Int)) (ls ms:List Lab) (vs:List (Bool × Lab)) (fs:List FnD):Prop where
 n1:1<=x.c.n
 n6:x.c.n<=6
 gr:AA w0 (O x.c.ga x.c.gn x.c.gc) gs
 chk:AR x.c.n gs=0
 vars:Bs w0 (O x.c.va x.c.vn x.c.vc) vs
 ins:AW w0 (O x.c.ya x.c.yn x.c.yc) ls
 outs:AW w0 (O x.c.oa x.c.on x.c.oc) ms
 funcs:Bv w0 K kf (O x.c.fa x.c.fn x.c.fc) fs
 vchk:∀ v∈vs,Bb x.c.n gs v.2=0
 ichk:∀ b∈ls,Bb x.c.n gs b=0
 ochk:∀ b∈ms,Bb x.c.n gs b=0
 v16:vs.length<=16
 i5:ls.length<=5
 o5:ms.length<=5
 f5:fs.length<=5
 fl:x.fl.length<=1000
 body:∀ i (h:i < fs.length),okF K vs.length ls.length ms.length (i:Int) fs kf fs[i]
theorem MK {x:WX} {W:World} {b:Nat} {u v:Value} (hne:x.bw≠b) {k:Nat} (h:XW x (BC W b u v) k):XW x W k:=by
 rcases h with h | h | h | h | ⟨q,c,d⟩
 ·exact Or.inl h
 ·rw [H3] at h;exact Or.inr (Or.inl h)
 ·exact Or.inr (Or.inr (Or.inl h))
 ·exact Or.inr (Or.inr (Or.inr (Or.inl h)))
 ·exact Or.inr (Or.inr (Or.inr (Or.inr ⟨q,(World.cell?_of_block (a:=⟨x.bw,11,none⟩) (Ck hne)).symm.trans c,d⟩)))
theorem Dm {x:WX} {n b:Nat} {W:World} {v:Value} {l:Lev} (h:Aw n (XW x) W v l) (hz:ZB b W) (hne:x.bw≠b) (u q:Value):Aw n (XW x) (BC W b u q) v l:=by
 obtain ⟨y,w,f,g,hw⟩:=h.off;have d:(W.setCell ⟨b,0,none⟩ u).cell? ⟨b,1,none⟩=some (O none 0 0):=by rw [World.cell?_setCell_other _ _ _ _ (by simp)];exact hz.c1
 exact ⟨Cz d (Cz hz.c0 h.at_ _) _,h.len,y,w,f,fun a m c e p=>g a m c e (MK hne p),fun a m c e p=>hw a m c e (MK hne p)⟩
abbrev Rb (x:WX) (bv ov i:Nat) (pa1:Option Addr) (pn1 pc1:Nat) (pa2:Option Addr) (pn2 pc2:Nat) (Wz:World):Prop:=Wz.cell? ⟨x.bw,1,none⟩=some (zd U (x.c.n:Int))/\Wz.cell? ⟨x.bw,2,none⟩=some (O x.c.ga x.c.gn x.c.gc)/\Wz.cell? ⟨x.bw,3,none⟩=some (O x.c.sa x.c.sn x.c.sc)/\Wz.cell? ⟨x.bw,4,none⟩=some (O x.c.ya x.c.yn x.c.yc)/\Wz.cell? ⟨x.bw,5,none⟩=some (O x.c.oa x.c.on x.c.oc)/\Wz.cell? ⟨x.bw,6,none⟩=some (O (some ⟨bv,ov,none⟩) x.c.vn x.c.vc)/\Wz.cell? ⟨x.bw,7,none⟩=some (O x.c.fa x.c.fn x.c.fc)/\Wz.cell? ⟨x.bw,8,none⟩=some (O x.c.ba x.c.bn x.c.bc)/\Wz.cell? ⟨x.bw,9,none⟩=some (O x.c.la x.c.ln x.c.lc)/\Wz.cell? ⟨x.bw,10,none⟩=some (O x.c.ka x.c.kn x.c.kc)/\Wz.cell? ⟨bv,ov+i*3+1,none⟩=some (O pa1 pn1 pc1)/\Wz.cell? ⟨bv,ov+i*3+2,none⟩=some (O pa2 pn2 pc2)
theorem Ms (x) (w0:World) (K kf:Nat) (gs ls ms vs fs) (S:WtS x w0 K kf gs ls ms vs fs) (s:WSt) (pv:Value) (W:World) (h:WtI x w0 s pv W) (i:Nat) (hi:i < vs.length) :
  Calls Tryz.prog 188 #[zi (some ⟨x.bw,0,none⟩),zd U (i:Int)] W fun e W'=>∃ a1 a2 a3 a4 a5 a6,e=zj (zh #[O a1 a2 a3,O a4 a5 a6])/\Aw x.c.n (XW x) W' (zh #[O a1 a2 a3,O a4 a5 a6]) (Ar (Ax gs) x.c.n vs[i].2)/\Ov W W':=by
 obtain ⟨ah,av,au,ai,d⟩:=S.vars;injection ai with v1 v2 v3;obtain ⟨bv,M,N,d⟩:=d (by rintro rfl;simp at hi);obtain ⟨pr,pw,g0,g1,g2,F,E⟩:=d i hi;obtain ⟨D,z,B,rfl⟩:=Az F;obtain ⟨C,y,A,rfl⟩:=Az E;have H:x.c.va=some ⟨bv,M,none⟩:=v1.trans N;have P:x.c.vn=vs.length:=v2;have Q:=S.v16;have a7:(i:Int) < (x.c.vn:Int):=by omega
 have a0:x.c.vn<=16:=by omega
 have V:x.c.v=(zh #[zd U (x.c.n:Int),O x.c.ga x.c.gn x.c.gc,O x.c.sa x.c.sn x.c.sc,O x.c.ya x.c.yn x.c.yc,O x.c.oa x.c.on x.c.oc,O (some ⟨bv,M,none⟩) x.c.vn x.c.vc,O x.c.fa x.c.fn x.c.fc,O x.c.ba x.c.bn x.c.bc,O x.c.la x.c.ln x.c.lc,O x.c.ka x.c.kn x.c.kc]):=by show Value.agg #[zd U (x.c.n:Int),O x.c.ga x.c.gn x.c.gc,O x.c.sa x.c.sn x.c.sc,O x.c.ya x.c.yn x.c.yc,O x.c.oa x.c.on x.c.oc,O x.c.va x.c.vn x.c.vc,O x.c.fa x.c.fn x.c.fc,O x.c.ba x.c.bn x.c.bc,O x.c.la x.c.ln x.c.lc,O x.c.ka x.c.kn x.c.kc]=_;rw [H]
 have I:=S.vchk vs[i] (List.getElem_mem hi);have m:Hx ((Ar (Ax gs) x.c.n vs[i].2).len x.c.n):=Dl _ _ _;generalize vs[i]=vb at I F E g0 m ⊢;have X:Ov W (W.alloc (ze #[O none 0 0,O none 0 0] 50)):=bA W _;have HI:=Aa h;have G:Hx (Ov W (W.alloc (ze #[O none 0 0,O none 0 0] 50)).drew):=X.drew;have KL:Hx (∀ (W2:World),Ov W W2->Calls Tryz.prog 114 #[(zh #[zd U (x.c.n:Int),O x.c.ga x.c.gn x.c.gc,O x.c.sa x.c.sn x.c.sc,O x.c.ya x.c.yn x.c.yc,O x.c.oa x.c.on x.c.oc,O (some ⟨bv,M,none⟩) x.c.vn x.c.vc,O x.c.fa x.c.fn x.c.fc,O x.c.ba x.c.bn x.c.bc,O x.c.la x.c.ln x.c.lc,O x.c.ka x.c.kn x.c.kc]),zh #[O D z B,O C y A]] W2 fun e w'=>∃ vj,e=zj vj/\A1 W2 w' vj (Ar (Ax gs) x.c.n vb.2)/\Ov W2 w'):=fun W2 b=>by
  have a:=h.over b;have:=Hh x.c gs (O D z B) (O C y A) vb.2 W2 (Af S.gr a.below) (Ak F a.below) (Ak E a.below) I;rw [V] at this;exact this
 have HS:Hx (∀ (W2:World),Ov W W2->Rb x bv M i D z B C y A W2):=fun W2 b=>by
  have a:=h.over b;exact ⟨a.cw (j:=0) rfl,a.cw (j:=1) rfl,a.cw (j:=2) rfl,a.cw (j:=3) rfl,a.cw (j:=4) rfl,by rw [<-H];exact a.cw (j:=5) rfl,a.cw (j:=6) rfl,a.cw (j:=7) rfl,a.cw (j:=8) rfl,a.cw (j:=9) rfl,Ab a.below _ _ g1,Ab a.below _ _ g2⟩
 generalize Ar (Ax gs) x.c.n vb.2=lb at KL m ⊢;clear X h S ah d v1 v2 v3 N H P Q g0 g1 g2 F E V I hi;go_enter Tryz.func188,Tryz.ntmps188;go_wp2_with fail;refine gS (Rb x bv M i D z B C y A) (HS.o _ G.o) fun l=>?_;refine kT 0 ?_;refine kT 1 ?_;refine kT 2 ?_;refine kT 3 ?_;refine kT 4 ?_;refine kT 5 ?_;refine kT 6 ?_;refine kT 7 ?_;refine kT 8 ?_;refine kT 9 ?_;refine kT 10 ?_;refine kT 11 ?_;refine kT 12 ?_;refine kT 13 ?_;refine rdA 14 rfl fun K Z=>?_;go_simp;refine (KL.o _ G.o).mono ?_;rintro e W2 ⟨vj,rfl,J,b⟩;have Y:=Bm J;have aa:=Aq J;obtain ⟨v1,v2,rfl,T,R,-⟩:=J;obtain ⟨w,u,t,rfl⟩:=AE T;obtain ⟨r,q,p,rfl⟩:=AE R;have L:=Aa (Ac G.o b);have am:=Aa (⟨aa,m.o,B8 (A5 x) L.o (fun k hk=>(HI.o.xlt k hk).2) (EL Y G.o.size)⟩:Aw x.c.n (XW x) W2 _ lb);clear Y aa T R;have f:=(Jc (DJ 50 W)).over b;have d0:=f.c0;have d1:=f.c1;have z0:=f.z0;have z1:=f.z1;have ac:=Aa f;clear b f;go_simp;refine xK Z (HS.o _ L.o) fun l=>?_;clear Z K;refine rdA 15 rfl fun K Z=>?_;obtain ⟨W3,g⟩:=nm (BC W2 W.heap.size (O w u t) (O r q p));have ae:Hx (Ov W W3):=by rw [g];exact B7 L.o (Nat.le_refl _) _ _
 have ad:Hx (Ad [O w u t,O r q p] W3 W.heap.size):=by rw [g];exact ac.o.fill _ _
 have al:Hx (Aw x.c.n (XW x) W3 (zh #[O w u t,O r q p]) lb):=by rw [g];exact Dm am.o ac.o (by have:=HI.o.lo.2;omega) _ _
 unfold BC at g;go_simp;rw [<-g];clear g d0 d1 z0 z1;refine xK Z (HS.o _ ae.o) fun l=>?_;clear Z K;refine gE ?_;have r0:=ad.o 0 _ rfl;have r1:=ad.o 1 _ rfl;go_wp2_with fail;exact bodyPost_ret (v:=zh #[O w u t,O r q p]) (by simp [results,Tryz.results188,go_sem,r0,r1]) rfl ⟨_,_,_,_,_,_,rfl,al.o,ae.o⟩
abbrev Ra (x:WX) (bv ov bl:Nat) (W:World) (p1:Option Addr) (q1 r1:Nat) (p2:Option Addr) (q2 r2:Nat) (m1:Option Addr) (m2 m3:Nat) (m4:Option Addr) (m5 m6 i:Nat) (a1:Option Addr) (a2 a3:Nat) (a4:Option Addr) (a5 a6:Nat) (kn:Bool) (Wz:World):Prop:=Wz.cell? ⟨x.bw,1,none⟩=some (zd U (x.c.n:Int))/\Wz.cell? ⟨x.bw,2,none⟩=some (O x.c.ga x.c.gn x.c.gc)/\Wz.cell? ⟨x.bw,3,none⟩=some (O x.c.sa x.c.sn x.c.sc)/\Wz.cell? ⟨x.bw,4,none⟩=some (O x.c.ya x.c.yn x.c.yc)/\Wz.cell? ⟨x.bw,5,none⟩=some (O x.c.oa x.c.on x.c.oc)/\Wz.cell? ⟨x.bw,6,none⟩=some (O (some ⟨bv,ov,none⟩) x.c.vn x.c.vc)/\Wz.cell? ⟨x.bw,7,none⟩=some (O x.c.fa x.c.fn x.c.fc)/\Wz.cell? ⟨x.bw,8,none⟩=some (O x.c.ba x.c.bn x.c.bc)/\Wz.cell? ⟨x.bw,9,none⟩=some (O (some ⟨bl,0,none⟩) x.c.ln x.c.lc)/\Wz.cell? ⟨x.bw,10,none⟩=some (O x.c.ka x.c.kn x.c.kc)/\Wz.cell? ⟨W.heap.size,0,none⟩=some (O p1 q1 r1)/\Wz.cell? ⟨W.heap.size,1,none⟩=some (O p2 q2 r2)/\Wz.cell? ⟨W.heap.size+1,0,none⟩=some (O m1 m2 m3)/\Wz.cell? ⟨W.heap.size+1,1,none⟩=some (O m4 m5 m6)/\Wz.cell? ⟨bl,i*2,none⟩=some (O a1 a2 a3)/\Wz.cell? ⟨bl,i*2+1,none⟩=some (O a4 a5 a6)/\Wz.cell? ⟨bv,ov+i*3,none⟩=some (zg kn)
theorem Hg (x) (w0:World) (K kf:Nat) (gs ls ms vs fs) (S:WtS x w0 K kf gs ls ms vs fs) (s:WSt) (pv:Value) (W:World) (h:WtI x w0 s pv W) (hvl:s.vs.length=vs.length) (v u:Value) (p l) (hp:Aw x.c.n (XW x) W v p) (hl:Aw x.c.n (XW x) W u l) (i:Nat) (hi:i < vs.length) :
  Calls Tryz.prog 186 #[zi (some ⟨x.bw,0,none⟩),v,zd U (i:Int),u] W fun e W'=>e=zj (zg (Av p (s.vs.getD i Ah) x.c.n && (!vs[i].1 || Av l (Ar (Ax gs) x.c.n vs[i].2) x.c.n)))/\Ov W W':=by
 obtain ⟨L,I,G,J,H,F,rfl⟩:=hp.form;obtain ⟨V,T,R,Q,P,N,rfl⟩:=hl.form;have ah:i < s.vs.length:=by omega
 have aw:s.vs.getD i Ah=s.vs[i]:=by simp [List.getD_eq_getElem?_getD,ah]
 rw [aw];obtain ⟨A,bk,a1,a2,a3,Z,Y,X,C,k0,k1,av⟩:=h.lev.cells ah;have af:x.c.la=some ⟨A,0,none⟩:=by unfold WX.lv at C;injection C
 have bf:x.c.ln=s.vs.length:=by unfold WX.lv at C;injection C
 obtain ⟨bd,bs,br,be,t⟩:=S.vars;injection be with v1 v2 v3;obtain ⟨E,D,ap,t⟩:=t (by rintro rfl;simp at hi);obtain ⟨pr,pw,g0,g1,g2,au,as⟩:=t i hi;obtain ⟨b8,bx,b0,rfl⟩:=Az au;obtain ⟨b7,bu,bz,rfl⟩:=Az as;have ae:x.c.va=some ⟨E,D,none⟩:=v1.trans ap;have aq:x.c.vn=vs.length:=v2;have ar:=S.v16;have cc:(i:Int) < (x.c.vn:Int):=by omega
 have cb:x.c.vn<=16:=by omega
 have ca:(i:Int) < (x.c.ln:Int):=by omega
 have b9:x.c.ln<=16:=by omega
 have ak:x.c.v=(zh #[zd U (x.c.n:Int),O x.c.ga x.c.gn x.c.gc,O x.c.sa x.c.sn x.c.sc,O x.c.ya x.c.yn x.c.yc,O x.c.oa x.c.on x.c.oc,O (some ⟨E,D,none⟩) x.c.vn x.c.vc,O x.c.fa x.c.fn x.c.fc,O x.c.ba x.c.bn x.c.bc,O (some ⟨A,0,none⟩) x.c.ln x.c.lc,O x.c.ka x.c.kn x.c.kc]):=by show Value.agg #[zd U (x.c.n:Int),O x.c.ga x.c.gn x.c.gc,O x.c.sa x.c.sn x.c.sc,O x.c.ya x.c.yn x.c.yc,O x.c.oa x.c.on x.c.oc,O x.c.va x.c.vn x.c.vc,O x.c.fa x.c.fn x.c.fc,O x.c.ba x.c.bn x.c.bc,O x.c.la x.c.ln x.c.lc,O x.c.ka x.c.kn x.c.kc]=_;rw [ae,af]
 obtain ⟨M,g⟩:=nm (((W.alloc (ze #[O L I G,O J H F] 50)).alloc (ze #[O V T R,O Q P N] 50)));have z:Ov W M:=by rw [g];exact (bA W _).alloc (by simp) _
 have ra:Ad [O L I G,O J H F] M W.heap.size:=by
  rw [g];exact (Ad.new [O L I G,O J H F] 50 W).over (bA _ _)
 have rb:Ad [O V T R,O Q P N] M (W.heap.size+1):=by
  rw [g];have r:=Ad.new [O V T R,O Q P N] 50 (W.alloc (ze #[O L I G,O J H F] 50));simpa using r
 have an:=Aa z;have m:Hx (Ov M M.drew):=(bD _);obtain ⟨f1,aj⟩:=nm (Av p s.vs[i] x.c.n);obtain ⟨f2,ai⟩:=nm (Av l (Ar (Ax gs) x.c.n vs[i].2) x.c.n);have al:Hx (∀ (W2:World),Ov M W2->Calls Tryz.prog 57 #[(zh #[zd U (x.c.n:Int),O x.c.ga x.c.gn x.c.gc,O x.c.sa x.c.sn x.c.sc,O x.c.ya x.c.yn x.c.yc,O x.c.oa x.c.on x.c.oc,O (some ⟨E,D,none⟩) x.c.vn x.c.vc,O x.c.fa x.c.fn x.c.fc,O x.c.ba x.c.bn x.c.bc,O (some ⟨A,0,none⟩) x.c.ln x.c.lc,O x.c.ka x.c.kn x.c.kc]),zh #[O L I G,O J H F],zh #[O a1 a2 a3,O Z Y X]] W2 fun e w'=>e=zj (zg f1)/\Ov W2 w'):=fun W2 a=>by
  have f:=Ac z a;have q:=h.over f;have B:=hp.over (A5 x) f;have ao:=av.over (A5 x) f;have:=DY x.c gs _ _ _ _ W2 (Af S.gr q.below) S.chk B.at_ B.len ao.at_ ao.len;rw [ak,<-aj] at this;exact this
 have a0:Hx (∀ (W2:World),Ov M W2->Calls Tryz.prog 188 #[zi (some ⟨x.bw,0,none⟩),zd U (i:Int)] W2 fun e W'=>∃ a1 a2 a3 Z Y X,e=zj (zh #[O a1 a2 a3,O Z Y X])/\Aw x.c.n (XW x) W' (zh #[O a1 a2 a3,O Z Y X]) (Ar (Ax gs) x.c.n vs[i].2)/\Ov W2 W'):=fun W2 a=>Ms x w0 K kf gs ls ms vs fs S s pv W2 (h.over (Ac z a)) i hi;have az:Hx (∀ (W2:World) {y:Value},Ov M W2->Aw x.c.n (XW x) W2 y (Ar (Ax gs) x.c.n vs[i].2)->Calls Tryz.prog 57 #[(zh #[zd U (x.c.n:Int),O x.c.ga x.c.gn x.c.gc,O x.c.sa x.c.sn x.c.sc,O x.c.ya x.c.yn x.c.yc,O x.c.oa x.c.on x.c.oc,O (some ⟨E,D,none⟩) x.c.vn x.c.vc,O x.c.fa x.c.fn x.c.fc,O x.c.ba x.c.bn x.c.bc,O (some ⟨A,0,none⟩) x.c.ln x.c.lc,O x.c.ka x.c.kn x.c.kc]),zh #[O V T R,O Q P N],y] W2 fun e w'=>e=zj (zg f2)/\Ov W2 w'):=fun W2 y a hy=>by
  have f:=Ac z a;have q:=h.over f;have B:=hl.over (A5 x) f;have:=DY x.c gs _ y _ _ W2 (Af S.gr q.below) S.chk B.at_ B.len hy.at_ hy.len;rw [ak,<-ai] at this;exact this
 obtain ⟨kn,ag⟩:=nm (vs[i].1);rw [<-ag] at g0;have HS:Hx (∀ (W2:World),Ov M W2->Ra x E D A W L I G J H F V T R Q P N i a1 a2 a3 Z Y X kn W2):=fun W2 a=>by
  have f:=Ac z a;have q:=h.over f;exact ⟨q.cw (j:=0) rfl,q.cw (j:=1) rfl,q.cw (j:=2) rfl,q.cw (j:=3) rfl,q.cw (j:=4) rfl,by rw [<-ae];exact q.cw (j:=5) rfl,q.cw (j:=6) rfl,q.cw (j:=7) rfl,by rw [<-af];exact q.cw (j:=8) rfl,q.cw (j:=9) rfl,(ra.over a) 0 _ rfl,(ra.over a) 1 _ rfl,(rb.over a) 0 _ rfl,(rb.over a) 1 _ rfl,Ab f _ _ k0,Ab f _ _ k1,Ab q.below _ _ g0⟩
 rw [<-aj,<-ai,<-ag];generalize Ar (Ax gs) x.c.n vs[i].2=lb at a0 az;clear ra rb z h S bd t v1 v2 v3 ap ae aq ar g0 g1 g2 au as ak hi ah aw af bf C k0 k1 av hp hl hvl aj ai ag;cases f1 with
 | false=>
  go_enter Tryz.func186,Tryz.ntmps186;go_wp2_with fail;rw [<-g];clear g;refine gS (Ra x E D A W L I G J H F V T R Q P N i a1 a2 a3 Z Y X kn) (HS.o _ m.o) fun d=>?_;refine kT 0 ?_;refine kT 1 ?_;refine kT 2 ?_;refine kT 3 ?_;refine kT 4 ?_;refine kT 5 ?_;refine kT 6 ?_;refine kT 7 ?_;refine kT 8 ?_;refine kT 9 ?_;refine kT 10 ?_;refine kT 11 ?_;refine kT 12 ?_;refine kT 13 ?_;refine rdA 14 rfl fun K w=>?_;go_simp;refine (al.o _ m.o).mono ?_;rintro e W2 ⟨rfl,a⟩;have k:=Aa (Ac m.o a);clear a;go_simp;refine xK w (HS.o _ k.o) fun d=>?_;clear w K;refine kT 15 ?_;refine kU 16 ?_;refine kU 17 ?_;refine kU 18 ?_;refine kU 19 ?_;refine kU 20 ?_;refine kU 21 ?_;refine kU 22 ?_;refine kU 23 ?_;refine kU 24 ?_;refine kU 25 ?_;refine kU 26 ?_;refine kU 27 ?_;refine kU 28 ?_;refine kU 29 ?_;refine kU 30 ?_;refine kU 31 ?_;refine kU 32 ?_;refine kU 33 ?_;refine kU 34 ?_;refine kU 35 ?_;refine kU 36 ?_;refine kU 37 ?_;refine kT 38 ?_;refine kT 39 ?_;refine gE ?_;go_wp2_with fail;go_ret;exact ⟨by simp,Ac an.o k.o⟩
 | true=>
  cases kn with
  | false=>
   go_enter Tryz.func186,Tryz.ntmps186;go_wp2_with fail;rw [<-g];clear g;refine gS (fun b=>b.cell? ⟨x.bw,1,none⟩=some (zd U (x.c.n:Int))/\b.cell? ⟨x.bw,2,none⟩=some (O x.c.ga x.c.gn x.c.gc)/\b.cell? ⟨x.bw,3,none⟩=some (O x.c.sa x.c.sn x.c.sc)/\b.cell? ⟨x.bw,4,none⟩=some (O x.c.ya x.c.yn x.c.yc)/\b.cell? ⟨x.bw,5,none⟩=some (O x.c.oa x.c.on x.c.oc)/\b.cell? ⟨x.bw,6,none⟩=some (O (some ⟨E,D,none⟩) x.c.vn x.c.vc)/\b.cell? ⟨x.bw,7,none⟩=some (O x.c.fa x.c.fn x.c.fc)/\b.cell? ⟨x.bw,8,none⟩=some (O x.c.ba x.c.bn x.c.bc)/\b.cell? ⟨x.bw,9,none⟩=some (O (some ⟨A,0,none⟩) x.c.ln x.c.lc)/\b.cell? ⟨x.bw,10,none⟩=some (O x.c.ka x.c.kn x.c.kc)/\b.cell? ⟨W.heap.size,0,none⟩=some (O L I G)/\b.cell? ⟨W.heap.size,1,none⟩=some (O J H F)/\b.cell? ⟨W.heap.size+1,0,none⟩=some (O V T R)/\b.cell? ⟨W.heap.size+1,1,none⟩=some (O Q P N)/\b.cell? ⟨A,i*2,none⟩=some (O a1 a2 a3)/\b.cell? ⟨A,i*2+1,none⟩=some (O Z Y X)/\b.cell? ⟨E,D+i*3,none⟩=some (zg false)) (HS.o _ m.o) fun d=>?_;refine kT 0 ?_;refine kT 1 ?_;refine kT 2 ?_;refine kT 3 ?_;refine kT 4 ?_;refine kT 5 ?_;refine kT 6 ?_;refine kT 7 ?_;refine kT 8 ?_;refine kT 9 ?_;refine kT 10 ?_;refine kT 11 ?_;refine kT 12 ?_;refine kT 13 ?_;refine rdA 14 rfl fun K w=>?_;go_simp;refine (al.o _ m.o).mono ?_;rintro e W2 ⟨rfl,a⟩;have k:=Aa (Ac m.o a);clear a;go_simp;refine xK w (HS.o _ k.o) fun d=>?_;clear w K;refine kT 15 ?_;refine kT 16 ?_;refine kT 17 ?_;refine kT 18 ?_;refine kT 19 ?_;refine kT 20 ?_;refine kT 21 ?_;refine kT 22 ?_;refine kT 23 ?_;refine kT 24 ?_;refine kT 25 ?_;refine kT 26 ?_;refine kT 27 ?_;refine kU 28 ?_;refine kU 29 ?_;refine kU 30 ?_;refine kU 31 ?_;refine kU 32 ?_;refine kU 33 ?_;refine kU 34 ?_;refine kU 35 ?_;refine kU 36 ?_;refine kT 37 ?_;refine kT 38 ?_;refine kT 39 ?_;refine gE ?_;go_wp2_with fail;go_ret;exact ⟨by simp,Ac an.o k.o⟩
  | true=>
   go_enter Tryz.func186,Tryz.ntmps186;go_wp2_with fail;rw [<-g];clear g;refine gS (fun b=>b.cell? ⟨x.bw,1,none⟩=some (zd U (x.c.n:Int))/\b.cell? ⟨x.bw,2,none⟩=some (O x.c.ga x.c.gn x.c.gc)/\b.cell? ⟨x.bw,3,none⟩=some (O x.c.sa x.c.sn x.c.sc)/\b.cell? ⟨x.bw,4,none⟩=some (O x.c.ya x.c.yn x.c.yc)/\b.cell? ⟨x.bw,5,none⟩=some (O x.c.oa x.c.on x.c.oc)/\b.cell? ⟨x.bw,6,none⟩=some (O (some ⟨E,D,none⟩) x.c.vn x.c.vc)/\b.cell? ⟨x.bw,7,none⟩=some (O x.c.fa x.c.fn x.c.fc)/\b.cell? ⟨x.bw,8,none⟩=some (O x.c.ba x.c.bn x.c.bc)/\b.cell? ⟨x.bw,9,none⟩=some (O (some ⟨A,0,none⟩) x.c.ln x.c.lc)/\b.cell? ⟨x.bw,10,none⟩=some (O x.c.ka x.c.kn x.c.kc)/\b.cell? ⟨W.heap.size,0,none⟩=some (O L I G)/\b.cell? ⟨W.heap.size,1,none⟩=some (O J H F)/\b.cell? ⟨W.heap.size+1,0,none⟩=some (O V T R)/\b.cell? ⟨W.heap.size+1,1,none⟩=some (O Q P N)/\b.cell? ⟨A,i*2,none⟩=some (O a1 a2 a3)/\b.cell? ⟨A,i*2+1,none⟩=some (O Z Y X)/\b.cell? ⟨E,D+i*3,none⟩=some (zg true)) (HS.o _ m.o) fun d=>?_;refine kT 0 ?_;refine kT 1 ?_;refine kT 2 ?_;refine kT 3 ?_;refine kT 4 ?_;refine kT 5 ?_;refine kT 6 ?_;refine kT 7 ?_;refine kT 8 ?_;refine kT 9 ?_;refine kT 10 ?_;refine kT 11 ?_;refine kT 12 ?_;refine kT 13 ?_;refine rdA 14 rfl fun K w=>?_;go_simp;refine (al.o _ m.o).mono ?_;rintro e W2 ⟨rfl,a⟩;have k:=Aa (Ac m.o a);clear a;go_simp;refine xK w (HS.o _ k.o) fun d=>?_;clear w K;refine kT 15 ?_;refine kT 16 ?_;refine kT 17 ?_;refine kT 18 ?_;refine kT 19 ?_;refine kT 20 ?_;refine kT 21 ?_;refine kT 22 ?_;refine kT 23 ?_;refine kT 24 ?_;refine kT 25 ?_;refine kT 26 ?_;refine kT 27 ?_;refine kT 28 ?_;refine kT 29 ?_;refine kT 30 ?_;refine kT 31 ?_;refine kT 32 ?_;refine kT 33 ?_;refine kT 34 ?_;refine rdA 35 rfl fun K w=>?_;go_simp;refine (a0.o _ k.o).mono ?_;rintro e W3 ⟨b1,b2,b3,b4,b5,b6,rfl,ay,f⟩;have am:=Aa (Ac k.o f);have bh:=Aa ay;clear f ay;go_simp;refine xK w (HS.o _ am.o) fun d=>?_;clear w K;refine rdA 36 rfl fun K w=>?_;go_simp;refine (az.o _ am.o bh.o).mono ?_;rintro e W4 ⟨rfl,ax⟩;have a7:=Aa (Ac am.o ax);clear ax;go_simp;refine xK w (HS.o _ a7.o) fun d=>?_;clear w K;refine kT 37 ?_;refine kT 38 ?_;refine kT 39 ?_;refine gE ?_;go_wp2_with fail;go_ret;exact ⟨by simp,Ac an.o a7.o⟩
def Bc (x:WX) (K:Nat) (gs:List (Int × Int)) (ls ms:List Lab) (vs:List (Bool × Lab)) (fs:List FnD):WK:=⟨x.c.n,K,ls.map (Ar (Ax gs) x.c.n),ms.map (Ar (Ax gs) x.c.n),vs.map Prod.fst,vs.map (fun v=>Ar (Ax gs) x.c.n v.2),fs,x.fl⟩
theorem Kh (x) (K:Nat) (gs ls ms) (vs:List (Bool × Lab)) (fs) (s:WSt) (p l:Lev) {i:Nat} (hi:i < vs.length):Cr (Bc x K gs ls ms vs fs) s p (i:Int) l=(Av p (s.vs.getD i Ah) x.c.n && (!vs[i].1 || Av l (Ar (Ax gs) x.c.n vs[i].2) x.c.n)):=by
 unfold Cr Bc;simp [List.getD_eq_getElem?_getD,hi]
abbrev Oq (x:WX) (bl:Nat) (W:World) (m1:Option Addr) (m2 m3:Nat) (m4:Option Addr) (m5 m6:Nat) (Wz:World):Prop:=Wz.cell? ⟨x.bw,9,none⟩=some (O (some ⟨bl,0,none⟩) x.c.ln x.c.lc)/\CE Wz (W.heap.size+1) 0 (O m1 m2 m3)/\CE Wz (W.heap.size+1) 1 (O m4 m5 m6)
theorem FK (x) (w0:World) (K kf:Nat) (gs ls ms vs fs) (S:WtS x w0 K kf gs ls ms vs fs) (s:WSt) (pv:Value) (W:World) (h:WtI x w0 s pv W) (hvl:s.vs.length=vs.length) (v u:Value) (p l) (hp:Aw x.c.n (XW x) W v p) (hl:Aw x.c.n (XW x) W u l) (i:Nat) (hi:i < vs.length) :
  Calls Tryz.prog 121 #[zi (some ⟨x.bw,0,none⟩),v,zd U (i:Int),u] W fun e W'=>e=zj (zg (CC (Bc x K gs ls ms vs fs) s p (i:Int) l).1)/\WtI x w0 (CC (Bc x K gs ls ms vs fs) s p (i:Int) l).2 pv W'/\FrW (XV x) W W':=by
 obtain ⟨p1,q1,Y,p2,Z,X,rfl⟩:=hp.form;obtain ⟨D,C,B,A,z,y,rfl⟩:=hl.form;unfold CC;rw [Kh x K gs ls ms vs fs s p l hi];have F:i < s.vs.length:=by omega
 obtain ⟨w,av,a1,a2,a3,a4,a5,a6,m,k0,k1,ah⟩:=h.lev.cells F;have N:x.c.la=some ⟨w,0,none⟩:=by unfold WX.lv at m;injection m
 have aj:x.c.ln=s.vs.length:=by unfold WX.lv at m;injection m
 have L:=S.v16;have a9:(i:Int) < (x.c.ln:Int):=by omega
 have a8:x.c.ln<=16:=by omega
 obtain ⟨V1,d⟩:=nm (((W.alloc (ze #[O p1 q1 Y,O p2 Z X] 50)).alloc (ze #[O D C B,O A z y] 50)));have q:Ov W V1:=by rw [d];exact (bA W _).alloc (by simp) _
 have ra:Ad [O p1 q1 Y,O p2 Z X] V1 W.heap.size:=by
  rw [d];exact (Ad.new [O p1 q1 Y,O p2 Z X] 50 W).over (bA _ _)
 have V:Ad [O D C B,O A z y] V1 (W.heap.size+1):=by
  rw [d];have r:=Ad.new [O D C B,O A z y] 50 (W.alloc (ze #[O p1 q1 Y,O p2 Z X] 50));simpa using r
 have I:=Aa q;have R:=Aa h;have ap:=Aa S.n1;have aq:=Aa hl;have ao:=Aa V;have t:=Aa N;have Q:=Aa F;have KM:=Aa (Hg x w0 K kf gs ls ms vs fs S s pv V1 (h.over q) hvl _ _ p l (hp.over (A5 x) q) (hl.over (A5 x) q) i hi);obtain ⟨b,hb⟩:=nm ((Av p (s.vs.getD i Ah) x.c.n && (!vs[i].1 || Av l (Ar (Ax gs) x.c.n vs[i].2) x.c.n)));rw [<-hb] at KM ⊢;have u0:=ra 0 _ rfl;have u1:=ra 1 _ rfl;have u2:=V 0 _ rfl;have u3:=V 1 _ rfl;rw [d] at u0 u1 u2 u3;clear hb ra V q h S hi F N aj m k0 k1 ah hp hl hvl L;cases b with
 | false=>
  go_enter Tryz.func121,Tryz.ntmps121;go_wp2_with fail;rw [<-d];clear d u0 u1 u2 u3;refine (KM.o).mono ?_;rintro e J ⟨rfl,f⟩;have T:=Aa (Ac I.o f);clear f;go_wp2_with fail;go_ret;exact ⟨rfl,R.o.over T.o,FrW.of_below (Bx x) T.o⟩
 | true=>
  go_enter Tryz.func121,Tryz.ntmps121;go_wp2_with fail;rw [<-d];clear d u0 u1 u2 u3;refine (KM.o).mono ?_;rintro e J ⟨rfl,f⟩;have g:Ov W J.drew:=(Ac I.o f).drew;have h2:=R.o.over (Ac I.o f);have h3:=R.o.over g;have k:=(ao.o.over f).over (bD _);have u9:CE J x.bw 9 (O (some ⟨w,0,none⟩) x.c.ln x.c.lc):=by rw [<-t.o];exact h2.cw (j:=8) rfl
  have an:Hx (Oq x w W D C B A z y J.drew):=⟨u9,k 0 _ rfl,k 1 _ rfl⟩;have a:=h3.setLev ap.o t.o Q.o (aq.o.over (A5 x) g);obtain ⟨W4,G⟩:=nm (((J.setCell ⟨w,i*2,none⟩ (O D C B)).setCell ⟨w,i*2+1,none⟩ (O A z y)).drew);have P:(J.drew.setCell ⟨w,i*2,none⟩ (O D C B)).setCell ⟨w,i*2+1,none⟩ (O A z y)=W4:=by rw [G];rfl
  rw [P] at a;clear P;have ar:=Aa a.1;have as:=Aa ((FrW.of_below (Bx x) g).trans a.2);have am:Hx (Oq x w W D C B A z y W4):=⟨by rw [<-t.o];exact a.1.cw (j:=8) rfl,a.2.row k (fun e=>by have:=(R.o.vlt _ ((Bx x).below _ _ g _ e)).2;omega) 0 _ rfl,a.2.row k (fun e=>by have:=(R.o.vlt _ ((Bx x).below _ _ g _ e)).2;omega) 1 _ rfl⟩;obtain ⟨us,E,ak⟩:=h2.lev;have M:x.lv=O (some ⟨w,0,none⟩) s.vs.length x.c.lc:=by
   rcases E.2 with ⟨e,-⟩ | ⟨g',be,bd,e,-⟩
   ·unfold WX.lv at e;rw [t.o] at e;cases e
   ·unfold WX.lv at e ⊢;injection e with e1 e2 e3;rw [t.o,e2]
  rw [M] at E;have ag:=E.1;have ai:=Q.o;have d0:=(E.cellAt (i*2) (by omega)).trans (List.getElem?_eq_getElem (by omega));have d1:=(E.cellAt (i*2+1) (by omega)).trans (List.getElem?_eq_getElem (by omega));have z0:=E.frozenAt (i*2);have z1:=E.frozenAt (i*2+1);generalize us[i*2]=d0v at d0;generalize us[i*2+1]=d1v at d1;clear g h2 h3 k a f E ak M ag ai KM;go_wp2_with fail;refine gS (Oq x w W D C B A z y) (an.o) fun H=>?_;refine kT 0 ?_;refine kT 1 ?_;refine kT 2 ?_;refine kT 3 ?_;refine kT 4 ?_;refine kT 5 ?_;refine kT 6 ?_;refine kT 7 ?_;refine kT 8 ?_;refine rdA 9 rfl fun K hK=>?_;go_simp;rw [<-G];clear G;refine xK hK (am.o) fun H=>?_;clear hK K;refine gE ?_;go_wp2_with fail;go_ret;exact ⟨rfl,ar.o,as.o⟩
theorem Tryz.infoLk:(Tryz.prog.info? 50).map (fun i=>(i.zero,i.size,i.bytes))=some (some (zh #[O none 0 0,O none 0 0]),2,48):=by kernel_rfl
theorem PE (x:WX) (w0:World) (n1:1<=x.c.n) (s:WSt) (pv:Value) (W:World) (h:WtI x w0 s pv W) (v:Value) (p) (hp:Aw x.c.n (XW x) W v p) (dp:Nat) (hd:dp < s.ps.length) (hd9:dp<=9000) :
  Calls Tryz.prog 120 #[zi (some ⟨x.bw,0,none⟩),zd U (dp:Int),v] W fun e W'=>e=zj (zk #[])/\(∃ pv',WtI x w0 (s.enter dp p) pv' W')/\FrW (XV x) W W':=by
 obtain ⟨r,l,i,q,k,f,rfl⟩:=hp.form;obtain ⟨g,H,as,Q⟩:=h.pls.form (by omega);obtain ⟨Y,ah⟩:=nm (dp+1);have a2:IntKind.i64.wrap ((dp:Int)+1)=(Y:Int):=by rw [IntKind.wrap_i64];omega
 subst as;obtain ⟨E,L⟩:=nm (W.alloc (ze #[O r l i,O q k f] 50));have J:Ov W E:=by rw [L];exact bA W _
 have ra:Ad [O r l i,O q k f] E W.heap.size:=by rw [L];exact Ad.new _ _ _
 have G:Ov W (E.drew.alloc (ze #[O r l i,O q k f] 50)):=(J.drew).alloc (by have:=J.size;exact this) _;have M:=h.over G;have af:=hp.over (A5 x) G;obtain ⟨i0,hi,ae,ad,ac⟩:=info_parts Tryz.infoLk;have ar:=M.pls.take (m:=Y) (by omega);obtain ⟨us,z,aj⟩:=ar;have A:(s.ps.take Y).length=Y:=by simp;omega
 rw [A] at z;have hN:=Ad.new [O r l i,O q k f] 50 E.drew;obtain ⟨v2,R,N,y,B,-,ak⟩:=run_append_own_at (P:=Tryz.prog) (w:=(E.drew.alloc (ze #[O r l i,O q k f] 50))) w0.heap.size 42 42 50 i0 (zh #[O none 0 0,O none 0 0]) 2 48 Tryz.underlying42 hi ae ad ac rfl (by decide) _ _ _ z ⟨E.drew.heap.size,0,none⟩ 1 1 [O r l i,O q k f] rfl (fun jj u hu=>by rw [Addr.add_lit,Nat.zero_add];exact hN jj u hu) (by simp [Value.oneCell']) (by unfold maxLen;omega) (by omega) (Nat.le_trans M.below.size (Nat.le_refl _));obtain ⟨ab,Z,aa,rfl⟩:=AE y;have t:=M.newPls n1 aj (by rw [z.1,A]) af (by rw [A];exact y) B ak;have a6:=(h.over J).c11;have a5:CE (E.alloc (ze #[O r l i,O q k f] 50)) x.bw 11 (O (some ⟨g,0,none⟩) s.ps.length H):=M.c11;have F:R.heap[x.bw]? = (E.drew.alloc (ze #[O r l i,O q k f] 50)).heap[x.bw]?:=B.block x.bw M.lo.2 (fun e=>M.apP e.symm);have d2:CE R x.bw 11 (O (some ⟨g,0,none⟩) s.ps.length H):=(World.cell?_of_block (a:=⟨x.bw,11,none⟩) F).trans M.c11;have f2:R.frozen? ⟨x.bw,11,none⟩=false:=(World.frozen?_of_block (a:=⟨x.bw,11,none⟩) F).trans (M.fz 11);have V:=(FrW.of_below (Bx x) G).trans t.2;have ag:∀ (W3:World),Ov W W3->¬ XV x W3 W.heap.size:=fun W3 av e=>by have:=(h.vlt _ ((Bx x).below _ _ av _ e)).2;omega
 have an:Hx (CE E.drew W.heap.size 0 (O r l i)/\CE E.drew W.heap.size 1 (O q k f)):=⟨ra 0 _ rfl,ra 1 _ rfl⟩;have D:Ad [O r l i,O q k f] (E.drew.alloc (ze #[O r l i,O q k f] 50)) W.heap.size:=(ra.over (bD _)).over (bA _ _);have X:Hx (CE (E.drew.alloc (ze #[O r l i,O q k f] 50)) W.heap.size 0 (O r l i)/\CE (E.drew.alloc (ze #[O r l i,O q k f] 50)) W.heap.size 1 (O q k f)):=⟨D 0 _ rfl,D 1 _ rfl⟩;have ai:(Value.slice (some ⟨g,0,none⟩) Y H).ownBlock≠some W.heap.size:=fun e=>by simp [Value.ownBlock] at e;have:=(h.pls.lt g (by simp [Value.ownBlock])).2;omega
 have S:Ad [O r l i,O q k f] R W.heap.size:=fun j u hu=>(World.cell?_of_block (a:=⟨W.heap.size,j,none⟩) (B.block _ (bL (D j u hu)) (fun e=>ai e.symm))).trans (D j u hu);have am:Hx (CE R W.heap.size 0 (O r l i)/\CE R W.heap.size 1 (O q k f)):=⟨S 0 _ rfl,S 1 _ rfl⟩;have I:=t.2.row D (ag _ G);obtain ⟨W4,T⟩:=nm (R.setCell ⟨x.bw,11,none⟩ (O ab Z aa));rw [<-T] at t V I;have al:Hx (CE W4 W.heap.size 0 (O r l i)/\CE W4 W.heap.size 1 (O q k f)):=⟨I 0 _ rfl,I 1 _ rfl⟩;have C:Hx (WtI x w0 (s.enter dp p) (O ab Z aa) W4/\FrW (XV x) W W4):=⟨by have e:=t.1;rw [ah] at e;exact e,V⟩;have a4:Y<=H:=by
  obtain ⟨az,au,-⟩:=h.pls;rcases au.2 with ⟨e,-⟩ | ⟨g',c',a7,e,-,-,hc,-⟩
  ·cases e
  ·injection e with e1 e2 e3;omega
 have a3:H<=9223372036854775807:=Q;clear h M hp af J G hN aj z y B ak t V ag ra D S I ai F hi ae ad ac A Q ah;go_enter Tryz.func120,Tryz.ntmps120;go_wp2_with fail;rw [<-L];clear L;refine gS (fun Wz=>CE Wz W.heap.size 0 (O r l i)/\CE Wz W.heap.size 1 (O q k f)) (an.o) fun b=>?_;refine kT 0 ?_;refine kT 1 ?_;refine kT 2 ?_;refine kT 3 ?_;refine kT 5 ?_;refine kT 6 ?_;refine kT 8 ?_;refine rdB 4 9 rfl (fun K d=>?_) rfl fun K d=>?_
 ·go_simp
  refine xK d (an.o) fun b=>?_;clear d K;refine kT 7 ?_;refine rdA 9 rfl fun K d=>?_;go_simp;refine xK d (X.o) fun b=>?_;clear d K;refine rdA 10 rfl fun K d=>?_;refine Db rfl _ _ _ rfl _ _ _ _ rfl rfl N ?_;refine xK d (am.o) fun b=>?_;clear d K;refine kT 11 ?_;refine kT 12 ?_;refine rdA 13 rfl fun K d=>?_;go_simp;rw [<-T];refine xK d (al.o) fun b=>?_;clear d K;refine gE ?_;go_end0;exact ⟨rfl,⟨_,C.o.1⟩,C.o.2⟩
 ·go_simp
  refine xK d (X.o) fun b=>?_;clear d K;refine rdA 4 rfl fun K d=>?_;go_simp;refine xK d (X.o) fun b=>?_;clear d K;refine kT 7 ?_;refine rdA 10 rfl fun K d=>?_;refine Db rfl _ _ _ rfl _ _ _ _ rfl rfl N ?_;refine xK d (am.o) fun b=>?_;clear d K;refine kT 11 ?_;refine kT 12 ?_;refine rdA 13 rfl fun K d=>?_;go_simp;rw [<-T];refine xK d (al.o) fun b=>?_;clear d K;refine gE ?_;go_end0;exact ⟨rfl,⟨_,C.o.1⟩,C.o.2⟩
def PS (w:World) (v:Value) (l:List (Int × Int)):Prop:=
 ∃ ao cap,v=O ao l.length cap/\(l≠[]->∃ b,ao=some ⟨b,0,none⟩/\∀ i (h:i < l.length),w.cell? ⟨b,i*2,none⟩=some (zd U l[i].1)/\w.cell? ⟨b,i*2+1,none⟩=some (zd U l[i].2))
theorem Hy:∀ (l:List (Int × Int)) (i:Nat) (h:i < l.length),(Cc l)[i*2]? = some (zd U l[i].1)/\(Cc l)[i*2+1]? = some (zd U l[i].2)
 | [],i,h=>absurd h (by simp)
 | f::l,0,h=>⟨rfl,rfl⟩
 | f::l,i+1,h=>by
  have e:Cc (f::l)=zd U f.1::zd U f.2::Cc l:=rfl;have r:=Hy l i (by simpa using h);rw [e,show (i+1)*2=i*2+1+1 by omega];simpa using r
theorem NJ {W:World} {B e:Nat} {v:Value} {l:List (Int × Int)} (h:W.ownsRow B e 2 v l.length (Cc l)):PS W v l:=by
 rcases id h.2 with ⟨a,d⟩ | ⟨g,c,m,a,-⟩
 ·exact ⟨none,0,by rw [a,d],fun b=>absurd (List.length_eq_zero_iff.1 d) b⟩
 ·refine ⟨some ⟨g,0,none⟩,c,a,fun _=>⟨g,rfl,fun i f=>?_⟩⟩
  rw [a] at h;obtain ⟨k,j⟩:=Hy l i f;exact ⟨(h.cellAt _ (by omega)).trans k,(h.cellAt _ (by omega)).trans j⟩
theorem Qp (F:FuncId) (cap:List Value) (p:Int × Int->Bool) (v:Value) (l) (w:World) (hv:PS w v l) (hn:l.length<=1000)
  (hF:Hx (∀ (i:Nat) (h:i < l.length) (w1:World),Ov w w1->Calls Tryz.prog F (zh #[zd U l[i].1,zd U l[i].2]::cap).toArray w1 fun e w2=>e=zj (zg (p l[i]))/\Ov w1 w2))
  (hC:∀ (args:Array Value) (w:World),(callFunc F args).run Tryz.prog w=.ok (.enter F args) w) :
  Calls Tryz.prog 245 #[v,.func (.func F) #[] cap.toArray] w fun e w'=>e=zj (zd U (GH p l))/\Ov w w':=by
 obtain ⟨M,L,rfl,q⟩:=hv;go_enter Tryz.func245,Tryz.ntmps245;go_wp2_with fail;go_loopw [8] (fun i wr=>∃ k:Nat,k<=l.length/\i=zd U k/\(l.take k).all (fun g=>!p g)=true/\Ov w wr) (fun i _=>l.length - (intOf i).toNat)
 case atStart=>exact ⟨0,Nat.zero_le _,rfl,rfl,Below.refl _ w⟩
 case round=>
  obtain ⟨k,I,rfl,d,a⟩:=hrel;by_cases hkl:k < l.length
  ·obtain ⟨b,rfl,u⟩:=q (by rintro rfl;simp at hkl)
   obtain ⟨y,x⟩:=u k hkl;obtain ⟨y,x⟩:=co2 a y x;have c:=fun (w1:World) (E:Ov w w1)=>hF.o k hkl w1 E;have t:=fun (z:p l[k]=true)=>JB hkl d z;have j:p l[k]=false->(l.take (k+1)).all (fun g=>!p g)=true:=fun z=>by
    rw [List.take_succ_eq_append_getElem hkl,List.all_append,d];simp [z]
   obtain ⟨r,B⟩:=nm (p l[k]);rw [<-B] at c t j;obtain ⟨K,n⟩:=nm (l[k].1);obtain ⟨J,m⟩:=nm (l[k].2);rw [<-n,<-m] at c;rw [<-n] at y;rw [<-m] at x;clear n m;have C:=Aa c;have H:=Aa t;have G:=Aa j;clear B c t j u q hF;cases r with
   | true=>
    go_wp2_with fail;refine (C.o _ a).mono ?_;rintro e w2 ⟨rfl,s⟩;have f:Ov w w2:=a.trans (s.mono a.size);go_wp2_with fail;go_ret;exact ⟨by rw [H.o (by first | rfl | trivial)];rfl,f⟩
   | false=>
    go_wp2_with fail;refine (C.o _ a).mono ?_;rintro e w2 ⟨rfl,s⟩;have f:Ov w w2:=a.trans (s.mono a.size);go_wp2_with fail;exact ⟨⟨k+1,by omega,by go_num,G.o (by first | rfl | trivial),f⟩,by simp [intOf];omega⟩
  ·have A:k=l.length:=by omega
   rw [A,List.take_length] at d;have D:=F6 d;clear d q hF;go_wp2_with fail;go_ret;exact ⟨by rw [D];rfl,a⟩
theorem Mh (F:FuncId) (cap:List Value) (p:Int × Int->Bool) (v:Value) (l) (w:World) (hv:PS w v l) (hn:l.length<=1000)
  (hF:Hx (∀ (i:Nat) (h:i < l.length) (w1:World),Ov w w1->Calls Tryz.prog F (zh #[zd U l[i].1,zd U l[i].2]::cap).toArray w1 fun e w2=>e=zj (zg (p l[i]))/\Ov w1 w2))
  (hC:∀ (args:Array Value) (w:World),(callFunc F args).run Tryz.prog w=.ok (.enter F args) w) :
  Calls Tryz.prog 229 #[v,.func (.func F) #[] cap.toArray] w fun e w'=>e=zj (zg (l.any p))/\Ov w w':=by
 have c:=Qp F cap p v l w hv hn hF hC;have a:=Hu p l;obtain ⟨r,d⟩:=nm (GH p l);rw [<-d] at c a;rw [<-a];have f:=Aa c;clear c a d hv hC hF;go_enter Tryz.func229,Tryz.ntmps229;go_wp2_with fail;refine (f.o).mono ?_;rintro e w1 ⟨rfl,b⟩;go_wp2_with fail;go_ret;exact ⟨by simp,b⟩
theorem PH (args:Array Value) (w:World):(callFunc 228 args).run Tryz.prog w=.ok (.enter 228 args) w:=by simp [go_sem]
theorem mt1 (a f1 f2:Int) (b:Nat) (W:World) (hb:W.cell? ⟨b,0,none⟩=some (zd U a)) :
  Calls Tryz.prog 228 #[zh #[zd U f1,zd U f2],zi (some ⟨b,0,none⟩)] W fun e W'=>e=zj (zg (decide (f1=a) && (decide (f2=6) || decide (f2=7))))/\Ov W W':=by
 have c:Ov W (W.alloc (ze #[zd U f1,zd U f2] 89)):=bA W _;have i:=Ab c _ _ hb;have d:=Aa c;clear c hb;by_cases h1:f1=a
 ·subst h1
  by_cases h2:f2=6
  ·subst h2
   go_enter Tryz.func228,Tryz.ntmps228;go_wp2_with fail;go_ret;exact ⟨by simp,d.o⟩
  ·by_cases h3:f2=7
   ·subst h3
    go_enter Tryz.func228,Tryz.ntmps228;go_wp2_with fail;go_ret;exact ⟨by simp,d.o⟩
   ·have g:decide (f2=6)=false:=by simp [h2]
    have f:decide (f2=7)=false:=by simp [h3]
    rw [g,f];go_enter Tryz.func228,Tryz.ntmps228;go_wp2_with fail;go_ret;exact ⟨by simp [h2,h3],d.o⟩
 ·have h:decide (f1=a)=false:=by simp [h1]
  rw [h];go_enter Tryz.func228,Tryz.ntmps228;go_wp2_with fail;go_ret;exact ⟨by simp,d.o⟩
theorem Ki (x) (w0:World) (K kf:Nat) (gs ls ms vs fs) (S:WtS x w0 K kf gs ls ms vs fs) (s:WSt) (pv:Value) (W:World) (h:WtI x w0 s pv W) (a kd ot ek en:Int) (xa xl xc aa al ac ta tl tc ea el ec) (i:Nat) (hi:i < vs.length) :
  Calls Tryz.prog 189 #[zi (some ⟨x.bw,0,none⟩),zh #[zd U kd,zd U (i:Int),zd U ot,zd U ek,zd U en,O xa xl xc,O aa al ac,O ta tl tc,O ea el ec],zd U a] W fun e W'=>e=zj (zg (vs[i].1 && !x.fl.any (fun f=>decide (f.1=a) && (decide (f.2=6) || decide (f.2=7)))))/\Ov W W':=by
 obtain ⟨D,V,T,E,g⟩:=S.vars;injection E with L J X;obtain ⟨t,p,v,g⟩:=g (by rintro rfl;simp at hi);obtain ⟨pr,pw,H,-⟩:=g i hi;have y:x.c.va=some ⟨t,p,none⟩:=L.trans v;have w:x.c.vn=vs.length:=J;have z:=S.v16;have Z:(i:Int) < (x.c.vn:Int):=by omega
 have Y:x.c.vn<=16:=by omega
 obtain ⟨u,d⟩:=nm (((W.alloc (ze #[zd U kd,zd U (i:Int),zd U ot,zd U ek,zd U en,O xa xl xc,O aa al ac,O ta tl tc,O ea el ec] 130)).alloc (ze #[zd U a] 3)));have m:Ov W u:=by rw [d];exact (bA W _).alloc (by simp) _
 have N:Ad [zd U kd,zd U (i:Int),zd U ot,zd U ek,zd U en,O xa xl xc,O aa al ac,O ta tl tc,O ea el ec] u W.heap.size:=by
  rw [d];exact (Ad.new [zd U kd,zd U (i:Int),zd U ot,zd U ek,zd U en,O xa xl xc,O aa al ac,O ta tl tc,O ea el ec] 130 W).over (bA _ _)
 have M:u.cell? ⟨W.heap.size+1,0,none⟩=some (zd U a):=by rw [d];simp [go_sem]
 have C:=Aa m;have l:Hx (Ov u u.drew):=(bD _);obtain ⟨r,F⟩:=nm (x.fl.any (fun f=>decide (f.1=a) && (decide (f.2=6) || decide (f.2=7))));obtain ⟨P,q⟩:=nm (vs[i].1);rw [<-F,<-q];rw [<-q] at H;have KC:Hx (∀ (W2:World),Ov u W2->Calls Tryz.prog 229 #[x.fv,.func (.func 228) #[] #[zi (some ⟨W.heap.size+1,0,none⟩)]] W2 fun e W'=>e=zj (zg r)/\Ov W2 W'):=fun W2 b=>by
  have A:=h.over (Ac m b);rw [F];exact Mh 228 [zi (some ⟨W.heap.size+1,0,none⟩)] _ x.fv x.fl W2 (NJ A.flt) S.fl (fun j hj R G=>mt1 a x.fl[j].1 x.fl[j].2 _ R (Ab G _ _ (Ab b _ _ M))) PH
 have I:Hx (∀ (W2:World),Ov u W2->W2.cell? ⟨x.bw,6,none⟩=some (O (some ⟨t,p,none⟩) x.c.vn x.c.vc)/\W2.cell? ⟨x.bw,12,none⟩=some (x.fv)/\W2.cell? ⟨W.heap.size,1,none⟩=some (zd U (i:Int))/\W2.cell? ⟨t,p+i*3,none⟩=some (zg P)):=fun W2 b=>by
  have A:=h.over (Ac m b);exact ⟨by rw [<-y];exact A.cw (j:=5) rfl,A.c12,(N.over b) 1 _ rfl,Ab A.below _ _ H⟩
 clear F q N M m h S D g L J X v y w z H hi;cases P with
 | false=>
  go_enter Tryz.func189,Tryz.ntmps189;go_wp2_with fail;rw [<-d];clear d;refine gS (fun n=>n.cell? ⟨x.bw,6,none⟩=some (O (some ⟨t,p,none⟩) x.c.vn x.c.vc)/\n.cell? ⟨x.bw,12,none⟩=some (x.fv)/\n.cell? ⟨W.heap.size,1,none⟩=some (zd U (i:Int))/\n.cell? ⟨t,p+i*3,none⟩=some (zg false)) (I.o _ l.o) fun k=>?_;refine kT 0 ?_;refine kT 1 ?_;refine kT 2 ?_;refine kT 3 ?_;refine kT 4 ?_;refine kT 5 ?_;refine kT 6 ?_;refine kT 7 ?_;refine kT 8 ?_;refine kT 9 ?_;refine kT 10 ?_;refine kT 11 ?_;refine kU 12 ?_;refine kU 13 ?_;refine kU 14 ?_;refine kU 15 ?_;refine kU 16 ?_;refine kU 17 ?_;refine kU 18 ?_;refine kT 19 ?_;refine kT 20 ?_;refine gE ?_;go_wp2_with fail;go_ret;exact ⟨by simp,Ac C.o l.o⟩
 | true=>
  go_enter Tryz.func189,Tryz.ntmps189;go_wp2_with fail;rw [<-d];clear d;refine gS (fun n=>n.cell? ⟨x.bw,6,none⟩=some (O (some ⟨t,p,none⟩) x.c.vn x.c.vc)/\n.cell? ⟨x.bw,12,none⟩=some (x.fv)/\n.cell? ⟨W.heap.size,1,none⟩=some (zd U (i:Int))/\n.cell? ⟨t,p+i*3,none⟩=some (zg true)) (I.o _ l.o) fun k=>?_;refine kT 0 ?_;refine kT 1 ?_;refine kT 2 ?_;refine kT 3 ?_;refine kT 4 ?_;refine kT 5 ?_;refine kT 6 ?_;refine kT 7 ?_;refine kT 8 ?_;refine kT 9 ?_;refine kT 10 ?_;refine kT 11 ?_;refine kT 12 ?_;refine kT 13 ?_;refine kT 14 ?_;refine kT 15 ?_;refine kT 16 ?_;refine rdA 17 rfl fun K Q=>?_;go_simp;refine (KC.o _ l.o).mono ?_;rintro e W2 ⟨rfl,b⟩;have B:=Aa (Ac l.o b);clear b;go_simp;refine xK Q (I.o _ B.o) fun k=>?_;clear Q K;refine kT 18 ?_;refine kT 19 ?_;refine kT 20 ?_;refine gE ?_;go_wp2_with fail;go_ret;exact ⟨by simp,Ac C.o B.o⟩
end Go.Proofs.YtfffpjkcfnekaaaGreat.Ex
