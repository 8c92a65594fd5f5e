/- A run of any program: every command. -/
import Derived.Test.YtfffpjkcfnekaaaGreatH19
import Derived.Laws.EntriesVeiled
set_option linter.unusedVariables false
set_option maxHeartbeats 8000000
set_option maxRecDepth 100000
namespace Go.Proofs.YtfffpjkcfnekaaaGreat.Ex
open Go.RowKit
open Go.Value renaming slice -> O, int -> zd, bool -> ze, agg -> zg, pointer -> zi, tuple -> zj
open Go.IntKind renaming i64 -> U
open Go.Obj renaming cells -> zf
open Go.Ending renaming returned -> zh
theorem Mm (K kf:Nat) (fs) (F:Nat) (ins) (ob:Ob) (g k:Nat) (d:D) (l:List D) (a:Int) (dp:Nat) (st:RSt):rn K kf fs F ins ob (g+1) 1 k (d::l) a dp st =
   if Ae d=2 then AU (rn K kf fs F ins ob g 0 kf (AQ fs (Ac d)).body (An kf (fs.take (Ac d).toNat)) dp (st.args K fs d)) (fun st1=>AU (Bo ob 3 a dp d st1) (fun st'=>(true,st'.setv (Av d) (Aw st'.vars K (AQ fs (Ac d)).res))))
   else if Ae d=7 then (if Aw st.vars K (Ai d)=0 then rn K kf fs F ins ob g 0 (k - 1) (Al d) (a+1+Aj (k - 1) (Af d)) (dp+1) st else rn K kf fs F ins ob g 0 (k - 1) (Af d) (a+1) (dp+1) st)
   else if Ae d=8 then rn K kf fs F ins ob g 2 k [d] a dp st
   else (true,CC K ins d a st):=by
 simp only [rn]
theorem Lc {ins:List (List Int)} (h:∀ x∈ins,∀ y∈x,I32 y) (st:RSt) (c:Int):I32 (Cz ins st c):=by
 unfold Cz
 rw [List.getD_eq_getElem?_getD,List.getD_eq_getElem?_getD]
 have z:I32 0:=⟨by omega,by omega⟩
 cases hc:ins[c.toNat]? with
 | none=>simpa using z
 | some l=>
  simp only [Option.getD_some]
  cases hy:l[(st.taken.getD c.toNat 0).toNat]? with
  | none=>simpa using z
  | some y=>simpa using h l (List.mem_of_getElem? hc) y (List.mem_of_getElem? hy)
theorem Jo (I:BE) (K kf:Nat) (m:Int) (ga gn gc sa sn sc ya yn yc oa on oc va vn vc fa fn fc ba bn bc xa xn xc) (F fln c3:Nat) (br b1 b2 b3:Nat) (fl fs ins) (w0:World) (g:Nat) (X:Kn I K kf m ga gn gc sa sn sc ya yn yc oa on oc va vn vc fa fn fc ba bn bc xa xn xc F fln c3 br b1 b2 b3 fl fs ins w0) (HS:∀ g',g' < g->Hp I K kf m ga gn gc sa sn sc ya yn yc oa on oc va vn vc fa fn fc ba bn bc xa xn xc F fln c3 br b1 b2 b3 fl fs ins w0 g'):L5 I K kf m ga gn gc sa sn sc ya yn yc oa on oc va vn vc fa fn fc ba bn bc xa xn xc F fln c3 br b1 b2 b3 fl fs ins w0 g:=by
 intro k cs d c a dp st ev w hrs hc hok ha hac hdp hB0 h hns hk7 hg
 obtain ⟨k',rfl⟩:∃ k',k=k' + 1:=by
  cases k with
  | zero=>exact hrs.elim
  | succ k=>exact ⟨k,rfl⟩
 obtain ⟨g2,rfl⟩:∃ g2,g=g2+1:=⟨g - 1,by omega⟩
 have hcn:Bi (k' + 1) d=1+Aj k' (Af d)+Aj k' (Al d):=rfl
 have hno1:=hns.ok
 have hvl:st.vars.length=vn:=hno1.vl
 have hokS:=hok
 obtain ⟨ek,ex,pa,pl,pc,aa,ac,ta,tc,ea,ec,rfl,-,-,-,hX,hA,hT,hE,-,-,-⟩:=hrs.form
 obtain ⟨⟨⟨k1,k8⟩,hvar,hcall,hget,hexp,-,-⟩,hokT,hokE⟩:=hok
 have hXw:=hX.over hB0
 have hoX:(Ae d=1\/4<=Ae d)->okX st.vars.length K (Ai d):=fun hk=>by rw [hvl];exact Dr hX (hexp hk)
 have hvI:(Ae d=1\/4<=Ae d)->I32 (Aw st.vars K (Ai d)):=fun hk=>DQ hno1.i32 K _ (hoX hk)
 have hF:=X.fuel
 have hv16:=X.vars
 have hsb:st.steps<=F:=hno1.sb
 have hel:st.ev.length<=2000:=by have:=hno1.el;omega
 rw [Mm]
 rcases (by omega:Ae d=1\/Ae d=2\/Ae d=3\/Ae d=4\/Ae d=5\/Ae d=6\/Ae d=7\/Ae d=8) with hk | hk | hk | hk | hk | hk | hk | hk
 ·rw [if_neg (by omega),if_neg (by omega),if_neg (by omega)]
  obtain ⟨v0,v1⟩:=hvar (by omega)
  obtain ⟨n,hn⟩:=Int.eq_ofNat_of_zero_le v0
  have he:CC K ins d a st=st.setv (Av d) (Aw st.vars K (Ai d)):=by unfold CC;rw [if_pos hk]
  rw [he,hk,hn]
  refine (Mf m ga gn gc sa sn sc ya yn yc oa on oc va vn vc fa fn fc ba bn bc xa xn xc F fln c3 w0.heap.size br b1 b2 b3 fl dp st ev K (Ai d) n (Ac d) ek ex pa pl pc aa (Ah d).length ac ta (Af d).length tc ea (Al d).length ec a w h hXw (hoX (by omega)) hno1.i32 (by rw [hvl];omega) (by rw [hvl];exact hv16)).mono ?_
  rintro e w' ⟨h1,h2,h3⟩
  exact ⟨h1,⟨ev,h2,h3⟩,hno1.setv (hvI (by omega))⟩
 ·rw [if_pos hk]
  obtain ⟨v0,v1⟩:=hvar (by omega)
  obtain ⟨n,hn⟩:=Int.eq_ofNat_of_zero_le v0
  obtain ⟨⟨o0,o1⟩,hpn,hargs⟩:=hcall hk
  obtain ⟨c',hc'⟩:=Int.eq_ofNat_of_zero_le o0
  have hcl:c' < fs.length:=by omega
  obtain ⟨-,fao,fcap,hfe,hfel⟩:=X.funcs
  injection hfe with e1 e2 e3
  obtain ⟨fb,foff,hfb,hfel2⟩:=hfel (by intro hz;rw [hz] at hcl;simp at hcl)
  have e1':=e1.trans hfb
  subst e1'
  obtain ⟨vP,vB,x0,x1,x2,f0,f1,f2,f3,f4,hp,⟨hpl,qa,qc,hvp,hpc⟩,hbd,hx⟩:=hfel2 c' hcl
  subst hvp
  have hbd0:=hbd
  obtain ⟨-,za,zc,hvb,-⟩:=hbd0
  subst hvb
  obtain ⟨ra,rc,hxf⟩:=hx.form
  simp only [List.cons.injEq,and_true] at hxf
  obtain ⟨rfl,rfl,rfl⟩:=hxf
  obtain ⟨hb4,hbp,hbs,hbr⟩:=X.body c' hcl
  have hfa:AQ fs (Ac d)=fs[c']:=by rw [hc'];simp [AQ,hcl]
  have hpa:fs[c'].ps.length=(Ah d).length:=hpn _ (by rw [hc'];simp [hcl])
  have hfst:(Ac d).toNat=c':=by rw [hc'];rfl
  have hflc:fl[c']? = some ((An kf (fs.take c'):Nat):Int):=by
   rw [X.flE,List.getElem?_map,List.getElem?_range (by omega)]
   rfl
  have hcf:An kf (fs.take c')+Aj kf fs[c'].body<=50:=by
   have h1:=B9 (k:=kf) hcl
   have h2:An kf fs=An kf (fs.take (c' + 1))+An kf (fs.drop (c' + 1)):=by
    unfold An
    rw [<-List.sum_append,<-List.map_append,List.take_append_drop]
   have:=X.cnt
   omega
  have harg:∀ x∈Ah d,okX vn K x:=fun x hxm=>by
   obtain ⟨j,hj⟩:=List.mem_iff_getElem?.1 hxm
   obtain ⟨-,aa',ac',hae,hael⟩:=hA
   obtain ⟨eb,eo,heb,hael2⟩:=hael (by intro hz;rw [hz] at hxm;cases hxm)
   obtain ⟨cs,-,-,hrx⟩:=hael2 j x hj
   exact Dr hrx (hargs x hxm)
  have hrr:rn K kf fs F ins I.ob g2 0 kf (AQ fs (Ac d)).body (An kf (fs.take (Ac d).toNat)) dp (st.args K fs d)=rn K kf fs F ins I.ob g2 0 kf fs[c'].body (An kf (fs.take c')) dp { st with vars:=A6 st.vars (fs[c'].ps.zip ((Ah d).map (Aw st.vars K))) }:=by
   unfold RSt.args
   rw [hfa,hfst]
  have hrs':=hrs
  rw [hk,hn,hc'] at hrs'
  rw [hrr,hfa,hk,hn,hc']
  refine Me m ga gn gc sa sn sc ya yn yc oa on oc va vn vc (some ⟨fb,foff,none⟩) fn fc ba bn bc xa xn xc F fln c3 w0.heap.size br b1 b2 b3 fl dp st ev (n:Int) (c':Int) ek ex pa pl pc aa (Ah d).length ac ta (Af d).length tc ea (Al d).length ec a _ w0 w h hB0 (Aa fun W hW hBW=>?_)
  exact Nb m ga gn gc sa sn sc ya yn yc oa on oc va vn vc fn fc ba bn bc xa xn xc F fln c3 br b1 b2 b3 fl dp d K kf g2 fs[c'].ps (Ah d) fs[c'].res _ n c' fb foff ek ex pa pl pc aa (Ah d).length ac ta (Af d).length tc ea (Al d).length ec a qa fs[c'].ps.length qc za fs[c'].body.length zc (Ap fs[c'].res) (AA fs[c'].res) ra (Ar fs[c'].res).length rc w0 (fun st=>rn K kf fs F ins I.ob g2 0 kf fs[c'].body (An kf (fs.take c')) dp st)
   (by rw [X.fnE];exact hcl) (by omega) hv16 (by rw [X.fnE];exact X.fn5) f0 f1 f2 f3 f4 hp hbp hpa hA harg (by omega) hx (Dr hx hbr) hflc (by rw [X.flE,X.flN];simp)
   (Aa fun st2 ev2 W2 hW2 hBW2 hno2 hgg=>HS g2 (by omega) kf _ fs[c'].body (c':Int) _ dp st2 ev2 W2 hbd (by omega) hbs (by omega) (by omega) (by omega) hBW2 hW2 hno2 hgg)
   (Aa fun st2 ev2 W2 hW2 hBW2=>DH m ga gn gc sa sn sc ya yn yc oa on oc va vn vc (some ⟨fb,foff,none⟩) fn fc ba bn bc xa xn xc F fln c3 w0.heap.size br b1 b2 b3 fl dp st2 ev2 K (k' + 1) fs w0 3 a 2 (n:Int) (c':Int) ek ex pa pl pc aa (Ah d).length ac ta (Af d).length tc ea (Al d).length ec d c W2 X.may hBW2 hW2 hrs' hc hokS ha (by omega) (by omega) (Or.inr (Or.inr ⟨rfl,hk⟩)))
   st ev W hW hBW hno1 (by omega)
 ·rw [if_neg (by omega),if_neg (by omega),if_neg (by omega)]
  obtain ⟨v0,v1⟩:=hvar (by omega)
  obtain ⟨n,hn⟩:=Int.eq_ofNat_of_zero_le v0
  have he:CC K ins d a st=(st.took (Ac d)).setv (Av d) (Cz ins st (Ac d)):=by unfold CC;rw [if_neg (by omega),if_pos hk]
  obtain ⟨o0,o1⟩:=hget hk
  rw [he,hk,hn]
  refine (Md m ga gn gc sa sn sc ya yn yc oa on oc va vn vc fa fn fc ba bn bc xa xn xc F fln c3 w0.heap.size br b1 b2 b3 fl dp st ev n (Ac d) ek ex pa pl pc aa (Ah d).length ac ta (Af d).length tc ea (Al d).length ec a ins w0 w h hB0 h.lo.2.2 X.lists o0 (by rw [X.many];exact o1) (by rw [X.many];exact hno1.tl.symm) (fun x hx=>⟨(hno1.tk x hx).1,by have:=(hno1.tk x hx).2;omega⟩) X.long (by rw [hvl];omega) (by rw [hvl];exact hv16)).mono ?_
  rintro e w' ⟨h1,h2,h3⟩
  exact ⟨h1,⟨ev,h2,h3⟩,(hns.took _).setv (Lc X.num _ _)⟩
 ·rw [if_neg (by omega),if_neg (by omega),if_neg (by omega)]
  have he:CC K ins d a st=st.tell (1,a,Ac d,Aw st.vars K (Ai d)):=by unfold CC;rw [if_neg (by omega),if_neg (by omega),if_pos hk]
  rw [he,hk]
  refine (Mc m ga gn gc sa sn sc ya yn yc oa on oc va vn vc fa fn fc ba bn bc xa xn xc F fln c3 w0.heap.size br b1 b2 b3 fl dp st ev K (Ai d) (Av d) (Ac d) ek ex pa pl pc aa (Ah d).length ac ta (Af d).length tc ea (Al d).length ec a w h hXw (hoX (by omega)) hno1.i32 hel).mono ?_
  rintro e w' ⟨h1,ev',h2,h3⟩
  exact ⟨h1,⟨ev',h2,h3⟩,hns.tell _⟩
 ·rw [if_neg (by omega),if_neg (by omega),if_neg (by omega)]
  obtain ⟨v0,v1⟩:=hvar (by omega)
  obtain ⟨n,hn⟩:=Int.eq_ofNat_of_zero_le v0
  have he:CC K ins d a st=(st.setv (Av d) (Aw st.vars K (Ai d))).tell (2,a,Av d,Aw st.vars K (Ai d)):=by unfold CC;rw [if_neg (by omega),if_neg (by omega),if_neg (by omega),if_pos hk]
  rw [he,hk,hn]
  refine (Mb m ga gn gc sa sn sc ya yn yc oa on oc va vn vc fa fn fc ba bn bc xa xn xc F fln c3 w0.heap.size br b1 b2 b3 fl dp st ev K (Ai d) n (Ac d) ek ex pa pl pc aa (Ah d).length ac ta (Af d).length tc ea (Al d).length ec a w h hXw (hoX (by omega)) hno1.i32 (by rw [hvl];omega) (by rw [hvl];exact hv16) hel).mono ?_
  rintro e w' ⟨h1,ev',h2,h3⟩
  exact ⟨h1,⟨ev',h2,h3⟩,(hns.setv (hvI (by omega))).tell _⟩
 ·rw [if_neg (by omega),if_neg (by omega),if_neg (by omega)]
  obtain ⟨v0,v1⟩:=hvar (by omega)
  obtain ⟨n,hn⟩:=Int.eq_ofNat_of_zero_le v0
  have he:CC K ins d a st=(st.setv (Av d) (Aw st.vars K (Ai d))).tell (3,a,Av d,Aw st.vars K (Ai d)):=by unfold CC;rw [if_neg (by omega),if_neg (by omega),if_neg (by omega),if_neg (by omega),if_pos hk]
  rw [he,hk,hn]
  refine (Ma m ga gn gc sa sn sc ya yn yc oa on oc va vn vc fa fn fc ba bn bc xa xn xc F fln c3 w0.heap.size br b1 b2 b3 fl dp st ev K (Ai d) n (Ac d) ek ex pa pl pc aa (Ah d).length ac ta (Af d).length tc ea (Al d).length ec a w h hXw (hoX (by omega)) hno1.i32 (by rw [hvl];omega) (by rw [hvl];exact hv16) hel).mono ?_
  rintro e w' ⟨h1,ev',h2,h3⟩
  exact ⟨h1,⟨ev',h2,h3⟩,(hns.setv (hvI (by omega))).tell _⟩
 ·rw [if_neg (by omega),if_pos hk]
  rw [hk]
  exact L9 m ga gn gc sa sn sc ya yn yc oa on oc va vn vc fa fn fc ba bn bc xa xn xc F fln c3 w0.heap.size br b1 b2 b3 fl dp st ev K (Ai d) (Av d) (Ac d) ek ex pa pl pc aa (Ah d).length ac ta (Af d).length tc ea (Al d).length ec a (Aj k' (Af d):Nat) _ _ w0 w h hB0 hXw (hoX (by omega)) hno1.i32 (by omega) (by omega)
   (Aa fun W hW hBW=>(FW m ga gn gc sa sn sc ya yn yc oa on oc va vn vc fa fn fc ba bn bc xa xn xc F fln c3 w0.heap.size br b1 b2 b3 fl dp st ev ta (Af d).length tc (a+1) _ W (by omega) (hk7 (Or.inl hk)) hW (Aa fun W3 hW3 hB3=>HS g2 (by omega) k' _ (Af d) c (a+1) (dp+1) st ev W3 hT hc hokT (by omega) (by omega) (by omega) (hBW.trans hB3) hW3 hno1 (by omega))).mono (fun e w' hh=>⟨hh.1,hh.2.1,hh.2.2.1⟩))
   (Aa fun W hW hBW=>(FW m ga gn gc sa sn sc ya yn yc oa on oc va vn vc fa fn fc ba bn bc xa xn xc F fln c3 w0.heap.size br b1 b2 b3 fl dp st ev ea (Al d).length ec (a+1+(Aj k' (Af d):Nat)) _ W (by omega) (hk7 (Or.inl hk)) hW (Aa fun W3 hW3 hB3=>HS g2 (by omega) k' _ (Al d) c (a+1+(Aj k' (Af d):Nat)) (dp+1) st ev W3 hE hc hokE (by omega) (by omega) (by omega) (hBW.trans hB3) hW3 hno1 (by omega))).mono (fun e w' hh=>⟨hh.1,hh.2.1,hh.2.2.1⟩))
   (Aa fun W hBW=>DY K k' _ (Af d) W (hT.over hBW) (by omega))
 ·rw [if_neg (by omega),if_neg (by omega),if_pos hk]
  have hrs':=hrs
  rw [hk] at hrs'
  rw [hk]
  exact L8 m ga gn gc sa sn sc ya yn yc oa on oc va vn vc fa fn fc ba bn bc xa xn xc F fln c3 w0.heap.size br b1 b2 b3 fl dp st ev (Av d) (Ac d) ek ex pa pl pc aa (Ah d).length ac ta (Af d).length tc ea (Al d).length ec a _ w0 w h hB0
   (Aa fun W hW hBW=>MT m ga gn gc sa sn sc ya yn yc oa on oc va vn vc fa fn fc ba bn bc xa xn xc F fln c3 w0.heap.size br b1 b2 b3 fl dp K kf (k' + 1) g2 fs ins d (Av d) (Ac d) ek ex pa pl pc aa (Ah d).length ac ta (Af d).length tc ea (Al d).length ec a w0 hF (by omega) hX (Dr hX (hexp (by omega)))
    (Aa fun g' hg' st2 ev2 W2 hW2 hok2 hBW2 hno2 hgg=>(FW m ga gn gc sa sn sc ya yn yc oa on oc va vn vc fa fn fc ba bn bc xa xn xc F fln c3 w0.heap.size br b1 b2 b3 fl dp st2 ev2 ta (Af d).length tc (a+1) _ W2 (by omega) hok2 hW2 (Aa fun W3 hW3 hB3=>HS g' (by omega) k' _ (Af d) c (a+1) (dp+1) st2 ev2 W3 hT hc hokT (by omega) (by omega) (by omega) (hBW2.trans hB3) hW3 hno2 hgg)))
    (Aa fun st2 ev2 W2 hW2 hok2 hBW2=>DH m ga gn gc sa sn sc ya yn yc oa on oc va vn vc fa fn fc ba bn bc xa xn xc F fln c3 w0.heap.size br b1 b2 b3 fl dp st2 ev2 K (k' + 1) fs w0 2 a 8 (Av d) (Ac d) ek ex pa pl pc aa (Ah d).length ac ta (Af d).length tc ea (Al d).length ec d c W2 X.may hBW2 hW2 hrs' hc hokS ha (by omega) (by omega) (Or.inr (Or.inl ⟨rfl,hk,hok2⟩)))
    st ev W (hk7 (Or.inr hk)) rfl hW hBW hno1 (by omega))
theorem Iv (I:BE) (K kf:Nat) (m:Int) (ga gn gc sa sn sc ya yn yc oa on oc va vn vc fa fn fc ba bn bc xa xn xc) (F fln c3:Nat) (br b1 b2 b3:Nat) (fl fs ins) (w0:World) (X:Kn I K kf m ga gn gc sa sn sc ya yn yc oa on oc va vn vc fa fn fc ba bn bc xa xn xc F fln c3 br b1 b2 b3 fl fs ins w0):∀ g,Hp I K kf m ga gn gc sa sn sc ya yn yc oa on oc va vn vc fa fn fc ba bn bc xa xn xc F fln c3 br b1 b2 b3 fl fs ins w0 g:=by
 intro g
 induction g using Nat.strongRecOn with
 | ind g ih=>exact L7 I K kf m ga gn gc sa sn sc ya yn yc oa on oc va vn vc fa fn fc ba bn bc xa xn xc F fln c3 br b1 b2 b3 fl fs ins w0 g X (Aa fun g' hg'=>Jo I K kf m ga gn gc sa sn sc ya yn yc oa on oc va vn vc fa fn fc ba bn bc xa xn xc F fln c3 br b1 b2 b3 fl fs ins w0 g' X (fun g'' hg''=>ih g'' (Nat.lt_trans hg'' hg')))
def Da (kf:Nat) (fs:List FnD) (j:Nat):List Int:=(List.range (j+1)).map (fun i=>((An kf (fs.take i):Nat):Int))
theorem I8 (kf:Nat) (fs) (j:Nat):Da kf fs (j+1)=Da kf fs j++[((An kf (fs.take (j+1)):Nat):Int)]:=by
 unfold Da
 rw [List.range_succ,List.map_append]
 rfl
theorem Ee (kf:Nat) (fs) (j:Nat):(Da kf fs j)[j]? = some ((An kf (fs.take j):Nat):Int):=by
 unfold Da
 rw [List.getElem?_map,List.getElem?_range (by omega)]
 rfl
theorem JU {w w':World} {a0 a1:Addr} {v0 v1:Value} (h:w.cell? a0=some v0/\w.cell? a1=some v1) (hb:Ov w w'):w'.cell? a0=some v0/\w'.cell? a1=some v1:=⟨Ab hb _ _ h.1,Ab hb _ _ h.2⟩
theorem IQ {W:World} {B e:Nat} {v:Value} {n:Nat} {xs:List Value} (h:W.ownsRow B e 1 v n xs) (hn:0 < n):∃ g cap,v=O (some ⟨g,0,none⟩) n cap/\B<=g/\g < W.heap.size/\Ad xs W g:=by
 rcases h.2 with ⟨_,h0⟩ | ⟨g,cap,cur,hv,hb,hg,h1,h2,h3,h4⟩
 ·omega
 ·refine ⟨g,cap,hv,hb,(Array.getElem?_eq_some_iff.1 hg).1,fun j u hu=>?_⟩
  have:=h.cells (g:=g) (by rw [hv];rfl) j u hu
  rwa [Addr.add_lit,Nat.zero_add] at this
section
variable {ops:Array Oper} {o:Oper} {a:Act} {W:World} {K:Act->World->Prop} {Q:Exit->Act->World->Prop} {E:Prop}
theorem Iw (hg:o.guard=none) (s x:Operand) (hop:o.op=Op.call { callee:=Callee.builtin Builtin.append,args:=#[s,x],argTypes:=#[25,25] })
  (B b g cap n:Nat) (xs:List Value) (z:Int) (hs:a.eval s=O (some ⟨g,0,none⟩) n cap) (hx:a.eval x=O (some ⟨b,0,none⟩) 1 1)
  (hown:W.ownsRow B 3 1 (O (some ⟨g,0,none⟩) n cap) n xs) (hb:W.cell? ⟨b,0,none⟩=some (zd U z)) (hk:n<=1000) (hB:B<=W.heap.size)
  (h:∀ v' W',W'.ownsRow B 3 1 v' (n+1) (xs++[zd U z])->W.grownBy W' (some g)->(∀ j u,xs[j]? = some u->W'.cell? ⟨g,j,none⟩=some u)->K (a.put o.dst v') W') :
  if Region.wanted o (yielded ops a.tmps)=true then Oper.wp Tryz.prog o a W K Q else E:=by
 have hw:Region.wanted o (yielded ops a.tmps)=true:=by simp [Region.wanted,hg]
 rw [if_pos hw]
 obtain ⟨i,hi,hz,h2,h16⟩:=info_parts Tryz.infoI
 have hnews:∀ (j:Nat) (u:Value),([zd U z]:List Value)[j]? = some u->W.cell? ((⟨b,0,none⟩:Addr).add j)=some u:=by
  intro j u hu
  rw [Addr.add_lit]
  match j,hu with
  | 0,hu=>simp at hu;subst hu;simpa using hb
  | j+1,hu=>simp at hu
 have h1:∀ u∈([zd U z]:List Value),u.oneCell'=true:=by intro u hu;simp at hu;subst hu;rfl
 obtain ⟨v',w',hr,h3,h4,h5,h6⟩:=run_append_own_at (P:=Tryz.prog) W B 25 o.type 3 i _ 1 8 Tryz.underlying25 hi hz h2 h16 (by rfl) (by decide) _ n xs hown ⟨b,0,none⟩ 1 1 [zd U z] rfl hnews h1 (by simp only [maxLen];omega) (by omega) hB
 have hcell:∀ j u,xs[j]? = some u->w'.cell? ⟨g,j,none⟩=some u:=by
  intro j u hu
  have hu':(xs++[zd U z])[j]? = some u:=by rw [List.getElem?_append_left (List.getElem?_eq_some_iff.1 hu).1];exact hu
  have hlen:=hown.1
  rcases hown.2 with ⟨hz,_⟩ | ⟨g',cap',cur,hv,hbg,hgg,hnc,hcm,hcs,htake⟩
  ·cases hz
  ·injection hv with q1 q2 q3
   injection q1 with q1
   injection q1 with q1
   subst q1
   subst q3
   by_cases hroom:n+1<=cap
   ·have hr2:=run_append_room (P:=Tryz.prog) W 25 o.type 3 i Tryz.underlying25 hi g n cap cur hgg ⟨b,0,none⟩ 1 1 [zd U z] (by rw [h2];rfl) hnews h1 hroom (by rw [h2,hcs];simp;omega)
    rw [hr] at hr2
    injection hr2 with r1 r2
    have:=h3.cells (g:=g) (by rw [r1];rfl) j u hu'
    rwa [Addr.add_lit,Nat.zero_add] at this
   ·have holds:=hown.cells (g:=g) rfl
    have hr2:=run_append_grow (P:=Tryz.prog) W 25 o.type 3 i _ Tryz.underlying25 hi hz ⟨g,0,none⟩ n cap xs (by rw [h2];exact hlen) holds ⟨b,0,none⟩ 1 1 [zd U z] (by rw [h2];rfl) hnews (by omega) (by omega) (growslice_fits (by omega) (by rw [h16];omega))
    rw [hr] at hr2
    injection hr2 with r1 r2
    have hc:=holds j u hu
    rw [Addr.add_lit,Nat.zero_add] at hc
    rw [r2]
    exact Ab ((bD W).alloc (Nat.le_refl _) _) _ _ hc
 have hK:=h v' w' h3 h4 hcell
 unfold Oper.wp execOp
 simp only [hop,resolve,invoke,builtin,Sem.run_bind,Sem.run_pure,Result.andThen_ok,List.map_toArray,List.map_cons,List.map_nil,hs,hx,hr]
 exact hK
end
theorem He (K kf:Nat) (m:Int) (ga gn gc sa sn sc ya yn yc oa on oc va vn vc) (fa fn fc) (ba bn bc fs) (w:World) (hf:AL w K kf (O fa fn fc) fs) (hcnt:An kf fs<=50) (hfn:fn<=5) :
  Calls Tryz.prog 118 #[zg #[zd U m,O ga gn gc,O sa sn sc,O ya yn yc,O oa on oc,O va vn vc,O fa fn fc,O ba bn bc]] w fun e w'=>∃ g cap,e=zh (O (some ⟨g,0,none⟩) (fs.length+1) cap)/\w.heap.size<=g/\g < w'.heap.size/\Ad (Ba (Da kf fs fs.length)) w' g/\Ov w w':=by
 obtain ⟨i0,hi,hz0,hz1,hz2⟩:=info_parts Tryz.infoI
 have hbel:Ov w (w.alloc (zf #[zd U m,O ga gn gc,O sa sn sc,O ya yn yc,O oa on oc,O va vn vc,O fa fn fc,O ba bn bc] 31)):=bA w _
 have hbF:Ov w ((w.alloc (zf #[zd U m,O ga gn gc,O sa sn sc,O ya yn yc,O oa on oc,O va vn vc,O fa fn fc,O ba bn bc] 31)).alloc (zf #[zd U 0] 3)):=hbel.alloc (by simp) _
 have hE:fn=fs.length:=by obtain ⟨-,a,c,he,-⟩:=hf;injection he
 have HE:=Aa hE
 have HF:=Aa hf
 have HC:=Aa hcnt
 have hst:Hx (((w.alloc (zf #[zd U m,O ga gn gc,O sa sn sc,O ya yn yc,O oa on oc,O va vn vc,O fa fn fc,O ba bn bc] 31)).alloc (zf #[zd U 0] 3)).ownsRow (w.heap.size+1) 3 1 (O (some ⟨w.heap.size+1,0,none⟩) 1 1) 1 (Ba (Da kf fs 0))):=by
  have:=World.ownsRow_lit (base:=w.heap.size+1) (e:=3) (size:=1) (w.alloc (zf #[zd U m,O ga gn gc,O sa sn sc,O ya yn yc,O oa on oc,O va vn vc,O fa fn fc,O ba bn bc] 31)) #[zd U 0] 1 (by simp) (by unfold maxLen;omega) rfl
  show World.ownsRow _ _ _ _ _ _ _
  simpa [Da,An] using this
 have HB:Hx (Below (w.heap.size+1) (w.alloc (zf #[zd U m,O ga gn gc,O sa sn sc,O ya yn yc,O oa on oc,O va vn vc,O fa fn fc,O ba bn bc] 31)) ((w.alloc (zf #[zd U m,O ga gn gc,O sa sn sc,O ya yn yc,O oa on oc,O va vn vc,O fa fn fc,O ba bn bc] 31)).alloc (zf #[zd U 0] 3))):=(Below.refl _ _).alloc (by simp) _
 have HBEL:=Aa hbel
 clear hbF hf hcnt hE
 go_enter Tryz.func118,Tryz.ntmps118
 go_wp2_with fail
 go_loopw [3,10] (fun s i wr=>∃ j:Nat,j<=fn/\i=zd U j/\wr.ownsRow (w.heap.size+1) 3 1 s (j+1) (Ba (Da kf fs j))/\Below (w.heap.size+1) (w.alloc (zf #[zd U m,O ga gn gc,O sa sn sc,O ya yn yc,O oa on oc,O va vn vc,O fa fn fc,O ba bn bc] 31)) wr) (fun _ i _=>fn - (intOf i).toNat)
 case atStart=>exact ⟨0,Nat.zero_le _,rfl,hst.o,HB.o⟩
 case round=>
  clear hst HB
  obtain ⟨j,hj,rfl,hown,hB⟩:=hrel
  have hBw:Ov w wr:=HBEL.o.trans (hB.mono (by omega))
  obtain ⟨J1,hJ1⟩:=nm (j+1)
  rw [<-hJ1] at hown
  obtain ⟨g,cap,rfl,hgb,hgl,hgr⟩:=IQ hown (by omega)
  have hji:(j:Int) < (J1:Int):=by omega
  have hJ5:J1<=10:=by omega
  have HJ1:=Aa hJ1
  clear hJ1
  have HGR:=Aa hgr
  have HOWN:=Aa hown
  have HBB:=Aa hB
  have HBW:=Aa hBw
  by_cases hjl:j < fn
  ·have hjd:j < fs.length:=by rw [<-HE.o];exact hjl
   obtain ⟨-,ao,fcap,he,hel⟩:=HF.o
   injection he with e1 e2 e3
   obtain ⟨b,off,hbo,hel2⟩:=hel (by intro hz;rw [hz] at hjd;simp at hjd)
   obtain ⟨vP,vB,x0,x1,x2,f0,f1,f2,f3,f4,-,⟨-,pa,pc,hvp,-⟩,hbd,hx⟩:=hel2 j hjd
   have e1':=e1.trans hbo
   subst e1'
   subst hvp
   have hbd0:=hbd
   obtain ⟨-,za,zc,hvb,-⟩:=hbd0
   subst hvb
   obtain ⟨ra,rc,hxf⟩:=hx.form
   simp only [List.cons.injEq,and_true] at hxf
   obtain ⟨rfl,rfl,rfl⟩:=hxf
   have hct:=B9 (k:=kf) hjd
   have hle:An kf (fs.take (j+1))<=50:=by
    have h2:An kf fs=An kf (fs.take (j+1))+An kf (fs.drop (j+1)):=by
     unfold An
     rw [<-List.sum_append,<-List.map_append,List.take_append_drop]
    have:=HC.o
    omega
   have KM:=Aa fun W (hW:Ov w W)=>DY K kf _ fs[j].body W (hbd.over hW) (by omega)
   obtain ⟨m0,m1,m2,m3,m4⟩:=co5 hBw f0 f1 f2 f3 f4
   obtain ⟨pl,hpl⟩:=nm (fs[j].ps.length)
   obtain ⟨zl,hzl⟩:=nm (fs[j].body.length)
   obtain ⟨rk,hrk⟩:=nm (Ap fs[j].res)
   obtain ⟨rN,hrN⟩:=nm (AA fs[j].res)
   obtain ⟨rl,hrl⟩:=nm ((Ar fs[j].res).length)
   rw [<-hpl] at m0
   rw [<-hzl] at m1 KM
   rw [<-hrk] at m2
   rw [<-hrN] at m3
   rw [<-hrl] at m4
   obtain ⟨N,hN⟩:∃ N:Nat,N=Aj kf fs[j].body:=⟨_,rfl⟩
   obtain ⟨M,hM⟩:∃ M:Nat,M=An kf (fs.take j):=⟨_,rfl⟩
   rw [<-hN,<-hM] at hct
   rw [<-hN] at KM
   have hMN:M+N<=50:=by omega
   have HCT:=Aa hct
   have l0:wr.cell? ⟨g,j,none⟩=some (zd U (M:Int)):=by rw [hM];exact hgr j _ (by simp [Ee])
   have hba:=bA wr (zf #[O pa pl pc,O za zl zc,zd U rk,zd U rN,O ra rl rc] 105)
   have l1:=Ab hba _ _ l0
   have t1:(wr.alloc (zf #[O pa pl pc,O za zl zc,zd U rk,zd U rN,O ra rl rc] 105)).cell? ⟨wr.heap.size,1,none⟩=some (O za zl zc):=by simp [go_sem]
   have hBa:=hBw.trans (hba.mono hBw.size)
   have KM':=Aa fun W (hW:Ov (wr.alloc (zf #[O pa pl pc,O za zl zc,zd U rk,zd U rN,O ra rl rc] 105)) W)=>KM.o W (hBa.trans (hW.mono hBa.size))
   have hsz:w.heap.size+1<=wr.heap.size:=by have:=hB.size;simpa using this
   have HFJ:Hx ((Ba (Da kf fs j))[j]? = some (zd U (M:Int))):=by
    show _=_
    rw [hM]
    simp [Ee]
   have hgn:wr.heap.size≠g:=by omega
   clear hel hel2 f0 f1 f2 f3 f4 hbd hx hct hle hpl hzl hrk hrN hrl hN hM e1 e2 e3 hbo hown hB hBw hgr KM l0
   go_wp2_with fail
   have hst1:Hx (∀ W,Ov wr W->W.ownsRow (w.heap.size+1) 3 1 (O (some ⟨g,0,none⟩) J1 cap) J1 (Ba (Da kf fs j))):=fun W hW=>Dm HOWN.o hW
   have KM2:=Aa (KM'.o _ (below_drewN (Below.refl _ _) 1))
   have HBA:=Aa hba
   have hwrap:Hx (IntKind.i64.wrap ((M:Int)+(N:Int))=((M+N:Nat):Int)):=by
    show _=_
    rw [IntWalk.i64_in _ (by omega)]
    omega
   clear KM' HGR m0 m1 m2 m3 m4
   go_region_held3 (fun W=>W.cell? ⟨g,j,none⟩=some (zd U (M:Int))/\W.cell? ⟨wr.heap.size,1,none⟩=some (O za zl zc)) (first | assumption | exact ⟨l1,t1⟩ | exact JU (by assumption) hbp | exact JU (by assumption) (bA _ _) | exact ⟨hkeep j _ HFJ.o,Bb hgr2 (by assumption:_/\_).2 hgn⟩ | fail) (first | (go_at_call 181;refine (KM2.o).mono ?_;rintro e wp ⟨rfl,hbp⟩) | (refine Iw rfl _ _ rfl (w.heap.size+1) wp.heap.size g cap J1 (Ba (Da kf fs j)) (IntKind.i64.wrap ((M:Int)+(N:Int))) rfl rfl (hst1.o _ (Ag (Ag HBA.o.drew hbp) (bA _ _))) (by simp [go_sem]) (by omega) (Nat.le_trans (Nat.le_trans hsz (Ag HBA.o.drew hbp).size) (bA _ _).size) ?_;intro v2 W2 hown2 hgr2 hkeep))
   have hB2:Below (w.heap.size+1) (w.alloc (zf #[zd U m,O ga gn gc,O sa sn sc,O ya yn yc,O oa on oc,O va vn vc,O (some ⟨b,off,none⟩) fn fc,O ba bn bc] 31)) W2:=by
    have hs:=hgr2.size
    have h1:=Ag (Ag (HBA.o.drew) hbp) (bA wp (zf #[zd U (IntKind.i64.wrap ((M:Int)+(N:Int)))] 3))
    have h2:=HBB.o.trans (h1.mono hsz)
    exact ⟨hgr2.os.trans h2.os,hgr2.tape.trans h2.tape,hgr2.output.trans h2.output,Nat.le_trans h2.size hs,fun k hk=>(hgr2.block k (by have:=h1.size;omega) (fun e=>by have:=Option.some.inj e;omega)).trans (h2.block k hk)⟩
   have HF2:=Aa (And.intro hown2 hB2)
   clear hown2 hgr2 hkeep hB2 hbp l1 t1 hba
   go_wp2_with fail
   refine ⟨⟨j+1,by omega,by go_num,?_,HF2.o.2⟩,by simp [intOf];omega⟩
   have h1:=HF2.o.1
   rw [hwrap.o] at h1
   have h2:=HJ1.o
   rw [I8,HCT.o,<-h2]
   simpa [Ba] using h1
  ·have hjE:j=fn:=by omega
   subst hjE
   go_wp2_with fail
   go_ret
   have hE:=HE.o
   have hJ:=HJ1.o
   refine ⟨g,cap,?_,by omega,hgl,?_,HBW.o⟩
   ·rw [<-hE,<-hJ];rfl
   ·rw [<-hE]
    exact HGR.o
def Cg (n:Nat):Array Value:=(List.replicate n (Value.int U 0)).toArray
theorem L0 (n:Nat) (hn:n<=100) (w:World):(Instr.makeSlice 25 (zd U n) (zd U n)).run Tryz.prog w=.ok (O (some ⟨w.heap.size,0,none⟩) n n) (w.alloc (.cells (Cg n) 3)):=by
 obtain ⟨i,hi,hz,h1,h2⟩:=info_parts Tryz.infoI
 have:=run_make (P:=Tryz.prog) w 25 3 i (zd U 0) Tryz.underlying25 hi hz U U (n:Int) (n:Int) (by omega) (by omega) (by rw [h2];omega) (by omega)
 rw [this,h1]
 simp only [Int.toNat_natCast,Nat.mul_one]
 have e:madeCells (Value.int U 0).cells n=Cg n:=by
  unfold Cg
  apply Array.ext
  ·simp [madeCells]
  ·intro j h1 h2
   simp [madeCells,Value.cells,Nat.mod_one]
 rw [e]
def st0 (vn yn:Nat) (o:WSt):RSt:=⟨[],List.replicate vn 0,List.replicate yn 0,0,0,0,o⟩
theorem Mg (vn yn F:Nat) (o:WSt):A9 vn yn F (st0 vn yn o):=by
 refine ⟨by simp [st0],by simp [st0],fun x hx=>?_,fun x hx=>?_,by simp [st0],by simp [st0]⟩
 ·have:=List.eq_of_mem_replicate hx
  subst this
  exact ⟨by omega,by omega⟩
 ·have:=List.eq_of_mem_replicate hx
  subst this
  simp [st0]
structure Hr (B:Nat) (R:List Value) (br b1 b2 b3:Nat) (fl:List Int) (vn yn:Nat) (w:World):Prop where
 row:Ad (O none 0 0::O (some ⟨b1,0,none⟩) vn vn::O (some ⟨b2,0,none⟩) yn yn::zd U 0::zd U 0::zd U 0::(R++[zd U 0,.nilFunc])) w br
 vars:Ad (Ba (List.replicate vn 0)) w b1
 taken:Ad (Ba (List.replicate yn 0)) w b2
 first:Ad (Ba fl) w b3
 z0:∀ j,w.frozen? ⟨br,j,none⟩=false
 z1:∀ j,w.frozen? ⟨b1,j,none⟩=false
 z2:∀ j,w.frozen? ⟨b2,j,none⟩=false
 apart:br≠b1/\br≠b2/\b1≠b2/\b3≠br/\b3≠b1/\b3≠b2
 lo:B<=br/\B<=b1/\B<=b2/\B<=b3
 hi:br < w.heap.size/\b1 < w.heap.size/\b2 < w.heap.size/\b3 < w.heap.size/\B<=w.heap.size
theorem Hr.new (B:Nat) (R:List Value) (w:World) (g:Nat) (fl) (vn yn:Nat) (hB:B<=w.heap.size) (hg:g < w.heap.size) (hgB:B<=g) (hr:Ad (Ba fl) w g) :
  Hr B R w.heap.size (w.heap.size+1) (w.heap.size+1+1) g fl vn yn (((w.alloc (.cells (O none 0 0::O (some ⟨w.heap.size+1,0,none⟩) vn vn::O (some ⟨w.heap.size+1+1,0,none⟩) yn yn::zd U 0::zd U 0::zd U 0::(R++[zd U 0,.nilFunc])).toArray 127)).alloc (.cells (Cg vn) 3)).alloc (.cells (Cg yn) 3)):=by
 have b1:=bA w (.cells (O none 0 0::O (some ⟨w.heap.size+1,0,none⟩) vn vn::O (some ⟨w.heap.size+1+1,0,none⟩) yn yn::zd U 0::zd U 0::zd U 0::(R++[zd U 0,.nilFunc])).toArray 127)
 have b2:=fun (W:World) (ob:Obj)=>bA W ob
 refine ⟨?_,?_,?_,((hr.over b1).over (b2 _ _)).over (b2 _ _),fun j=>by simp [go_sem],fun j=>by simp [go_sem],fun j=>by simp [go_sem],⟨by omega,by omega,by omega,by omega,by omega,by omega⟩,⟨hB,by omega,by omega,hgB⟩,⟨by simp;omega,by simp,by simp,by simp;omega,by simp;omega⟩⟩
 ·exact ((Ad.newA (O none 0 0::O (some ⟨w.heap.size+1,0,none⟩) vn vn::O (some ⟨w.heap.size+1+1,0,none⟩) yn yn::zd U 0::zd U 0::zd U 0::(R++[zd U 0,.nilFunc])).toArray 127 w).over (b2 _ (.cells (Cg vn) 3))).over (b2 _ (.cells (Cg yn) 3))
 ·have:=(Ad.newA (Cg vn) 3 (w.alloc (.cells (O none 0 0::O (some ⟨w.heap.size+1,0,none⟩) vn vn::O (some ⟨w.heap.size+1+1,0,none⟩) yn yn::zd U 0::zd U 0::zd U 0::(R++[zd U 0,.nilFunc])).toArray 127))).over (b2 _ (.cells (Cg yn) 3))
  simpa [Cg,Ba] using this
 ·have:=Ad.newA (Cg yn) 3 ((w.alloc (.cells (O none 0 0::O (some ⟨w.heap.size+1,0,none⟩) vn vn::O (some ⟨w.heap.size+1+1,0,none⟩) yn yn::zd U 0::zd U 0::zd U 0::(R++[zd U 0,.nilFunc])).toArray 127)).alloc (.cells (Cg vn) 3))
  simpa [Cg,Ba] using this
theorem Hr.begin {B:Nat} {a0 a1 a2 a3 a4 a5 a6 a7 a8 a9 a10:Value} {br b1 b2 b3:Nat} {fl:List Int} {vn yn:Nat} {w:World} (h:Hr B [a0,a1,a2,a3,a4,a5,a6,a7,a8,a9,a10] br b1 b2 b3 fl vn yn w) (I:BE) (o:WSt) (X:Nat->Prop) (hI:I.In (Yb br b1 b2 (O none 0 0)) o X w) (hlo:∀ k,X k->B<=k) (hx3:¬ X b3) (hok:I.ok 0 o) :
  RnG I B [a0,a1,a2,a3,a4,a5,a6,a7,a8,a9,a10] br b1 b2 b3 fl 0 (st0 vn yn o) ⟨O none 0 0,X⟩ (w.setCell ⟨br,18,none⟩ (.func (.func I.fn) I.fre.toArray I.cap.toArray))/\Fr br b1 b2 ⟨O none 0 0,X⟩ ⟨O none 0 0,X⟩ w (w.setCell ⟨br,18,none⟩ (.func (.func I.fn) I.fre.toArray I.cap.toArray)):=by
 obtain ⟨p1,p2,p3,p4,p5,p6⟩:=h.apart
 have g:=Bw (w:=w) (r:=br) (j:=18) (u:=.func (.func I.fn) I.fre.toArray I.cap.toArray)
 have hn:∀ b,¬ X b->¬ (Ow.mk (O none 0 0) X).at b:=fun b hb hx=>by
  rcases hx with hx | hx
  ·simp [Value.ownBlock] at hx
  ·exact hb hx
 constructor
 ·refine ⟨?_,?_,?_,h.first.other p4,World.ownsRow_nil _ _ _ _,fun k=>A7.trans (h.z0 k),fun k=>A7.trans (h.z1 k),fun k=>A7.trans (h.z2 k),h.apart,⟨hn _ (fun q=>(I.lt hI _ q).2 (Or.inl rfl)),hn _ (fun q=>(I.lt hI _ q).2 (Or.inr (Or.inl rfl))),hn _ (fun q=>(I.lt hI _ q).2 (Or.inr (Or.inr (Or.inl rfl)))),hn _ hx3⟩,⟨h.lo.1,h.lo.2.1,h.lo.2.2.1⟩,by simpa [World.setCell] using h.hi,?_,hlo,hok⟩
  ·have:=h.row.set (j:=18) (v:=.func (.func I.fn) I.fre.toArray I.cap.toArray) (by simp)
   simpa [st0] using this
  ·have:=h.vars.other (j:=18) (v:=.func (.func I.fn) I.fre.toArray I.cap.toArray) (Ne.symm p1)
   simpa [st0] using this
  ·have:=h.taken.other (j:=18) (v:=.func (.func I.fn) I.fre.toArray I.cap.toArray) (Ne.symm p2)
   simpa [st0] using this
  ·exact I.kept hI g.os g.tape g.output g.size (fun k hk hy=>g.block k hk (fun q=>hy (Or.inl (Option.some.inj q)))) (fun k hk=>Or.inl hk) (fun k hk=>Nat.lt_of_lt_of_le (Hv (World.ownsRow_nil w 0 0 0) h.hi.1 h.hi.2.1 h.hi.2.2.1 k hk) g.size)
 ·exact ⟨g.os,g.tape,g.output,g.size,fun k hk h0 _ _ _=>g.block k hk (by simpa using h0),fun k hk=>Or.inl hk⟩
def LQ (K kf:Nat) (m:Int) (ga:Option Addr) (gn gc:Nat) (sa:Option Addr) (sn sc:Nat) (ya:Option Addr) (yn yc:Nat) (oa:Option Addr) (on oc:Nat) (va:Option Addr) (vn vc:Nat) (fa:Option Addr) (fn fc:Nat) (ba:Option Addr) (bn bc:Nat) (xa:Option Addr) (xn xc:Nat) (ins:List (List Int)) (fuel:Int) (gs:List (Int × Int)) (sp:List Int) (ls ms:List Lab) (vs:List (Bool × Lab)) (fs:List FnD) (l:List D) (w:World) (e:Ending) (w':World):Prop:=
 ∃ why:Int,MK why K kf m vn yn on sn gs sp ls ms vs fs l ins fuel/\Ov w w'/\((why≠0/\e=zh (zj #[zi none,zd U why]))\/(why=0/\∃ br b1 b2 b3 c3,e=zh (zj #[zi (some ⟨br,0,none⟩),zd U 0])/\Hr w.heap.size [zd U m,O ga gn gc,O sa sn sc,O ya yn yc,O oa on oc,O va vn vc,O fa fn fc,O ba bn bc,O xa xn xc,zd U fuel,O (some ⟨b3,0,none⟩) (fs.length+1) c3] br b1 b2 b3 (Da kf fs fs.length) vn yn w'))
theorem LP (K kf:Nat) (m:Int) (ga gn gc sa sn sc ya yn yc oa on oc va vn vc fa fn fc ba bn bc) (xa xn xc) (ins) (fuel:Int) (gs sp ls ms vs fs l) (w:World) (h:Bf K kf m ga gn gc sa sn sc ya yn yc oa on oc va vn vc fa fn fc ba bn bc gs sp ls ms vs fs l w) (hx:Bm w (O xa xn xc) ins) :
  Calls Tryz.prog 61 #[zg #[zd U m,O ga gn gc,O sa sn sc,O ya yn yc,O oa on oc,O va vn vc,O fa fn fc,O ba bn bc],O xa xn xc,zd U fuel] w (LQ K kf m ga gn gc sa sn sc ya yn yc oa on oc va vn vc fa fn fc ba bn bc xa xn xc ins fuel gs sp ls ms vs fs l w):=by
 have hbel:Ov w (w.alloc (zf #[zd U m,O ga gn gc,O sa sn sc,O ya yn yc,O oa on oc,O va vn vc,O fa fn fc,O ba bn bc] 31)):=bA w _
 have HP:=Aa (h.over hbel)
 have K1:=Aa (FF K kf m ga gn gc sa sn sc ya yn yc oa on oc va vn vc fa fn fc ba bn bc xa xn xc ins fuel gs sp ls ms vs fs l _ HP.o (hx.over hbel))
 obtain ⟨c0,c1,c2,c3,c4,c5,c6,c7⟩:=rc8 (Ay w [zd U m,O ga gn gc,O sa sn sc,O ya yn yc,O oa on oc,O va vn vc,O fa fn fc,O ba bn bc] 31)
 have hfl:fn=fs.length:=by obtain ⟨-,a,c,he,-⟩:=h.funcs;injection he
 have HFL:=Aa hfl
 clear h hx hfl
 go_enter Tryz.func61,Tryz.ntmps61
 go_wp2_with fail
 refine (K1.o).mono ?_
 rintro e w1 ⟨why,rfl,hok,hb1⟩
 obtain ⟨d0,d1,d2,d3,d4,d5,d6,d7⟩:=co8 hb1 c0 c1 c2 c3 c4 c5 c6 c7
 have HP1:=Aa (HP.o.over hb1)
 have hB1:=hbel.trans (hb1.mono hbel.size)
 have HB1:=Aa hB1
 have HOK:=Aa hok
 clear K1 c0 c1 c2 c3 c4 c5 c6 c7 hb1 HP hok hbel
 by_cases hw:why=0
 rotate_left
 ·have hwb:(why == 0)=false:=by simpa using hw
  clear hB1
  go_wp2_with fail
  go_ret2
  exact ⟨why,HOK.o,HB1.o,Or.inl ⟨hw,rfl⟩⟩
 subst hw
 have hok:=HOK.o.1 rfl
 have hpk:=hok.prog.ok
 have hcnt:=hpk.many
 have hv16:=hpk.vars
 have hy5:=hpk.ins
 have KF:=Aa (He K kf m ga gn gc sa sn sc ya yn yc oa on oc va vn vc fa fn fc ba bn bc fs w1.drew (HP1.o.funcs.over (below_drewN (Below.refl _ _) 1)) (by omega) (by rw [HFL.o];exact hpk.funcs))
 have mk1:=L0 vn (by omega)
 have mk2:=L0 yn (by omega)
 have hbel1:=hB1.drew
 clear hok hpk hcnt hv16 hy5 hB1
 go_wp2_with fail
 go_region_held3 (fun W=>W.cell? ⟨w.heap.size,0,none⟩=some (zd U m)/\W.cell? ⟨w.heap.size,1,none⟩=some (O ga gn gc)/\W.cell? ⟨w.heap.size,2,none⟩=some (O sa sn sc)/\W.cell? ⟨w.heap.size,3,none⟩=some (O ya yn yc)/\W.cell? ⟨w.heap.size,4,none⟩=some (O oa on oc)/\W.cell? ⟨w.heap.size,5,none⟩=some (O va vn vc)/\W.cell? ⟨w.heap.size,6,none⟩=some (O fa fn fc)/\W.cell? ⟨w.heap.size,7,none⟩=some (O ba bn bc)/\Ov w W) (first | assumption | exact ⟨d0,d1,d2,d3,d4,d5,d6,d7,hbel1⟩ | exact J2 (by assumption) hbp | exact J2 (by assumption) (bA _ _) | fail) (first | (go_at_call 118;refine (KF.o).mono ?_;rintro e wp ⟨g,cap,rfl,hg,hgl,hgc,hbp⟩))
 obtain ⟨e3,e5⟩:=co2 hbp d3 d5
 have hlt:=bL e3
 have hne:w.heap.size≠wp.heap.size:=Nat.ne_of_lt hlt
 have hBp:=hbel1.trans (hbp.mono hbel1.size)
 have HR:=Aa (Hr.new w.heap.size [zd U m,O ga gn gc,O sa sn sc,O ya yn yc,O oa on oc,O va vn vc,O fa fn fc,O ba bn bc,O xa xn xc,zd U fuel,O (some ⟨g,0,none⟩) (fs.length+1) cap] wp g (Da kf fs fs.length) vn yn hBp.size hgl (Nat.le_trans hbel1.size hg) hgc)
 have HBP:=Aa hBp
 clear d0 d1 d2 d3 d4 d5 d6 d7 hbp hbel1 hgc hBp KF
 go_wp2_with fail
 go_ret2
 have hs:=HBP.o.size
 refine ⟨0,by simpa using HOK.o,?_,Or.inr ⟨rfl,wp.heap.size,wp.heap.size+1,wp.heap.size+1+1,g,cap,rfl,?_⟩⟩
 ·exact (((HBP.o).alloc (by omega) _).alloc (by simp;omega) _).alloc (by simp;omega) _
 ·exact HR.o
def I9 (r:Bool × RSt):RSt:=if r.1=true then { r.2 with en:=1 } else r.2
def Ce (K kf:Nat) (fs:List FnD) (F:Nat) (ins:List (List Int)) (ob:Ob) (l:List D) (vn yn:Nat) (o:WSt):RSt:=I9 (rn K kf fs F ins ob 6001 0 kf l (An kf fs:Nat) 0 (st0 vn yn o))
theorem Ly (kf:Nat) (fs):(Da kf fs fs.length)[fs.length]? = some ((An kf fs:Nat):Int):=by
 rw [Ee,List.take_length]
theorem doR (I:BE) (K kf:Nat) (m:Int) (ga gn gc sa sn sc ya yn yc oa on oc va vn vc fa fn fc) (ba bn bc) (xa xn xc) (F fln c3:Nat) (br b1 b2 b3:Nat) (fl fs ins l) (o:WSt) (X0:Nat->Prop) (w0 w:World) (X:Kn I K kf m ga gn gc sa sn sc ya yn yc oa on oc va vn vc fa fn fc ba bn bc xa xn xc F fln c3 br b1 b2 b3 fl fs ins w0) (hl:AD w0 K kf (O ba bn bc) l) (hok:∀ s∈l,okS K vn yn on (fs.length:Int) fs kf s) (hcn:An kf fs+Aj kf l<=50)
  (h:Hr w0.heap.size [zd U m,O ga gn gc,O sa sn sc,O ya yn yc,O oa on oc,O va vn vc,O fa fn fc,O ba bn bc,O xa xn xc,zd U (F:Int),O (some ⟨b3,0,none⟩) fln c3] br b1 b2 b3 fl vn yn w) (hB0:Ov w0 w) (hI:I.In (Yb br b1 b2 (O none 0 0)) o X0 w) (hlo:∀ k,X0 k->w0.heap.size<=k) (hx3:¬ X0 b3) (hok0:I.ok 0 o) :
  Calls Tryz.prog 63 #[zi (some ⟨br,0,none⟩),.func (.func I.fn) I.fre.toArray I.cap.toArray] w fun e w'=>e=zh (zj #[])/\∃ ev,RnG I w0.heap.size [zd U m,O ga gn gc,O sa sn sc,O ya yn yc,O oa on oc,O va vn vc,O fa fn fc,O ba bn bc,O xa xn xc,zd U (F:Int),O (some ⟨b3,0,none⟩) fln c3] br b1 b2 b3 fl 0 (Ce K kf fs F ins I.ob l vn yn o) ev w'/\Fr br b1 b2 ⟨O none 0 0,X0⟩ ev w w'/\A9 vn yn F (Ce K kf fs F ins I.ob l vn yn o):=by
 obtain ⟨h2,hf2⟩:=h.begin I o X0 hI hlo hx3 hok0
 have hF:=X.fuel
 have hB2:Ov w0 (w.setCell ⟨br,18,none⟩ (.func (.func I.fn) I.fre.toArray I.cap.toArray)):=hB0.trans ⟨hf2.os,hf2.tape,hf2.output,hf2.size,fun k hk=>hf2.block k (Nat.lt_of_lt_of_le hk hB0.size) (by have:=h.lo;omega) (by have:=h.lo;omega) (by have:=h.lo;omega) (fun hx=>by have:=(h2.ev' k hx).1;omega)⟩
 have hfl:fl=Da kf fs fs.length:=X.flE
 have hat:fl[fs.length]? = some ((An kf fs:Nat):Int):=by rw [hfl];exact Ly kf fs
 have KS:=Aa (Iv I K kf m ga gn gc sa sn sc ya yn yc oa on oc va vn vc fa fn fc ba bn bc xa xn xc F fln c3 br b1 b2 b3 fl fs ins w0 X 6001 kf _ l (fs.length:Int) (An kf fs:Nat) 0 (st0 vn yn o) _ (w.setCell ⟨br,18,none⟩ (.func (.func I.fn) I.fre.toArray I.cap.toArray)).drew hl (Int.le_refl _) hok (by omega) (by omega) (by omega) hB2.drew (h2.drewN 1) (Mg vn yn F o) (by show 3*(F - 0)+1<=6001;omega))
 have c18:=h.row 18 _ rfl
 have z18:=h.z0 18
 have l0:=h.hi.1
 have a12:=h2.row 12 _ rfl
 have a13:=h2.row 13 _ rfl
 have a16:=h2.row 16 _ rfl
 have ab3:CE (w.setCell ⟨br,18,none⟩ (.func (.func I.fn) I.fre.toArray I.cap.toArray)) b3 fs.length (zd U ((An kf fs:Nat):Int)):=h2.first fs.length _ (by simp [hat])
 have hfn:=X.fnE
 subst hfn
 have hfln:=X.flN
 have hfi:(fs.length:Int) < (fln:Int):=by omega
 have HF0:=Aa hf2
 have hrun:Ce K kf fs F ins I.ob l vn yn o=I9 (rn K kf fs F ins I.ob 6001 0 kf l (An kf fs:Nat) 0 (st0 vn yn o)):=rfl
 rw [hrun]
 obtain ⟨T,hT⟩:=nm (rn K kf fs F ins I.ob 6001 0 kf l (An kf fs:Nat) 0 (st0 vn yn o))
 rw [<-hT] at KS ⊢
 have HK:Hx (∀ W st ev,RnG I w0.heap.size [zd U m,O ga gn gc,O sa sn sc,O ya yn yc,O oa on oc,O va vn vc,O fa fs.length fc,O ba bn bc,O xa xn xc,zd U (F:Int),O (some ⟨b3,0,none⟩) fln c3] br b1 b2 b3 fl 0 st ev W->(CE W br 12 (O fa fs.length fc)/\CE W br 13 (O ba bn bc)/\CE W br 16 (O (some ⟨b3,0,none⟩) fln c3)/\CE W b3 fs.length (zd U ((An kf fs:Nat):Int)))):=fun W st ev hr=>⟨hr.row 12 _ rfl,hr.row 13 _ rfl,hr.row 16 _ rfl,hr.first fs.length _ (by simp [hat])⟩
 obtain ⟨C,hC⟩:∃ C:Int,C=((An kf fs:Nat):Int):=⟨_,rfl⟩
 rw [<-hC] at KS HK ab3
 obtain ⟨fnn,hfnn⟩:=nm fs.length
 rw [<-hfnn] at KS HK ab3 a12 hfi ⊢
 clear h2 hf2 hB2 hfl hat hT hC hl hok hcn hfln X h hfnn hrun hI hlo hx3 hok0
 obtain ⟨tb,ts⟩:=T
 cases tb with
 | false=>
  go_enter Tryz.func63,Tryz.ntmps63
  go_wp2_with fail
  go_region_held3 (fun W=>W.cell? ⟨br,12,none⟩=some (O fa fnn fc)/\W.cell? ⟨br,13,none⟩=some (O ba bn bc)/\W.cell? ⟨br,16,none⟩=some (O (some ⟨b3,0,none⟩) fln c3)/\W.cell? ⟨b3,fnn,none⟩=some (zd U C)) (first | assumption | exact ⟨a12,a13,a16,ab3⟩ | exact HK.o _ _ _ hr2 | fail) (first | (go_at_call 119;refine (KS.o).mono ?_;rintro e wp ⟨he,⟨ev2,hr2,hf2⟩,hno2⟩;dsimp only at he;subst he))
  have hr2':RnG I w0.heap.size [zd U m,O ga gn gc,O sa sn sc,O ya yn yc,O oa on oc,O va vn vc,O fa fnn fc,O ba bn bc,O xa xn xc,zd U (F:Int),O (some ⟨b3,0,none⟩) fln c3] br b1 b2 b3 fl 0 ts ev2 wp:=hr2
  have d4:=hr2'.row 4 _ rfl
  have y4:=hr2'.z0 4
  have y0:=hr2'.hi.1
  have HN:=Aa (show A9 vn yn F ts from hno2)
  have HF2:=Aa ((HF0.o.over (below_drewN (Below.refl _ _) 1)).trans hf2)
  have HR2:=Aa hr2'
  clear hr2 hr2' hf2 hno2 KS HK a12 a13 a16 ab3
  go_wp2_with fail
  go_end0
  exact ⟨rfl,ev2,HR2.o,HF2.o,HN.o⟩
 | true=>
  go_enter Tryz.func63,Tryz.ntmps63
  go_wp2_with fail
  go_region_held3 (fun W=>W.cell? ⟨br,12,none⟩=some (O fa fnn fc)/\W.cell? ⟨br,13,none⟩=some (O ba bn bc)/\W.cell? ⟨br,16,none⟩=some (O (some ⟨b3,0,none⟩) fln c3)/\W.cell? ⟨b3,fnn,none⟩=some (zd U C)) (first | assumption | exact ⟨a12,a13,a16,ab3⟩ | exact HK.o _ _ _ hr2 | fail) (first | (go_at_call 119;refine (KS.o).mono ?_;rintro e wp ⟨he,⟨ev2,hr2,hf2⟩,hno2⟩;dsimp only at he;subst he))
  have hr2':RnG I w0.heap.size [zd U m,O ga gn gc,O sa sn sc,O ya yn yc,O oa on oc,O va vn vc,O fa fnn fc,O ba bn bc,O xa xn xc,zd U (F:Int),O (some ⟨b3,0,none⟩) fln c3] br b1 b2 b3 fl 0 ts ev2 wp:=hr2
  have d4:=hr2'.row 4 _ rfl
  have y4:=hr2'.z0 4
  have y0:=hr2'.hi.1
  have HN:=Aa (show A9 vn yn F ts from hno2)
  have HF2:=Aa ((HF0.o.over (below_drewN (Below.refl _ _) 1)).trans hf2)
  have HR2:=Aa hr2'
  clear hr2 hr2' hf2 hno2 KS HK a12 a13 a16 ab3
  go_wp2_with fail
  go_end0
  exact ⟨rfl,ev2,HR2.o.setEnd 1,HF2.o.trans (C6 HR2.o _ _),⟨HN.o.vl,HN.o.tl,HN.o.i32,HN.o.tk,HN.o.el,HN.o.sb⟩⟩
end Go.Proofs.YtfffpjkcfnekaaaGreat.Ex
