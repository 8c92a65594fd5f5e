/- How many commands there are: the document's answer, of commands that are few and not too deep. -/
import Derived.Test.YtfffpjkcfnekaaaGreatH23
set_option linter.unusedVariables false
set_option maxHeartbeats 8000000
set_option maxRecDepth 100000
namespace Go.Proofs.YtfffpjkcfnekaaaGreat.Ex
open Go.RowKit
open Go.Value renaming slice -> O, int -> zd, bool -> ze, agg -> zg, pointer -> zi, tuple -> zj
open Go.IntKind renaming i64 -> U
open Go.Obj renaming cells -> zf
open Go.Ending renaming returned -> zh
theorem Ms (K:Nat):∀ (k:Nat) (v:Value) (l:List D) (deep:Int) (w:World),AD w K k v l->Ey.dps k deep l->Aj k l<=50->0<=deep->deep<=100 ->
  Calls Tryz.prog 95 #[v,zd U deep] w fun e w'=>e=zh (zd U (Aj k l:Nat))/\Ov w w':=by
 intro k
 have nilcase:∀ (ao:Option Addr) (cap:Nat) (deep:Int) (w:World),Calls Tryz.prog 95 #[O ao 0 cap,zd U deep] w fun e w'=>e=zh (zd U 0)/\Ov w w':=fun ao cap deep w=>by
  go_enter Tryz.func95,Tryz.ntmps95
  go_wp2_with fail
  go_loopw [5,6] (fun n i wr=>n=zd U 0/\i=zd U 0/\wr=w) (fun _ _ _=>0)
  case atStart=>exact ⟨rfl,rfl,rfl⟩
  case round=>
   obtain ⟨rfl,rfl,rfl⟩:=hrel
   go_wp2_with fail
   go_ret
   exact ⟨rfl,Below.refl _ _⟩
 induction k with
 | zero=>
  intro v l deep w h _ _ _ _
  have h0:=h.zero
  subst h0
  obtain ⟨hm,ao,cap,rfl,-⟩:=h
  exact nilcase ao cap deep w
 | succ k ih=>
  intro v l deep w h hd hc h0 h1
  obtain ⟨hm,ao,cap,rfl,hel⟩:=h
  by_cases hl:l=[]
  ·subst hl
   exact nilcase ao cap deep w
  have hd6:deep<=6:=by
   cases l with
   | nil=>exact absurd rfl hl
   | cons d r=>exact (hd d (List.mem_cons_self ..)).1
  obtain ⟨b,off,rfl,hel3⟩:=hel hl
  have hlm:l.length<=50:=by
   have h2:∀ (l:List D),l.length<=Aj (k+1) l:=fun l=>by
    induction l with
    | nil=>exact Nat.zero_le _
    | cons d r ihr=>rw [BA,A8];simp only [List.length_cons];omega
   have:=h2 l
   omega
  have hlp:0 < l.length:=by cases l with | nil=>exact absurd rfl hl | cons d r=>simp
  obtain ⟨d1,hd1⟩:=nm (deep+1)
  have hwr:IntKind.i64.wrap (deep+1)=d1:=by rw [IntKind.wrap_i64];omega
  have HEL:=Aa hel3
  have HD:=Aa hd
  have HC:=Aa hc
  have IH:=Aa ih
  have HD1:=Aa hd1
  have HDP:=Aa (And.intro h0 (And.intro h1 hd6))
  have g1:decide ((0:Int) < (l.length:Int))=true:=by simp;omega
  have g2:decide ((6:Int) < deep)=false:=by simp;omega
  clear hel3 hel hd hc ih hl hm nilcase hd1 h0 h1 hd6
  go_enter Tryz.func95,Tryz.ntmps95
  go_wp2_with fail
  go_loopw [5,6] (fun n i wr=>∃ j:Nat,j<=l.length/\i=zd U j/\n=zd U (Aj (k+1) (l.take j):Nat)/\Ov w wr) (fun _ i _=>l.length - (intOf i).toNat)
  case atStart=>exact ⟨0,Nat.zero_le _,rfl,rfl,Below.refl _ _⟩
  case round=>
   obtain ⟨j,hj,rfl,rfl,hB⟩:=hrel
   have hle:Aj (k+1) (l.take j)<=50:=by
    have h1:Aj (k+1) l=Aj (k+1) (l.take j)+Aj (k+1) (l.drop j):=by
     unfold Aj
     rw [<-List.sum_append,<-List.map_append,List.take_append_drop]
    have:=HC.o
    omega
   by_cases hlt:j < l.length
   ·obtain ⟨cs9,hl9,hcs,hr⟩:=HEL.o j l[j] (List.getElem?_eq_getElem hlt)
    have hdd:=HD.o l[j] (List.getElem_mem hlt)
    have hct:Aj (k+1) (l.take (j+1))=Aj (k+1) (l.take j)+Bi (k+1) l[j]:=CW hlt
    have hle2:Aj (k+1) (l.take (j+1))<=50:=by
     have h1:Aj (k+1) l=Aj (k+1) (l.take (j+1))+Aj (k+1) (l.drop (j+1)):=by
      unfold Aj
      rw [<-List.sum_append,<-List.map_append,List.take_append_drop]
     have:=HC.o
     omega
    obtain ⟨d,hdn⟩:=nm (l[j])
    rw [<-hdn] at hr hdd hct
    have hsc:=A8 k d
    obtain ⟨ek,en,xa,xl,xc,aa,ac,ta,tc,ea,ec,rfl,i0,i1,i2,hX,hAr,hT,hE,-,-,-⟩:=hr.form
    obtain ⟨c0,c1,c2,c3,c4,c5,c6,c7,c8⟩:=rc9 hcs
    replace c7:=Ab hB _ _ c7
    replace c8:=Ab hB _ _ c8
    obtain ⟨tl,htl⟩:=nm ((Af d).length)
    obtain ⟨el,hel2⟩:=nm ((Al d).length)
    obtain ⟨tn,htn⟩:=nm (Aj k (Af d))
    obtain ⟨en2,hen⟩:=nm (Aj k (Al d))
    obtain ⟨nn,hnn⟩:=nm (Aj (k+1) (l.take j))
    rw [<-htl] at c7 hT
    rw [<-hel2] at c8 hE
    have KT:Hx (∀ X,Ov wr X->Calls Tryz.prog 95 #[O ta tl tc,zd U d1] X fun e w'=>e=zh (zd U (tn:Nat))/\Ov X w'):=fun X hX=>by
     rw [htn]
     exact IH.o (O ta tl tc) (Af d) d1 X (hT.over (hB.trans (hX.mono hB.size))) (by rw [HD1.o];exact hdd.2.1) (by omega) (by have h1:=HDP.o;have h2:=HD1.o;omega) (by have h1:=HDP.o;have h2:=HD1.o;omega)
    have KE:Hx (∀ X,Ov wr X->Calls Tryz.prog 95 #[O ea el ec,zd U d1] X fun e w'=>e=zh (zd U (en2:Nat))/\Ov X w'):=fun X hX=>by
     rw [hen]
     exact IH.o (O ea el ec) (Al d) d1 X (hE.over (hB.trans (hX.mono hB.size))) (by rw [HD1.o];exact hdd.2.2) (by omega) (by have h1:=HDP.o;have h2:=HD1.o;omega) (by have h1:=HDP.o;have h2:=HD1.o;omega)
    have HC1:=Aa hct
    have HC2:Hx (Bi (k+1) d=1+tn+en2/\Aj (k+1) (l.take j)=nn/\True):=⟨by rw [htn,hen];exact hsc,hnn.symm,trivial⟩
    have hb9:nn<=50/\tn<=50/\en2<=50:=by omega
    have hq1:nn<=50:=hb9.1
    have hq2:tn<=50:=hb9.2.1
    have hq3:en2<=50:=hb9.2.2
    have g3:decide ((nn:Int)<=50)=true:=by simp;omega
    have hji:(j:Int) < (l.length:Int):=by omega
    have HBR:=Aa hB
    rw [<-hnn]
    clear hcs hl9 hr hdd hct hle hle2 hdn hsc i0 i1 i2 hX hAr hT hE htl hel2 htn hen hnn hb9 c0 c1 c2 c3 c4 c5 c6 hB
    go_wp2_with fail
    refine gS (fun Wz=>Below wr.heap.size wr Wz) (Below.refl _ _).drew fun hHeld=>?_
    generalize wr.drew=W at hHeld ⊢
    refine kO 0 ?_
    refine kO 1 ?_
    refine kO 2 ?_
    refine kO 3 ?_
    refine kO 4 ?_
    refine kO 5 ?_
    refine kO 6 ?_
    refine kO 7 ?_
    refine kO 10 ?_
    refine kO 11 ?_
    refine kO 12 ?_
    refine kO 13 ?_
    refine kO 14 ?_
    refine kO 15 ?_
    refine kO 16 ?_
    refine rdA 8 rfl fun K hK=>?_
    go_simp
    refine (KT.o _ hHeld).mono ?_
    rintro e W8 ⟨rfl,hb8⟩
    have HB8:Hx (Ov wr W8):=hHeld.trans (hb8.mono hHeld.size)
    clear hb8 hHeld
    go_simp
    refine xK hK (HB8.o) fun hHeld=>?_
    clear hK K
    refine kO 9 ?_
    refine rdA 17 rfl fun K hK=>?_
    go_simp
    refine (KE.o _ HB8.o).mono ?_
    rintro e W17 ⟨rfl,hb17⟩
    have HB17:Hx (Ov wr W17):=HB8.o.trans (hb17.mono HB8.o.size)
    clear hb17 hHeld
    go_simp
    refine xK hK (HB17.o) fun hHeld=>?_
    clear hK K
    refine kO 18 ?_
    refine kO 19 ?_
    refine kO 20 ?_
    refine gE ?_
    have HBF:Hx (Ov w W17):=HBR.o.trans (HB17.o.mono HBR.o.size)
    have h1:=HC1.o
    have h2:=HC2.o
    have q1:IntKind.i64.wrap (1+(tn:Int))=1+tn:=by rw [IntKind.wrap_i64];omega
    have q2:IntKind.i64.wrap (1+(tn:Int)+en2)=1+tn+en2:=by rw [IntKind.wrap_i64];omega
    have q3:IntKind.i64.wrap ((nn:Int)+(1+tn+en2))=nn+(1+tn+en2):=by rw [IntKind.wrap_i64];omega
    rw [q1,q2,q3]
    go_wp2_with fail
    exact ⟨⟨j+1,by omega,by go_num,by rw [h1,h2.1,h2.2.1];congr 1,HBF.o⟩,by simp [intOf];omega⟩
   ·have hje:j=l.length:=by omega
    subst hje
    rw [List.take_length] at hle ⊢
    have g4:decide ((51:Int) < (Aj (k+1) l:Int))=false:=by simp;omega
    have HBF:=Aa hB
    clear hB hlt
    go_wp2_with fail
    go_ret
    exact ⟨rfl,HBF.o⟩
structure Di (w:World) (L:List Lab) (xs:List Value):Prop where
 len:xs.length=L.length*2
 at_:∀ i (h:i < L.length),∃ (a:Option Addr) (c:Nat) (a2:Option Addr) (c2:Nat),xs[i*2]? = some (O a L[i].r.length c)/\xs[i*2+1]? = some (O a2 L[i].w.length c2)/\Az w (O a L[i].r.length c) L[i].r/\Az w (O a2 L[i].w.length c2) L[i].w
 one:∀ u∈xs,u.oneCell'=true
theorem Di.nil {w:World}:Di w [] []:=⟨rfl,fun i h=>absurd h (by simp),fun u h=>by cases h⟩
theorem Di.app {w:World} {L M:List Lab} {xs ys:List Value} (h:Di w L xs) (k:Di w M ys):Di w (L++M) (xs++ys):=by
 refine ⟨by rw [List.length_append,List.length_append,h.len,k.len];omega,fun i hi=>?_,fun u hu=>?_⟩
 ·by_cases hl:i < L.length
  ·obtain ⟨a,c,a2,c2,h1,h2,h3,h4⟩:=h.at_ i hl
   have e:(L++M)[i]=L[i]:=List.getElem_append_left hl
   rw [e]
   exact ⟨a,c,a2,c2,by rw [List.getElem?_append_left (by rw [h.len];omega)];exact h1,by rw [List.getElem?_append_left (by rw [h.len];omega)];exact h2,h3,h4⟩
  ·have hi2:i - L.length < M.length:=by rw [List.length_append] at hi;omega
   obtain ⟨a,c,a2,c2,h1,h2,h3,h4⟩:=k.at_ (i - L.length) hi2
   have e:(L++M)[i]=M[i - L.length]:=List.getElem_append_right (by omega)
   rw [e]
   refine ⟨a,c,a2,c2,?_,?_,h3,h4⟩
   ·rw [List.getElem?_append_right (by rw [h.len];omega),h.len,show i*2 - L.length*2=(i - L.length)*2 by omega];exact h1
   ·rw [List.getElem?_append_right (by rw [h.len];omega),h.len,show i*2+1 - L.length*2=(i - L.length)*2+1 by omega];exact h2
 ·rcases List.mem_append.1 hu with hu | hu
  ·exact h.one u hu
  ·exact k.one u hu
theorem Di.single {w:World} {b:Lab} {a:Option Addr} {c:Nat} {a2:Option Addr} {c2:Nat} (h1:Az w (O a b.r.length c) b.r) (h2:Az w (O a2 b.w.length c2) b.w):Di w [b] [O a b.r.length c,O a2 b.w.length c2]:=
 ⟨rfl,fun i hi=>by
  have:i=0:=by simp at hi;omega
  subst this
  exact ⟨a,c,a2,c2,rfl,rfl,h1,h2⟩,fun u hu=>by simp at hu;rcases hu with rfl | rfl <;> rfl⟩
theorem GB {w:World} {b off:Nat} {ls:List Lab} (h:∀ i (h:i < ls.length),∃ (pr pw:Value),w.cell? ⟨b,off+i*2,none⟩=some pr/\w.cell? ⟨b,off+i*2+1,none⟩=some pw/\Az w pr ls[i].r/\Az w pw ls[i].w) :
  ∀ n,n<=ls.length->∃ xs,Di w (ls.take n) xs/\∀ jj u,xs[jj]? = some u->w.cell? ⟨b,off+jj,none⟩=some u
 | 0,_=>⟨[],by rw [List.take_zero];exact Di.nil,fun jj u hu=>by simp at hu⟩
 | n+1,hn=>by
  obtain ⟨xs,h1,h2⟩:=GB h n (by omega)
  obtain ⟨pr,pw,c1,c2,p1,p2⟩:=h n (by omega)
  obtain ⟨a,c,e1,-⟩:=id p1
  obtain ⟨a2,c2',e2,-⟩:=id p2
  subst e1 e2
  refine ⟨xs++[O a ls[n].r.length c,O a2 ls[n].w.length c2'],?_,fun jj u hu=>?_⟩
  ·rw [List.take_succ_eq_append_getElem (by omega)]
   exact h1.app (Di.single p1 p2)
  ·have hl:xs.length=n*2:=by rw [h1.len,List.length_take];omega
   by_cases hj:jj < xs.length
   ·rw [List.getElem?_append_left hj] at hu
    exact h2 jj u hu
   ·rw [List.getElem?_append_right (by omega)] at hu
    have hlt:=(List.getElem?_eq_some_iff.1 hu).1
    simp only [List.length_cons,List.length_nil] at hlt
    rcases (by omega:jj=n*2\/jj=n*2+1) with rfl | rfl
    ·rw [hl,Nat.sub_self] at hu
     injection hu with hu
     subst hu
     exact c1
    ·rw [hl,show n*2+1 - n*2=1 by omega] at hu
     injection hu with hu
     subst hu
     exact c2
theorem Ip {w0 W:World} {B:Nat} {sa:Option Addr} {m c:Nat} {ls:List Lab} {v:Value} {n:Nat} {xs:List Value} (hs:BC w0 (O sa m c) ls) (hw:Ov w0 W) (ho:W.ownsRow B 39 2 v n xs) (hl:n+ls.length<=1000) (hB:B<=W.heap.size) :
  ∃ ys v' W',(Builtin.append_ #[26,26] 26 #[v,O sa m c]).run Tryz.prog W=.ok v' W'/\Di w0 ls ys/\W'.ownsRow B 39 2 v' (n+ls.length) (xs++ys)/\W.grownBy W' v.ownBlock:=by
 obtain ⟨i0,hi,hz0,hz1,hz2⟩:=info_parts Tryz.infoLaN
 obtain ⟨-,ao,cap,hv,hel⟩:=hs
 injection hv with v1 v2 v3
 subst v1 v2 v3
 cases ls with
 | nil=>
  refine ⟨[],v,W,Et B 26 26 39 i0 2 Tryz.underlying26 hi v n xs ho sa c,Di.nil,?_,⟨rfl,rfl,rfl,Nat.le_refl _,fun _ _ _=>rfl⟩⟩
  rw [List.append_nil]
  exact ho
 | cons x l=>
  obtain ⟨b,off,rfl,hel2⟩:=hel (by simp)
  obtain ⟨ys,h1,h2⟩:=GB hel2 (x::l).length (Nat.le_refl _)
  rw [List.take_length] at h1
  obtain ⟨v',W',hrun,hown,hgr,-,hat⟩:=run_append_own_at (P:=Tryz.prog) (w:=W) B 26 26 39 i0 (zg #[O none 0 0,O none 0 0]) 2 48 Tryz.underlying26 hi hz0 hz1 hz2 rfl (by decide) v n xs ho ⟨b,off,none⟩ (x::l).length c ys h1.len (fun jj u hu=>by rw [Addr.add_lit];exact Ab hw _ _ (h2 jj u hu)) h1.one (by unfold maxLen;omega) (by omega) hB
  exact ⟨ys,v',W',hrun,h1,hown,hgr⟩
theorem JA {w0 W:World} {B n:Nat} {v:Value} {L:List Lab} {xs:List Value} (ho:W.ownsRow B 39 2 v n xs) (hn:n=L.length) (h:Di w0 L xs):∃ (la:Option Addr) (lc:Nat),v=O la n lc/\∀ i (hi:i < L.length),∃ g,la=some ⟨g,0,none⟩/\∃ (a:Option Addr) (c:Nat) (a2:Option Addr) (c2:Nat),W.cell? ⟨g,i*2,none⟩=some (O a L[i].r.length c)/\W.cell? ⟨g,i*2+1,none⟩=some (O a2 L[i].w.length c2)/\Az w0 (O a L[i].r.length c) L[i].r/\Az w0 (O a2 L[i].w.length c2) L[i].w:=by
 rcases ho.2 with ⟨h1,h2⟩ | ⟨g,cap,cur,hv,hb,hg,-⟩
 ·exact ⟨none,0,by rw [h1,h2],fun i hi=>by omega⟩
 ·refine ⟨some ⟨g,0,none⟩,cap,hv,fun i hi=>⟨g,rfl,?_⟩⟩
  obtain ⟨a,c,a2,c2,h1,h2,h3,h4⟩:=h.at_ i hi
  have q1:=ho.cells (g:=g) (by rw [hv];rfl) _ _ h1
  have q2:=ho.cells (g:=g) (by rw [hv];rfl) _ _ h2
  rw [Addr.add_lit,Nat.zero_add] at q1 q2
  exact ⟨a,c,a2,c2,q1,q2,h3,h4⟩
end Go.Proofs.YtfffpjkcfnekaaaGreat.Ex
