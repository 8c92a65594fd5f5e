/- Commands are listed, each ahead of those in it. -/
import Derived.Test.YtfffpjkcfnekaaaGreatH26
set_option linter.unusedVariables false
set_option maxHeartbeats 8000000
set_option maxRecDepth 100000
namespace Go.Proofs.YtfffpjkcfnekaaaGreat.Ex
open Go.RowKit
open Go.Value renaming slice -> O, int -> zd, bool -> ze, agg -> zg, pointer -> zi, tuple -> zj
open Go.IntKind renaming i64 -> U
open Go.Obj renaming cells -> zf
open Go.Ending renaming returned -> zh
theorem Tryz.infoCm:(Tryz.prog.info? 249).map (fun i=>(i.zero,i.size,i.bytes))=some (some (zg #[zd U 0,zd U 0,zd U 0,zd U 0,zd U 0,O none 0 0,O none 0 0,O none 0 0,O none 0 0,zd U 0]),10,144):=by kernel_rfl
def XL (bn:Nat) (W:World) (k:Nat):Prop:=W.heap.size<=bn\/k=bn\/∃ v,W.cell? ⟨bn,9,none⟩=some v/\v.ownBlock=some k
theorem Fl (bn:Nat):XOk (XL bn):=⟨fun W W' hb k h=>by
 by_cases hlt:W.heap.size<=bn
 ·exact Or.inl hlt
 ·rcases h with h | h | ⟨v,hv,ho⟩
  ·exact absurd (Nat.le_trans hb.size h) hlt
  ·exact Or.inr (Or.inl h)
  ·refine Or.inr (Or.inr ⟨v,?_,ho⟩)
   rw [<-hv]
   exact (World.cell?_of_block (a:=⟨bn,9,none⟩) (hb.block bn (by omega))).symm⟩
structure LI (w0:World) (cs:List Value) (bn:Nat) (cv:Value) (n:Nat) (xs ds:List Value) (W:World):Prop where
 below:Ov w0 W
 row:Ad (cs++cv::ds) W bn
 fz:∀ j,W.frozen? ⟨bn,j,none⟩=false
 own:W.ownsRow w0.heap.size 249 10 cv n xs
 ap:cv.ownBlock≠some bn
 lo:w0.heap.size<=bn/\bn < W.heap.size
 len:cs.length=9
section
variable {w0:World} {cs:List Value} {bn:Nat} {cv cv':Value} {n:Nat} {xs ds:List Value} {W W':World}
theorem LI.c9 (h:LI w0 cs bn cv n xs ds W):W.cell? ⟨bn,9,none⟩=some cv:=h.row 9 _ (by rw [List.getElem?_append_right (by rw [h.len];omega),h.len];rfl)
theorem LI.over (h:LI w0 cs bn cv n xs ds W) (hb:Ov W W'):LI w0 cs bn cv n xs ds W':=
 ⟨h.below.trans (hb.mono h.below.size),h.row.over hb,fun j=>((AI hb).2 _ _ h.lo.2).trans (h.fz j),h.own.kept (row:=none) ⟨hb.os,hb.tape,hb.output,hb.size,fun k hk _=>hb.block k hk⟩ (by cases cv.ownBlock <;> simp),h.ap,⟨h.lo.1,Nat.lt_of_lt_of_le h.lo.2 hb.size⟩,h.len⟩
theorem LI.xlt (h:LI w0 cs bn cv n xs ds W):∀ k,XL bn W k->w0.heap.size<=k/\k < W.heap.size:=by
 rintro k (hk | rfl | ⟨v,hv,ho⟩)
 ·have:=h.lo.2;omega
 ·exact h.lo
 ·rw [h.c9] at hv
  injection hv with hv
  subst hv
  exact CM h.own k ho
theorem LI.add {ys:List Value} {m:Nat} (h:LI w0 cs bn cv n xs ds W) (ho':W'.ownsRow w0.heap.size 249 10 cv' m ys) (hg:W.grownBy W' cv.ownBlock) (hat:cv'.ownBlock=cv.ownBlock\/cv'.ownBlock=some W.heap.size) :
  LI w0 cs bn cv' m ys ds (W'.setCell ⟨bn,9,none⟩ cv')/\FrW (XL bn) W (W'.setCell ⟨bn,9,none⟩ cv'):=by
 have hbw:W'.heap[bn]? = W.heap[bn]?:=hg.block bn h.lo.2 (fun e=>h.ap e.symm)
 have hrow':Ad (cs++cv::ds) W' bn:=fun j u hu=>(World.cell?_of_block (a:=⟨bn,j,none⟩) hbw).trans (h.row j u hu)
 have hBl:Below w0.heap.size W W':=CF hg (fun g e=>(CM h.own g e).1) h.below.size
 have hv':cv'.ownBlock≠some bn:=by
  rcases hat with e | e
  ·rw [e];exact h.ap
  ·rw [e];intro e;injection e with e;have:=h.lo.2;omega
 have hsz:(W'.setCell ⟨bn,9,none⟩ cv').heap.size=W'.heap.size:=by simp [World.setCell]
 have hrow2:Ad (cs++cv'::ds) (W'.setCell ⟨bn,9,none⟩ cv') bn:=by
  have:=EI (j:=9) (v:=cv') hrow' (by simp [h.len])
  rw [List.set_append,if_neg (by rw [h.len];omega),h.len] at this
  exact this
 have hc2:CE (W'.setCell ⟨bn,9,none⟩ cv') bn 9 cv':=hrow2 9 _ (by rw [List.getElem?_append_right (by rw [h.len];omega),h.len];rfl)
 refine ⟨⟨(h.below.trans hBl).setCell h.lo.1 _,hrow2,fun j=>?_,?_,hv',⟨h.lo.1,?_⟩,h.len⟩,⟨?_,?_,?_,?_,?_,?_⟩⟩
 ·have e1:(W'.setCell ⟨bn,9,none⟩ cv').frozen? ⟨bn,j,none⟩=W'.frozen? ⟨bn,j,none⟩:=by simp [go_sem]
  rw [e1,World.frozen?_of_block (a:=⟨bn,j,none⟩) hbw]
  exact h.fz j
 ·exact ho'.kept (row:=some bn) DL (Or.inr hv')
 ·rw [hsz];exact Nat.lt_of_lt_of_le h.lo.2 hg.size
 ·exact hg.os
 ·exact hg.tape
 ·exact hg.output
 ·rw [hsz];exact hg.size
 ·intro k hk hx
  have hne:k≠bn:=fun e=>hx (Or.inr (Or.inl e))
  rw [Ct (Ne.symm hne) cv']
  exact hg.block k hk (fun e=>hx (Or.inr (Or.inr ⟨cv,h.c9,e.symm⟩)))
 ·rintro k hk (hx | rfl | ⟨v,hv,ho⟩)
  ·rw [hsz] at hx;have:=hg.size;have:=h.lo.2;omega
  ·exact Or.inr (Or.inl rfl)
  ·rw [hc2] at hv
   injection hv with hv
   subst hv
   rcases hat with e | e
   ·exact Or.inr (Or.inr ⟨cv,h.c9,by rw [<-e];exact ho⟩)
   ·rw [e] at ho;injection ho with ho;omega
theorem LI.put {g cap j:Nat} {u:Value} (h:LI w0 cs bn (O (some ⟨g,0,none⟩) n cap) n xs ds W) :
  LI w0 cs bn (O (some ⟨g,0,none⟩) n cap) n (xs.set j u) ds (W.setCell ⟨g,j,none⟩ u)/\FrW (XL bn) W (W.setCell ⟨g,j,none⟩ u):=by
 obtain ⟨h1,h2⟩:=h.own.stored j u
 have hgb:g≠bn:=fun e=>h.ap (by rw [<-e];rfl)
 have hlo:=CM h.own g rfl
 have hbw:(W.setCell ⟨g,j,none⟩ u).heap[bn]? = W.heap[bn]?:=h2.block bn h.lo.2 (fun e=>h.ap e.symm)
 refine ⟨⟨h.below.setCell hlo.1 _,fun i v hv=>(World.cell?_of_block (a:=⟨bn,i,none⟩) hbw).trans (h.row i v hv),fun i=>(World.frozen?_of_block (a:=⟨bn,i,none⟩) hbw).trans (h.fz i),h1,h.ap,⟨h.lo.1,Nat.lt_of_lt_of_le h.lo.2 h2.size⟩,h.len⟩,⟨h2.os,h2.tape,h2.output,h2.size,fun k hk hx=>h2.block k hk (fun e=>hx (Or.inr (Or.inr ⟨_,h.c9,by injection e with e;rw [e];rfl⟩))),?_⟩⟩
 rintro k hk (hx | rfl | ⟨v,hv,ho⟩)
 ·have:=h2.size;have:=h.lo.2;omega
 ·exact Or.inr (Or.inl rfl)
 ·refine Or.inr (Or.inr ⟨v,?_,ho⟩)
  rw [<-hv]
  exact (World.cell?_of_block (a:=⟨bn,9,none⟩) hbw).symm
end
theorem Gw (k:Nat):∀ (l m:List D) (a:Nat),Bu k (l++m) a=Bu k l a++Bu k m (a+Aj k l)
 | [],m,a=>by simp [Gv,Aj]
 | d::r,m,a=>by rw [List.cons_append,A2,A2,Gw k r,BA,List.append_assoc,Nat.add_assoc]
def BD (w0:World) (K k:Nat) (ys:List Value) (L:List (Nat × D × Nat)):Prop:=
 ys.length=L.length*10/\∀ i x,L[i]? = some x->∃ cs:List Value,cs.length=9/\RS w0 K k cs x.2.1/\∀ j u,(cs++[zd U (x.2.2:Int)])[j]? = some u->ys[i*10+j]? = some u
section
variable {w0:World} {K k k':Nat} {ys zs:List Value} {L M:List (Nat × D × Nat)}
theorem BD.nil:BD w0 K k [] []:=⟨rfl,fun i x h=>by simp at h⟩
theorem BD.app (h:BD w0 K k ys L) (g:BD w0 K k zs M):BD w0 K k (ys++zs) (L++M):=by
 refine ⟨by rw [List.length_append,List.length_append,h.1,g.1];omega,fun i x hx=>?_⟩
 by_cases hi:i < L.length
 ·rw [List.getElem?_append_left hi] at hx
  obtain ⟨cs,h1,h2,h3⟩:=h.2 i x hx
  refine ⟨cs,h1,h2,fun j u hu=>?_⟩
  have:=h3 j u hu
  rw [List.getElem?_append_left (List.getElem?_eq_some_iff.1 this).1]
  exact this
 ·rw [List.getElem?_append_right (by omega)] at hx
  obtain ⟨cs,h1,h2,h3⟩:=g.2 _ x hx
  refine ⟨cs,h1,h2,fun j u hu=>?_⟩
  have:=h3 j u hu
  rw [List.getElem?_append_right (by rw [h.1];omega),h.1,<-this]
  congr 1
  omega
theorem BD.mono (h:BD w0 K k ys L) (hk:k<=k'):BD w0 K k' ys L:=⟨h.1,fun i x hx=>by
 obtain ⟨cs,h1,h2,h3⟩:=h.2 i x hx
 exact ⟨cs,h1,RS.mono (fun _ _ h=>h) k k' cs _ hk h2,h3⟩⟩
theorem BD.one {cs:List Value} {a e:Nat} {d:D} (hl:cs.length=9) (h:RS w0 K k cs d):BD w0 K k (cs++[zd U (e:Int)]) [(a,d,e)]:=by
 refine ⟨by simp [hl],fun i x hx=>?_⟩
 match i with
 | 0=>
  simp at hx
  subst hx
  exact ⟨cs,hl,h,fun j u hu=>by simpa using hu⟩
 | i+1=>simp at hx
theorem Kx {xs c e:List Value} {u:Value} (hc:c.length=9) (o:Value):(xs++((c++[o])++e)).set (xs.length+9) u=xs++((c++[u])++e):=by
 rw [List.set_append,if_neg (by omega),Nat.add_sub_cancel_left,List.set_append,if_pos (by simp [hc]),List.set_append,if_neg (by rw [hc];omega),hc]
 rfl
end
theorem listed (w0:World) (cs:List Value) (bn:Nat) (oa:Option Addr) (on oc:Nat) (xs ds:List Value) (W:World) (h:LI w0 cs bn (O oa on oc) on xs ds W) (ho:on<=1000) (c9:List Value) (hc:c9.length=9) (hone:∀ u∈c9,u.oneCell'=true) :
  ∃ v2 w2,(Builtin.append_ #[154,154] 154 #[O oa on oc,O (some ⟨W.heap.size,0,none⟩) 1 1]).run Tryz.prog (W.alloc (.cells (c9++[Value.int U 0]).toArray 249))=.ok v2 w2/\LI w0 cs bn v2 (on+1) (xs++(c9++[Value.int U 0])) ds (w2.setCell ⟨bn,9,none⟩ v2)/\FrW (XL bn) W (w2.setCell ⟨bn,9,none⟩ v2)/\w2.cell? ⟨bn,9,none⟩=some (O oa on oc)/\w2.frozen? ⟨bn,9,none⟩=false/\∀ b,b < W.heap.size->¬ XL bn W b->w2.heap[b]? = W.heap[b]?:=by
 obtain ⟨i0,hi,hz0,hz1,hz2⟩:=info_parts Tryz.infoCm
 have hb1:Ov W (W.alloc (.cells (c9++[Value.int U 0]).toArray 249)):=bA W _
 have hJ1:=h.over hb1
 have hN:=Ay W (c9++[Value.int U 0]) 249
 have hBW:w0.heap.size<=(W.alloc (.cells (c9++[Value.int U 0]).toArray 249)).heap.size:=hJ1.below.size
 obtain ⟨v2,w2,hrun,hown2,hgr2,-,hat⟩:=run_append_own_at (P:=Tryz.prog) (w:=W.alloc (.cells (c9++[Value.int U 0]).toArray 249)) w0.heap.size 154 154 249 i0 (zg #[zd U 0,zd U 0,zd U 0,zd U 0,zd U 0,O none 0 0,O none 0 0,O none 0 0,O none 0 0,zd U 0]) 10 144 Tryz.underlying154 hi hz0 hz1 hz2 rfl (by decide) _ _ _ hJ1.own ⟨W.heap.size,0,none⟩ 1 1 (c9++[Value.int U 0]) (by simp [hc]) (fun jj u hu=>by rw [Addr.add_lit,Nat.zero_add];exact hN jj u hu) (by
  intro u hu
  rcases List.mem_append.1 hu with hu | hu
  ·exact hone u hu
  ·rw [List.mem_singleton.1 hu];rfl) (by unfold maxLen;omega) (by omega) hBW
 have hfin:=hJ1.add hown2 hgr2 hat
 refine ⟨v2,w2,hrun,hfin.1,(FrW.of_below (Fl bn) hb1).trans hfin.2,hgr2.cell hJ1.c9 (fun hx=>hJ1.ap hx.symm),(World.frozen?_of_block (a:=⟨bn,9,none⟩) (hgr2.block bn hJ1.lo.2 (fun hx=>hJ1.ap hx.symm))).trans (hJ1.fz 9),fun b hb hx=>?_⟩
 refine (hgr2.block b (Nat.lt_of_lt_of_le hb hb1.size) (fun e=>hx ?_)).trans (hb1.block b hb)
 exact Or.inr (Or.inr ⟨_,h.c9,e.symm⟩)
theorem JR (K:Nat):∀ (k:Nat) (v:Value) (l:List D) (w0:World) (cs:List Value) (bn:Nat) (cv:Value) (n:Nat) (xs ds:List Value) (W:World),AD w0 K k v l->LI w0 cs bn cv n xs ds W->n+Aj k l<=1000 ->
  Calls Tryz.prog 137 #[zi (some ⟨bn,0,none⟩),v] W fun e W'=>e=zh (zj #[])/\∃ cv' ys,LI w0 cs bn cv' (n+Aj k l) (xs++ys) ds W'/\BD w0 K k ys (Bu k l n)/\FrW (XL bn) W W':=by
 intro k
 induction k with
 | zero=>
  intro v l w0 cs bn cv n xs ds W h hI hn
  have h0:=h.zero
  subst h0
  obtain ⟨hm,ao,cap,rfl,-⟩:=h
  have HI:=Aa hI
  clear hm hn hI
  go_enter Tryz.func137,Tryz.ntmps137
  go_wp2_with fail
  go_loopw [9] (fun i wr=>i=zd U 0/\wr=W) (fun _ _=>0)
  case atStart=>exact ⟨rfl,rfl⟩
  case round=>
   obtain ⟨rfl,rfl⟩:=hrel
   go_wp2_with fail
   go_end0
   exact ⟨rfl,cv,[],by simpa [Aj] using HI.o,BD.nil,FrW.refl _⟩
 | succ k ih=>
  intro v l w0 cs bn cv n xs ds W h hI hn
  obtain ⟨hm,ao,cap,rfl,hc⟩:=h
  have HC:=Aa hc
  have IH:=Aa ih
  have HI:=Aa hI
  have hlm:l.length<=9223372036854775807:=hm
  have HN:=Aa hn
  clear hc ih hm hI hn
  go_enter Tryz.func137,Tryz.ntmps137
  go_wp2_with fail
  go_loopw [9] (fun i wr=>∃ j:Nat,j<=l.length/\i=zd U j/\∃ cv' ys,LI w0 cs bn cv' (n+Aj (k+1) (l.take j)) (xs++ys) ds wr/\BD w0 K (k+1) ys (Bu (k+1) (l.take j) n)/\FrW (XL bn) W wr) (fun i _=>l.length - (intOf i).toNat)
  case atStart=>exact ⟨0,Nat.zero_le _,rfl,cv,[],by simpa [Aj] using HI.o,BD.nil,FrW.refl _⟩
  case round=>
   obtain ⟨j,hj,rfl,cv',ys0,hI,hE,hF⟩:=hrel
   by_cases hjl:j < l.length
   ·obtain ⟨b,off,rfl,hel⟩:=HC.o (by rintro rfl;simp at hjl)
    obtain ⟨cs9,hl9,hcs,hr⟩:=hel j l[j] (List.getElem?_eq_getElem hjl)
    have HCN:Hx (Aj (k+1) (l.take (j+1))=Aj (k+1) (l.take j)+Bi (k+1) l[j]/\Aj (k+1) (l.take (j+1))<=Aj (k+1) l):=⟨CW hjl,by
     have h1:Aj (k+1) l=Aj (k+1) (l.take (j+1))+Aj (k+1) (l.drop (j+1)):=by
      unfold Aj
      rw [<-List.sum_append,<-List.map_append,List.take_append_drop]
     omega⟩
    have HLT:Hx (Bu (k+1) (l.take (j+1)) n=Bu (k+1) (l.take j) n++Fe (k+1) l[j] (n+Aj (k+1) (l.take j))):=by
     show Bu (k+1) (l.take (j+1)) n=_
     rw [List.take_succ_eq_append_getElem hjl,Gw,CR]
    obtain ⟨d,hd⟩:=nm (l[j])
    rw [<-hd] at hr HCN HLT
    have HR:=Aa hr
    obtain ⟨ek,en,xa,xl,xc,aa,ac,ta,tc,ea,ec,rfl,i0,i1,i2,hX,hA,hT,hE2,-,-,-⟩:=hr.form
    obtain ⟨c0,c1,c2,c3,c4,c5,c6,c7,c8⟩:=rc9 hcs
    obtain ⟨c0,c1,c2,c3,c4,c5,c6,c7,c8⟩:=co9 hI.below c0 c1 c2 c3 c4 c5 c6 c7 c8
    replace c0:wr.cell? ⟨b,off+j*9,none⟩=_:=c0
    obtain ⟨kd,hkd⟩:=nm (Ae d)
    obtain ⟨va,hva⟩:=nm (Av d)
    obtain ⟨ot,hot⟩:=nm (Ac d)
    obtain ⟨al,hal⟩:=nm ((Ah d).length)
    obtain ⟨tl,htl⟩:=nm ((Af d).length)
    obtain ⟨el,hel2⟩:=nm ((Al d).length)
    rw [<-hkd] at c0 HR
    rw [<-hva] at c1 HR
    rw [<-hot] at c2 HR
    rw [<-hal] at c6 HR
    rw [<-htl] at c7 HR hT
    rw [<-hel2] at c8 HR hE2
    obtain ⟨oa,on,oc,rfl⟩:=AK hI.own
    have hon:on=n+Aj (k+1) (l.take j):=by
     rcases hI.own.2 with ⟨he,h0⟩ | ⟨g,cap',cur,he,-⟩
     ·injection he with e1 e2 e3;omega
     ·injection he with e1 e2 e3
    rw [<-hon] at hI HLT
    have hb1:Ov wr (wr.alloc (zf #[zd U kd,zd U va,zd U ot,zd U ek,zd U en,O xa xl xc,O aa al ac,O ta tl tc,O ea el ec] 130)):=bA _ _
    obtain ⟨V,hV⟩:=nm (wr.alloc (zf #[zd U kd,zd U va,zd U ot,zd U ek,zd U en,O xa xl xc,O aa al ac,O ta tl tc,O ea el ec] 130))
    have hIV:=hI.over hb1
    have y9:=hIV.c9
    have hrV:=Ad.newA #[zd U kd,zd U va,zd U ot,zd U ek,zd U en,O xa xl xc,O aa al ac,O ta tl tc,O ea el ec] 130 wr
    have HNX:Hx (¬ XL bn V wr.heap.size/\wr.heap.size < V.heap.size):=by
     refine ⟨fun hx=>?_,by rw [hV];simp⟩
     rw [hV] at hx
     have:=hI.xlt _ ((Fl bn).below _ _ hb1 _ hx)
     omega
    have HIV:Hx (LI w0 cs bn (O oa on oc) on (xs++ys0) ds V):=by rw [hV];exact hIV
    have HFV:Hx (FrW (XL bn) W V):=by rw [hV];exact hF.trans (FrW.of_below (Fl bn) hb1)
    have HRV:Hx (Ad [zd U kd,zd U va,zd U ot,zd U ek,zd U en,O xa xl xc,O aa al ac,O ta tl tc,O ea el ec] V wr.heap.size):=by rw [hV];exact hrV
    have HT:=Aa hT
    have HE2:=Aa hE2
    have HE:=Aa hE
    have HHN:Hx (on+Bi (k+1) d<=1000):=by have h1:=HCN.o;have h2:=HN.o;show on+Bi (k+1) d<=1000;omega
    have hon2:on<=1000:=by have:=HHN.o;omega
    have HON:=Aa hon
    have HLN:Hx ((xs++ys0).length=on*10):=hIV.own.1
    clear hI hE hF hel hcs hl9 hr hd hkd hva hot hal htl hel2 hIV hrV hb1 hX hA hT hE2 i0 i1 i2 hon HC
    go_wp2_with fail
    rw [<-hV]
    clear hV y9 c0 c1 c2 c3 c4 c5 c6 c7 c8
    refine C1 (fun act2 Wn=>∃ (y10 y11 y12 y13 y14 y15 y16 y17 y18 y19 y20 y21 y22 y23 y24 y25 y26 y27 y28:Value) (v2:Value),act2={ tmps:=#[zi (some ⟨bn,0,none⟩),O (some ⟨b,off,none⟩) l.length cap,undef,undef,undef,zi (some ⟨wr.heap.size,0,none⟩),zd U (on:Int),O (some ⟨b,off,none⟩) l.length cap,zd U (l.length:Int),zd U (j:Int),y10,y11,y12,y13,y14,y15,y16,y17,y18,y19,y20,y21,y22,y23,y24,y25,y26,y27,y28,u29,u30,u31,u32,u33,u34,u35,u36,u37,u38,u39,u40,u41,u42,u43,u44,u45,u46,u47,u48,u49],defers:=[] }/\LI w0 cs bn v2 (on+1) ((xs++ys0)++([zd U kd,zd U va,zd U ot,zd U ek,zd U en,O xa xl xc,O aa al ac,O ta tl tc,O ea el ec]++[zd U 0])) ds Wn/\FrW (XL bn) V Wn) ?_ ?_
    ·obtain ⟨v2,w2,hrun,hL2,hF2,x9,f9,hkeep⟩:=listed w0 cs bn oa on oc (xs++ys0) ds V.drew (HIV.o.over (bD V)) hon2 [zd U kd,zd U va,zd U ot,zd U ek,zd U en,O xa xl xc,O aa al ac,O ta tl tc,O ea el ec] rfl (by simp [Value.oneCell'])
     obtain ⟨a2,n2,e2,rfl⟩:=AK hL2.own
     have hFV2:FrW (XL bn) V (w2.setCell ⟨bn,9,none⟩ (O a2 n2 e2)):=(FrW.of_below (Fl bn) (bD V)).trans hF2
     have z0:=(HIV.o.over (bD V)).c9
     have z1:=HIV.o.c9
     have z2:=(HIV.o.over ((bD V).alloc (Nat.le_refl _) (zf #[zd U kd,zd U va,zd U ot,zd U ek,zd U en,O xa xl xc,O aa al ac,O ta tl tc,O ea el ec,zd U 0] 249))).c9
     have z3:=Ab (bA V (zf #[zd U kd,zd U va,zd U ot,zd U ek,zd U en,O xa xl xc,O aa al ac,O ta tl tc,O ea el ec,zd U 0] 249)) _ _ z1
     have hrD:Ad [zd U kd,zd U va,zd U ot,zd U ek,zd U en,O xa xl xc,O aa al ac,O ta tl tc,O ea el ec] V.drew wr.heap.size:=HRV.o.over (bD V)
     have hxD:¬ XL bn V.drew wr.heap.size:=fun e=>HNX.o.1 ((Fl bn).below _ _ (bD V) _ e)
     have hlD:wr.heap.size < V.drew.heap.size:=HNX.o.2
     have hS0:CE V.drew wr.heap.size 0 (zd U kd)/\CE V.drew wr.heap.size 1 (zd U va)/\CE V.drew wr.heap.size 2 (zd U ot)/\CE V.drew wr.heap.size 3 (zd U ek)/\CE V.drew wr.heap.size 4 (zd U en)/\CE V.drew wr.heap.size 5 (O xa xl xc)/\CE V.drew wr.heap.size 6 (O aa al ac)/\CE V.drew wr.heap.size 7 (O ta tl tc)/\CE V.drew wr.heap.size 8 (O ea el ec):=rc9 hrD
     have hS1:CE (V.drew.alloc (zf #[zd U kd,zd U va,zd U ot,zd U ek,zd U en,O xa xl xc,O aa al ac,O ta tl tc,O ea el ec,zd U 0] 249)) wr.heap.size 0 (zd U kd)/\CE (V.drew.alloc (zf #[zd U kd,zd U va,zd U ot,zd U ek,zd U en,O xa xl xc,O aa al ac,O ta tl tc,O ea el ec,zd U 0] 249)) wr.heap.size 1 (zd U va)/\CE (V.drew.alloc (zf #[zd U kd,zd U va,zd U ot,zd U ek,zd U en,O xa xl xc,O aa al ac,O ta tl tc,O ea el ec,zd U 0] 249)) wr.heap.size 2 (zd U ot)/\CE (V.drew.alloc (zf #[zd U kd,zd U va,zd U ot,zd U ek,zd U en,O xa xl xc,O aa al ac,O ta tl tc,O ea el ec,zd U 0] 249)) wr.heap.size 3 (zd U ek)/\CE (V.drew.alloc (zf #[zd U kd,zd U va,zd U ot,zd U ek,zd U en,O xa xl xc,O aa al ac,O ta tl tc,O ea el ec,zd U 0] 249)) wr.heap.size 4 (zd U en)/\CE (V.drew.alloc (zf #[zd U kd,zd U va,zd U ot,zd U ek,zd U en,O xa xl xc,O aa al ac,O ta tl tc,O ea el ec,zd U 0] 249)) wr.heap.size 5 (O xa xl xc)/\CE (V.drew.alloc (zf #[zd U kd,zd U va,zd U ot,zd U ek,zd U en,O xa xl xc,O aa al ac,O ta tl tc,O ea el ec,zd U 0] 249)) wr.heap.size 6 (O aa al ac)/\CE (V.drew.alloc (zf #[zd U kd,zd U va,zd U ot,zd U ek,zd U en,O xa xl xc,O aa al ac,O ta tl tc,O ea el ec,zd U 0] 249)) wr.heap.size 7 (O ta tl tc)/\CE (V.drew.alloc (zf #[zd U kd,zd U va,zd U ot,zd U ek,zd U en,O xa xl xc,O aa al ac,O ta tl tc,O ea el ec,zd U 0] 249)) wr.heap.size 8 (O ea el ec):=rc9 (hrD.over (bA _ _))
     have hS2:CE w2 wr.heap.size 0 (zd U kd)/\CE w2 wr.heap.size 1 (zd U va)/\CE w2 wr.heap.size 2 (zd U ot)/\CE w2 wr.heap.size 3 (zd U ek)/\CE w2 wr.heap.size 4 (zd U en)/\CE w2 wr.heap.size 5 (O xa xl xc)/\CE w2 wr.heap.size 6 (O aa al ac)/\CE w2 wr.heap.size 7 (O ta tl tc)/\CE w2 wr.heap.size 8 (O ea el ec):=rc9 (A0 (k:=0) hrD (hkeep _ hlD hxD))
     have hS3:CE (w2.setCell ⟨bn,9,none⟩ (O a2 n2 e2)) wr.heap.size 0 (zd U kd)/\CE (w2.setCell ⟨bn,9,none⟩ (O a2 n2 e2)) wr.heap.size 1 (zd U va)/\CE (w2.setCell ⟨bn,9,none⟩ (O a2 n2 e2)) wr.heap.size 2 (zd U ot)/\CE (w2.setCell ⟨bn,9,none⟩ (O a2 n2 e2)) wr.heap.size 3 (zd U ek)/\CE (w2.setCell ⟨bn,9,none⟩ (O a2 n2 e2)) wr.heap.size 4 (zd U en)/\CE (w2.setCell ⟨bn,9,none⟩ (O a2 n2 e2)) wr.heap.size 5 (O xa xl xc)/\CE (w2.setCell ⟨bn,9,none⟩ (O a2 n2 e2)) wr.heap.size 6 (O aa al ac)/\CE (w2.setCell ⟨bn,9,none⟩ (O a2 n2 e2)) wr.heap.size 7 (O ta tl tc)/\CE (w2.setCell ⟨bn,9,none⟩ (O a2 n2 e2)) wr.heap.size 8 (O ea el ec):=rc9 (hF2.row hrD hxD)
     have HFIN:Hx (LI w0 cs bn (O a2 n2 e2) (on+1) ((xs++ys0)++([zd U kd,zd U va,zd U ot,zd U ek,zd U en,O xa xl xc,O aa al ac,O ta tl tc,O ea el ec]++[zd U 0])) ds (w2.setCell ⟨bn,9,none⟩ (O a2 n2 e2))/\FrW (XL bn) V (w2.setCell ⟨bn,9,none⟩ (O a2 n2 e2))):=⟨hL2,hFV2⟩
     clear hL2 hF2 hFV2 hkeep hrD hxD hlD HIV HFV HRV HNX HT HE2 HE HHN HON HCN HLT HR IH HI HN
     simp only [List.cons_append,List.nil_append] at hrun
     refine gS (fun Wz=>CE Wz wr.heap.size 0 (zd U kd)/\CE Wz wr.heap.size 1 (zd U va)/\CE Wz wr.heap.size 2 (zd U ot)/\CE Wz wr.heap.size 3 (zd U ek)/\CE Wz wr.heap.size 4 (zd U en)/\CE Wz wr.heap.size 5 (O xa xl xc)/\CE Wz wr.heap.size 6 (O aa al ac)/\CE Wz wr.heap.size 7 (O ta tl tc)/\CE Wz wr.heap.size 8 (O ea el ec)) hS0 fun hHeld=>?_
     refine kT 0 ?_
     refine kT 1 ?_
     refine kT 2 ?_
     refine kT 3 ?_
     refine kT 5 ?_
     refine kT 6 ?_
     refine rdB 4 7 rfl (fun K hK=>?_) rfl fun K hK=>?_
     ·go_simp
      refine xK hK hS0 fun hHeld=>?_
      clear hK K
      refine rdA 7 rfl fun K hK=>?_
      go_simp
      refine xK hK hS1 fun hHeld=>?_
      clear hK K
      refine rdA 8 rfl fun K hK=>?_
      refine B4 rfl _ _ _ rfl _ _ _ _ rfl rfl hrun ?_
      refine xK hK hS2 fun hHeld=>?_
      clear hK K
      refine rdA 9 rfl fun K hK=>?_
      go_simp
      refine xK hK hS2 fun hHeld=>?_
      clear hK K
      refine rdA 10 rfl fun K hK=>?_
      go_simp
      refine xK hK hS2 fun hHeld=>?_
      clear hK K
      refine rdA 11 rfl fun K hK=>?_
      go_simp
      refine xK hK hS3 fun hHeld=>?_
      clear hK K
      refine gE ?_
      exact AJ ⟨_,_,_,_,_,_,_,_,_,_,_,_,_,_,_,_,_,_,_,_,rfl,HFIN.o.1,HFIN.o.2⟩
     ·go_simp
      refine xK hK hS1 fun hHeld=>?_
      clear hK K
      refine rdA 4 rfl fun K hK=>?_
      go_simp
      refine xK hK hS1 fun hHeld=>?_
      clear hK K
      refine rdA 8 rfl fun K hK=>?_
      refine B4 rfl _ _ _ rfl _ _ _ _ rfl rfl hrun ?_
      refine xK hK hS2 fun hHeld=>?_
      clear hK K
      refine rdA 9 rfl fun K hK=>?_
      go_simp
      refine xK hK hS2 fun hHeld=>?_
      clear hK K
      refine rdA 10 rfl fun K hK=>?_
      go_simp
      refine xK hK hS2 fun hHeld=>?_
      clear hK K
      refine rdA 11 rfl fun K hK=>?_
      go_simp
      refine xK hK hS3 fun hHeld=>?_
      clear hK K
      refine gE ?_
      exact AJ ⟨_,_,_,_,_,_,_,_,_,_,_,_,_,_,_,_,_,_,_,_,rfl,HFIN.o.1,HFIN.o.2⟩
    ·rintro act2 Wn ⟨y10,y11,y12,y13,y14,y15,y16,y17,y18,y19,y20,y21,y22,y23,y24,y25,y26,y27,y28,v2,rfl,hL,hFn⟩
     have hrN:=hFn.row HRV.o HNX.o.1
     have HXN:Hx (¬ XL bn Wn wr.heap.size/\wr.heap.size < Wn.heap.size):=⟨fun e=>HNX.o.1 (hFn.mov _ HNX.o.2 e),Nat.lt_of_lt_of_le HNX.o.2 hFn.size⟩
     have KT:=Aa (IH.o _ (Af d) w0 cs bn v2 (on+1) _ ds Wn HT.o hL (by have h1:=HHN.o;rw [A8] at h1;omega))
     have HRN:=Aa hrN
     have d7:=hrN 7 _ rfl
     have HFN:Hx (FrW (XL bn) W Wn):=HFV.o.trans hFn
     clear hrN hL hFn HIV HFV
     go_wp2_with fail
     refine KT.o.mono ?_
     rintro e W1 ⟨rfl,cv1,zT,hL1,hE1,hF1⟩
     have hr1:=hF1.row HRN.o HXN.o.1
     have KE:=Aa (IH.o _ (Al d) w0 cs bn cv1 (on+1+Aj k (Af d)) _ ds W1 HE2.o hL1 (by have h1:=HHN.o;rw [A8] at h1;omega))
     have d8:=hr1 8 _ rfl
     have HF1:Hx (FrW (XL bn) W W1):=HFN.o.trans hF1
     have HE1:=Aa hE1
     clear hr1 hL1 hF1 hE1 d7 KT HFN
     go_wp2_with fail
     refine KE.o.mono ?_
     rintro e W2 ⟨rfl,cv2,zE,hL2,hE3,hF2⟩
     obtain ⟨g,cap2,rfl⟩:∃ g cap2,cv2=O (some ⟨g,0,none⟩) (on+1+Aj k (Af d)+Aj k (Al d)) cap2:=by
      rcases hL2.own.2 with ⟨he,h0⟩ | ⟨g,cap',cur,he,-⟩
      ·omega
      ·exact ⟨g,cap',he⟩
     have hlen:(xs++ys0).length=on*10:=HLN.o
     replace hL2:=hL2.over (bD W2)
     have hcell:W2.drew.cell? ⟨g,on*10+9,none⟩=some (zd U 0):=by
      rw [hL2.own.cellAt (on*10+9) (by omega),List.append_assoc,List.append_assoc,List.getElem?_append_right (by omega),hlen,Nat.add_sub_cancel_left]
      rfl
     have hfz:=hL2.own.frozenAt (on*10+9)
     have hput:=hL2.put (j:=on*10+9) (u:=zd U ((on+1+Aj k (Af d)+Aj k (Al d):Nat):Int))
     have e9:=hL2.c9
     have hgb:g≠bn:=fun e=>hL2.ap (by rw [<-e];rfl)
     have e92:=Ao (b:=g) (j:=on*10+9) (v:=zd U ((on+1+Aj k (Af d)+Aj k (Al d):Nat):Int)) e9 (fun h=>hgb h.1)
     have HM:Hx (on+1+Aj k (Af d)+Aj k (Al d)=n+Aj (k+1) (l.take (j+1))/\on+1+Aj k (Af d)+Aj k (Al d)=on+Bi (k+1) d):=by
      have h1:=HCN.o
      have h2:=HON.o
      have h3:=A8 k d
      exact ⟨by omega,by omega⟩
     have HFINL:Hx (∃ ys,LI w0 cs bn (O (some ⟨g,0,none⟩) (on+1+Aj k (Af d)+Aj k (Al d)) cap2) (n+Aj (k+1) (l.take (j+1))) (xs++ys) ds (W2.drew.setCell ⟨g,on*10+9,none⟩ (zd U ((on+1+Aj k (Af d)+Aj k (Al d):Nat):Int)))/\BD w0 K (k+1) ys (Bu (k+1) (l.take (j+1)) n)/\FrW (XL bn) W (W2.drew.setCell ⟨g,on*10+9,none⟩ (zd U ((on+1+Aj k (Af d)+Aj k (Al d):Nat):Int)))):=by
      refine ⟨ys0++(([zd U kd,zd U va,zd U ot,zd U ek,zd U en,O xa xl xc,O aa al ac,O ta tl tc,O ea el ec]++[zd U ((on+1+Aj k (Af d)+Aj k (Al d):Nat):Int)])++(zT++zE)),?_,?_,((HF1.o.trans hF2).trans (FrW.of_below (Fl bn) (bD W2))).trans hput.2⟩
      ·have h1:=hput.1
       rw [List.append_assoc,List.append_assoc,show on*10+9=(xs++ys0).length+9 by rw [hlen],Kx rfl,List.append_assoc] at h1
       rw [<-HM.o.1,hlen] at *
       exact h1
      ·rw [HLT.o,A3]
       refine HE.o.app (BD.app (L:=[_]) ?_ (BD.app (HE1.o.mono (Nat.le_succ _)) (hE3.mono (Nat.le_succ _))))
       rw [HM.o.2]
       exact BD.one rfl HR.o
     obtain ⟨mm,hmm⟩:=nm (on+1+Aj k (Af d)+Aj k (Al d))
     have hmo:(on:Int) < (mm:Int):=by omega
     have hm1:mm<=1000:=by have h1:=HHN.o;have h2:=HM.o.2;omega
     rw [<-hmm] at e9 e92 HFINL
     clear hput hL2 hE3 hF2 hlen hmm HM HF1 HE1 KE d8
     have hj3:(j:Int)+1<=(l.length:Int):=by omega
     go_wp2_with fail
     refine gS (fun Wz=>CE Wz bn 9 (O (some ⟨g,0,none⟩) mm cap2)) e9 fun hHeld=>?_
     refine kT 0 ?_
     refine kT 1 ?_
     refine kT 2 ?_
     refine kT 3 ?_
     refine kT 4 ?_
     refine kT 5 ?_
     refine kT 6 ?_
     refine kT 7 ?_
     refine kT 8 ?_
     refine kT 9 ?_
     refine kT 10 ?_
     refine kT 11 ?_
     refine rdA 12 rfl fun K hK=>?_
     go_simp
     refine xK hK e92 fun hHeld=>?_
     clear hK K
     refine gE ?_
     obtain ⟨ysF,f1,f2,f3⟩:=HFINL.o
     have HX1:=Aa f1
     have HX2:=Aa f2
     have HX3:=Aa f3
     clear f1 f2 f3 HFINL
     go_wp2_with fail
     exact ⟨⟨j+1,by omega,by go_num,_,ysF,HX1.o,HX2.o,HX3.o⟩,by simp [intOf];omega⟩
   ·have hje:j=l.length:=by omega
    subst hje
    rw [List.take_length] at hI hE
    have HI2:=Aa hI
    have HE2:=Aa hE
    have HF2:=Aa hF
    clear hI hE hF HC
    go_wp2_with fail
    go_end0
    exact ⟨rfl,cv',ys0,HI2.o,HE2.o,HF2.o⟩
end Go.Proofs.YtfffpjkcfnekaaaGreat.Ex
