/- What is needed: all variables of an expression. -/
import Derived.Test.YtfffpjkcfnekaaaGreatH31
import Derived.Test.YtfffpjkcfnekaaaGreatH30
set_option linter.unusedVariables false
set_option maxHeartbeats 8000000
set_option maxRecDepth 100000
namespace Go.Proofs.YtfffpjkcfnekaaaGreat.Ex
open Go.RowKit Go.Shelf
open Go.Value renaming slice -> O, int -> zd, bool -> ze, agg -> zg, pointer -> zi, tuple -> zj
open Go.IntKind renaming i64 -> U
open Go.Obj renaming cells -> zf
open Go.Ending renaming returned -> zh
attribute [local go_sem] Oper.semAt_some
section
variable {w0:World} {pc:List Value} {ch:Int} {cv fv:Value} {bn bv bi bs:Nat} {st:NS} {W W':World}
theorem NI.blocks (h:NI w0 pc ch cv fv bn bv bi bs st W) (hb:∀ b,b=bn\/b=bv\/b=bi\/b=bs->W'.heap[b]? = W.heap[b]?) (ho:Ov w0 W') (hs:W.heap.size<=W'.heap.size):NI w0 pc ch cv fv bn bv bi bs st W':=
 ⟨ho,A0 (k:=0) h.row (hb _ (Or.inl rfl)),h.len,A0 (k:=0) h.vs (hb _ (Or.inr (Or.inl rfl))),A0 (k:=0) h.cs (hb _ (Or.inr (Or.inr (Or.inl rfl)))),A0 (k:=0) h.nd (hb _ (Or.inr (Or.inr (Or.inr rfl)))),fun b hh=>⟨(h.fz b hh).1,Nat.lt_of_lt_of_le (h.fz b hh).2.1 hs,fun j=>(World.frozen?_of_block (a:=⟨b,j,none⟩) (hb b hh)).trans ((h.fz b hh).2.2 j)⟩,h.ne⟩
theorem Fw (st:NS) (v:Int):(st.needV v).vs.length=st.vs.length:=by
 unfold NS.needV
 split
 ·rfl
 ·simp
theorem DJ:∀ (l:List Int) (st:NS),(l.foldl NS.needV st).vs.length=st.vs.length
 | [],st=>rfl
 | v::l,st=>(DJ l (st.needV v)).trans (Fw st v)
structure VI (w0:World) (pc:List Value) (ch:Int) (cv fv:Value) (bn bv bi bs:Nat) (st:NS) (V:World) (nv:Nat) (pre:List (F5 nv)) (W:World):Prop where
 ni:NI w0 pc ch cv fv bn bv bi bs ((pre.map Subtype.val).foldl NS.needV st) W
 fr:FrW (XN bn bv bi bs) V W
 bx:W.cell? ⟨V.heap.size,0,none⟩=some (zi (some ⟨bn,0,none⟩))
theorem VI.from (nv:Nat) (V:World) (hbV:∀ b,b=bn\/b=bv\/b=bi\/b=bs->b < V.heap.size) (hw:w0.heap.size<=V.heap.size) (B:Nat) (hB:V.heap.size < B):OwnFrom B (VI w0 pc ch cv fv bn bv bi bs st V nv):=by
 intro s A A' row h hg hr
 have hk:∀ k,k < B->k < A.heap.size->A'.heap[k]? = A.heap[k]?:=fun k hk hl=>hg.block k hl (fun e=>by have:=(hr k e.symm).1;omega)
 refine ⟨h.ni.blocks (fun b hb=>hk b (by have:=hbV b hb;omega) (h.ni.fz b hb).2.1) ?_ hg.size,?_,?_⟩
 ·exact h.ni.below.trans ⟨hg.os,hg.tape,hg.output,hg.size,fun k hl=>hk k (by omega) (Nat.lt_of_lt_of_le hl h.ni.below.size)⟩
 ·exact ⟨hg.os.trans h.fr.os,hg.tape.trans h.fr.tape,hg.output.trans h.fr.output,Nat.le_trans h.fr.size hg.size,fun k hl hx=>(hk k (by omega) (Nat.lt_of_lt_of_le hl h.fr.size)).trans (h.fr.block k hl hx),fun k _ hx=>hx⟩
 ·exact (World.cell?_of_block (a:=⟨V.heap.size,0,none⟩) (hk _ hB (bL h.bx))).trans h.bx
end
theorem DW (w0:World) (pc:List Value) (ch:Int) (cv fv:Value) (bn bv bi bs:Nat) (st:NS) (W:World) (h:NI w0 pc ch cv fv bn bv bi bs st W) (K:Nat) (ek en:Int) (xa xl xc d) (hx:RX w0 K [zd U ek,zd U en,O xa xl xc] d) (hv:∀ v∈AR K d,0<=v/\v < (st.vs.length:Int)) (hl:st.vs.length<=1000) :
  Calls Tryz.prog 234 #[zi (some ⟨bn,0,none⟩),zg #[zd U ek,zd U en,O xa xl xc]] W fun e W'=>e=zh (zj #[])/\NI w0 pc ch cv fv bn bv bi bs (st.needX K d) W'/\FrW (XN bn bv bi bs) W W':=by
 obtain ⟨ys,hys⟩:=LZ st.vs.length (AR K d) hv
 have hb1:Ov W (((W.alloc (zf #[zi (some ⟨bn,0,none⟩)] 157)).alloc (zf #[zd U ek,zd U en,O xa xl xc] 94)).alloc (zf #[zd U ek,zd U en,O xa xl xc] 94)):=((bA W _).alloc (by simp) _).alloc (by simp <;> omega) _
 obtain ⟨V,hV⟩:=nm (((W.alloc (zf #[zi (some ⟨bn,0,none⟩)] 157)).alloc (zf #[zd U ek,zd U en,O xa xl xc] 94)).alloc (zf #[zd U ek,zd U en,O xa xl xc] 94))
 have hVs:V.heap.size=W.heap.size+3:=by rw [hV];simp
 have k0:V.cell? ⟨W.heap.size+1+1,0,none⟩=some (zd U ek):=by rw [hV];simp [go_sem]
 have k1:V.cell? ⟨W.heap.size+1+1,1,none⟩=some (zd U en):=by rw [hV];simp [go_sem]
 have k2:V.cell? ⟨W.heap.size+1+1,2,none⟩=some (O xa xl xc):=by rw [hV];simp [go_sem]
 have kb:V.cell? ⟨W.heap.size,0,none⟩=some (zi (some ⟨bn,0,none⟩)):=by rw [hV];simp [go_sem]
 rw [<-hV] at hb1
 have hb0:Ov w0 V:=h.below.trans (hb1.mono h.below.size)
 have hlt:∀ b,b=bn\/b=bv\/b=bi\/b=bs->b < W.heap.size:=fun b hh=>(h.fz b hh).2.1
 have HST:=Aa (GS Fence.wide rfl 2 trivial trivial rfl st.vs.length (W.heap.size+1+1) K w0 ek en xa xl xc d ys V (by rw [hVs];omega) hb0 k0 k1 k2 hx hys)
 have HI0:Hx (VI w0 pc ch cv fv bn bv bi bs st W st.vs.length [] V):=⟨h.over hb1,FrW.of_below (Db _ _ _ _) hb1,kb⟩
 have HFR:=Aa (VI.from (w0:=w0) (pc:=pc) (ch:=ch) (cv:=cv) (fv:=fv) (st:=st) st.vs.length W hlt h.below.size V.heap.size (by rw [hVs];omega))
 have HYS:=Aa hys
 have HLT0:=Aa hlt
 have HLO:=Aa h.below.size
 have HVS:=Aa hVs
 have HV:=Aa hV
 have hn:st.vs.length<=1000:=hl
 clear hb1 hb0 k0 k1 k2 kb hx hv hys h hlt hVs
 refine (callsIn_wide (n:=3)).1 ?_
 refine callsIn_of_wp_marks Tryz.func234 rfl trivial ?_ rfl
 simp only [Tryz.ntmps234,List.size_toArray,List.length_cons,List.length_nil,Nat.reduceAdd,Nat.reduceSub,Array.replicate_succ,Array.replicate_zero,List.push_toArray,List.append_toArray,List.nil_append,List.cons_append]
 gi_wp2_with (refine ⟨trivial,?_⟩;gi_at_call 164;refine (Kp Fence.wide _ trivial rfl _ _ _ _ _ _).mono ?_;rintro e w' ⟨rfl,rfl⟩)
 rw [<-HV.o]
 clear hV HV
 refine wpIn_rangeFunc_ownF (F:=Fence.wide) rfl (by omega) (gf:=210) (lb:=#[zi (some ⟨W.heap.size+1+1,0,none⟩)]) rfl trivial (enters_of Tryz.func210 (by kernel_rfl) rfl)
  HST.o belowK_t (belowK_b (by have:=HLO.o;have:=HVS.o;omega)) (Below.refl _ _) (fun _=>rfl)
  (fun pre W2=>VI w0 pc ch cv fv bn bv bi bs st W st.vs.length pre W2)
  (fun _ _ _=>False) HFR.o (fun _ _ _ _ _ hs _ _=>hs) HI0.o
  (fun x=>{ tmps:=#[zi (some ⟨bn,0,none⟩),zg #[zd U ek,zd U en,O xa xl xc],zi (some ⟨W.heap.size,0,none⟩),zi (some ⟨W.heap.size+1,0,none⟩),zd U x.1,zg #[zd U ek,zd U en,O xa xl xc],.func (.func 210) #[] #[zi (some ⟨W.heap.size+1+1,0,none⟩)],zd U x.1,undef,undef,undef,undef,undef,undef,undef],defers:=[] }) ?assign ?body ?done ?stop
 case assign=>
  intro l x W K hK
  gi_wp2
  exact hK
 case body=>
  clear HST HI0 HFR HYS
  rintro lo pre x W2 hI _
  obtain ⟨x,hx0,hx1⟩:=x
  obtain ⟨j,rfl⟩:∃ j:Nat,x=(j:Int):=⟨x.toNat,by omega⟩
  obtain ⟨st2,hst2⟩:=nm ((pre.map Subtype.val).foldl NS.needV st)
  have hlen:st2.vs.length=st.vs.length:=by rw [hst2];exact DJ _ _
  have hni:=hI.ni
  rw [<-hst2] at hni
  have hj:j < st2.vs.length:=by omega
  have HLT:Hx (∀ b,b=bn\/b=bv\/b=bi\/b=bs->b < W.heap.size):=HLT0.o
  have K1:=Aa (Ld (hni.over (bD W2)) j hj (by omega))
  have c11:=hni.cells.2.2.2.1
  have cb:=hI.bx
  have HEND:Hx (∀ wj,NI w0 pc ch cv fv bn bv bi bs (st2.needV (j:Int)) wj->FrW (XN bn bv bi bs) W2.drew wj->KeepsOthers W2.drew wj->Below w0.heap.size W2.drew wj->KeepsOthers W2 wj/\Below w0.heap.size W2 wj/\VI w0 pc ch cv fv bn bv bi bs st W st.vs.length (pre++[⟨(j:Int),hx0,hx1⟩]) wj):=fun wj h1 h2 h3 h4=>by
   refine ⟨(GC (bD W2)).trans h3,((bD W2).mono (hI.ni.below.size)).trans h4,⟨?_,(hI.fr.trans (FrW.of_below (Db _ _ _ _) (bD W2))).trans h2,?_⟩⟩
   ·rw [List.map_append,List.foldl_append,<-hst2]
    exact h1
   ·exact h2.cell hI.bx (fun hx=>by have:=HLT.o _ hx;omega)
  rw [hlen] at c11 K1
  have HSJ:Hx (∀ wj,NI w0 pc ch cv fv bn bv bi bs (st2.needV (j:Int)) wj->FrW (XN bn bv bi bs) W2.drew wj->CE wj W.heap.size 0 (zi (some ⟨bn,0,none⟩))/\CE wj bn 11 (O (some ⟨bv,0,none⟩) st.vs.length st.vs.length)):=fun wj h1 h2=>⟨h2.cell hI.bx (fun hx=>by have:=HLT.o _ hx;omega),by have:=h1.cells.2.2.2.1;rw [Fw,hlen] at this;exact this⟩
  clear hst2 hni hI hj
  have hmx:Tryz.prog.follows .mixedOrders=true:=by kernel_rfl
  have hd1:1<=3 - 1 - 1:=by omega
  obtain ⟨nv,hnv⟩:=nm st.vs.length
  gi_wp2
  refine FH (S:=fun Wz=>CE Wz W.heap.size 0 (zi (some ⟨bn,0,none⟩))/\CE Wz bn 11 (O (some ⟨bv,0,none⟩) st.vs.length st.vs.length)) hmx ?_ ?_
  ·intro i o ho c hc
   match i with
   | 0 | 1 | 2 | 3 | 4 | 5 | 6=>simp at ho;subst ho;cases hc
   | i+7=>simp at ho
  have hSS:(fun Wz=>CE Wz W.heap.size 0 (zi (some ⟨bn,0,none⟩))/\CE Wz bn 11 (O (some ⟨bv,0,none⟩) st.vs.length st.vs.length)) W2.drew:=⟨cb,c11⟩
  refine kT 0 ?_
  refine kT 1 ?_
  refine kT 2 ?_
  refine kT 3 ?_
  refine kT 4 ?_
  refine kT 5 ?_
  refine rdA 6 rfl fun K hK=>?_
  go_simp
  refine K1.o.mono ?_
  rintro e wj ⟨rfl,h1,h2,h3,h4⟩
  have HSJ2:=HSJ.o wj h1 h2
  have HEND2:=Aa (HEND.o wj h1 h2 h3 h4)
  clear h1 h2 h3 h4
  go_simp
  refine xK hK HSJ2 fun hHeld=>?_
  clear hK K
  refine gE ?_
  exact HEND2.o
 case done=>
  rintro D zs W2 hD rfl hI hK
  gi_wp2
  have hI2:=HFR.o.putObj (.deferred none) hI hD hK rfl
  refine ⟨by simp,.inl ⟨_,_,rfl,run_takeDeferred hK,?_⟩⟩
  refine ⟨zj #[],by simp [results,Tryz.f234,go_sem],rfl,?_,hI2.fr⟩
  have:=hI2.ni
  rw [HYS.o] at this
  exact this
 case stop=>
  rintro D c pre W _ _ h _
  exact h.elim
end Go.Proofs.YtfffpjkcfnekaaaGreat.Ex
namespace Go.Proofs.YtfffpjkcfnekaaaGreat.Ex
open Go.RowKit
open Go.Value renaming slice -> O, int -> zd, bool -> ze, agg -> zg, pointer -> zi, tuple -> zj
open Go.IntKind renaming i64 -> U
open Go.Obj renaming cells -> zf
open Go.Ending renaming returned -> zh
theorem Fy (st:NS) (v:Int):(st.needC v).cs.length=st.cs.length/\(st.needC v).vs.length=st.vs.length/\(st.needC v).nd.length=st.nd.length:=by
 unfold NS.needC
 split
 ·exact ⟨rfl,rfl,rfl⟩
 ·exact ⟨by simp,rfl,rfl⟩
theorem G9 (st:NS) (v:Int):(st.needV v).cs.length=st.cs.length/\(st.needV v).nd.length=st.nd.length:=by
 unfold NS.needV
 split
 ·exact ⟨rfl,rfl⟩
 ·exact ⟨rfl,rfl⟩
theorem Dd:∀ (l:List Int) (st:NS),(l.foldl NS.needV st).cs.length=st.cs.length/\(l.foldl NS.needV st).nd.length=st.nd.length
 | [],st=>⟨rfl,rfl⟩
 | v::l,st=>by
  have h1:=Dd l (st.needV v)
  have h2:=G9 st v
  exact ⟨h1.1.trans h2.1,h1.2.trans h2.2⟩
theorem CQ (K:Nat) (st:NS) (d:D):(st.needX K d).vs.length=st.vs.length/\(st.needX K d).cs.length=st.cs.length/\(st.needX K d).nd.length=st.nd.length:=⟨DJ _ _,(Dd _ _).1,(Dd _ _).2⟩
theorem JI {w0:World} {pc:List Value} {ch:Int} {cv fv:Value} {bn bv bi bs:Nat} {st:NS} {W:World} (h:NI w0 pc ch cv fv bn bv bi bs st W) (hlv:st.vs.length<=1000) (K:Nat) (e ek en:Int) (xa xl xc aa al ac ta tl tc ea el ec) (x:D) (hx:RX w0 K [zd U ek,zd U en,O xa xl xc] x) (hxv:∀ v∈AR K x,0<=v/\v < (st.vs.length:Int)) (kd va ot:Int) (h2:kd≠2) (h3:kd≠3) :
  Calls Tryz.prog 198 #[zi (some ⟨bn,0,none⟩),zg #[zd U kd,zd U va,zd U ot,zd U ek,zd U en,O xa xl xc,O aa al ac,O ta tl tc,O ea el ec,zd U e]] W fun r W'=>r=zh (zj #[])/\NI w0 pc ch cv fv bn bv bi bs (st.needX K x) W'/\FrW (XN bn bv bi bs) W W':=by
 have hb:Ov W (W.alloc (zf #[zd U kd,zd U va,zd U ot,zd U ek,zd U en,O xa xl xc,O aa al ac,O ta tl tc,O ea el ec,zd U e] 249)):=bA W _
 obtain ⟨V,hV⟩:=nm (W.alloc (zf #[zd U kd,zd U va,zd U ot,zd U ek,zd U en,O xa xl xc,O aa al ac,O ta tl tc,O ea el ec,zd U e] 249))
 have hrow:Ad [zd U kd,zd U va,zd U ot,zd U ek,zd U en,O xa xl xc,O aa al ac,O ta tl tc,O ea el ec,zd U e] V W.heap.size:=by rw [hV];exact Ay W [zd U kd,zd U va,zd U ot,zd U ek,zd U en,O xa xl xc,O aa al ac,O ta tl tc,O ea el ec,zd U e] 249
 rw [<-hV] at hb
 have hlt:∀ b,b=bn\/b=bv\/b=bi\/b=bs->b < W.heap.size:=fun b hh=>(h.fz b hh).2.1
 have HLT:=Aa hlt
 have hN:=h.over hb
 have HFV:Hx (FrW (XN bn bv bi bs) W V):=FrW.of_below (Db _ _ _ _) hb
 have hsx:∀ X,¬ XN bn bv bi bs X W.heap.size:=fun X hh=>by have:=hlt _ hh;omega
 have KX:=Aa (DW w0 pc ch cv fv bn bv bi bs st V hN K ek en xa xl xc x hx hxv hlv)
 have HROW:=Aa hrow
 have HSX:=Aa hsx
 have k3:=hrow 3 _ rfl
 have k4:=hrow 4 _ rfl
 have k5:=hrow 5 _ rfl
 clear hx hxv hb hrow h hlt hsx hN
 go_enter Tryz.func198,Tryz.ntmps198
 go_wp2_with fail
 rw [<-hV]
 clear hV
 refine KX.o.mono ?_
 rintro r W1 ⟨rfl,hN1,hF1⟩
 have hr1:=hF1.row HROW.o (HSX.o V)
 have q0:=hr1 0 _ rfl
 have q1:=hr1 1 _ rfl
 have q2:=hr1 2 _ rfl
 clear k3 k4 k5 KX
 have HFIN:Hx (NI w0 pc ch cv fv bn bv bi bs (st.needX K x) W1/\FrW (XN bn bv bi bs) W W1):=⟨hN1,HFV.o.trans hF1⟩
 clear hN1 hF1 hr1
 go_wp2_with fail
 go_end0
 exact ⟨rfl,HFIN.o.1,HFIN.o.2⟩
theorem JJ {w0:World} {pc:List Value} {ch:Int} {cv fv:Value} {bn bv bi bs:Nat} {st:NS} {W:World} (h:NI w0 pc ch cv fv bn bv bi bs st W) (hlv:st.vs.length<=1000) (K:Nat) (e ek en:Int) (xa xl xc aa al ac ta tl tc ea el ec) (x:D) (hx:RX w0 K [zd U ek,zd U en,O xa xl xc] x) (hxv:∀ v∈AR K x,0<=v/\v < (st.vs.length:Int)) (va:Int) (jo:Nat) (hc:jo < st.cs.length) (hlc:st.cs.length<=1000) :
  Calls Tryz.prog 198 #[zi (some ⟨bn,0,none⟩),zg #[zd U 3,zd U va,zd U (jo:Int),zd U ek,zd U en,O xa xl xc,O aa al ac,O ta tl tc,O ea el ec,zd U e]] W fun r W'=>r=zh (zj #[])/\NI w0 pc ch cv fv bn bv bi bs ((st.needX K x).needC (jo:Int)) W'/\FrW (XN bn bv bi bs) W W':=by
 have hb:Ov W (W.alloc (zf #[zd U 3,zd U va,zd U (jo:Int),zd U ek,zd U en,O xa xl xc,O aa al ac,O ta tl tc,O ea el ec,zd U e] 249)):=bA W _
 obtain ⟨V,hV⟩:=nm (W.alloc (zf #[zd U 3,zd U va,zd U (jo:Int),zd U ek,zd U en,O xa xl xc,O aa al ac,O ta tl tc,O ea el ec,zd U e] 249))
 have hrow:Ad [zd U 3,zd U va,zd U (jo:Int),zd U ek,zd U en,O xa xl xc,O aa al ac,O ta tl tc,O ea el ec,zd U e] V W.heap.size:=by rw [hV];exact Ay W [zd U 3,zd U va,zd U (jo:Int),zd U ek,zd U en,O xa xl xc,O aa al ac,O ta tl tc,O ea el ec,zd U e] 249
 rw [<-hV] at hb
 have hlt:∀ b,b=bn\/b=bv\/b=bi\/b=bs->b < W.heap.size:=fun b hh=>(h.fz b hh).2.1
 have HLT:=Aa hlt
 have hN:=h.over hb
 have HFV:Hx (FrW (XN bn bv bi bs) W V):=FrW.of_below (Db _ _ _ _) hb
 have hsx:∀ X,¬ XN bn bv bi bs X W.heap.size:=fun X hh=>by have:=hlt _ hh;omega
 have KX:=Aa (DW w0 pc ch cv fv bn bv bi bs st V hN K ek en xa xl xc x hx hxv hlv)
 have HROW:=Aa hrow
 have HSX:=Aa hsx
 have k3:=hrow 3 _ rfl
 have k4:=hrow 4 _ rfl
 have k5:=hrow 5 _ rfl
 clear hx hxv hb hrow h hlt hsx hN
 go_enter Tryz.func198,Tryz.ntmps198
 go_wp2_with fail
 rw [<-hV]
 clear hV
 refine KX.o.mono ?_
 rintro r W1 ⟨rfl,hN1,hF1⟩
 have hr1:=hF1.row HROW.o (HSX.o V)
 have q0:=hr1 0 _ rfl
 have q1:=hr1 1 _ rfl
 have q2:=hr1 2 _ rfl
 clear k3 k4 k5 KX
 have hle:=CQ K st x
 have KC:=Aa (Lf (hN1.over (bD W1)) jo (by rw [hle.2.1];exact hc) (by rw [hle.2.1];exact hlc))
 have n12:=hN1.cells.2.2.2.2.1
 obtain ⟨nc,hnc⟩:=nm st.cs.length
 rw [hle.2.1,<-hnc] at n12 KC
 have HEND:Hx (∀ Wj,NI w0 pc ch cv fv bn bv bi bs ((st.needX K x).needC (jo:Int)) Wj->FrW (XN bn bv bi bs) W1.drew Wj->(CE Wj W.heap.size 2 (zd U (jo:Int))/\CE Wj bn 12 (O (some ⟨bi,0,none⟩) nc nc))/\FrW (XN bn bv bi bs) W Wj):=fun Wj h1 h2=>by
  refine ⟨⟨h2.cell q2 (HSX.o _),?_⟩,(HFV.o.trans hF1).trans ((FrW.of_below (Db _ _ _ _) (bD W1)).trans h2)⟩
  have:=h1.cells.2.2.2.2.1
  rw [(Fy _ _).1,hle.2.1,<-hnc] at this
  exact this
 clear hN1 hF1 hr1 hle hc hlc hnc hlv HLT HFV HROW
 go_wp2_with fail
 refine gS (fun Wz=>CE Wz W.heap.size 2 (zd U (jo:Int))/\CE Wz bn 12 (O (some ⟨bi,0,none⟩) nc nc)) ⟨q2,n12⟩ fun hHeld=>?_
 refine kT 0 ?_
 refine kT 1 ?_
 refine kT 2 ?_
 refine kT 3 ?_
 refine kT 4 ?_
 refine kT 5 ?_
 refine kT 6 ?_
 refine kT 7 ?_
 refine rdA 8 rfl fun K hK=>?_
 go_simp
 refine KC.o.mono ?_
 rintro r W2 ⟨rfl,h1,h2⟩
 have hE:=HEND.o W2 h1 h2
 have HE:=Aa (And.intro h1 hE.2)
 have hS:=hE.1
 clear h1 h2 hE
 go_simp
 refine xK hK hS fun hHeld=>?_
 clear hK K
 refine gE ?_
 go_wp2_with fail
 go_end0
 exact ⟨rfl,HE.o.1,HE.o.2⟩
theorem IW (K:Nat) (st:NS) (q:Int × D):(needA K st q).vs.length=st.vs.length/\(needA K st q).cs.length=st.cs.length/\(needA K st q).nd.length=st.nd.length:=by
 unfold needA
 split
 ·exact CQ K st q.2
 ·exact ⟨rfl,rfl,rfl⟩
theorem DK (K:Nat):∀ (l:List (Int × D)) (st:NS),(l.foldl (needA K) st).vs.length=st.vs.length/\(l.foldl (needA K) st).cs.length=st.cs.length/\(l.foldl (needA K) st).nd.length=st.nd.length
 | [],st=>⟨rfl,rfl,rfl⟩
 | q::l,st=>by
  have h1:=DK K l (needA K st q)
  have h2:=IW K st q
  exact ⟨h1.1.trans h2.1,h1.2.1.trans h2.2.1,h1.2.2.trans h2.2.2⟩
theorem Jh {ps:List Int} {ags:List D} {m:Nat} (h1:m < ps.length) (h2:m < ags.length):(ps.zip ags).take (m+1)=(ps.zip ags).take m++[(ps[m],ags[m])]:=by
 rw [List.take_succ_eq_append_getElem (by rw [List.length_zip];omega),List.getElem_zip]
theorem JK {w0:World} {pc:List Value} {ch:Int} {cv fv:Value} {bn bv bi bs:Nat} {st:NS} {W:World} (h:NI w0 pc ch cv fv bn bv bi bs st W) (hlv:st.vs.length<=1000) (K:Nat) (e ek en:Int) (xa xl xc al ac ta tl tc ea el ec) (x:D) (hx:RX w0 K [zd U ek,zd U en,O xa xl xc] x) (hxv:∀ v∈AR K x,0<=v/\v < (st.vs.length:Int)) (jv jo:Nat) (hv:jv < st.vs.length) (kf:Nat) (fs:List FnD) (fa:Option Addr) (fn fc:Nat) (hpf:pc[6]? = some (O fa fn fc)) (hF:AL w0 K kf (O fa fn fc) fs) (f:FnD) (hf:fs[jo]? = some f) (hf5:fs.length<=1000) (ags:List D) (aa:Option Addr) (hA:XS 3 (RX w0 K) w0 (O aa al ac) ags) (hpl:f.ps.length=ags.length) (hp1:ags.length<=1000) (hpv:∀ p∈f.ps,0<=p/\p < (st.vs.length:Int)) (hav:∀ a∈ags,∀ v∈AR K a,0<=v/\v < (st.vs.length:Int)) (hrv:∀ v∈AR K f.res,0<=v/\v < (st.vs.length:Int)) :
  Calls Tryz.prog 198 #[zi (some ⟨bn,0,none⟩),zg #[zd U 2,zd U (jv:Int),zd U (jo:Int),zd U ek,zd U en,O xa xl xc,O aa al ac,O ta tl tc,O ea el ec,zd U e]] W fun r W'=>r=zh (zj #[])/\NI w0 pc ch cv fv bn bv bi bs (bif ((f.ps.zip ags).foldl (needA K) (st.needX K x)).vs.getD jv false then ((f.ps.zip ags).foldl (needA K) (st.needX K x)).needX K f.res else (f.ps.zip ags).foldl (needA K) (st.needX K x)) W'/\FrW (XN bn bv bi bs) W W':=by
 have hb:Ov W (W.alloc (zf #[zd U 2,zd U (jv:Int),zd U (jo:Int),zd U ek,zd U en,O xa xl xc,O aa al ac,O ta tl tc,O ea el ec,zd U e] 249)):=bA W _
 obtain ⟨V,hV⟩:=nm (W.alloc (zf #[zd U 2,zd U (jv:Int),zd U (jo:Int),zd U ek,zd U en,O xa xl xc,O aa al ac,O ta tl tc,O ea el ec,zd U e] 249))
 have hrow:Ad [zd U 2,zd U (jv:Int),zd U (jo:Int),zd U ek,zd U en,O xa xl xc,O aa al ac,O ta tl tc,O ea el ec,zd U e] V W.heap.size:=by rw [hV];exact Ay W [zd U 2,zd U (jv:Int),zd U (jo:Int),zd U ek,zd U en,O xa xl xc,O aa al ac,O ta tl tc,O ea el ec,zd U e] 249
 rw [<-hV] at hb
 have hlt:∀ b,b=bn\/b=bv\/b=bi\/b=bs->b < W.heap.size:=fun b hh=>(h.fz b hh).2.1
 have HLT:=Aa hlt
 have hN:=h.over hb
 have HFV:Hx (FrW (XN bn bv bi bs) W V):=FrW.of_below (Db _ _ _ _) hb
 have hsx:∀ X,¬ XN bn bv bi bs X W.heap.size:=fun X hh=>by have:=hlt _ hh;omega
 have KX:=Aa (DW w0 pc ch cv fv bn bv bi bs st V hN K ek en xa xl xc x hx hxv hlv)
 have HROW:=Aa hrow
 have HSX:=Aa hsx
 have k3:=hrow 3 _ rfl
 have k4:=hrow 4 _ rfl
 have k5:=hrow 5 _ rfl
 have n6:=hN.prog 6 _ hpf
 have HF:=Aa hF
 have HA:=Aa hA
 have HPV:=Aa hpv
 have HAV:=Aa hav
 have HRV:=Aa hrv
 have HPL:=Aa hpl
 have HPF:=Aa hpf
 have HP1:=Aa hp1
 have HHV:=Aa hv
 obtain ⟨ho,hfe0⟩:=List.getElem?_eq_some_iff.1 hf
 have HO:=Aa ho
 have HFE:Hx (∀ h:jo < fs.length,fs[jo]'h=f):=fun _=>hfe0
 clear hx hxv hb hrow h hlt hsx hN hF hA hpv hav hrv hpl hpf hp1 n6 hf hfe0 ho
 go_enter Tryz.func198,Tryz.ntmps198
 go_wp2_with fail
 rw [<-hV]
 clear hV
 refine KX.o.mono ?_
 rintro r W1 ⟨rfl,hN1,hF1⟩
 have hr1:=hF1.row HROW.o (HSX.o V)
 have q0:=hr1 0 _ rfl
 have q1:=hr1 1 _ rfl
 have q2:=hr1 2 _ rfl
 clear k3 k4 k5 KX
 obtain ⟨hfm,fa2,fc2,hfe,hfel⟩:=id HF.o
 injection hfe with f1 f2 f3
 obtain ⟨fb,fo,hfo,hfel⟩:=hfel (by intro h;have:=HO.o;rw [h] at this;simp at this)
 have hq:=hfel jo HO.o
 rw [HFE.o HO.o] at hq
 obtain ⟨vP,vB,z0,z1,z2,p0,p1,p2,p3,p4,hPs,hPok,hBs,hRs⟩:=hq
 obtain ⟨-,pa,pcp,rfl,-⟩:=id hPok
 obtain ⟨-,za,zc,rfl,-⟩:=id hBs
 obtain ⟨ra,rc,hre⟩:=hRs.form
 injection hre with e0 hre
 injection hre with e1 hre
 injection hre with e2 hre
 subst e0 e1 e2
 obtain ⟨p0,p1,p2,p3,p4⟩:=co5 hN1.below p0 p1 p2 p3 p4
 replace p0:W1.cell? ⟨fb,fo+jo*5,none⟩=_:=p0
 have n6:CE W1 bn 6 (O fa fn fc):=hN1.prog 6 _ HPF.o
 subst f1 f2 hfo
 obtain ⟨pa2,pcp2,hpe2,HPEL⟩:=hPs
 injection hpe2 with g1 g2 g3
 have HPEL:=Aa HPEL
 subst g1
 have HRES:=Aa hRs
 obtain ⟨pl,hpln⟩:=nm f.ps.length
 have HPLN:=Aa hpln
 obtain ⟨zn,hzn⟩:=nm f.body.length
 obtain ⟨rk,hrk⟩:=nm (Ap f.res)
 obtain ⟨rn,hrn⟩:=nm (AA f.res)
 obtain ⟨rl,hrl⟩:=nm (Ar f.res).length
 rw [<-hpln] at p0
 rw [<-hzn] at p1
 rw [<-hrk] at p2 HRES
 rw [<-hrn] at p3 HRES
 rw [<-hrl] at p4 HRES
 obtain ⟨fl,hfl⟩:=nm fs.length
 have ho1:(jo:Int) < (fl:Int):=by have:=HO.o;omega
 have hfl1:fl<=1000:=by omega
 rw [<-hfl] at n6
 have HN1:=Aa hN1
 have HF1:=Aa hF1
 have HR1:=Aa hr1
 have HSZ:Hx (W.heap.size<=W1.heap.size):=Nat.le_trans HFV.o.size hF1.size
 clear hN1 hF1 hr1 hfel hPok hBs hRs hre hpln hzn hrk hrn hrl hfl hfm g2 g3 f3 hf5
 go_wp2_with fail
 refine gS (fun Wz=>Below W1.heap.size W1 Wz) (Below.refl _ _).drew fun hHeld=>?_
 refine kO 0 ?_
 refine kO 1 ?_
 refine kO 2 ?_
 refine kO 3 ?_
 refine kO 4 ?_
 refine kO 5 ?_
 refine kO 6 ?_
 refine kO 7 ?_
 refine kO 8 ?_
 refine kO 9 ?_
 refine rdA 10 rfl fun K hK=>?_
 go_simp
 refine xK hK ((bA _ _).drew) fun hHeld=>?_
 clear hK K
 refine rdA 11 rfl fun K hK=>?_
 go_simp
 refine xK hK ((bA _ _).drew) fun hHeld=>?_
 clear hK K
 refine gE ?_
 have hb5:Ov W1 ((W1.alloc (zf #[O pa pl pcp,O za zn zc,zd U rk,zd U rn,O ra rl rc] 105)).drew):=(bA _ _).drew
 have rowF:Ad [O pa pl pcp,O za zn zc,zd U rk,zd U rn,O ra rl rc] ((W1.alloc (zf #[O pa pl pcp,O za zn zc,zd U rk,zd U rn,O ra rl rc] 105)).drew) W1.heap.size:=Ay W1 [O pa pl pcp,O za zn zc,zd U rk,zd U rn,O ra rl rc] 105
 obtain ⟨V5,hV5⟩:=nm ((W1.alloc (zf #[O pa pl pcp,O za zn zc,zd U rk,zd U rn,O ra rl rc] 105)).drew)
 rw [<-hV5] at hb5 rowF ⊢
 have HN5:=Aa (HN1.o.over hb5)
 have HF5:Hx (FrW (XN bn bv bi bs) W V5):=(HFV.o.trans HF1.o).trans (FrW.of_below (Db _ _ _ _) hb5)
 have HR5:Hx (Ad [zd U 2,zd U (jv:Int),zd U (jo:Int),zd U ek,zd U en,O xa xl xc,O aa al ac,O ta tl tc,O ea el ec,zd U e] V5 W.heap.size):=HR1.o.over hb5
 have HRF:=Aa rowF
 have HGX:Hx (∀ X,¬ XN bn bv bi bs X W1.heap.size):=fun X hh=>by have h1:=HLT.o _ hh;have h2:=HSZ.o;omega
 have f0:=rowF 0 _ rfl
 have hpl2:pl<=1000:=by rw [HPLN.o,HPL.o];exact HP1.o
 clear hV5 hb5 rowF
 go_wp2_with fail
 go_loopw [41] (fun i wr=>∃ m:Nat,m<=pl/\i=zd U m/\NI w0 pc ch cv fv bn bv bi bs (((f.ps.zip ags).take m).foldl (needA K) (st.needX K x)) wr/\FrW (XN bn bv bi bs) V5 wr) (fun i _=>pl - (intOf i).toNat)
 case atStart=>exact ⟨0,Nat.zero_le _,rfl,HN5.o,FrW.refl _⟩
 case round=>
  clear f0
  obtain ⟨m,hm,rfl,hNr,hFr⟩:=hrel
  have hrr:=hFr.row HR5.o (HSX.o _)
  have hrf:=hFr.row HRF.o (HGX.o _)
  have hlen:=(DK K ((f.ps.zip ags).take m) (st.needX K x)).1.trans (CQ K st x).1
  by_cases hlt:m < pl
  ·have hm1:m < f.ps.length:=by rw [<-HPLN.o];exact hlt
   have hm2:m < ags.length:=by rw [<-HPL.o];exact hm1
   obtain ⟨bp,zp,hpo,hpe⟩:=HPEL.o (by intro h;rw [h] at hm1;simp at hm1)
   have q0:=Ab hNr.below _ _ (hpe m hm1)
   obtain ⟨pj,hpj⟩:∃ j:Nat,f.ps[m]=(j:Int):=⟨f.ps[m].toNat,by have:=(HPV.o _ (List.getElem_mem hm1)).1;omega⟩
   have hpj2:pj < st.vs.length:=by have:=(HPV.o _ (List.getElem_mem hm1)).2;omega
   rw [hpj] at q0
   have n11:=hNr.cells.2.2.2.1
   have hbv:=BW hNr.vs (i:=pj) (by rw [hlen];exact hpj2)
   have HZN:Hx (((f.ps.zip ags).take (m+1)).foldl (needA K) (st.needX K x)=needA K (((f.ps.zip ags).take m).foldl (needA K) (st.needX K x)) ((pj:Int),ags[m])):=by
    show _=_
    rw [Jh hm1 hm2,List.foldl_append,hpj]
    rfl
   obtain ⟨sm,hsm⟩:=nm (((f.ps.zip ags).take m).foldl (needA K) (st.needX K x))
   rw [<-hsm] at hNr hlen n11 hbv HZN
   rw [hlen] at n11
   have hpj3:(pj:Int) < (st.vs.length:Int):=by omega
   have hm3:(m:Int) < (pl:Int):=by omega
   subst hpo
   obtain ⟨bb,hbb⟩:=nm (sm.vs.getD pj false)
   rw [<-hbb] at hbv
   have q6:=hrr 6 _ rfl
   obtain ⟨nv,hnv⟩:=nm st.vs.length
   rw [<-hnv] at n11 hpj3
   cases bb with
   | false=>
    have HFIN:Hx (NI w0 pc ch cv fv bn bv bi bs (((f.ps.zip ags).take (m+1)).foldl (needA K) (st.needX K x)) wr/\FrW (XN bn bv bi bs) V5 wr):=by
     refine ⟨?_,hFr⟩
     rw [HZN.o]
     unfold needA
     rw [if_neg (by show ¬ sm.vs.getD (pj:Int).toNat false=true;rw [show (pj:Int).toNat=pj from rfl,<-hbb];decide)]
     exact hNr
    clear hNr hFr hrr hrf hlen hsm hbb hnv HZN hpj hpe
    go_wp2_with fail
    exact ⟨⟨m+1,by omega,by go_num,HFIN.o.1,HFIN.o.2⟩,by simp [intOf];omega⟩
   | true=>
    obtain ⟨-,aa2,ac2,hae,hael⟩:=id HA.o
    injection hae with a1 a2 a3
    obtain ⟨ab,ao,hao,hael⟩:=hael (by rintro rfl;simp at hm2)
    obtain ⟨cs,hcl,hcc,hcx⟩:=hael m ags[m] (List.getElem?_eq_getElem hm2)
    obtain ⟨y1,y2,hy⟩:=hcx.form
    have e0:=Ab hNr.below _ _ (hcc 0 _ (by rw [hy];rfl))
    have e1:=Ab hNr.below _ _ (hcc 1 _ (by rw [hy];rfl))
    have e2:=Ab hNr.below _ _ (hcc 2 _ (by rw [hy];rfl))
    replace e0:wr.cell? ⟨ab,ao+m*3,none⟩=_:=e0
    rw [hy] at hcx
    have KX:=Aa (DW w0 pc ch cv fv bn bv bi bs sm wr hNr K _ _ _ _ _ ags[m] hcx (fun v hv=>by rw [hlen];exact HAV.o _ (List.getElem_mem hm2) v hv) (by rw [hlen];exact hlv))
    have HFIN:Hx (∀ W6,NI w0 pc ch cv fv bn bv bi bs (sm.needX K ags[m]) W6->FrW (XN bn bv bi bs) wr W6->NI w0 pc ch cv fv bn bv bi bs (((f.ps.zip ags).take (m+1)).foldl (needA K) (st.needX K x)) W6/\FrW (XN bn bv bi bs) V5 W6):=fun W6 h1 h2=>by
     refine ⟨?_,hFr.trans h2⟩
     rw [HZN.o]
     unfold needA
     rw [if_pos (by show sm.vs.getD (pj:Int).toNat false=true;rw [show (pj:Int).toNat=pj from rfl,<-hbb])]
     exact h1
    obtain ⟨k1,hk1⟩:=nm (Ap ags[m])
    obtain ⟨k2,hk2⟩:=nm (AA ags[m])
    obtain ⟨k3,hk3⟩:=nm (Ar ags[m]).length
    rw [<-hk1] at e0 KX
    rw [<-hk2] at e1 KX
    rw [<-hk3] at e2 KX
    subst hao
    rw [a1] at q6
    have hal:(m:Int) < (al:Int):=by rw [a2];omega
    have hal2:al<=1000:=by rw [a2];exact HP1.o
    clear hNr hFr hrr hrf hlen hsm hbb hnv HZN hpj hpe hael hcc hcl hcx hy hk1 hk2 hk3 a1 a2 a3
    go_wp2_with fail
    refine KX.o.mono ?_
    rintro r W6 ⟨rfl,h1,h2⟩
    have HF6:=Aa (HFIN.o W6 h1 h2)
    clear h1 h2
    go_wp2_with fail
    exact ⟨⟨m+1,by omega,by go_num,HF6.o.1,HF6.o.2⟩,by simp [intOf];omega⟩
  ·have hme:m=pl:=by omega
   have htk:(f.ps.zip ags).take m=f.ps.zip ags:=List.take_of_length_le (by rw [List.length_zip,<-HPL.o,<-HPLN.o];omega)
   rw [htk] at hNr hlen
   obtain ⟨sm,hsm⟩:=nm ((f.ps.zip ags).foldl (needA K) (st.needX K x))
   rw [<-hsm] at hNr hlen
   have n11:=hNr.cells.2.2.2.1
   have hbv:=BW hNr.vs (i:=jv) (by rw [hlen];exact HHV.o)
   rw [hlen] at n11
   have q1:=hrr 1 _ rfl
   have g2:=hrf 2 _ rfl
   have g3:=hrf 3 _ rfl
   have g4:=hrf 4 _ rfl
   have HFW:Hx (FrW (XN bn bv bi bs) W wr):=HF5.o.trans hFr
   have KX:=Aa fun (Wz:World) (hz:Ov wr Wz)=>DW w0 pc ch cv fv bn bv bi bs sm Wz (hNr.over hz) K _ _ _ _ _ f.res HRES.o (fun v hv=>by rw [hlen];exact HRV.o v hv) (by rw [hlen];exact hlv)
   obtain ⟨bb,hbb⟩:=nm (sm.vs.getD jv false)
   have HNR:=Aa hNr
   have HIF:Hx (∀ Wx,NI w0 pc ch cv fv bn bv bi bs (bif bb then sm.needX K f.res else sm) Wx->NI w0 pc ch cv fv bn bv bi bs (bif ((f.ps.zip ags).foldl (needA K) (st.needX K x)).vs.getD jv false then ((f.ps.zip ags).foldl (needA K) (st.needX K x)).needX K f.res else (f.ps.zip ags).foldl (needA K) (st.needX K x)) Wx):=fun Wx hx=>by
    rw [<-hsm,<-hbb]
    cases bb with
    | false=>exact hx
    | true=>exact hx
   rw [<-hbb] at hbv
   have hjv3:(jv:Int) < (st.vs.length:Int):=by have:=HHV.o;omega
   obtain ⟨nv,hnv⟩:=nm st.vs.length
   rw [<-hnv] at n11 hjv3
   clear hNr hFr hrr hrf hlen hsm hbb hnv htk
   cases bb with
   | false=>
    go_wp2_with fail
    refine gS (fun Wz=>Below wr.heap.size wr Wz) (Below.refl _ _).drew fun hHeld=>?_
    generalize wr.drew=W at hHeld ⊢
    refine kO 0 ?_
    refine kO 1 ?_
    refine kO 2 ?_
    refine kO 3 ?_
    refine kO 4 ?_
    refine kO 5 ?_
    refine kO 6 ?_
    refine kO 7 ?_
    refine kO 8 ?_
    refine gE ?_
    go_wp2_with fail
    go_end0
    exact ⟨rfl,HIF.o _ (HNR.o.over hHeld),HFW.o.trans (FrW.of_below (Db _ _ _ _) hHeld)⟩
   | true=>
    go_wp2_with fail
    refine gS (fun Wz=>Below wr.heap.size wr Wz) (Below.refl _ _).drew fun hHeld=>?_
    generalize wr.drew=W at hHeld ⊢
    refine kO 0 ?_
    refine kO 1 ?_
    refine kO 2 ?_
    refine kO 3 ?_
    refine kO 4 ?_
    refine kO 5 ?_
    refine kO 6 ?_
    refine kO 7 ?_
    refine kO 8 ?_
    refine gE ?_
    have g2':=Ab hHeld _ _ g2
    have g3':=Ab hHeld _ _ g3
    have g4':=Ab hHeld _ _ g4
    go_wp2_with fail
    refine (KX.o _ hHeld).mono ?_
    rintro r W6 ⟨rfl,h1,h2⟩
    have HF6:Hx (NI w0 pc ch cv fv bn bv bi bs (sm.needX K f.res) W6/\FrW (XN bn bv bi bs) _ W6):=⟨h1,h2⟩
    go_wp2_with fail
    go_end0
    exact ⟨rfl,HIF.o _ HF6.o.1,(HFW.o.trans (FrW.of_below (Db _ _ _ _) hHeld)).trans HF6.o.2⟩
structure NP (w0:World) (K kf:Nat) (pc:List Value) (fs:List FnD) (C:List (Nat × D × Nat)) (vn yn n:Nat):Prop where
 fns:∃ fa fn fc,pc[6]? = some (O fa fn fc)/\AL w0 K kf (O fa fn fc) fs
 few:fs.length<=1000/\vn<=1000/\yn<=1000/\n<=1000/\C.length<=1000
 ps:∀ f∈fs,f.ps.length<=6/\(∀ p∈f.ps,0<=p/\p < (vn:Int))/\∀ v∈AR K f.res,0<=v/\v < (vn:Int)
 ok:∀ x∈C,(∃ funcs:Int,∃ no:Nat,funcs<=fs.length/\Dz K vn yn no funcs fs x.2.1)/\x.1+1<=x.2.2/\x.2.2<=n/\x.1 < n
 cnt:An kf fs<=n
def D6 (kf:Nat) (fs:List FnD) (fv:Value) (W:World):Prop:=∃ bf cf,fv=O (some ⟨bf,0,none⟩) (fs.length+1) cf/\∀ i,i<=fs.length->W.cell? ⟨bf,i,none⟩=some (zd U ((An kf (fs.take i):Nat):Int))
section
variable {w0:World} {pc:List Value} {ch:Int} {cv fv:Value} {bn bv bi bs:Nat} {st:NS} {W:World} {K kf:Nat} {fs:List FnD} {C:List (Nat × D × Nat)} {vn yn n:Nat}
theorem Ii {fs:List FnD} {jo:Nat} (h:jo < fs.length):AQ fs (jo:Int)=fs[jo]:=by unfold AQ;rw [show (jo:Int).toNat=jo from rfl,List.getD_eq_getElem?_getD,List.getElem?_eq_getElem h];rfl
theorem JY (h:NI w0 pc ch cv fv bn bv bi bs st W) (hP:NP w0 K kf pc fs C vn yn n) (hL:Ln vn yn n st) (hf:D6 kf fs fv W) {k a e:Nat} {d:D} (hx:(a,d,e)∈C) {cs:List Value} (hr:RS w0 K (k+1) cs d) :
  Calls Tryz.prog 196 #[zi (some ⟨bn,0,none⟩),zd U (a:Int),.agg (cs++[Value.int U (e:Int)]).toArray] W fun r W'=>r=zh (ze (BN ch kf fs st (a,d,e)))/\Ov W W':=by
 obtain ⟨⟨funcs,no,hfu,h1,h2,h3,h4,h5,h6,h7⟩,he1,he2,-⟩:=hP.ok _ hx
 dsimp only at h1 h2 h3 h4 h5 h6 h7 he1 he2
 obtain ⟨ek,en,xa,xl,xc,aa,ac,ta,tc,ea,ec,rfl,-,-,-,-,-,-,-,-,-,-⟩:=hr.form
 have f1:=hP.few
 have l1:st.vs.length<=1000:=by rw [hL.vs];omega
 have l2:st.cs.length<=1000:=by rw [hL.cs];omega
 have l3:st.nd.length<=1000:=by rw [hL.nd];omega
 show Calls Tryz.prog 196 #[zi (some ⟨bn,0,none⟩),zd U (a:Int),zg #[zd U (Ae d),zd U (Av d),zd U (Ac d),zd U ek,zd U en,O xa xl xc,O aa (Ah d).length ac,O ta (Af d).length tc,O ea (Al d).length ec,zd U (e:Int)]] W _
 have hv:(Ae d=1\/Ae d=2\/Ae d=3\/Ae d=5\/Ae d=6)->∃ jv:Nat,Av d=(jv:Int)/\jv < st.vs.length:=fun hk=>by
  have:=h2 hk
  exact ⟨(Av d).toNat,by omega,by rw [hL.vs];omega⟩
 rcases (by omega:Ae d=1\/Ae d=2\/Ae d=3\/Ae d=4\/Ae d=5\/Ae d=6\/Ae d=7\/Ae d=8) with hk | hk | hk | hk | hk | hk | hk | hk
 ·obtain ⟨jv,e1,e2⟩:=hv (by omega)
  have hi:BN ch kf fs st (a,d,e)=st.vs.getD jv false:=by unfold BN;simp [hk,e1]
  rw [hi,hk,e1]
  exact M4 h l1 l2 l3 a e ek en xa xl xc aa _ ac ta _ tc ea _ ec _ jv e2
 ·obtain ⟨jv,e1,e2⟩:=hv (by omega)
  obtain ⟨⟨o1,o2⟩,o3,-⟩:=h3 hk
  obtain ⟨jo,e3⟩:∃ jo:Nat,Ac d=(jo:Int):=⟨(Ac d).toNat,by omega⟩
  have hjo:jo < fs.length:=by omega
  obtain ⟨fa,fn,fc,p1,p2⟩:=hP.fns
  obtain ⟨bf,cf,q1,q2⟩:=hf
  have hi:BN ch kf fs st (a,d,e)=(st.vs.getD jv false || (AQ fs (jo:Int)).ps.any (fun p=>st.vs.getD p.toNat false) || CA st.nd (An kf (fs.take jo)) (An kf (fs.take (jo+1)))):=by unfold BN;simp [hk,e1,e3]
  rw [hi,hk,e1,e3]
  have hp:=hP.ps fs[jo] (List.getElem_mem hjo)
  exact M0 h l1 l2 l3 a e ek en xa xl xc aa _ ac ta _ tc ea _ ec jv jo e2 K kf fs fa fn fc p1 p2 hjo f1.1 (by rw [Ii hjo,hL.vs];exact ⟨hp.1,hp.2.1⟩) bf cf q1 q2 (by rw [hL.nd];exact hP.cnt)
 ·obtain ⟨jv,e1,e2⟩:=hv (by omega)
  have ho:=h4 hk
  obtain ⟨jo,e3⟩:∃ jo:Nat,Ac d=(jo:Int):=⟨(Ac d).toNat,by omega⟩
  have hi:BN ch kf fs st (a,d,e)=(st.vs.getD jv false || st.cs.getD jo false):=by unfold BN;simp [hk,e1,e3]
  rw [hi,hk,e1,e3]
  exact MZ h l1 l2 l3 a e ek en xa xl xc aa _ ac ta _ tc ea _ ec jv jo e2 (by rw [hL.cs];omega)
 ·have hi:BN ch kf fs st (a,d,e)=decide (Ac d=ch):=by unfold BN;simp [hk]
  rw [hi,hk]
  exact MY h l1 l2 l3 a e ek en xa xl xc aa _ ac ta _ tc ea _ ec _ _
 ·obtain ⟨jv,e1,e2⟩:=hv (by omega)
  have hi:BN ch kf fs st (a,d,e)=st.vs.getD jv false:=by unfold BN;simp [hk,e1]
  rw [hi,hk,e1]
  exact MX h l1 l2 l3 a e ek en xa xl xc aa _ ac ta _ tc ea _ ec _ jv e2
 ·obtain ⟨jv,e1,e2⟩:=hv (by omega)
  have hi:BN ch kf fs st (a,d,e)=st.vs.getD jv false:=by unfold BN;simp [hk,e1]
  rw [hi,hk,e1]
  exact MW h l1 l2 l3 a e ek en xa xl xc aa _ ac ta _ tc ea _ ec _ jv e2
 ·have hi:BN ch kf fs st (a,d,e)=CA st.nd (a+1) e:=by unfold BN;simp [hk]
  rw [hi,hk]
  exact MV h l1 l2 l3 a e ek en xa xl xc aa _ ac ta _ tc ea _ ec _ _ he1 (by rw [hL.nd];exact he2)
 ·have hi:BN ch kf fs st (a,d,e)=CA st.nd (a+1) e:=by unfold BN;simp [hk]
  rw [hi,hk]
  exact MU h l1 l2 l3 a e ek en xa xl xc aa _ ac ta _ tc ea _ ec _ _ he1 (by rw [hL.nd];exact he2)
theorem Gu (h:NI w0 pc ch cv fv bn bv bi bs st W) (hP:NP w0 K kf pc fs C vn yn n) (hL:Ln vn yn n st) {k a e:Nat} {d:D} (hx:(a,d,e)∈C) {cs:List Value} (hr:RS w0 K (k+1) cs d) :
  Calls Tryz.prog 198 #[zi (some ⟨bn,0,none⟩),.agg (cs++[Value.int U (e:Int)]).toArray] W fun r W'=>r=zh (zj #[])/\NI w0 pc ch cv fv bn bv bi bs (needFor K fs st d) W'/\FrW (XN bn bv bi bs) W W':=by
 obtain ⟨⟨funcs,no,hfu,hok⟩,he1,he2,-⟩:=hP.ok _ hx
 have hxe:=GT hok
 obtain ⟨h1,h2,h3,h4,h5,h6,h7⟩:=hok
 dsimp only at h1 h2 h3 h4 h5 h6 h7 he1 he2 hxe
 obtain ⟨ek,en,xa,xl,xc,aa,ac,ta,tc,ea,ec,rfl,-,-,-,hX,hA,-,-,-,-,-⟩:=hr.form
 have f1:=hP.few
 have l1:st.vs.length<=1000:=by rw [hL.vs];omega
 have hxv:∀ v∈AR K (Ai d),0<=v/\v < (st.vs.length:Int):=by rw [hL.vs];exact hxe
 show Calls Tryz.prog 198 #[zi (some ⟨bn,0,none⟩),zg #[zd U (Ae d),zd U (Av d),zd U (Ac d),zd U ek,zd U en,O xa xl xc,O aa (Ah d).length ac,O ta (Af d).length tc,O ea (Al d).length ec,zd U (e:Int)]] W _
 by_cases hk3:Ae d=3
 ·have ho:=h4 hk3
  obtain ⟨jo,e3⟩:∃ jo:Nat,Ac d=(jo:Int):=⟨(Ac d).toNat,by omega⟩
  have hi:needFor K fs st d=(st.needX K (Ai d)).needC (jo:Int):=by unfold needFor;rw [if_pos hk3,e3]
  rw [hi,hk3,e3]
  exact JJ h l1 K e ek en xa xl xc aa _ ac ta _ tc ea _ ec (Ai d) hX hxv _ jo (by rw [hL.cs];omega) (by rw [hL.cs];omega)
 by_cases hk2:Ae d=2
 ·obtain ⟨⟨o1,o2⟩,o3,o4⟩:=h3 hk2
  obtain ⟨jo,e3⟩:∃ jo:Nat,Ac d=(jo:Int):=⟨(Ac d).toNat,by omega⟩
  have hjo:jo < fs.length:=by omega
  have hv:=h2 (by omega)
  obtain ⟨jv,e1⟩:∃ jv:Nat,Av d=(jv:Int):=⟨(Av d).toNat,by omega⟩
  obtain ⟨fa,fn,fc,p1,p2⟩:=hP.fns
  have hp:=hP.ps fs[jo] (List.getElem_mem hjo)
  have hpl:=o3 fs[jo] (by rw [e3];exact List.getElem?_eq_getElem hjo)
  have hi:needFor K fs st d=bif ((fs[jo].ps.zip (Ah d)).foldl (needA K) (st.needX K (Ai d))).vs.getD jv false then ((fs[jo].ps.zip (Ah d)).foldl (needA K) (st.needX K (Ai d))).needX K fs[jo].res else (fs[jo].ps.zip (Ah d)).foldl (needA K) (st.needX K (Ai d)):=by
   unfold needFor
   rw [if_neg hk3,if_pos hk2,e3,e1,Ii hjo,show (jv:Int).toNat=jv from rfl]
   cases ((fs[jo].ps.zip (Ah d)).foldl (needA K) (st.needX K (Ai d))).vs.getD jv false <;> rfl
  rw [hi,hk2,e1,e3]
  refine JK h l1 K e ek en xa xl xc _ ac ta _ tc ea _ ec (Ai d) hX hxv jv jo (by rw [hL.vs];omega) kf fs fa fn fc p1 p2 fs[jo] (List.getElem?_eq_getElem hjo) f1.1 (Ah d) aa hA hpl (by have:=hp.1;omega) (by rw [hL.vs];exact hp.2.1) (fun x hx v hv=>by rw [hL.vs];exact BZ (o4 x hx) v hv) (by rw [hL.vs];exact hp.2.2)
 ·have hi:needFor K fs st d=st.needX K (Ai d):=by unfold needFor;rw [if_neg hk3,if_neg hk2]
  rw [hi]
  exact JI h l1 K e ek en xa xl xc aa _ ac ta _ tc ea _ ec (Ai d) hX hxv _ _ _ hk2 hk3
end
def Fc (w0:World) (K kf:Nat) (X:Nat->Prop) (cv:Value) (C:List (Nat × D × Nat)) (W:World):Prop:=
 ∃ a c,cv=O a C.length c/\(C≠[]->∃ b,a=some ⟨b,0,none⟩/\¬ X b/\∀ i x,C[i]? = some x->∃ cs:List Value,cs.length=9/\RS w0 K kf cs x.2.1/\∀ j u,(cs++[Value.int U (x.2.2:Int)])[j]? = some u->W.cell? ⟨b,i*10+j,none⟩=some u)
section
variable {w0:World} {pc:List Value} {ch:Int} {cv fv:Value} {bn bv bi bs:Nat} {st:NS} {W W':World} {K kf:Nat} {fs:List FnD} {C:List (Nat × D × Nat)} {vn yn n:Nat}
theorem Fc.fr (h:Fc w0 K kf (XN bn bv bi bs W) cv C W) (hf:FrW (XN bn bv bi bs) W W'):Fc w0 K kf (XN bn bv bi bs W') cv C W':=by
 obtain ⟨a,c,h1,h2⟩:=h
 refine ⟨a,c,h1,fun hne=>?_⟩
 obtain ⟨b,h3,h4,h5⟩:=h2 hne
 refine ⟨b,h3,h4,fun i x hx=>?_⟩
 obtain ⟨cs,q1,q2,q3⟩:=h5 i x hx
 exact ⟨cs,q1,q2,fun j u hu=>hf.cell (q3 j u hu) h4⟩
theorem D6.fr (h:D6 kf fs fv W) (hf:FrW (XN bn bv bi bs) W W') (hx:∀ b n c,fv=O (some ⟨b,0,none⟩) n c->¬ XN bn bv bi bs W b):D6 kf fs fv W':=by
 obtain ⟨bf,cf,h1,h2⟩:=h
 exact ⟨bf,cf,h1,fun i hi=>hf.cell (h2 i hi) (hx _ _ _ h1)⟩
theorem D6.over (h:D6 kf fs fv W) (hb:Ov W W'):D6 kf fs fv W':=by
 obtain ⟨bf,cf,h1,h2⟩:=h
 exact ⟨bf,cf,h1,fun i hi=>Ab hb _ _ (h2 i hi)⟩
theorem Fx (st:NS) (a:Nat):(st.needN a).vs.length=st.vs.length/\(st.needN a).cs.length=st.cs.length/\(st.needN a).nd.length=st.nd.length:=by
 unfold NS.needN
 split
 ·exact ⟨rfl,rfl,rfl⟩
 ·exact ⟨rfl,rfl,by simp⟩
theorem Gt (K:Nat) (fs:List FnD) (st:NS) (d:D):(needFor K fs st d).vs.length=st.vs.length/\(needFor K fs st d).cs.length=st.cs.length/\(needFor K fs st d).nd.length=st.nd.length:=by
 have hx:=CQ K st (Ai d)
 unfold needFor
 split
 ·have h1:=Fy (st.needX K (Ai d)) (Ac d)
  exact ⟨h1.2.1.trans hx.1,h1.1.trans hx.2.1,h1.2.2.trans hx.2.2⟩
 ·split
  ·have h1:=DK K ((AQ fs (Ac d)).ps.zip (Ah d)) (st.needX K (Ai d))
   split
   ·have h2:=CQ K (((AQ fs (Ac d)).ps.zip (Ah d)).foldl (needA K) (st.needX K (Ai d))) (AQ fs (Ac d)).res
    exact ⟨h2.1.trans (h1.1.trans hx.1),h2.2.1.trans (h1.2.1.trans hx.2.1),h2.2.2.trans (h1.2.2.trans hx.2.2)⟩
   ·exact ⟨h1.1.trans hx.1,h1.2.1.trans hx.2.1,h1.2.2.trans hx.2.2⟩
  ·exact hx
theorem Ln.look1 {x:Nat × D × Nat} (h:Ln vn yn n st):Ln vn yn n (look1 ch K kf fs st x):=by
 unfold Ex.look1
 split
 ·have h1:=Gt K fs (st.needN x.1) x.2.1
  have h2:=Fx st x.1
  exact ⟨h1.1.trans (h2.1.trans h.vs),h1.2.1.trans (h2.2.1.trans h.cs),h1.2.2.trans (h2.2.2.trans h.nd)⟩
 ·exact h
theorem Ln.looks:∀ (l:List (Nat × D × Nat)) {st:NS},Ln vn yn n st->Ln vn yn n (l.foldl (Ex.look1 ch K kf fs) st)
 | [],_,h=>h
 | x::l,_,h=>Ln.looks l h.look1
end
theorem Mt {w0:World} {pc:List Value} {ch:Int} {cv fv:Value} {bn bv bi bs:Nat} {st:NS} {W:World} {K kf:Nat} {fs:List FnD} {C:List (Nat × D × Nat)} {vn yn n:Nat} (h:NI w0 pc ch cv fv bn bv bi bs st W) (hP:NP w0 K kf pc fs C vn yn n) (hL:Ln vn yn n st) (hf:D6 kf fs fv W) (hfx:∀ b n c,fv=O (some ⟨b,0,none⟩) n c->¬ XN bn bv bi bs W b) (hC:Fc w0 K kf (XN bn bv bi bs W) cv C W) (hnum:∀ (i:Nat) (x:Nat × D × Nat),C[i]? = some x->x.1=i) :
  Calls Tryz.prog 138 #[zi (some ⟨bn,0,none⟩)] W fun r W'=>r=zh (zj #[])/\NI w0 pc ch cv fv bn bv bi bs (C.foldl (look1 ch K kf fs) st) W'/\FrW (XN bn bv bi bs) W W':=by
 have HC:=Aa hC
 obtain ⟨ca,cc,rfl,-⟩:=hC
 have n9:=h.cells.2.1
 have HN:=Aa h
 have HP:=Aa hP
 have HL:=Aa hL
 have HF:=Aa hf
 have HFX:=Aa hfx
 have HNUM:=Aa hnum
 have hcl:C.length<=1000:=hP.few.2.2.2.2
 clear h hP hL hf hfx hnum
 go_enter Tryz.func138,Tryz.ntmps138
 go_wp2_with fail
 go_loopw [9] (fun i wr=>∃ m:Nat,m<=C.length/\i=zd U m/\NI w0 pc ch (O ca C.length cc) fv bn bv bi bs ((C.take m).foldl (look1 ch K kf fs) st) wr/\FrW (XN bn bv bi bs) W wr) (fun i _=>C.length - (intOf i).toNat)
 case atStart=>exact ⟨0,Nat.zero_le _,rfl,HN.o,FrW.refl _⟩
 case round=>
  clear n9
  obtain ⟨m,hm,rfl,hNr,hFr⟩:=hrel
  by_cases hlt:m < C.length
  ·obtain ⟨a',c',he,hcm⟩:=HC.o.fr hFr
   injection he with he1 he2 he3
   obtain ⟨b,hb,hbx,hcm⟩:=hcm (by rintro rfl;simp at hlt)
   obtain ⟨⟨a,d,e⟩,hx⟩:=nm (C[m])
   have hxm:C[m]? = some (a,d,e):=by rw [List.getElem?_eq_getElem hlt,hx]
   obtain rfl:a=m:=HNUM.o m _ hxm
   have hxC:(a,d,e)∈C:=by rw [hx];exact List.getElem_mem hlt
   obtain ⟨cs,hl9,hrs,hcc⟩:=hcm a _ hxm
   dsimp only at hrs hcc
   obtain ⟨k,rfl⟩:∃ k,kf=k+1:=by
    cases kf with
    | zero=>exact hrs.elim
    | succ k=>exact ⟨k,rfl⟩
   have hTN:(C.take (a+1)).foldl (look1 ch K (k+1) fs) st=look1 ch K (k+1) fs ((C.take a).foldl (look1 ch K (k+1) fs) st) (a,d,e):=by
    rw [List.take_succ_eq_append_getElem hlt,List.foldl_append,<-hx]
    rfl
   have hLm:=Ln.looks (ch:=ch) (K:=K) (kf:=k+1) (fs:=fs) (C.take a) HL.o
   obtain ⟨sm,hsm⟩:=nm ((C.take a).foldl (look1 ch K (k+1) fs) st)
   rw [<-hsm] at hNr hTN hLm
   have hsm2:sm.nd.length<=1000:=by rw [hLm.nd];exact HP.o.few.2.2.2.1
   have hasm:a < sm.nd.length:=by rw [hLm.nd];exact (HP.o.ok _ hxC).2.2.2
   have hfr:=HF.o.fr hFr HFX.o
   have KI:=Aa fun (Wz:World) (hz:Ov wr Wz)=>JY (hNr.over hz) HP.o hLm (hfr.over hz) hxC hrs
   have hLn:Ln vn yn n (sm.needN a):=by
    have h2:=Fx sm a
    exact ⟨h2.1.trans hLm.vs,h2.2.1.trans hLm.cs,h2.2.2.trans hLm.nd⟩
   have KF:=Aa fun (Wz:World) (hz:NI w0 pc ch (O ca C.length cc) fv bn bv bi bs (sm.needN a) Wz)=>Gu hz HP.o hLn hxC hrs
   have KN:=Aa fun (Wz:World) (hz:Ov wr Wz)=>Le (hNr.over hz) a hasm hsm2
   obtain ⟨ek,en,xa,xl,xc,aa,ac,ta,tc,ea,ec,rfl,-,-,-,-,-,-,-,-,-,-⟩:=hrs.form
   have c0:=hcc 0 _ rfl
   have c1:=hcc 1 _ rfl
   have c2:=hcc 2 _ rfl
   have c3:=hcc 3 _ rfl
   have c4:=hcc 4 _ rfl
   have c5:=hcc 5 _ rfl
   have c6:=hcc 6 _ rfl
   have c7:=hcc 7 _ rfl
   have c8:=hcc 8 _ rfl
   have c9:=hcc 9 _ rfl
   replace c0:wr.cell? ⟨b,a*10,none⟩=_:=c0
   simp only [List.cons_append,List.nil_append] at KI KF
   obtain ⟨kd,hkd⟩:=nm (Ae d)
   obtain ⟨va,hva⟩:=nm (Av d)
   obtain ⟨ot,hot⟩:=nm (Ac d)
   obtain ⟨al,hal⟩:=nm ((Ah d).length)
   obtain ⟨tl,htl⟩:=nm ((Af d).length)
   obtain ⟨el,hel⟩:=nm ((Al d).length)
   rw [<-hkd] at c0 KI KF
   rw [<-hva] at c1 KI KF
   rw [<-hot] at c2 KI KF
   rw [<-hal] at c6 KI KF
   rw [<-htl] at c7 KI KF
   rw [<-hel] at c8 KI KF
   obtain ⟨q,hq⟩:=nm (BN ch (k+1) fs sm (a,d,e))
   rw [<-hq] at KI
   have hb1:Ov wr (wr.alloc (zf #[zd U kd,zd U va,zd U ot,zd U ek,zd U en,O xa xl xc,O aa al ac,O ta tl tc,O ea el ec,zd U (e:Int)] 249)):=bA _ _
   obtain ⟨V,hV⟩:=nm (wr.alloc (zf #[zd U kd,zd U va,zd U ot,zd U ek,zd U en,O xa xl xc,O aa al ac,O ta tl tc,O ea el ec,zd U (e:Int)] 249))
   have hrow:Ad [zd U kd,zd U va,zd U ot,zd U ek,zd U en,O xa xl xc,O aa al ac,O ta tl tc,O ea el ec,zd U (e:Int)] V wr.heap.size:=by rw [hV];exact Ay wr [zd U kd,zd U va,zd U ot,zd U ek,zd U en,O xa xl xc,O aa al ac,O ta tl tc,O ea el ec,zd U (e:Int)] 249
   rw [<-hV] at hb1
   have HROW:=Aa hrow
   have HB1:=Aa hb1
   have HFR:=Aa hFr
   have HNR:=Aa hNr
   have HSX:Hx (∀ X,¬ XN bn bv bi bs X wr.heap.size):=fun X hh=>by have:=(hNr.fz _ hh).2.1;omega
   have hm3:(a:Int) < (C.length:Int):=by omega
   have d0:=hrow 0 _ rfl
   have d1:=hrow 1 _ rfl
   have d2:=hrow 2 _ rfl
   have d3:=hrow 3 _ rfl
   have d4:=hrow 4 _ rfl
   have d5:=hrow 5 _ rfl
   have d6:=hrow 6 _ rfl
   have d7:=hrow 7 _ rfl
   have d8:=hrow 8 _ rfl
   have d9:=hrow 9 _ rfl
   subst he1
   subst hb
   have HTN:=Aa hTN
   have HQ:=Aa hq
   have hnl:sm.nd.length=n:=hLm.nd
   have hn13:=hNr.cells.2.2.2.2.2.1
   have hn1:n<=1000:=by omega
   rw [hnl] at hn13 KN
   clear hNr hFr hrow hcm hcc hrs hl9 hkd hva hot hal htl hel hq hTN hLm hfr hLn hsm hx hxm hxC hb1 hasm hsm2 he2 he3 HC HF HFX HP HN HL hnl
   go_wp2_with fail
   rw [<-hV]
   clear hV c0 c1 c2 c3 c4 c5 c6 c7 c8 c9
   refine (KI.o _ HB1.o).mono ?_
   rintro r W1 ⟨rfl,hb2⟩
   have hwr:Ov wr W1:=HB1.o.trans (hb2.mono HB1.o.size)
   have hr1:=HROW.o.over hb2
   have n13:=Ab hwr _ _ hn13
   have KN2:=Aa (KN.o W1 hwr)
   have HR1:=Aa hr1
   have HW1:=Aa hwr
   clear hb2 hr1 hwr d0 d1 d2 d3 d4 d5 d6 d7 d8 d9 KI KN
   cases q with
   | false=>
    have HFIN:Hx (NI w0 pc ch (O (some ⟨b,0,none⟩) C.length cc) fv bn bv bi bs ((C.take (a+1)).foldl (look1 ch K (k+1) fs) st) W1/\FrW (XN bn bv bi bs) W W1):=by
     refine ⟨?_,HFR.o.trans (FrW.of_below (Db _ _ _ _) HW1.o)⟩
     rw [HTN.o]
     unfold look1
     rw [if_neg (by rw [<-HQ.o];decide)]
     exact HNR.o.over HW1.o
    clear KN2 KF n13 hn13
    go_wp2_with fail
    exact ⟨⟨a+1,by omega,by go_num,HFIN.o.1,HFIN.o.2⟩,by simp [intOf];omega⟩
   | true=>
    go_wp2_with fail
    refine KN2.o.mono ?_
    rintro r W2 ⟨rfl,h1,h2⟩
    have hr2:=h2.row HR1.o (HSX.o _)
    have KF2:=Aa (KF.o W2 h1)
    have d0:=hr2 0 _ rfl
    have d1:=hr2 1 _ rfl
    have d2:=hr2 2 _ rfl
    have d3:=hr2 3 _ rfl
    have d4:=hr2 4 _ rfl
    have d5:=hr2 5 _ rfl
    have d6:=hr2 6 _ rfl
    have d7:=hr2 7 _ rfl
    have d8:=hr2 8 _ rfl
    have d9:=hr2 9 _ rfl
    have HF2:=Aa h2
    clear h1 h2 hr2 KF KN2 n13 hn13
    go_wp2_with fail
    refine KF2.o.mono ?_
    rintro r W3 ⟨rfl,h1,h2⟩
    have HFIN:Hx (NI w0 pc ch (O (some ⟨b,0,none⟩) C.length cc) fv bn bv bi bs ((C.take (a+1)).foldl (look1 ch K (k+1) fs) st) W3/\FrW (XN bn bv bi bs) W W3):=by
     refine ⟨?_,((HFR.o.trans (FrW.of_below (Db _ _ _ _) HW1.o)).trans HF2.o).trans h2⟩
     rw [HTN.o]
     unfold look1
     rw [if_pos HQ.o.symm]
     exact h1
    clear h1 h2 KF2 d0 d1 d2 d3 d4 d5 d6 d7 d8 d9
    go_wp2_with fail
    exact ⟨⟨a+1,by omega,by go_num,HFIN.o.1,HFIN.o.2⟩,by simp [intOf];omega⟩
  ·have hme:m=C.length:=by omega
   rw [hme,List.take_length] at hNr
   have HFIN:=Aa (And.intro hNr hFr)
   clear hNr hFr HC
   go_wp2_with fail
   go_end0
   exact ⟨rfl,HFIN.o.1,HFIN.o.2⟩
theorem Tryz.info4N:(Tryz.prog.info? 4).map (fun i=>(i.zero,i.size,i.bytes))=some (some (ze false),1,1):=by kernel_rfl
def CH (n:Nat):Array Value:=(List.replicate n (Value.bool false)).toArray
theorem JM (n:Nat) (hn:n<=1000) (w:World):(Instr.makeSlice 48 (zd U n) (zd U n)).run Tryz.prog w=.ok (O (some ⟨w.heap.size,0,none⟩) n n) (w.alloc (.cells (CH n) 4)):=by
 obtain ⟨i,hi,hz,h1,h2⟩:=info_parts Tryz.info4N
 have:=run_make (P:=Tryz.prog) w 48 4 i (ze false) Tryz.underlying48 hi hz U U (n:Int) (n:Int) (by omega) (by omega) (by rw [h2];omega) (by omega)
 rw [this,h1]
 simp only [Int.toNat_natCast,Nat.mul_one]
 have e:madeCells (Value.bool false).cells n=CH n:=by
  unfold CH
  apply Array.ext
  ·simp [madeCells]
  ·intro j h1 h2
   simp [madeCells,Value.cells,Nat.mod_one]
 rw [e]
theorem Hf (n:Nat) (w:World):Ad ((List.replicate n false).map Value.bool) (w.alloc (.cells (CH n) 4)) w.heap.size:=by
 have:=Ay w (List.replicate n (Value.bool false)) 4
 rw [List.map_replicate]
 exact this
structure LF (w0:World) (cs:List Value) (bn:Nat) (cv:Value) (n:Nat) (xs:List Value) (fv:Value) (k:Nat) (ys rest:List Value) (W:World):Prop where
 li:LI w0 cs bn cv n xs (fv::rest) W
 own:W.ownsRow w0.heap.size 3 1 fv k ys
 ap:fv.ownBlock≠some bn
 ne:∀ g,fv.ownBlock=some g->cv.ownBlock≠some g
section
variable {w0:World} {cs:List Value} {bn:Nat} {fa:Option Addr} {fc:Nat} {cv cv' fv fv':Value} {n m k k':Nat} {xs xs' ys ys' rest:List Value} {W W':World}
theorem LF.c10 (h:LF w0 cs bn cv n xs fv k ys rest W):W.cell? ⟨bn,10,none⟩=some fv:=h.li.row 10 _ (by rw [List.getElem?_append_right (by rw [h.li.len];omega),h.li.len];rfl)
theorem LF.over (h:LF w0 cs bn cv n xs fv k ys rest W) (hb:Ov W W'):LF w0 cs bn cv n xs fv k ys rest W':=
 ⟨h.li.over hb,h.own.kept (row:=none) ⟨hb.os,hb.tape,hb.output,hb.size,fun k hk _=>hb.block k hk⟩ (by cases fv.ownBlock <;> simp),h.ap,h.ne⟩
theorem LF.listed (h:LF w0 cs bn cv n xs fv k ys rest W) (hl:LI w0 cs bn cv' m xs' (fv::rest) W') (hf:FrW (XL bn) W W'):LF w0 cs bn cv' m xs' fv k ys rest W':=by
 have hx:∀ g,fv.ownBlock=some g->¬ XL bn W g:=fun g hg=>by
  rintro (h1 | h1 | ⟨v,h1,h2⟩)
  ·have:=h.li.lo.2;omega
  ·exact h.ap (by rw [hg,h1])
  ·rw [h.li.c9] at h1
   injection h1 with h1
   rw [<-h1] at h2
   exact h.ne g hg h2
 refine ⟨hl,?_,h.ap,fun g hg hc=>?_⟩
 ·refine ⟨h.own.1,?_⟩
  rcases h.own.2 with h1 | ⟨g,cap,cur,h1,h2,h3,h4⟩
  ·exact Or.inl h1
  ·refine Or.inr ⟨g,cap,cur,h1,h2,?_,h4⟩
   have hg:fv.ownBlock=some g:=by rw [h1];rfl
   rw [hf.block g (CM h.own g hg).2 (hx g hg)]
   exact h3
 ·exact hx g hg (hf.mov g (CM h.own g hg).2 (Or.inr (Or.inr ⟨cv',hl.c9,hc⟩)))
theorem LF.first (h:LF w0 cs bn cv n xs fv k ys rest W) (ho':W'.ownsRow w0.heap.size 3 1 fv' k' ys') (hg:W.grownBy W' fv.ownBlock) (hat:fv'.ownBlock=fv.ownBlock\/fv'.ownBlock=some W.heap.size) :
  LF w0 cs bn cv n xs fv' k' ys' rest (W'.setCell ⟨bn,10,none⟩ fv'):=by
 have hL:=h.li
 have hbw:W'.heap[bn]? = W.heap[bn]?:=hg.block bn hL.lo.2 (fun e=>h.ap e.symm)
 have hrow':Ad (cs++cv::fv::rest) W' bn:=fun j u hu=>(World.cell?_of_block (a:=⟨bn,j,none⟩) hbw).trans (hL.row j u hu)
 have hBl:Below w0.heap.size W W':=CF hg (fun g e=>(CM h.own g e).1) hL.below.size
 have hv':fv'.ownBlock≠some bn:=by
  rcases hat with e | e
  ·rw [e];exact h.ap
  ·rw [e];intro e;injection e with e;have:=hL.lo.2;omega
 have hsz:(W'.setCell ⟨bn,10,none⟩ fv').heap.size=W'.heap.size:=by simp [World.setCell]
 have hrow2:Ad (cs++cv::fv'::rest) (W'.setCell ⟨bn,10,none⟩ fv') bn:=by
  have:=EI (j:=10) (v:=fv') hrow' (by simp [hL.len];omega)
  rw [List.set_append,if_neg (by rw [hL.len];omega),hL.len] at this
  exact this
 have hne:∀ g,fv'.ownBlock=some g->cv.ownBlock≠some g:=fun g hg' hc=>by
  rcases hat with e | e
  ·exact h.ne g (by rw [<-e];exact hg') hc
  ·rw [e] at hg'
   injection hg' with hg'
   have:=(CM hL.own g hc).2
   omega
 refine ⟨⟨(hL.below.trans hBl).setCell hL.lo.1 _,hrow2,fun j=>?_,?_,hL.ap,⟨hL.lo.1,?_⟩,hL.len⟩,ho'.kept (row:=some bn) DL (Or.inr hv'),hv',hne⟩
 ·have e1:(W'.setCell ⟨bn,10,none⟩ fv').frozen? ⟨bn,j,none⟩=W'.frozen? ⟨bn,j,none⟩:=by simp [go_sem]
  rw [e1,World.frozen?_of_block (a:=⟨bn,j,none⟩) hbw]
  exact hL.fz j
 ·have h1:=hL.own.kept hg (by
   cases hcv:cv.ownBlock with
   | none=>exact Or.inl rfl
   | some c=>exact Or.inr (fun e=>h.ne c e.symm hcv))
  exact h1.kept (row:=some bn) DL (Or.inr hL.ap)
 ·rw [hsz];exact Nat.lt_of_lt_of_le hL.lo.2 hg.size
theorem Ij (h:LF w0 cs bn cv n xs (O fa k fc) k ys rest W) (hk:k<=1000) (u:Int) :
  ∃ v2 w2,(Builtin.append_ #[25,25] 25 #[O fa k fc,O (some ⟨W.heap.size,0,none⟩) 1 1]).run Tryz.prog (W.alloc (zf #[zd U u] 3))=.ok v2 w2/\LF w0 cs bn cv n xs v2 (k+1) (ys++[zd U u]) rest (w2.setCell ⟨bn,10,none⟩ v2)/\w2.cell? ⟨bn,10,none⟩=some (O fa k fc)/\w2.frozen? ⟨bn,10,none⟩=false/\∀ b,b < W.heap.size->b≠bn->(Value.slice fa k fc).ownBlock≠some b->(w2.setCell ⟨bn,10,none⟩ v2).heap[b]? = W.heap[b]?/\w2.heap[b]? = W.heap[b]?:=by
 obtain ⟨i0,hi,hz0,hz1,hz2⟩:=info_parts Tryz.infoI
 have hb1:Ov W (W.alloc (zf #[zd U u] 3)):=bA W _
 have hJ1:=h.over hb1
 have hN:=Ay W [zd U u] 3
 have hBW:w0.heap.size<=(W.alloc (zf #[zd U u] 3)).heap.size:=hJ1.li.below.size
 obtain ⟨v2,w2,hrun,hown2,hgr2,-,hat⟩:=run_append_own_at (P:=Tryz.prog) (w:=W.alloc (zf #[zd U u] 3)) w0.heap.size 25 25 3 i0 (zd U 0) 1 8 Tryz.underlying25 hi hz0 hz1 hz2 rfl (by decide) _ _ _ hJ1.own ⟨W.heap.size,0,none⟩ 1 1 [zd U u] rfl (fun jj u hu=>by rw [Addr.add_lit,Nat.zero_add];exact hN jj u hu) (by simp [Value.oneCell']) (by unfold maxLen;omega) (by omega) hBW
 have hfin:=hJ1.first hown2 hgr2 hat
 refine ⟨v2,w2,hrun,hfin,hgr2.cell hJ1.c10 (fun hx=>hJ1.ap hx.symm),(World.frozen?_of_block (a:=⟨bn,10,none⟩) (hgr2.block bn hJ1.li.lo.2 (fun hx=>hJ1.ap hx.symm))).trans (hJ1.li.fz 10),fun b hb hbn hbf=>?_⟩
 have e:w2.heap[b]? = W.heap[b]?:=(hgr2.block b (Nat.lt_of_lt_of_le hb hb1.size) (fun e=>hbf e.symm)).trans (hb1.block b hb)
 exact ⟨(Ct (Ne.symm hbn) v2).trans e,e⟩
end
end Go.Proofs.YtfffpjkcfnekaaaGreat.Ex
