/- What must be in any case: veilworklaw.labelBegun answers true, if the calls of package label keep their contracts. -/
import Derived.Test.YtfffpjkcfnekaaaGreatF13
import Derived.Deep.CutRange
set_option linter.unusedVariables false
set_option maxHeartbeats 8000000
set_option maxRecDepth 100000
namespace Go.Proofs.YtfffpjkcfnekaaaGreat
open Go.RowKit
open Go.Value renaming slice -> O, int -> U, bool -> zg, agg -> zh, pointer -> zj, tuple -> zm
open Go.IntKind renaming i64 -> zd
open Go.Obj renaming cells -> ze
open Go.Ending renaming returned -> zk
attribute [local go_sem ↓] Go.wp_at_zero Go.wp_at_succ
def lv:Lev:=⟨[false,true],[true,true]⟩
def mv:Lev:=⟨[true,true],[true,true]⟩
theorem PA:Bo 2 CI Cy=0:=by decide
theorem PV:Bo 2 CI ⟨[],[]⟩=0:=by decide
theorem PU:AA (AD CI) 2 Cy=lv:=by kernel_rfl
theorem PT:AA (AD CI) 2 ⟨[],[]⟩=mv:=by kernel_rfl
theorem Nj:Dp 2 CI lv mv=0/\Dp 2 CI mv lv=0/\Bq 2 CI lv=0:=by decide
theorem Ia:lv.small/\mv.small:=by unfold Lev.small lv mv;decide
theorem BF {W W':World} {p:Nat} {o:Obj} (h:W.heap[p]? = some o) (hb:Ov W W'):W'.heap[p]? = some o:=by
 rw [hb.block p (Array.getElem?_eq_some_iff.1 h).1]
 exact h
theorem CQ {wB W:World} {b0 o0 o1 b2 o2 o3:Nat} {v0 v1 v2 v3:Value} {p:Addr} {u:Value} (h:W.cell? ⟨b0,o0,none⟩=some v0/\W.cell? ⟨b0,o1,none⟩=some v1/\W.cell? ⟨b2,o2,none⟩=some v2/\W.cell? ⟨b2,o3,none⟩=some v3/\Ov wB W)
  (h0:b0 < wB.heap.size) (h2:b2 < wB.heap.size) (hp:wB.heap.size<=p.block):(W.setCell p u).cell? ⟨b0,o0,none⟩=some v0/\(W.setCell p u).cell? ⟨b0,o1,none⟩=some v1/\(W.setCell p u).cell? ⟨b2,o2,none⟩=some v2/\(W.setCell p u).cell? ⟨b2,o3,none⟩=some v3/\Ov wB (W.setCell p u):=by
 obtain ⟨k0,k1,k2,k3,hB⟩:=h
 have hne:∀ b o,b < wB.heap.size->(W.setCell p u).cell? ⟨b,o,none⟩=W.cell? ⟨b,o,none⟩:=fun b o hb=>World.cell?_setCell_other _ _ _ _ (by rintro rfl;simp at hp;omega)
 exact ⟨by rw [hne _ _ h0];exact k0,by rw [hne _ _ h0];exact k1,by rw [hne _ _ h2];exact k2,by rw [hne _ _ h2];exact k3,hB.setCell hp u⟩
def PG (w3 w5 wB:World) (a1:Option Addr) (k1:Nat) (a2:Option Addr) (k2:Nat) (a3:Option Addr) (k3:Nat) (a4:Option Addr) (k4:Nat) (l:Lev) (s9 s10:Value) (wc:World):Prop:=
 ∃ p va vb,s9=zj (some ⟨p,0,none⟩)/\s10=U zd 0/\wc.heap[p]? = some (ze #[va,vb] 50 (0,0))/\AQ wc (zh #[va,vb]) l /\
  wc.cell? ⟨w3.heap.size,0,none⟩=some (O a1 lv.r.length k1)/\wc.cell? ⟨w3.heap.size,1,none⟩=some (O a2 lv.w.length k2)/\wc.cell? ⟨w5.heap.size,0,none⟩=some (O a3 mv.r.length k3)/\wc.cell? ⟨w5.heap.size,1,none⟩=some (O a4 mv.w.length k4)/\Ov wB wc
theorem FF {W:World} {p:Nat} {x y a b:Value} (h:W.heap[p]? = some (ze #[x,y] 50 (0,0))):((W.setCell ⟨p,0,none⟩ a).setCell ⟨p,1,none⟩ b).heap[p]? = some (ze #[a,b] 50 (0,0)):=by
 have h1:=heap_setCell_same W _ 0 _ _ a h
 have h2:=heap_setCell_same _ _ 1 _ _ b h1
 simpa using h2
theorem GR {W:World} {p:Nat} {x y a b v:Value} {B:Nat} {l:List Bool} (h:W.ownsRow B 4 1 v l.length (A1 l)) (hp:W.heap[p]? = some (ze #[x,y] 50 (0,0))):AN ((W.setCell ⟨p,0,none⟩ a).setCell ⟨p,1,none⟩ b) v l:=by
 have hne:∀ g cap,v=O (some ⟨g,0,none⟩) l.length cap->g≠p:=fun g cap e hh=>by
  subst e hh
  rcases h.2 with ⟨h,_⟩ | ⟨g',cap',cur,hv,_,hh,_⟩
  ·cases h
  ·injection hv with e1
   injection e1 with e1
   injection e1 with e1
   subst e1
   rw [hh] at hp
   simp at hp
 have key:∀ (X:World) (o:Nat) (u:Value),X.ownsRow B 4 1 v l.length (A1 l)->(X.setCell ⟨p,o,none⟩ u).ownsRow B 4 1 v l.length (A1 l):=fun X o u hX=>by
  obtain ⟨h1,h2⟩:=hX
  refine ⟨h1,?_⟩
  rcases h2 with h2 | ⟨g,cap,cur,hv,hg,hh,r⟩
  ·exact Or.inl h2
  ·refine Or.inr ⟨g,cap,cur,hv,hg,?_,r⟩
   rw [heap_setCell_other]
   ·exact hh
   ·exact fun e=>hne g cap hv (by first | exact e | exact e.symm)
 exact Cg (key _ _ _ (key _ _ _ h))
theorem FC {w W:World} {p:Nat} {x y a b v:Value} {L:Lev} (h:Be w W v L) (hp:W.heap[p]? = some (ze #[x,y] 50 (0,0))):AQ ((W.setCell ⟨p,0,none⟩ a).setCell ⟨p,1,none⟩ b) v L:=by
 obtain ⟨vr,vw,rfl,h1,h2,_⟩:=h
 exact ⟨vr,vw,rfl,GR h1 hp,GR h2 hp⟩
theorem B4 (W:World):AC W (O none 0 0) []:=⟨none,0,rfl,fun h=>absurd rfl h⟩
theorem Fr {wB W W':World} {b0 o0 b1 o1 b2 o2 b3 o3 b4 o4 b5 o5 b6 o6 b7 o7:Nat} {v0 v1 v2 v3 v4 v5 v6 v7:Value} (h:W.cell? ⟨b0,o0,none⟩=some v0/\W.cell? ⟨b1,o1,none⟩=some v1/\W.cell? ⟨b2,o2,none⟩=some v2/\W.cell? ⟨b3,o3,none⟩=some v3/\W.cell? ⟨b4,o4,none⟩=some v4/\W.cell? ⟨b5,o5,none⟩=some v5/\W.cell? ⟨b6,o6,none⟩=some v6/\W.cell? ⟨b7,o7,none⟩=some v7/\Ov wB W) (hb:Ov W W'):W'.cell? ⟨b0,o0,none⟩=some v0/\W'.cell? ⟨b1,o1,none⟩=some v1/\W'.cell? ⟨b2,o2,none⟩=some v2/\W'.cell? ⟨b3,o3,none⟩=some v3/\W'.cell? ⟨b4,o4,none⟩=some v4/\W'.cell? ⟨b5,o5,none⟩=some v5/\W'.cell? ⟨b6,o6,none⟩=some v6/\W'.cell? ⟨b7,o7,none⟩=some v7/\Ov wB W':=by
 obtain ⟨h0,h1,h2,h3,h4,h5,h6,h7,hB⟩:=h
 have up:∀ b o v,W.cell? ⟨b,o,none⟩=some v->W'.cell? ⟨b,o,none⟩=some v:=fun b o v h=>by rw [(Al hb).1 _ _ (bL h)];exact h
 exact ⟨up _ _ _ h0,up _ _ _ h1,up _ _ _ h2,up _ _ _ h3,up _ _ _ h4,up _ _ _ h5,up _ _ _ h6,up _ _ _ h7,hB.trans (hb.mono hB.size)⟩
theorem Jy {wB W:World} {b0 o0 b1 o1 b2 o2 b3 o3 b4 o4 b5 o5 b6 o6 b7 o7:Nat} {v0 v1 v2 v3 v4 v5 v6 v7:Value} (h:W.cell? ⟨b0,o0,none⟩=some v0/\W.cell? ⟨b1,o1,none⟩=some v1/\W.cell? ⟨b2,o2,none⟩=some v2/\W.cell? ⟨b3,o3,none⟩=some v3/\W.cell? ⟨b4,o4,none⟩=some v4/\W.cell? ⟨b5,o5,none⟩=some v5/\W.cell? ⟨b6,o6,none⟩=some v6/\W.cell? ⟨b7,o7,none⟩=some v7/\Ov wB W) (n:Nat):(W.drewN n).cell? ⟨b0,o0,none⟩=some v0/\(W.drewN n).cell? ⟨b1,o1,none⟩=some v1/\(W.drewN n).cell? ⟨b2,o2,none⟩=some v2/\(W.drewN n).cell? ⟨b3,o3,none⟩=some v3/\(W.drewN n).cell? ⟨b4,o4,none⟩=some v4/\(W.drewN n).cell? ⟨b5,o5,none⟩=some v5/\(W.drewN n).cell? ⟨b6,o6,none⟩=some v6/\(W.drewN n).cell? ⟨b7,o7,none⟩=some v7/\Ov wB (W.drewN n):=by
 obtain ⟨h0,h1,h2,h3,h4,h5,h6,h7,hB⟩:=h
 exact ⟨h0,h1,h2,h3,h4,h5,h6,h7,below_drewN hB n⟩
theorem Pu {W:World} {x y:Value} {l:Lev} (h:AQ W (zh #[x,y]) l):AN W x l.r:=by
 obtain ⟨a,b,e,h1,h2⟩:=h
 obtain ⟨rfl,rfl⟩:x=a/\y=b:=by simpa using e
 exact h1
theorem Pt {W:World} {x y:Value} {l:Lev} (h:AQ W (zh #[x,y]) l):AN W y l.w:=by
 obtain ⟨a,b,e,h1,h2⟩:=h
 obtain ⟨rfl,rfl⟩:x=a/\y=b:=by simpa using e
 exact h2
theorem GQ {W:World} {g:Nat} {x y:Bool} (h0:W.cell? ⟨g,0,none⟩=some (zg x)) (h1:W.cell? ⟨g,1,none⟩=some (zg y)):AN W (O (some ⟨g,0,none⟩) 2 2) [x,y]:=by
 refine ⟨_,2,rfl,fun _=>⟨g,0,rfl,fun i hi=>?_⟩⟩
 have:i=0\/i=1:=by simp at hi;omega
 rcases this with rfl | rfl
 ·simpa using h0
 ·simpa using h1
theorem FY (hC:Ke) (hL:Kc) (hR:Kb) (hF:Kd) (hJ:MD) (hM:MC) (w:World) :
  Calls Tryz.prog 13 #[] w fun e w'=>e=zk (zg true)/\Ov w w':=by
 have KC:=Aa hC
 have KL:=Aa hL
 have KR:=Aa hR
 have KF:=Aa hF
 have KJ:=Aa hJ
 have KM:=Aa hM
 clear hC hL hR hF hJ hM
 go_enter Tryz.func13,Tryz.ntmps13
 go_wp2_with fail
 refine (Dw _).mono ?_
 rintro e w1 ⟨v1,rfl,hv1,hb1⟩
 have H1:=Aa hv1
 clear hv1
 go_wp2_with fail
 refine (FM _).mono ?_
 rintro e w2 ⟨pr,pw,rfl,hp,hq,hb2⟩
 have hB2:=hb1.trans (hb2.mono hb1.size)
 have hl2:=KL.o 2 v1 CI pr pw Cy w2 (Af H1.o hb2) hp hq
 rw [PA,if_pos rfl] at hl2
 have HL2:=Aa hl2
 clear hp hq hl2 hb1 hb2 H1
 go_wp2_with fail
 refine (HL2.o).mono ?_
 rintro e w3 ⟨vl,rfl,hlf,hb3⟩
 have hB3:=hB2.trans (hb3.mono hB2.size)
 have hla:=Cv hlf
 have e3:AA (AD CI) (2:Int).toNat Cy=lv:=PU
 rw [e3] at hla
 clear hlf HL2 hB2 hb3 e3
 have HLA:=Aa hla
 obtain ⟨la,lb,rfl,⟨a1,k1,rfl,-⟩,⟨a2,k2,rfl,-⟩⟩:=hla
 go_wp2_with fail
 have hal:=AJ w3 (ze #[O a1 lv.r.length k1,O a2 lv.w.length k2] 50)
 have hBa:Ov w (w3.alloc (ze #[O a1 lv.r.length k1,O a2 lv.w.length k2] 50)):=hB3.trans ((Below.refl _ w3).alloc hB3.size _)
 have HLA2:=Aa (Ag HLA.o (bA w3 (ze #[O a1 lv.r.length k1,O a2 lv.w.length k2] 50)))
 clear HLA hB3
 refine (Dw _).mono ?_
 rintro e w4 ⟨v4,rfl,hv4,hb4⟩
 have hx4:=BF hal hb4
 have hB4:=hBa.trans (hb4.mono hBa.size)
 have HLA4:=Aa (Ag HLA2.o hb4)
 have hl4:=KL.o 2 v4 CI (O none 0 0) (O none 0 0) ⟨[],[]⟩ w4 hv4 (B4 _) (B4 _)
 rw [PV,if_pos rfl] at hl4
 have HL4:=Aa hl4
 clear hl4 hv4 hb4 hal hBa HLA2
 go_wp2_with fail
 refine (HL4.o).mono ?_
 rintro e w5 ⟨vm,rfl,hmf,hb5⟩
 have hx5:=BF hx4 hb5
 have hB5:=hB4.trans (hb5.mono hB4.size)
 have HLA5:=Aa (Ag HLA4.o hb5)
 have hma:=Cv hmf
 have e4:AA (AD CI) (2:Int).toNat ⟨[],[]⟩=mv:=PT
 rw [e4] at hma
 clear hmf HL4 hB4 hb5 e4 HLA4 hx4
 have HMA:=Aa hma
 obtain ⟨ma,mb,rfl,⟨a3,k3,rfl,-⟩,⟨a4,k4,rfl,-⟩⟩:=hma
 go_wp2_with fail
 obtain ⟨wB,hwB⟩:=nm (w5.alloc (ze #[O a3 mv.r.length k3,O a4 mv.w.length k4] 50))
 have hba:Ov w5 wB:=by rw [hwB];exact bA w5 _
 have x1:=BF hx5 hba
 have x3:wB.heap[w5.heap.size]? = some (ze #[O a3 mv.r.length k3,O a4 mv.w.length k4] 50 (0,0)):=by rw [hwB];exact AJ _ _
 have hBB:=hB5.trans (hba.mono hB5.size)
 have HLB:=Aa (Ag HLA5.o hba)
 have HMB:=Aa (Ag HMA.o hba)
 have hlen:lv.r.length=2/\lv.w.length=2/\mv.r.length=2/\mv.w.length=2:=⟨rfl,rfl,rfl,rfl⟩
 rw [<-hwB]
 clear hwB hba hx5 hB5 HLA5 HMA hlen
 obtain ⟨s0,s1,-,-⟩:=CN x1
 obtain ⟨s2,s3,-,-⟩:=CN x3
 have hf1:=fun (v:Value) (W:World) (hv:Az W v CI) (hW:Ov wB W)=>KF.o 2 v CI _ _ mv lv W hv (Ag HMB.o hW) (Ag HLB.o hW)
 have hf2:=fun (v:Value) (W:World) (hv:Az W v CI) (hW:Ov wB W)=>KF.o 2 v CI _ _ lv mv W hv (Ag HLB.o hW) (Ag HMB.o hW)
 rw [Nj.2.1] at hf1
 rw [Nj.1] at hf2
 have e5:(decide ((0:Int)=0) && Ay mv lv (2:Int).toNat)=true:=by decide
 have e6:(decide ((0:Int)=0) && Ay lv mv (2:Int).toNat)=false:=by decide
 rw [e5] at hf1
 rw [e6] at hf2
 have HF1:=Aa hf1
 have HF2:=Aa hf2
 clear hf1 hf2 e5 e6
 have L1:=Aa (bL s0)
 have L2:=Aa (bL s2)
 first | go_region_held3 (fun W=>W.cell? ⟨w3.heap.size,0,none⟩=some (O a1 lv.r.length k1)/\W.cell? ⟨w3.heap.size,1,none⟩=some (O a2 lv.w.length k2)/\W.cell? ⟨w5.heap.size,0,none⟩=some (O a3 mv.r.length k3)/\W.cell? ⟨w5.heap.size,1,none⟩=some (O a4 mv.w.length k4)/\Ov wB W) (first | assumption | exact ⟨s0,s1,s2,s3,below_drewN (Below.refl _ _) 1⟩ | exact Db (by assumption) hbq | exact Db (by assumption) hbp) (first | (go_at_call 44;refine (Dw _).mono ?_;rintro e wq ⟨vq,rfl,hvq,hbq⟩) | (go_at_call 16;refine (HF1.o vq _ hvq (by assumption:_/\_/\_/\_/\_).2.2.2.2).mono ?_;rintro e wp ⟨rfl,hbp⟩)) | fail
 obtain ⟨s0,s1,s2,s3,hBw⟩:=(by assumption:wp.cell? _=_/\_/\_/\_/\_)
 clear hvq hbq hbp HF1
 go_wp2_with fail
 first | go_region_held3 (fun W=>W.cell? ⟨w3.heap.size,0,none⟩=some (O a1 lv.r.length k1)/\W.cell? ⟨w3.heap.size,1,none⟩=some (O a2 lv.w.length k2)/\W.cell? ⟨w5.heap.size,0,none⟩=some (O a3 mv.r.length k3)/\W.cell? ⟨w5.heap.size,1,none⟩=some (O a4 mv.w.length k4)/\Ov wB W) (first | assumption | exact ⟨s0,s1,s2,s3,below_drewN hBw 1⟩ | exact Db (by assumption) hbr | exact Db (by assumption) hbt) (first | (go_at_call 44;refine (Dw _).mono ?_;rintro e wr ⟨vr,rfl,hvr,hbr⟩) | (go_at_call 16;refine (HF2.o vr _ hvr (by assumption:_/\_/\_/\_/\_).2.2.2.2).mono ?_;rintro e wt ⟨rfl,hbt⟩)) | fail
 clear s0 s1 s2 s3 hBw
 obtain ⟨s0,s1,s2,s3,hBw⟩:=(by assumption:wt.cell? _=_/\_/\_/\_/\_)
 have hj1:=fun (v:Value) (W:World) (hv:Az W v CI) (hW:Ov wB W)=>KJ.o 2 v CI _ _ lv mv W hv (Ag HLB.o hW) (Ag HMB.o hW)
 have hm1:=fun (v:Value) (W:World) (hv:Az W v CI) (hW:Ov wB W)=>KM.o 2 v CI _ _ lv mv W hv (Ag HLB.o hW) (Ag HMB.o hW)
 rw [Nj.1,if_pos rfl] at hj1 hm1
 have HJ1:=Aa hj1
 have HM1:=Aa hm1
 clear hj1 hm1 hvr hbr hbt HF2
 go_wp2_with fail
 have hzt:=hBw.size
 go_cut [9,10] from 39 to 45 (fun s9 s10 wc=>PG w3 w5 wB a1 k1 a2 k2 a3 k3 a4 k4 lv s9 s10 wc)
 case first=>
  first | go_region_held3 (fun W=>W.cell? ⟨w3.heap.size,0,none⟩=some (O a1 lv.r.length k1)/\W.cell? ⟨w3.heap.size,1,none⟩=some (O a2 lv.w.length k2)/\W.cell? ⟨w5.heap.size,0,none⟩=some (O a3 mv.r.length k3)/\W.cell? ⟨w5.heap.size,1,none⟩=some (O a4 mv.w.length k4)/\Ov wB W) (first | assumption | exact ⟨s0,s1,s2,s3,below_drewN hBw 1⟩ | exact Db (by assumption) hbq | exact Db (by assumption) hbp | exact Db (by assumption) (bA _ _) | exact Db HSP.o (bA _ _) | exact CQ (CQ (by assumption) L1.o L2.o hzq) L1.o L2.o hzq | exact CQ (CQ (by assumption) L1.o L2.o hzt) L1.o L2.o hzt | fail) (first | (go_at_call 44;refine (Dw _).mono ?_;rintro e wq ⟨vq,rfl,hvq,hbq⟩;have hzq:wB.heap.size<=wq.heap.size:=Nat.le_trans (by assumption:_/\_/\_/\_/\Ov wB _).2.2.2.2.size hbq.size;have hzz:=hbq.size;(try simp at hzz);(try have hzy:=Nat.lt_of_succ_le hzz);obtain ⟨hcq,hfq⟩:=Al hbq) | (go_at_call 46;refine (HJ1.o vq _ (by first | exact hvq | exact Af hvq (bA _ _)) (by assumption:_/\_/\_/\_/\_).2.2.2.2).mono ?_;rintro e wp ⟨vj,rfl,hjf,hbp⟩;have HJF:=Aa hjf;obtain ⟨ja,jb,rfl,⟨a5,k5,rfl,-⟩,⟨a6,k6,rfl,-⟩⟩:=Cv hjf;have HSP:=Aa (Db (by assumption:_/\_/\_/\_/\_) hbp);obtain ⟨hcp,hfp⟩:=Al hbp)) | fail
  all_goals obtain ⟨f0,f1,f2,f3,fB⟩:=(by assumption:_/\_/\_/\_/\_)
  all_goals go_wp2_with fail
  all_goals go_meet
  all_goals first
   | exact ⟨_,_,_,rfl,rfl,AJ _ _,Ag (Cv HJF.o) (bA _ _),f0,f1,f2,f3,fB⟩
   | exact ⟨_,_,_,rfl,rfl,FF (BF (AJ _ _) hbp),FC HJF.o (BF (AJ _ _) hbp),f0,f1,f2,f3,fB⟩
   | exact ⟨_,_,_,rfl,rfl,FF (BF (BF (W:=(wt.alloc (ze #[O none 0 0,O none 0 0] 50)).drew) (AJ wt _) hbq) hbp),FC HJF.o (BF (BF (W:=(wt.alloc (ze #[O none 0 0,O none 0 0] 50)).drew) (AJ wt _) hbq) hbp),f0,f1,f2,f3,fB⟩
 case rest=>
  clear s0 s1 s2 s3 hBw hzt HJ1
  obtain ⟨p9,ja,jb,rfl,rfl,x9,hj9,s0,s1,s2,s3,hBw⟩:=hcut
  have N1:=Aa (bL s0)
  have N2:=Aa (bL s2)
  have hm2:=fun (v:Value) (W:World) (hv:Az W v CI) (hW:Ov wc W)=>HM1.o v W hv (hBw.trans (hW.mono hBw.size))
  have HM2:=Aa hm2
  have HX9:=Aa x9
  have HJ9:=Aa hj9
  clear hm2 HM1 x9 hj9
  go_wp2_with fail
  go_cut [11,12] from 46 to 52 (fun s11 s12 wd=>PG w3 w5 wc a1 k1 a2 k2 a3 k3 a4 k4 mv s11 s12 wd)
  case first=>
   first | go_region_held3 (fun W=>W.cell? ⟨w3.heap.size,0,none⟩=some (O a1 lv.r.length k1)/\W.cell? ⟨w3.heap.size,1,none⟩=some (O a2 lv.w.length k2)/\W.cell? ⟨w5.heap.size,0,none⟩=some (O a3 mv.r.length k3)/\W.cell? ⟨w5.heap.size,1,none⟩=some (O a4 mv.w.length k4)/\Ov wc W) (first | assumption | exact ⟨s0,s1,s2,s3,below_drewN (Below.refl _ _) 1⟩ | exact Db (by assumption) hbq | exact Db (by assumption) hbp | exact Db (by assumption) (bA _ _) | exact Db HSP.o (bA _ _) | exact CQ (CQ (by assumption) N1.o N2.o hzq) N1.o N2.o hzq | exact CQ (CQ (by assumption) N1.o N2.o (Nat.le_refl _)) N1.o N2.o (Nat.le_refl _) | fail) (first | (go_at_call 44;refine (Dw _).mono ?_;rintro e wq ⟨vq,rfl,hvq,hbq⟩;have hzq:wc.heap.size<=wq.heap.size:=Nat.le_trans (by assumption:_/\_/\_/\_/\Ov wc _).2.2.2.2.size hbq.size;have hzz:=hbq.size;(try simp at hzz);(try have hzy:=Nat.lt_of_succ_le hzz);obtain ⟨hcq,hfq⟩:=Al hbq) | (go_at_call 47;refine (HM2.o vq _ (by first | exact hvq | exact Af hvq (bA _ _)) (by assumption:_/\_/\_/\_/\_).2.2.2.2).mono ?_;rintro e wp ⟨vj,rfl,hjf,hbp⟩;have HJF:=Aa hjf;obtain ⟨ja,jb,rfl,⟨a5,k5,rfl,-⟩,⟨a6,k6,rfl,-⟩⟩:=Cv hjf;have HSP:=Aa (Db (by assumption:_/\_/\_/\_/\_) hbp);obtain ⟨hcp,hfp⟩:=Al hbp)) | fail
   all_goals obtain ⟨f0,f1,f2,f3,fB⟩:=(by assumption:_/\_/\_/\_/\_)
   all_goals go_wp2_with fail
   all_goals go_meet
   all_goals first
    | exact ⟨_,_,_,rfl,rfl,AJ _ _,Ag (Cv HJF.o) (bA _ _),f0,f1,f2,f3,fB⟩
    | exact ⟨_,_,_,rfl,rfl,FF (BF (AJ _ _) hbp),FC HJF.o (BF (AJ _ _) hbp),f0,f1,f2,f3,fB⟩
    | exact ⟨_,_,_,rfl,rfl,FF (BF (BF (W:=(wc.alloc (ze #[O none 0 0,O none 0 0] 50)).drew) (AJ wc _) hbq) hbp),FC HJF.o (BF (BF (W:=(wc.alloc (ze #[O none 0 0,O none 0 0] 50)).drew) (AJ wc _) hbq) hbp),f0,f1,f2,f3,fB⟩
  case rest=>
   obtain ⟨p11,ka,kb,rfl,rfl,x11,hk11,t0,t1,t2,t3,hBd⟩:=hcut
   have hBe:=hBw.trans (hBd.mono hBw.size)
   have hBf:=hBB.trans (hBe.mono hBB.size)
   obtain ⟨j0,j1,-,-⟩:=CN (BF HX9.o hBd)
   obtain ⟨m0,m1,-,-⟩:=CN x11
   obtain ⟨a5,k5,a6,k6,hje⟩:=Cf HJ9.o
   obtain ⟨rfl,rfl⟩:ja=O a5 lv.r.length k5/\jb=O a6 lv.w.length k6:=by simpa using hje
   obtain ⟨a7,k7,a8,k8,hke⟩:=Cf hk11
   obtain ⟨rfl,rfl⟩:ka=O a7 mv.r.length k7/\kb=O a8 mv.w.length k8:=by simpa using hke
   have hC1:=fun (v pr pw:Value) (W:World) (hv:Az W v CI) (hp:AC W pr Cy.r) (hq:AC W pw Cy.w)=>KC.o 2 v CI pr pw Cy W hv hp hq
   rw [PA] at hC1
   have hR1:=fun (v:Value) (W:World) (hv:Az W v CI) (hW:Ov wc W)=>KR.o 2 v CI _ lv W hv (Ag (Ag HLB.o hBe) hW)
   rw [Nj.2.2] at hR1
   have hS1:=fun (W:World) (hW:Ov wc W)=>Cn _ _ lv lv W (Ag (Ag HJ9.o hBd) hW) (Ag (Ag HLB.o hBe) hW) Ia.1
   rw [show DA lv lv=true from by decide] at hS1
   have hS2:=fun (W:World) (hW:Ov wc W)=>Cn _ _ mv mv W (Ag hk11 hW) (Ag (Ag HMB.o hBe) hW) Ia.2
   rw [show DA mv mv=true from by decide] at hS2
   have hB1:=fun (W:World) (g:Nat) (h0:W.cell? ⟨g,0,none⟩=some (zg false)) (h1:W.cell? ⟨g,1,none⟩=some (zg true)) (hW:Ov wc W)=>Bu (O a1 lv.r.length k1) (O (some ⟨g,0,none⟩) 2 2) lv.r [false,true] W (Pu (Ag (Ag HLB.o hBe) hW)) (GQ h0 h1) (by decide)
   rw [show decide (lv.r=[false,true])=true from by decide] at hB1
   have hB2:=fun (W:World) (g:Nat) (h0:W.cell? ⟨g,0,none⟩=some (zg true)) (h1:W.cell? ⟨g,1,none⟩=some (zg true)) (hW:Ov wc W)=>Bu (O a2 lv.w.length k2) (O (some ⟨g,0,none⟩) 2 2) lv.w [true,true] W (Pt (Ag (Ag HLB.o hBe) hW)) (GQ h0 h1) (by decide)
   rw [show decide (lv.w=[true,true])=true from by decide] at hB2
   have C1:=Aa hC1
   have R1:=Aa hR1
   have S1:=Aa hS1
   have S2:=Aa hS2
   have B1:=Aa hB1
   have B2:=Aa hB2
   have HX:=Aa (show wc.cell? ⟨w3.heap.size,0,none⟩=some (O a1 lv.r.length k1)/\wc.cell? ⟨w3.heap.size,1,none⟩=some (O a2 lv.w.length k2)/\wc.cell? ⟨w5.heap.size,0,none⟩=some (O a3 mv.r.length k3)/\wc.cell? ⟨w5.heap.size,1,none⟩=some (O a4 mv.w.length k4)/\wc.cell? ⟨p9,0,none⟩=some (O a5 lv.r.length k5)/\wc.cell? ⟨p9,1,none⟩=some (O a6 lv.w.length k6)/\wc.cell? ⟨p11,0,none⟩=some (O a7 mv.r.length k7)/\wc.cell? ⟨p11,1,none⟩=some (O a8 mv.w.length k8)/\Ov wc wc from ⟨t0,t1,t2,t3,j0,j1,m0,m1,Below.refl _ _⟩)
   clear hC1 hR1 hS1 hS2 hB1 hB2 hje hke hk11 x11 HX9 HJ9 HLB HMB KC KL KR KF KJ KM HM2 hBB hBw hBd hBe x1 x3 t0 t1 t2 t3 j0 j1 m0 m1 s0 s1 s2 s3 N1 N2 L1 L2
   go_wp2_with fail
   first | go_region_held3 (fun W=>W.cell? ⟨w3.heap.size,0,none⟩=some (O a1 lv.r.length k1)/\W.cell? ⟨w3.heap.size,1,none⟩=some (O a2 lv.w.length k2)/\W.cell? ⟨w5.heap.size,0,none⟩=some (O a3 mv.r.length k3)/\W.cell? ⟨w5.heap.size,1,none⟩=some (O a4 mv.w.length k4)/\W.cell? ⟨p9,0,none⟩=some (O a5 lv.r.length k5)/\W.cell? ⟨p9,1,none⟩=some (O a6 lv.w.length k6)/\W.cell? ⟨p11,0,none⟩=some (O a7 mv.r.length k7)/\W.cell? ⟨p11,1,none⟩=some (O a8 mv.w.length k8)/\Ov wc W) (first | assumption | exact Jy HX.o 1 | exact Fr (by assumption) hbq | exact Fr (by assumption) hbs | exact Fr (by assumption) hbk | exact Fr (by assumption) hbr | exact Fr (by assumption) hbs1 | exact Fr (by assumption) hbs2 | exact Fr (by assumption) (bA _ _) | exact Jy (by assumption) n1 | exact Jy (by assumption) n2 | fail) (first | (go_at_call 44;refine (Dw _).mono ?_;rintro e wq ⟨vq,rfl,hvq,hbq⟩) | (go_at_call 45;refine (FM _).mono ?_;rintro e ws ⟨prs,pws,rfl,hps,hqs,hbs⟩) | (go_at_call 48;refine (C1.o vq _ _ _ (Af hvq hbs) hps hqs).mono ?_;rintro e wk ⟨rfl,hbk⟩) | (go_at_call 49;refine (R1.o vq _ hvq (by assumption:_/\_/\_/\_/\_/\_/\_/\_/\_).2.2.2.2.2.2.2.2).mono ?_;rintro e wr ⟨rfl,hbr⟩) | (go_at_call 42;have hsec:=hbs1;refine (S2.o _ (by assumption:_/\_/\_/\_/\_/\_/\_/\_/\_).2.2.2.2.2.2.2.2).mono ?_;rintro e wt ⟨rfl,hbs2⟩) | (go_at_call 42;refine (S1.o _ (by assumption:_/\_/\_/\_/\_/\_/\_/\_/\_).2.2.2.2.2.2.2.2).mono ?_;rintro e wt ⟨rfl,hbs1⟩) | (go_at_call 43;have hsec:=hbb1;refine (B2.o _ _ (by simp [go_sem]) (by simp [go_sem]) (by assumption:_/\_/\_/\_/\_/\_/\_/\_/\_).2.2.2.2.2.2.2.2).mono ?_;rintro e wv ⟨rfl,n2,rfl⟩) | (go_at_call 43;refine (B1.o _ _ (by simp [go_sem]) (by simp [go_sem]) (by assumption:_/\_/\_/\_/\_/\_/\_/\_/\_).2.2.2.2.2.2.2.2).mono ?_;rintro e wv ⟨rfl,n1,rfl⟩;have hbb1:n1=n1:=rfl)) | fail
   all_goals go_wp2_with fail
   all_goals go_ret
   all_goals have hfin:=(by assumption:_/\_/\_/\_/\_/\_/\_/\_/\Ov wc _).2.2.2.2.2.2.2.2
   all_goals exact ⟨rfl,hBf.trans (hfin.mono hBf.size)⟩
theorem labBegun_any (w:World):Calls Tryz.prog 13 #[] w fun e w'=>e=zk (zg true)/\Ov w w':=FY Ht J0 JY Hl Mf OA w
end Go.Proofs.YtfffpjkcfnekaaaGreat
