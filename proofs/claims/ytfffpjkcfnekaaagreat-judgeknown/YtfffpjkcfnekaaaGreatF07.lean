/- What is done where a level must flow: does it? -/
import Derived.Test.YtfffpjkcfnekaaaGreatF06
import Derived.Deep.CutRange
import Derived.Deep.SlicePairs
import Derived.Maps.AppendAt
set_option linter.unusedVariables false
set_option maxHeartbeats 8000000
set_option maxRecDepth 100000
namespace Go.Proofs.YtfffpjkcfnekaaaGreat.Ex
open Go.RowKit
open Go.Value renaming slice -> O, int -> U, bool -> zg, agg -> zh, pointer -> zj, tuple -> zm
open Go.IntKind renaming i64 -> zd
open Go.Obj renaming cells -> ze
open Go.Ending renaming returned -> zk
theorem MK (args:Array Value) (w:World):(callFunc 101 args).run Tryz.prog w=.ok (.enter 101 args) w:=by simp [go_sem]
def XF (bm:Nat):World->Nat->Prop:=fun _ k=>k=bm
theorem GF (bm:Nat):XOk (XF bm):=⟨fun _ _ _ _ h=>h⟩
structure EI (c:WC) (w0:World) (L:ISt) (nv nf bw bm:Nat) (b:Bool) (W:World):Prop where
 below:Ov w0 W
 vs:Bb c.n (XF bm) W (O c.la c.ln c.lc) L.vs
 fs:Bb c.n (XF bm) W (O c.ka c.kn c.kc) L.fs
 lv:L.vs.length=nv
 lf:L.fs.length=nf
 more:W.cell? ⟨bm,0,none⟩=some (zg b)
 mz:W.frozen? ⟨bm,0,none⟩=false
 row:Ae c.cs W bw
theorem EI.over {c:WC} {w0:World} {L:ISt} {nv nf bw bm:Nat} {b:Bool} {W W':World} (h:EI c w0 L nv nf bw bm b W) (hb:Ov W W'):EI c w0 L nv nf bw bm b W':=
 ⟨Ac h.below hb,h.vs.over (GF bm) hb,h.fs.over (GF bm) hb,h.lv,h.lf,Ab hb _ _ h.more,((Ap hb).2 _ _ (bL h.more)).trans h.mz,h.row.over hb⟩
theorem OE {c:WC} {w0:World} {nv bw bm:Nat} {fs:List FnD} {gs:List (Int × Int)} (L:ISt) (n1:1<=c.n) (n6:c.n<=6) (gr:AG w0 (O c.ga c.gn c.gc) gs) (chk:AQ c.n gs=0) (nv16:nv<=16):D3 c w0 nv fs gs (fun _:Bool=>L.vs) (fun _=>L.fs) (EI c w0 L nv fs.length bw bm) (XF bm):=
 ⟨n1,n6,gr,chk,nv16,fun st W h=>h.below,fun st W h=>⟨h.vs,h.lv⟩,fun st W h=>⟨h.fs,h.lf⟩,fun st W W' h hb=>h.over hb,GF bm,fun st W h k hx=>by unfold XF at hx;subst hx;exact bL h.more⟩
theorem EI.lev {c:WC} {w0:World} {L:ISt} {nv nf bw bm b off:Nat} {f:Bool} {W:World} {i:Bool × Nat} (h:EI c w0 L nv nf bw bm f W) (hib:(if i.1=true then c.la else c.ka)=some ⟨b,off,none⟩) (h1:i.1=true->i.2 < nv) (h2:i.1=false->i.2 < nf) :
  ∃ rv wv,W.cell? ⟨b,off+i.2*2,none⟩=some rv/\W.cell? ⟨b,off+i.2*2+1,none⟩=some wv/\AW c.n (XF bm) W (zh #[rv,wv]) (L.at i):=by
 unfold ISt.at
 by_cases hi:i.1=true
 ·rw [if_pos hi] at hib ⊢
  have hlt:=h1 hi
  obtain ⟨ao,cap,hv,hel⟩:=h.vs
  injection hv with v1 v2 v3
  obtain ⟨b',o',hb',hel⟩:=hel (by intro e;have:=h.lv;rw [e] at this;simp at this;omega)
  rw [<-v1,hib] at hb'
  injection hb' with hb'
  injection hb' with hb1 hb2
  subst hb1 hb2
  have hlt2:i.2 < L.vs.length:=by have:=h.lv;omega
  obtain ⟨rv,wv,c0,c1,hl⟩:=hel i.2 hlt2
  refine ⟨rv,wv,c0,c1,?_⟩
  have e:L.vs.getD i.2 AE=L.vs[i.2]:=by simp [List.getD_eq_getElem?_getD,hlt2]
  rw [e]
  exact hl
 ·rw [if_neg hi] at hib ⊢
  have hlt:=h2 (by simpa using hi)
  obtain ⟨ao,cap,hv,hel⟩:=h.fs
  injection hv with v1 v2 v3
  obtain ⟨b',o',hb',hel⟩:=hel (by intro e;have:=h.lf;rw [e] at this;simp at this;omega)
  rw [<-v1,hib] at hb'
  injection hb' with hb'
  injection hb' with hb1 hb2
  subst hb1 hb2
  have hlt2:i.2 < L.fs.length:=by have:=h.lf;omega
  obtain ⟨rv,wv,c0,c1,hl⟩:=hel i.2 hlt2
  refine ⟨rv,wv,c0,c1,?_⟩
  have e:L.fs.getD i.2 AE=L.fs[i.2]:=by simp [List.getD_eq_getElem?_getD,hlt2]
  rw [e]
  exact hl
theorem Bb.keep' {n:Nat} {X:World->Nat->Prop} {W W3:World} {v:Value} {Ls:List Lev} (n1:1<=n) (h:Bb n X W v Ls) (hF:FrW X W W3) (hc:Ls≠[]->∀ b o ln cp,v=O (some ⟨b,o,none⟩) ln cp->∀ j u,W.cell? ⟨b,j,none⟩=some u->W3.cell? ⟨b,j,none⟩=some u):Bb n X W3 v Ls:=by
 by_cases hne:Ls=[]
 ·subst hne
  obtain ⟨ao,cap,hv,-⟩:=h
  exact ⟨ao,cap,hv,fun h=>absurd rfl h⟩
 ·exact h.keep n1 hF (hc hne)
theorem EI.setM {c:WC} {w0:World} {L:ISt} {nv nf bw bm:Nat} {f f':Bool} {W:World} (n1:1<=c.n) (hm:w0.heap.size<=bm) (hw:bw≠bm) (hlk:(L.vs≠[]->∀ a,c.la=some a->a.block≠bm)/\(L.fs≠[]->∀ a,c.ka=some a->a.block≠bm)) (h:EI c w0 L nv nf bw bm f W):EI c w0 L nv nf bw bm f' (W.setCell ⟨bm,0,none⟩ (zg f'))/\FrW (XF bm) W (W.setCell ⟨bm,0,none⟩ (zg f')):=by
 have hsz:(W.setCell ⟨bm,0,none⟩ (zg f')).heap.size=W.heap.size:=by simp [World.setCell]
 have hblk:∀ k,k≠bm->(W.setCell ⟨bm,0,none⟩ (zg f')).heap[k]? = W.heap[k]?:=fun k hk=>Bi (Ne.symm hk) _
 have hF:FrW (XF bm) W (W.setCell ⟨bm,0,none⟩ (zg f')):=⟨rfl,rfl,rfl,by omega,fun k _ hx=>hblk k hx,fun k _ hx=>hx⟩
 have cne:∀ b' o' u,b'≠bm->W.cell? ⟨b',o',none⟩=some u->(W.setCell ⟨bm,0,none⟩ (zg f')).cell? ⟨b',o',none⟩=some u:=fun b' o' u hm hc=>(World.cell?_of_block (a:=⟨b',o',none⟩) (hblk b' hm)).trans hc
 refine ⟨⟨h.below.setCell (p:=⟨bm,0,none⟩) hm _,h.vs.keep' n1 hF (fun hne b' o' ln cp hv j u hc=>?_),h.fs.keep' n1 hF (fun hne b' o' ln cp hv j u hc=>?_),h.lv,h.lf,World.cell?_setCell_same _ _ _ h.more,?_,fun j u hu=>cne _ _ _ hw (h.row j u hu)⟩,hF⟩
 ·injection hv with v1
  exact cne _ _ _ (hlk.1 hne ⟨b',o',none⟩ v1) hc
 ·injection hv with v1
  exact cne _ _ _ (hlk.2 hne ⟨b',o',none⟩ v1) hc
 ·have:=h.mz
  simpa [go_sem] using this
abbrev Kq (bw:Nat) (c:WC) (W:World) (p1:Option Addr) (q1 r1:Nat) (p2:Option Addr) (q2 r2 b o:Nat) (m1:Option Addr) (m2 m3:Nat) (m4:Option Addr) (m5 m6:Nat) (Wz:World):Prop:=Wz.cell? ⟨bw,0,none⟩=some (U zd (c.n:Int))/\Wz.cell? ⟨bw,1,none⟩=some (O c.ga c.gn c.gc)/\Wz.cell? ⟨bw,2,none⟩=some (O c.sa c.sn c.sc)/\Wz.cell? ⟨bw,3,none⟩=some (O c.ya c.yn c.yc)/\Wz.cell? ⟨bw,4,none⟩=some (O c.oa c.on c.oc)/\Wz.cell? ⟨bw,5,none⟩=some (O c.va c.vn c.vc)/\Wz.cell? ⟨bw,6,none⟩=some (O c.fa c.fn c.fc)/\Wz.cell? ⟨bw,7,none⟩=some (O c.ba c.bn c.bc)/\Wz.cell? ⟨bw,8,none⟩=some (O c.la c.ln c.lc)/\Wz.cell? ⟨bw,9,none⟩=some (O c.ka c.kn c.kc)/\Wz.cell? ⟨W.heap.size,0,none⟩=some (O p1 q1 r1)/\Wz.cell? ⟨W.heap.size,1,none⟩=some (O p2 q2 r2)/\Wz.cell? ⟨b,o,none⟩=some (O m1 m2 m3)/\Wz.cell? ⟨b,o+1,none⟩=some (O m4 m5 m6)
theorem MI (c:WC) (w0:World) (L:ISt) (nv bw bm:Nat) (fs gs) (n1:1<=c.n) (gr:AG w0 (O c.ga c.gn c.gc) gs) (chk:AQ c.n gs=0) (hm:w0.heap.size<=bm) (hw:bw≠bm) (hlk:(L.vs≠[]->∀ a,c.la=some a->a.block≠bm)/\(L.fs≠[]->∀ a,c.ka=some a->a.block≠bm)) :
  C3 c nv fs (EI c w0 L nv fs.length bw bm) (XF bm) (BK c.n L) 101 (zj (some ⟨bm,0,none⟩)) (zj (some ⟨bw,0,none⟩)):=by
 intro st W v l i b off hI hl hi1 hi2 hib
 obtain ⟨rv,wv,c0,c1,hlv⟩:=EI.lev hI hib hi1 hi2
 obtain ⟨p1,q1,r1,p2,q2,r2,rfl⟩:=hl.form
 obtain ⟨m1,m2,m3,m4,m5,m6,hform⟩:=hlv.form
 simp at hform
 obtain ⟨rfl,rfl⟩:=hform
 obtain ⟨o,ho⟩:=nm (off+i.2*2)
 rw [<-ho] at c0 c1 ⊢
 have hbb:b≠bm:=by
  by_cases hi:i.1=true
  ·rw [if_pos hi] at hib
   exact hlk.1 (by intro e;have h1:=hi1 hi;have h2:=hI.lv;rw [e] at h2;simp at h2;omega) ⟨b,off,none⟩ hib
  ·rw [if_neg hi] at hib
   exact hlk.2 (by intro e;have h1:=hi2 (by simpa using hi);have h2:=hI.lf;rw [e] at h2;simp at h2;omega) ⟨b,off,none⟩ hib
 have hba:Ov W (W.alloc (ze #[O p1 q1 r1,O p2 q2 r2] 50)):=bA W _
 have hI1:=hI.over hba
 have hl1:=hl.over (GF bm) hba
 have hlv1:=hlv.over (GF bm) hba
 obtain ⟨l0,l1⟩:=co2 hba c0 c1
 have rowB:=Ae.new [O p1 q1 r1,O p2 q2 r2] 50 W
 have hgr:=Af gr hI1.below
 have KF:=Aa fun (W2:World) (hb2:Ov (W.alloc (ze #[O p1 q1 r1,O p2 q2 r2] 50)) W2)=>I3 (c.n:Int) c.ga c.gn c.gc c.sa c.sn c.sc c.ya c.yn c.yc c.oa c.on c.oc c.va c.vn c.vc c.fa c.fn c.fc c.ba c.bn c.bc c.la c.ln c.lc c.ka c.kn c.kc gs (O p1 q1 r1) (O p2 q2 r2) (O m1 m2 m3) (O m4 m5 m6) l (L.at i) W2 (Af hgr hb2) (Aw hl1.at_ hb2) (Aw hlv1.at_ hb2) (C6 chk hl1.len hlv1.len)
 simp only [Int.toNat_natCast] at KF
 obtain ⟨fb,hfb⟩:=nm (Ay l (L.at i) c.n)
 rw [<-hfb] at KF
 have HFB:=Aa hfb
 have HI:=Aa hI1
 have HR:=Aa hI1.row
 have HRB:=Aa rowB
 have HF0:=Aa (FrW.of_below (GF bm) hba)
 have HML:=Aa (bL hI1.more)
 have HMZ:=Aa hI1.mz
 have HMC:=Aa hI1.more
 have HBN:=Aa (Ne.symm hw)
 have HBN2:=Aa (show bm≠W.heap.size from Nat.ne_of_lt (bL hI.more))
 have HBN3:=Aa (Ne.symm hbb)
 have HSET:=Aa fun (f':Bool) (W2:World) (hb2:Ov (W.alloc (ze #[O p1 q1 r1,O p2 q2 r2] 50)) W2)=>EI.setM (f':=f') n1 hm hw hlk (hI1.over hb2)
 have m0:=hI1.more
 have mz:=hI1.mz
 obtain ⟨t0,t1,t2,t3,t4,t5,t6,t7,t8,t9⟩:=B9 hI1.row
 obtain ⟨b0,b1⟩:=rc2 rowB
 have hS0:Kq bw c W p1 q1 r1 p2 q2 r2 b o m1 m2 m3 m4 m5 m6 (W.alloc (ze #[O p1 q1 r1,O p2 q2 r2] 50)):=⟨t0,t1,t2,t3,t4,t5,t6,t7,t8,t9,b0,b1,l0,l1⟩
 clear hI hl hlv hI1 hl1 hlv1 rowB hgr hfb hba c0 c1 hi1 hi2 gr chk hbb hib n1 ho hm hw hlk
 go_enter Tryz.func101,Tryz.ntmps101
 cases st with
 | false=>
  go_wp2_with fail
  clear hS0
  go_region
  have hfin:=HSET.o false _ (Below.refl _ _)
  have HFIN:=Aa hfin
  go_wp2_with fail
  go_end0
  exact ⟨rfl,by unfold BK;simpa using HFIN.o.1.over (bD _),HF0.o.trans (HFIN.o.2.trans (FrW.of_below (GF bm) (bD _)))⟩
 | true=>
  go_wp2_with fail
  refine gS (Kq bw c W p1 q1 r1 p2 q2 r2 b o m1 m2 m3 m4 m5 m6) (hS0) fun hHeld=>?_
  refine rdA 0 rfl fun K hK=>?_
  go_simp
  refine xK hK (hS0) fun hHeld=>?_
  clear hK K
  refine kT 1 ?_
  refine kT 2 ?_
  refine kT 3 ?_
  refine kT 4 ?_
  refine kT 5 ?_
  refine kT 6 ?_
  refine kT 7 ?_
  refine rdA 8 rfl fun K hK=>?_
  go_simp
  refine (KF.o _ (((bD _)))).mono ?_
  rintro e W2 ⟨rfl,hb2⟩
  have hbz:=Ac ((Below.refl _ (W.alloc (ze #[O p1 q1 r1,O p2 q2 r2] 50))).drew) hb2
  have hr0:=HR.o.over hbz
  have hr1:=HRB.o.over hbz
  have hS2:Kq bw c W p1 q1 r1 p2 q2 r2 b o m1 m2 m3 m4 m5 m6 W2:=⟨hr0 0 _ rfl,hr0 1 _ rfl,hr0 2 _ rfl,hr0 3 _ rfl,hr0 4 _ rfl,hr0 5 _ rfl,hr0 6 _ rfl,hr0 7 _ rfl,hr0 8 _ rfl,hr0 9 _ rfl,hr1 0 _ rfl,hr1 1 _ rfl,Ab hbz _ _ l0,Ab hbz _ _ l1⟩
  have HBZ:=Aa hbz
  have mc2:=Ab hbz _ _ HMC.o
  have mz2:W2.frozen? ⟨bm,0,none⟩=false:=((Ap hbz).2 _ _ HML.o).trans HMZ.o
  clear hr0 hr1 hb2 hbz m0
  go_simp
  refine xK hK (hS2) fun hHeld=>?_
  clear hK K
  refine kT 9 ?_
  refine rdA 10 rfl fun K hK=>?_
  go_simp
  refine xK hK (by have hne:=HBN.o;have hne2:=HBN2.o;have hne3:=HBN3.o;obtain ⟨t0,t1,t2,t3,t4,t5,t6,t7,t8,t9,t10,t11,t12,t13⟩:=hS2;exact ⟨by simp [go_sem,t0],by simp [go_sem,t1],by simp [go_sem,t2],by simp [go_sem,t3],by simp [go_sem,t4],by simp [go_sem,t5],by simp [go_sem,t6],by simp [go_sem,t7],by simp [go_sem,t8],by simp [go_sem,t9],by simp [go_sem,t10],by simp [go_sem,t11],by simp [go_sem,t12],by simp [go_sem,t13]⟩) fun hHeld=>?_
  clear hK K
  refine gE ?_
  have hfin:=HSET.o fb W2 HBZ.o
  have HFIN:=Aa hfin
  clear hfin
  go_wp2_with fail
  go_end0
  exact ⟨rfl,by unfold BK;rw [<-HFB.o];simpa using HFIN.o.1,HF0.o.trans ((FrW.of_below (GF bm) HBZ.o).trans HFIN.o.2)⟩
def FC (m:Int) (gs:List (Int × Int)) (vn fn:Nat) (L:ISt):Prop:=L.vs.length=vn/\L.fs.length=fn/\(∀ x∈L.vs,Br m gs x=0)/\∀ x∈L.fs,Br m gs x=0
theorem EM {n:Nat} {gs:List (Int × Int)} {x:Lev} (hc:AQ n gs=0) (h:Br n gs x=0):x.len n:=by
 unfold Br Cl at h
 rw [if_pos hc] at h
 by_cases hh:x.len n
 ·exact hh
 ·exfalso
  unfold Lev.len at hh
  split at h <;> simp_all <;> omega
theorem Hs (n K kf:Nat) (known:List Bool) (ins fs main) (L:ISt):C5 n K kf known ins fs main L false=false:=by
 have h:=FO n K (fun _:Bool=>L.vs) (BU n K (fun _=>L.vs) known ins fs (BK n L)) (R:=fun a b=>b=true->a=true) (fun _ h=>h) (fun h1 h2 h=>h1 (h2 h)) (fun a d p st=>D2 n K (fun _=>L.vs) known ins fs (BK n L) (R:=fun a b=>b=true->a=true) (fun _ h=>h) (fun h1 h2 h=>h1 (h2 h)) (fun l i st _ h=>by unfold BK at h;simp at h;exact h.1) (fun l i st h=>by unfold BK at h;simp at h;exact h.1) a d p st) (fun _=>L.fs) kf fs main false
 cases hb:C5 n K kf known ins fs main L false with
 | false=>rfl
 | true=>exact absurd (h hb) (by simp)
theorem Ev {n:Nat} {X:World->Nat->Prop} {W:World} {v:Value} {Ls:List Lev} (n1:1<=n) (h:Bd W v Ls) (hl:∀ x∈Ls,x.len n) (hx:∀ k,X W k->W.heap.size<=k):Bb n X W v Ls:=by
 obtain ⟨ao,cap,hv,hel⟩:=h
 refine ⟨ao,cap,hv,fun hne=>?_⟩
 obtain ⟨b,off,hao,hel⟩:=hel hne
 refine ⟨b,off,hao,fun i hi=>?_⟩
 obtain ⟨rv,wv,h1,h2,h3⟩:=hel i hi
 have hn:=hl _ (List.getElem_mem hi)
 have lt:∀ (v:Value) (l:List Bool),AP W v l->l.length=n->∀ a m c,v=O (some a) m c->a.block < W.heap.size:=by
  intro v l hb hl a m c e
  obtain ⟨ao,cap,hv,hel⟩:=hb
  obtain ⟨b,off,hao,hel⟩:=hel (by rintro rfl;simp at hl;omega)
  rw [hv,hao] at e
  injection e with e1
  injection e1 with e1
  rw [<-e1]
  exact bL (hel 0 (by omega))
 obtain ⟨x,y,e,bx,by'⟩:=h3
 simp at e
 obtain ⟨rfl,rfl⟩:=e
 exact ⟨rv,wv,h1,h2,⟨⟨rv,wv,rfl,bx,by'⟩,hn,rv,wv,rfl,fun a m c e hh=>by have h1:=lt _ _ bx hn.1 a m c e;have h2:=hx _ hh;omega,fun a m c e hh=>by have h1:=lt _ _ by' hn.2 a m c e;have h2:=hx _ hh;omega⟩⟩
theorem Fl {W:World} {ao:Option Addr} {n c N:Nat} {Ls:List Lev} (h:Bd W (O ao n c) Ls) (hne:Ls≠[]) {a:Addr} (e:ao=some a) (hN:W.heap.size<=N):a.block≠N:=by
 obtain ⟨ao',cap,hv,hel⟩:=h
 injection hv with v1
 obtain ⟨b,off,hao,hel⟩:=hel hne
 have h0:0 < Ls.length:=List.length_pos_iff.2 hne
 obtain ⟨rv,wv,h1,-⟩:=hel 0 h0
 have:=bL h1
 rw [<-v1,e] at hao
 injection hao with hao
 rw [hao]
 simp at this ⊢
 omega
def Hf (K kf:Nat) (m:Int) (vn yn on:Nat) (gs:List (Int × Int)) (sp:List Int) (ls ms:List Lab) (vs:List (Bool × Lab)) (fs:List FnD) (l:List D) (L:ISt) (X:Prop) (w:World) (e:Ending) (w':World):Prop:=
 ∃ why:Int,(why=0 ↔ X/\FC m gs vn fs.length L)/\Ov w w'/\((why≠0/\e=zk (zm #[zg false,U zd why])) \/
  (why=0/\∃ (n:Nat) (b:Bool),m=n/\e=zk (zm #[zg b,U zd 0])/\(b=true ↔ (∀ i (h:i < vs.length),vs[i].1=true->L.vs.getD i AE=Az (AB gs) n vs[i].2)/\C5 n K kf (vs.map Prod.fst) (ls.map (Az (AB gs) n)) fs l L true=true)))
theorem Ob (K kf n:Nat) (h1:1<=n) (h6:n<=6) (ga gn gc sa sn sc ya yn yc oa on oc va vn vc fa fn fc ba bn bc gs sp ls ms vs fs l) (la ln lc ka kn kc) (L:ISt) (w:World) (h:BC K kf (n:Int) ga gn gc sa sn sc ya yn yc oa on oc va vn vc fa fn fc ba bn bc gs sp ls ms vs fs l w) (hV:Bd w (O la ln lc) L.vs) (hF:Bd w (O ka kn kc) L.fs) (hvl:L.vs.length<=9223372036854775807) (hfl:L.fs.length<=9223372036854775807)
  (X:Prop) (KS:∀ W,Ov w W->Calls Tryz.prog 53 #[zh #[U zd (n:Int),O ga gn gc,O sa sn sc,O ya yn yc,O oa on oc,O va vn vc,O fa fn fc,O ba bn bc]] W fun e w'=>∃ why:Int,e=zk (U zd why)/\(why=0 ↔ X)/\Ov W w') (hX:X->okP K kf (n:Int) vn yn on gs sp ls ms vs fs l) :
  Calls Tryz.prog 40 #[zh #[U zd (n:Int),O ga gn gc,O sa sn sc,O ya yn yc,O oa on oc,O va vn vc,O fa fn fc,O ba bn bc],zh #[O la ln lc,O ka kn kc]] w (Hf K kf (n:Int) vn yn on gs sp ls ms vs fs l L X w):=by
 obtain rfl:vn=vs.length:=by obtain ⟨-,a,c,he,-⟩:=h.vars;injection he
 obtain rfl:yn=ls.length:=by obtain ⟨-,a,c,he,-⟩:=h.ins;injection he
 have hfn:fn=fs.length:=by obtain ⟨-,a,c,he,-⟩:=h.funcs;injection he
 subst hfn
 have hb0:Ov w ((w.alloc (ze #[U zd (n:Int),O ga gn gc,O sa sn sc,O ya ls.length yc,O oa on oc,O va vs.length vc,O fa fs.length fc,O ba bn bc] 31)).alloc (ze #[O la ln lc,O ka kn kc] 44)):=(bA w _).alloc (by simp) _
 have K1:=Aa (Je (n:Int) ga gn gc sa sn sc ya ls.length yc oa on oc va vs.length vc fa fs.length fc ba bn bc gs la ln lc ka kn kc L.vs L.fs ((w.alloc (ze #[U zd (n:Int),O ga gn gc,O sa sn sc,O ya ls.length yc,O oa on oc,O va vs.length vc,O fa fs.length fc,O ba bn bc] 31)).alloc (ze #[O la ln lc,O ka kn kc] 44)) (Af h.grants hb0) (Au hV hb0) (Au hF hb0) hvl hfl h.vars.1 h.funcs.1 X (fun W hW=>KS W (Ac hb0 hW)))
 have rowP:Ae [U zd (n:Int),O ga gn gc,O sa sn sc,O ya ls.length yc,O oa on oc,O va vs.length vc,O fa fs.length fc,O ba bn bc] ((w.alloc (ze #[U zd (n:Int),O ga gn gc,O sa sn sc,O ya ls.length yc,O oa on oc,O va vs.length vc,O fa fs.length fc,O ba bn bc] 31)).alloc (ze #[O la ln lc,O ka kn kc] 44)) w.heap.size:=(Ae.new [U zd (n:Int),O ga gn gc,O sa sn sc,O ya ls.length yc,O oa on oc,O va vs.length vc,O fa fs.length fc,O ba bn bc] 31 w).over (bA _ _)
 have rowL:Ae [O la ln lc,O ka kn kc] ((w.alloc (ze #[U zd (n:Int),O ga gn gc,O sa sn sc,O ya ls.length yc,O oa on oc,O va vs.length vc,O fa fs.length fc,O ba bn bc] 31)).alloc (ze #[O la ln lc,O ka kn kc] 44)) (w.heap.size+1):=by
  have:=Ae.new [O la ln lc,O ka kn kc] 44 (w.alloc (ze #[U zd (n:Int),O ga gn gc,O sa sn sc,O ya ls.length yc,O oa on oc,O va vs.length vc,O fa fs.length fc,O ba bn bc] 31))
  simpa using this
 have HB0:=Aa hb0
 have HRP:=Aa rowP
 have HRL:=Aa rowL
 have H:=Aa h
 have HX:=Aa hX
 have HV:=Aa hV
 have HF:=Aa hF
 have KWO:=Aa (Di n ga gn gc sa sn sc ya ls.length yc oa on oc va vs.length vc fa fs.length fc ba bn bc la ln lc ka kn kc)
 have KK:=Aa fun W (hW:Ov w W) (hok:okP K kf (n:Int) vs.length ls.length on gs sp ls ms vs fs l) (hlv:L.vs.length=vs.length) (hlen:∀ x∈L.vs,x.len n)=>NY n h1 h6 ga gn gc sa sn sc ya ls.length yc oa on oc va vs.length vc fa fs.length fc ba bn bc la ln lc ka kn kc gs vs L.vs W (Af h.grants hW) hok.chk (h.vars.over hW) hok.labs.2.1 (Au hV hW) hlv hlen hok.vars
 obtain ⟨c0,c1,c2,c3,c4,c5,c6,c7⟩:=rc8 rowP
 obtain ⟨l0,l1⟩:=rc2 rowL
 clear hb0 rowP rowL h hX hV hF hvl hfl KS
 go_enter Tryz.func40,Tryz.ntmps40
 go_wp2_with fail
 refine (K1.o).mono ?_
 rintro e w1 ⟨why,rfl,hPw,hb1⟩
 have HPW:Hx (why=0 ↔ X/\FC (n:Int) gs vs.length fs.length L):=Aa (by unfold FC;exact hPw)
 have HRP1:=Aa (HRP.o.over hb1)
 have HRL1:=Aa (HRL.o.over hb1)
 have HB1:=Aa (Ac HB0.o hb1)
 clear c0 c1 c2 c3 c4 c5 c6 c7 l0 l1 K1 hPw hb1
 by_cases hz:why=0
 rotate_left
 ·have HZ:=Aa hz
  go_wp2_with fail
  exact bodyPost_ret (v:=zm #[zg false,U zd why]) (by simp [results,Tryz.results40,go_sem]) rfl ⟨why,HPW.o,HB1.o,Or.inl ⟨HZ.o,rfl⟩⟩
 subst hz
 have hxl:=HPW.o.1 rfl
 have HXL:=Aa hxl
 have hok:=HX.o hxl.1
 have HOK:=Aa hok
 have hlen1:∀ x∈L.vs,x.len n:=fun x hx=>EM hok.chk (hxl.2.2.2.1 x hx)
 have hlen2:∀ x∈L.fs,x.len n:=fun x hx=>EM hok.chk (hxl.2.2.2.2 x hx)
 have HL1:=Aa hlen1
 have HL2:=Aa hlen2
 have K2:=Aa (KWO.o w1)
 obtain ⟨c0,c1,c2,c3,c4,c5,c6,c7⟩:=rc8 HRP1.o
 obtain ⟨l0,l1⟩:=rc2 HRL1.o
 clear hxl hok hlen1 hlen2
 go_wp2_with fail
 refine (K2.o).mono ?_
 rintro e w2 ⟨rfl,hb2⟩
 have hB2:=Ac HB1.o hb2
 have hba:=bA w2 (ze #[U zd (n:Int),O ga gn gc,O sa sn sc,O ya ls.length yc,O oa on oc,O va vs.length vc,O fa fs.length fc,O ba bn bc,O la ln lc,O ka kn kc] 110)
 have hBa:=Ac hB2 hba
 have K3:=Aa (KK.o _ hBa HOK.o HXL.o.2.1 HL1.o)
 have hrw:Ae [U zd (n:Int),O ga gn gc,O sa sn sc,O ya ls.length yc,O oa on oc,O va vs.length vc,O fa fs.length fc,O ba bn bc,O la ln lc,O ka kn kc] (w2.alloc (ze #[U zd (n:Int),O ga gn gc,O sa sn sc,O ya ls.length yc,O oa on oc,O va vs.length vc,O fa fs.length fc,O ba bn bc,O la ln lc,O ka kn kc] 110)) w2.heap.size:=Ae.new [U zd (n:Int),O ga gn gc,O sa sn sc,O ya ls.length yc,O oa on oc,O va vs.length vc,O fa fs.length fc,O ba bn bc,O la ln lc,O ka kn kc] 110 w2
 have HRW:=Aa hrw
 have HBA:=Aa hBa
 clear c0 c1 c2 c3 c4 c5 c6 c7 l0 l1 K2 hb2 hB2 hba hBa
 obtain ⟨c0,c1,c2,c3,c4,c5,c6,c7,c8,c9⟩:=B9 hrw
 clear hrw
 go_wp2_with fail
 refine (K3.o).mono ?_
 rintro e w3 ⟨⟨b0,rfl,hb0⟩,hb3⟩
 have HK0:=Aa hb0
 have hB3:=Ac HBA.o hb3
 have hbm:=bA w3 (ze #[zg b0] 4)
 have hlo:∀ (v:Value) (Ls:List Lev),Bd w v Ls->(∀ x∈Ls,x.len n)->Bb n (XF w3.heap.size) (w3.alloc (ze #[zg b0] 4)) v Ls:=fun v Ls hI hl=>(Ev h1 (Au hI hB3) hl (fun k hk=>Nat.le_of_eq hk.symm)).over (GF _) hbm
 have hfit:EI (⟨n,ga,gn,gc,sa,sn,sc,ya,ls.length,yc,oa,on,oc,va,vs.length,vc,fa,fs.length,fc,ba,bn,bc,la,ln,lc,ka,kn,kc⟩:WC) w3 L vs.length fs.length w2.heap.size w3.heap.size b0 (w3.alloc (ze #[zg b0] 4)):=⟨hbm,hlo _ _ HV.o HL1.o,hlo _ _ HF.o HL2.o,HXL.o.2.1,HXL.o.2.2.1,by simp [go_sem],by simp [go_sem],(HRW.o.over hb3).over hbm⟩
 have hPr:=H.o.over hB3
 have hok:=HOK.o
 have hlt2:w2.heap.size < w3.heap.size:=bL (HRW.o.over hb3 0 _ rfl)
 have hlk:(L.vs≠[]->∀ a,la=some a->a.block≠w3.heap.size)/\(L.fs≠[]->∀ a,ka=some a->a.block≠w3.heap.size):=⟨fun hne a e=>Fl HV.o hne e hB3.size,fun hne a e=>Fl HF.o hne e hB3.size⟩
 have KA:Hx (Calls Tryz.prog 55 #[zh #[U zd (n:Int),O ga gn gc,O sa sn sc,O ya ls.length yc,O oa on oc,O va vs.length vc,O fa fs.length fc,O ba bn bc,O la ln lc,O ka kn kc],.func (.func 101) #[] #[zj (some ⟨w3.heap.size,0,none⟩),zj (some ⟨w2.heap.size,0,none⟩)]] (w3.alloc (ze #[zg b0] 4)) fun e W'=>e=zk (zm #[])/\EI (⟨n,ga,gn,gc,sa,sn,sc,ya,ls.length,yc,oa,on,oc,va,vs.length,vc,fa,fs.length,fc,ba,bn,bc,la,ln,lc,ka,kn,kc⟩:WC) w3 L vs.length fs.length w2.heap.size w3.heap.size (C5 n K kf (vs.map Prod.fst) (ls.map (Az (AB gs) n)) fs l L b0) W'/\FrW (XF w3.heap.size) (w3.alloc (ze #[zg b0] 4)) W'):=
  LW (OE (c:=(⟨n,ga,gn,gc,sa,sn,sc,ya,ls.length,yc,oa,on,oc,va,vs.length,vc,fa,fs.length,fc,ba,bn,bc,la,ln,lc,ka,kn,kc⟩:WC)) L h1 h6 hPr.grants hok.chk hok.vars) (BK n L) MK (Aa (MI (⟨n,ga,gn,gc,sa,sn,sc,ya,ls.length,yc,oa,on,oc,va,vs.length,vc,fa,fs.length,fc,ba,bn,bc,la,ln,lc,ka,kn,kc⟩:WC) w3 L vs.length w2.heap.size w3.heap.size fs gs h1 hPr.grants hok.chk (Nat.le_refl _) (by omega) hlk)) vs hPr.vars rfl ls hPr.ins (fun b hb=>hok.labs.1 b (List.mem_append_left _ hb)) rfl hok.ins kf hPr.funcs hok.funcs hok.body l hPr.main hok.main hok.many b0 _ hfit
 have hrw4:=(HRW.o.over hb3).over hbm
 have HB3:=Aa hB3
 clear c0 c1 c2 c3 c4 c5 c6 c7 c8 c9 K3 hb0 hb3 hB3 hbm hlo hfit hPr hok hlk hlt2
 obtain ⟨c0,c1,c2,c3,c4,c5,c6,c7,c8,c9⟩:=B9 hrw4
 clear hrw4
 go_wp2_with fail
 refine (KA.o).mono ?_
 rintro e w5 ⟨rfl,hI5,hF5⟩
 have m0:=hI5.more
 have HB5:=Aa (Ac HB3.o hI5.below)
 obtain ⟨pb,hpb⟩:=nm (C5 n K kf (vs.map Prod.fst) (ls.map (Az (AB gs) n)) fs l L b0)
 rw [<-hpb] at m0
 have HPB:=Aa hpb
 clear c0 c1 c2 c3 c4 c5 c6 c7 c8 c9 hI5 hF5 hpb KA
 go_wp2_with fail
 refine bodyPost_ret (v:=zm #[zg pb,U zd 0]) (by simp [results,Tryz.results40,go_sem]) rfl ⟨0,⟨fun _=>HXL.o,fun _=>rfl⟩,HB5.o,Or.inr ⟨rfl,n,pb,rfl,rfl,?_⟩⟩
 rw [HPB.o]
 cases b0 with
 | false=>
  rw [Hs]
  exact ⟨fun h=>absurd h (by simp),fun h=>absurd (HK0.o.2 h.1) (by simp)⟩
 | true=>exact ⟨fun h=>⟨HK0.o.1 rfl,h⟩,fun h=>h.2⟩
theorem Oc (K kf:Nat) (m:Int) (ga gn gc sa sn sc ya yn yc oa on oc va vn vc fa fn fc ba bn bc gs sp ls ms vs fs l) (la ln lc ka kn kc) (L:ISt) (w:World) (h:BC K kf m ga gn gc sa sn sc ya yn yc oa on oc va vn vc fa fn fc ba bn bc gs sp ls ms vs fs l w) (hV:Bd w (O la ln lc) L.vs) (hF:Bd w (O ka kn kc) L.fs) (hvl:L.vs.length<=9223372036854775807) (hfl:L.fs.length<=9223372036854775807)
  (X:Prop) (KS:∀ W,Ov w W->Calls Tryz.prog 53 #[zh #[U zd m,O ga gn gc,O sa sn sc,O ya yn yc,O oa on oc,O va vn vc,O fa fn fc,O ba bn bc]] W fun e w'=>∃ why:Int,e=zk (U zd why)/\(why=0 ↔ X)/\Ov W w') (hX:¬ X) :
  Calls Tryz.prog 40 #[zh #[U zd m,O ga gn gc,O sa sn sc,O ya yn yc,O oa on oc,O va vn vc,O fa fn fc,O ba bn bc],zh #[O la ln lc,O ka kn kc]] w (Hf K kf m vn yn on gs sp ls ms vs fs l L X w):=by
 have hfn:fn=fs.length:=by obtain ⟨-,a,c,he,-⟩:=h.funcs;injection he
 have hb0:Ov w ((w.alloc (ze #[U zd m,O ga gn gc,O sa sn sc,O ya yn yc,O oa on oc,O va vn vc,O fa fn fc,O ba bn bc] 31)).alloc (ze #[O la ln lc,O ka kn kc] 44)):=(bA w _).alloc (by simp) _
 have K1:=Aa (Je m ga gn gc sa sn sc ya yn yc oa on oc va vn vc fa fn fc ba bn bc gs la ln lc ka kn kc L.vs L.fs ((w.alloc (ze #[U zd m,O ga gn gc,O sa sn sc,O ya yn yc,O oa on oc,O va vn vc,O fa fn fc,O ba bn bc] 31)).alloc (ze #[O la ln lc,O ka kn kc] 44)) (Af h.grants hb0) (Au hV hb0) (Au hF hb0) hvl hfl (by obtain ⟨hm,a,c,he,-⟩:=h.vars;injection he with e1 e2;rw [e2];exact hm) (by rw [hfn];exact h.funcs.1) X (fun W hW=>KS W (Ac hb0 hW)))
 have rowP:Ae [U zd m,O ga gn gc,O sa sn sc,O ya yn yc,O oa on oc,O va vn vc,O fa fn fc,O ba bn bc] ((w.alloc (ze #[U zd m,O ga gn gc,O sa sn sc,O ya yn yc,O oa on oc,O va vn vc,O fa fn fc,O ba bn bc] 31)).alloc (ze #[O la ln lc,O ka kn kc] 44)) w.heap.size:=(Ae.new [U zd m,O ga gn gc,O sa sn sc,O ya yn yc,O oa on oc,O va vn vc,O fa fn fc,O ba bn bc] 31 w).over (bA _ _)
 have rowL:Ae [O la ln lc,O ka kn kc] ((w.alloc (ze #[U zd m,O ga gn gc,O sa sn sc,O ya yn yc,O oa on oc,O va vn vc,O fa fn fc,O ba bn bc] 31)).alloc (ze #[O la ln lc,O ka kn kc] 44)) (w.heap.size+1):=by
  have:=Ae.new [O la ln lc,O ka kn kc] 44 (w.alloc (ze #[U zd m,O ga gn gc,O sa sn sc,O ya yn yc,O oa on oc,O va vn vc,O fa fn fc,O ba bn bc] 31))
  simpa using this
 have HB0:=Aa hb0
 have HX:=Aa hX
 obtain ⟨c0,c1,c2,c3,c4,c5,c6,c7⟩:=rc8 rowP
 obtain ⟨l0,l1⟩:=rc2 rowL
 clear hb0 rowP rowL h hX hV hF hvl hfl KS hfn
 go_enter Tryz.func40,Tryz.ntmps40
 go_wp2_with fail
 refine (K1.o).mono ?_
 rintro e w1 ⟨why,rfl,hPw,hb1⟩
 have HZ:Hx (why≠0):=Aa (fun e=>HX.o (hPw.1 e).1)
 have hz:=HZ.o
 have HB1:=Aa (Ac HB0.o hb1)
 clear c0 c1 c2 c3 c4 c5 c6 c7 l0 l1 K1 hPw hb1
 go_wp2_with fail
 exact bodyPost_ret (v:=zm #[zg false,U zd why]) (by simp [results,Tryz.results40,go_sem]) rfl ⟨why,⟨fun h=>absurd h HZ.o,fun h=>absurd h.1 HX.o⟩,HB1.o,Or.inl ⟨HZ.o,rfl⟩⟩
theorem O3 (K kf:Nat) (m:Int) (ga gn gc sa sn sc ya yn yc oa on oc va vn vc fa fn fc ba bn bc gs sp ls ms vs fs l) (la ln lc ka kn kc) (L:ISt) (w:World) (h:BC K kf m ga gn gc sa sn sc ya yn yc oa on oc va vn vc fa fn fc ba bn bc gs sp ls ms vs fs l w) (hV:Bd w (O la ln lc) L.vs) (hF:Bd w (O ka kn kc) L.fs) (hvl:L.vs.length<=9223372036854775807) (hfl:L.fs.length<=9223372036854775807)
  (X:Prop) (KS:∀ W,Ov w W->Calls Tryz.prog 53 #[zh #[U zd m,O ga gn gc,O sa sn sc,O ya yn yc,O oa on oc,O va vn vc,O fa fn fc,O ba bn bc]] W fun e w'=>∃ why:Int,e=zk (U zd why)/\(why=0 ↔ X)/\Ov W w') (hX:X->okP K kf m vn yn on gs sp ls ms vs fs l) :
  Calls Tryz.prog 40 #[zh #[U zd m,O ga gn gc,O sa sn sc,O ya yn yc,O oa on oc,O va vn vc,O fa fn fc,O ba bn bc],zh #[O la ln lc,O ka kn kc]] w (Hf K kf m vn yn on gs sp ls ms vs fs l L X w):=by
 by_cases h0:X
 ·obtain ⟨n,rfl,n1,n6,-⟩:=DQ (hX h0).chk
  exact Ob K kf n n1 n6 ga gn gc sa sn sc ya yn yc oa on oc va vn vc fa fn fc ba bn bc gs sp ls ms vs fs l la ln lc ka kn kc L w h hV hF hvl hfl X KS hX
 ·exact Oc K kf m ga gn gc sa sn sc ya yn yc oa on oc va vn vc fa fn fc ba bn bc gs sp ls ms vs fs l la ln lc ka kn kc L w h hV hF hvl hfl X KS h0
def sm1:D:=sD 3 0 0 (xD 0 0 []) [] [] []
def sm2:D:=sD 4 0 0 (xD 2 0 []) [] [] []
theorem A1 (n:Int) (h:0<=n) (h2:n<=100):Ch n:=⟨by omega,by omega⟩
theorem B6 {s:Nat} {R:List Value->D->Prop} {w:World}:XS s R w (O none 0 0) []:=⟨Nat.zero_le _,none,0,rfl,fun h=>absurd rfl h⟩
theorem Cr {w:World}:AI w (O none 0 0) []:=⟨none,0,rfl,fun h=>absurd rfl h⟩
theorem CP {bi bo bv bm:Nat} {w:World} (h:DS bi bo bv bm w):BC 1 1 1 none 0 0 none 0 0 (some ⟨bi,0,none⟩) 1 1 (some ⟨bo,0,none⟩) 1 1 (some ⟨bv,0,none⟩) 1 1 none 0 0 (some ⟨bm,0,none⟩) 2 2 [] [] [⟨[],[]⟩] [⟨[],[]⟩] [(false,⟨[],[]⟩)] [] [sm1,sm2] w:=by
 have hlab:∀ b,Ae [O none 0 0,O none 0 0] w b->A9 w (O (some ⟨b,0,none⟩) 1 1) [⟨[],[]⟩]:=fun b hr=>by
  refine ⟨by simp [maxLen],some ⟨b,0,none⟩,1,rfl,fun _=>⟨b,0,rfl,fun i hi=>?_⟩⟩
  have:i=0:=by simp at hi;omega
  subst this
  exact ⟨_,_,hr 0 _ rfl,hr 1 _ rfl,Cr,Cr⟩
 refine ⟨A1 1 (by omega) (by omega),⟨none,0,rfl,fun h=>absurd rfl h⟩,⟨none,0,rfl,fun h=>absurd rfl h⟩,by simp,hlab _ h.ins,hlab _ h.outs,?_,?_,?_,fun h=>absurd h (by simp),fun h=>absurd h (by simp)⟩
 ·refine ⟨by simp [maxLen],some ⟨bv,0,none⟩,1,rfl,fun _=>⟨bv,0,rfl,fun i hi=>?_⟩⟩
  have:i=0:=by simp at hi;omega
  subst this
  exact ⟨_,_,h.vars 0 _ rfl,h.vars 1 _ rfl,h.vars 2 _ rfl,Cr,Cr⟩
 ·exact ⟨by simp,none,0,rfl,fun h=>absurd rfl h⟩
 ·refine ⟨by simp [maxLen],some ⟨bm,0,none⟩,2,rfl,fun _=>⟨bm,0,rfl,fun i d hd=>?_⟩⟩
  match i,hd with
  | 0,hd=>
   simp at hd
   subst hd
   refine ⟨CB.take 9,rfl,fun j u hu=>?_,3,0,0,_,_,_,xD 0 0 [],_,[],_,[],_,[],rfl,rfl,A1 _ (by omega) (by omega),A1 _ (by omega) (by omega),A1 _ (by omega) (by omega),⟨0,0,_,[],rfl,rfl,A1 _ (by omega) (by omega),A1 _ (by omega) (by omega),B6⟩,B6,B6,B6⟩
   rw [List.getElem?_take] at hu
   split at hu
   ·have:=h.main j u hu
    simpa using this
   ·cases hu
  | 1,hd=>
   simp at hd
   subst hd
   refine ⟨CB.drop 9,rfl,fun j u hu=>?_,4,0,0,_,_,_,xD 2 0 [],_,[],_,[],_,[],rfl,rfl,A1 _ (by omega) (by omega),A1 _ (by omega) (by omega),A1 _ (by omega) (by omega),⟨2,0,_,[],rfl,rfl,A1 _ (by omega) (by omega),A1 _ (by omega) (by omega),B6⟩,B6,B6,B6⟩
   rw [List.getElem?_drop] at hu
   have:=h.main (9+j) u hu
   simpa [Nat.add_assoc] using this
  | i+2,hd=>simp at hd
theorem Le:AZ ((1:Nat):Int) 1 (AR sm2)=0:=by
 simp [AZ,sm2,CI,Bm,BP,Bs,BL,xD,AH,Ba,AF]
theorem Lj:CA 1 1 1 1 (([]:List FnD).length:Int) [] sm1:=by
 unfold CA
 simp [sm1,xD,AH,AF]
theorem Li:CA 1 1 1 1 (([]:List FnD).length:Int) [] sm2:=by
 have h:=Le
 unfold CA
 have e:Ak sm2=4:=rfl
 have e2:Ag sm2=0:=rfl
 rw [e,e2]
 exact ⟨by decide,fun h=>absurd h (by decide),fun h=>absurd h (by decide),fun h=>absurd h (by decide),fun _=>h,fun h=>absurd h (by decide),fun _=>by decide⟩
theorem Dk:okP 1 1 1 1 1 1 [] [] [⟨[],[]⟩] [⟨[],[]⟩] [(false,⟨[],[]⟩)] [] [sm1,sm2]:=by
 refine ⟨rfl,by simp,⟨?_,?_,?_⟩,by omega,by omega,by omega,by simp,by decide,fun i h=>absurd h (by simp),?_⟩
 ·intro b hb
  simp at hb
  subst hb
  rfl
 ·intro v hv
  simp at hv
  subst hv
  rfl
 ·intro v hv _
  simp at hv
  subst hv
  exact ⟨rfl,rfl⟩
 ·intro s hs
  simp at hs
  rcases hs with rfl | rfl
  ·exact ⟨Lj,fun s hs=>absurd hs (by simp [sm1]),fun s hs=>absurd hs (by simp [sm1])⟩
  ·exact ⟨Li,fun s hs=>absurd hs (by simp [sm2]),fun s hs=>absurd hs (by simp [sm2])⟩
def smI:Nat->ISt:=BZ 1 1 1 [false] [Az [] 1 ⟨[],[]⟩] [] [sm1,sm2] (Cb [] 1 [(false,⟨[],[]⟩)] 0)
theorem Ph:smI 1=⟨[⟨[true],[true]⟩],[],true⟩:=by rfl
theorem OI:smI 2=⟨[⟨[true],[true]⟩],[],false⟩:=by rfl
theorem JT {st:ISt} (h:Bw 1 1 1 [] [(false,⟨[],[]⟩)] [⟨[],[]⟩] [] [sm1,sm2] st):st.vs=[⟨[true],[true]⟩]/\st.fs=[]:=by
 obtain ⟨k,hk,hm,hj⟩:=h
 have hk':st=smI (k+1):=hk
 have hj':∀ j,j < k->(smI (j+1)).more=true:=hj
 clear hk hj
 have h1:k=1:=by
  rcases Nat.lt_trichotomy k 1 with h | h | h
  ·have h0:k=0:=by omega
   rw [hk',h0] at hm
   have e:=Ph
   rw [Nat.zero_add,e] at hm
   exact absurd hm (by simp)
  ·exact h
  ·have h2:=hj' 1 h
   have e:=OI
   rw [show 1+1=2 from rfl,e] at h2
   exact absurd h2 (by simp)
 rw [hk',h1,show 1+1=2 from rfl,OI]
 exact ⟨rfl,rfl⟩
theorem GT {W:World} {rb:Nat} {x y v:Value} {l:Lev} (h:A7 W v l) (hr:∀ j u,W.cell? ⟨rb,j,none⟩=some u->∃ a m c,u=O a m c):A7 ((W.setCell ⟨rb,0,none⟩ x).setCell ⟨rb,1,none⟩ y) v l:=by
 have hbo:∀ u l,AP W u l->AP ((W.setCell ⟨rb,0,none⟩ x).setCell ⟨rb,1,none⟩ y) u l:=by
  intro u l ⟨ao,cap,e,hel⟩
  refine ⟨ao,cap,e,fun hne=>?_⟩
  obtain ⟨b,off,hao,hel⟩:=hel hne
  refine ⟨b,off,hao,fun i hi=>?_⟩
  have hb:b≠rb:=fun eb=>by
   subst eb
   obtain ⟨a,m,c,e⟩:=hr _ _ (hel i hi)
   cases e
  rw [Bz (Or.inl (Ne.symm hb)),Bz (Or.inl (Ne.symm hb))]
  exact hel i hi
 obtain ⟨x',y',e,bx,by'⟩:=h
 exact ⟨x',y',e,hbo _ _ bx,hbo _ _ by'⟩
theorem ofW (K kf n:Nat) (h1:1<=n) (h6:n<=6) (ga gn gc sa sn sc ya yn yc oa on oc va vn vc fa fn fc ba bn bc gs sp ls ms vs fs l) (la ln lc ka kn kc) (L:ISt) (w:World) (h:BC K kf (n:Int) ga gn gc sa sn sc ya yn yc oa on oc va vn vc fa fn fc ba bn bc gs sp ls ms vs fs l w) (hV:Bd w (O la ln lc) L.vs) (hF:Bd w (O ka kn kc) L.fs) (hvl:L.vs.length<=9223372036854775807) (hfl:L.fs.length<=9223372036854775807)
  (X:Prop) (KS:∀ W,Ov w W->Calls Tryz.prog 53 #[zh #[U zd (n:Int),O ga gn gc,O sa sn sc,O ya yn yc,O oa on oc,O va vn vc,O fa fn fc,O ba bn bc]] W fun e w'=>∃ why:Int,e=zk (U zd why)/\(why=0 ↔ X)/\Ov W w') (hX:X) (hok:okP K kf (n:Int) vn yn on gs sp ls ms vs fs l) (hlo:FC (n:Int) gs vn fs.length L)
  (K2:Nat) (ek en:Int) (xa:Option Addr) (xl xc:Nat) (d:D) (hx:RX w K2 [U zd ek,U zd en,O xa xl xc] d) (hck:AZ (vn:Int) K2 d=0) (hvx:∀ x∈AC K2 d,0<=x/\x < (L.vs.length:Int)) :
  Calls Tryz.prog 41 #[zh #[U zd (n:Int),O ga gn gc,O sa sn sc,O ya yn yc,O oa on oc,O va vn vc,O fa fn fc,O ba bn bc],zh #[O la ln lc,O ka kn kc],zh #[U zd ek,U zd en,O xa xl xc]] w fun e w'=>∃ k1 k2 k3 k4 k5 k6,e=zk (zm #[zh #[O k1 k2 k3,O k4 k5 k6],U zd 0])/\A7 w' (zh #[O k1 k2 k3,O k4 k5 k6]) (AX n L.vs (Bu n) (AC K2 d))/\Ov w w':=by
 obtain rfl:vn=vs.length:=by obtain ⟨-,a,c,he,-⟩:=h.vars;injection he
 obtain rfl:yn=ls.length:=by obtain ⟨-,a,c,he,-⟩:=h.ins;injection he
 have hfn:fn=fs.length:=by obtain ⟨-,a,c,he,-⟩:=h.funcs;injection he
 subst hfn
 have hb0:Ov w ((((w.alloc (ze #[U zd (n:Int),O ga gn gc,O sa sn sc,O ya ls.length yc,O oa on oc,O va vs.length vc,O fa fs.length fc,O ba bn bc] 31)).alloc (ze #[O la ln lc,O ka kn kc] 44)).alloc (ze #[U zd ek,U zd en,O xa xl xc] 94)).alloc (ze #[O none 0 0,O none 0 0] 50)):=(((bA w _).alloc (by simp) _).alloc (by simp <;> omega) _).alloc (by simp <;> omega) _
 have K1:=Aa (Je (n:Int) ga gn gc sa sn sc ya ls.length yc oa on oc va vs.length vc fa fs.length fc ba bn bc gs la ln lc ka kn kc L.vs L.fs ((((w.alloc (ze #[U zd (n:Int),O ga gn gc,O sa sn sc,O ya ls.length yc,O oa on oc,O va vs.length vc,O fa fs.length fc,O ba bn bc] 31)).alloc (ze #[O la ln lc,O ka kn kc] 44)).alloc (ze #[U zd ek,U zd en,O xa xl xc] 94)).alloc (ze #[O none 0 0,O none 0 0] 50)) (Af h.grants hb0) (Au hV hb0) (Au hF hb0) hvl hfl h.vars.1 h.funcs.1 X (fun W hW=>KS W (Ac hb0 hW)))
 have KX:=Aa fun W (hW:Ov w W)=>check_any K2 [U zd ek,U zd en,O xa xl xc] d W (vs.length:Int) (by omega) (by have:=hok.vars;omega) (hx.over hW)
 rw [hck] at KX
 have KWO:=Aa (Di n ga gn gc sa sn sc ya ls.length yc oa on oc va vs.length vc fa fs.length fc ba bn bc la ln lc ka kn kc)
 have KB:=Aa (EE n h1 h6 ga gn gc sa sn sc ya ls.length yc oa on oc va vs.length vc fa fs.length fc ba bn bc la ln lc ka kn kc)
 have hlen:∀ x∈L.vs,x.len n:=fun x hx=>EM hok.chk (hlo.2.2.1 x hx)
 have KWW:=Aa fun W (hW:Ov w W) v (hv:AW n (fun _ _=>False) W v (Bu n))=>DE (⟨n,ga,gn,gc,sa,sn,sc,ya,ls.length,yc,oa,on,oc,va,vs.length,vc,fa,fs.length,fc,ba,bn,bc,la,ln,lc,ka,kn,kc⟩:WC) h1 h6 gs L.vs (fun _ _=>False) ⟨fun _ _ _ _ h=>h⟩ v (Bu n) K2 [U zd ek,U zd en,O xa xl xc] d W (Af h.grants hW) hok.chk (Ev h1 (Au hV hW) hlen (fun _ h=>h.elim)) hv (by have:=hlo.1;have:=hok.vars;omega) (fun _ h=>h.elim) (hx.over hW) hvx
 have rowP:Ae [U zd (n:Int),O ga gn gc,O sa sn sc,O ya ls.length yc,O oa on oc,O va vs.length vc,O fa fs.length fc,O ba bn bc] ((((w.alloc (ze #[U zd (n:Int),O ga gn gc,O sa sn sc,O ya ls.length yc,O oa on oc,O va vs.length vc,O fa fs.length fc,O ba bn bc] 31)).alloc (ze #[O la ln lc,O ka kn kc] 44)).alloc (ze #[U zd ek,U zd en,O xa xl xc] 94)).alloc (ze #[O none 0 0,O none 0 0] 50)) w.heap.size:=(Ae.new [U zd (n:Int),O ga gn gc,O sa sn sc,O ya ls.length yc,O oa on oc,O va vs.length vc,O fa fs.length fc,O ba bn bc] 31 w).over (((bA _ _).alloc (by simp) _).alloc (by simp <;> omega) _)
 have rowL:Ae [O la ln lc,O ka kn kc] ((((w.alloc (ze #[U zd (n:Int),O ga gn gc,O sa sn sc,O ya ls.length yc,O oa on oc,O va vs.length vc,O fa fs.length fc,O ba bn bc] 31)).alloc (ze #[O la ln lc,O ka kn kc] 44)).alloc (ze #[U zd ek,U zd en,O xa xl xc] 94)).alloc (ze #[O none 0 0,O none 0 0] 50)) (w.heap.size+1):=by
  have:=(Ae.new [O la ln lc,O ka kn kc] 44 (w.alloc (ze #[U zd (n:Int),O ga gn gc,O sa sn sc,O ya ls.length yc,O oa on oc,O va vs.length vc,O fa fs.length fc,O ba bn bc] 31))).over ((bA _ (ze #[U zd ek,U zd en,O xa xl xc] 94)).alloc (by simp) (ze #[O none 0 0,O none 0 0] 50))
  simpa using this
 have rowE:Ae [U zd ek,U zd en,O xa xl xc] ((((w.alloc (ze #[U zd (n:Int),O ga gn gc,O sa sn sc,O ya ls.length yc,O oa on oc,O va vs.length vc,O fa fs.length fc,O ba bn bc] 31)).alloc (ze #[O la ln lc,O ka kn kc] 44)).alloc (ze #[U zd ek,U zd en,O xa xl xc] 94)).alloc (ze #[O none 0 0,O none 0 0] 50)) (w.heap.size+2):=by
  have:=(Ae.new [U zd ek,U zd en,O xa xl xc] 94 ((w.alloc (ze #[U zd (n:Int),O ga gn gc,O sa sn sc,O ya ls.length yc,O oa on oc,O va vs.length vc,O fa fs.length fc,O ba bn bc] 31)).alloc (ze #[O la ln lc,O ka kn kc] 44))).over (bA _ (ze #[O none 0 0,O none 0 0] 50))
  simpa using this
 have hbk:((((w.alloc (ze #[U zd (n:Int),O ga gn gc,O sa sn sc,O ya ls.length yc,O oa on oc,O va vs.length vc,O fa fs.length fc,O ba bn bc] 31)).alloc (ze #[O la ln lc,O ka kn kc] 44)).alloc (ze #[U zd ek,U zd en,O xa xl xc] 94)).alloc (ze #[O none 0 0,O none 0 0] 50)).heap[w.heap.size+3]? = some (ze #[O none 0 0,O none 0 0] 50):=by
  have:=BG (((w.alloc (ze #[U zd (n:Int),O ga gn gc,O sa sn sc,O ya ls.length yc,O oa on oc,O va vs.length vc,O fa fs.length fc,O ba bn bc] 31)).alloc (ze #[O la ln lc,O ka kn kc] 44)).alloc (ze #[U zd ek,U zd en,O xa xl xc] 94)) (ze #[O none 0 0,O none 0 0] 50)
  simpa using this
 have hsz0:((((w.alloc (ze #[U zd (n:Int),O ga gn gc,O sa sn sc,O ya ls.length yc,O oa on oc,O va vs.length vc,O fa fs.length fc,O ba bn bc] 31)).alloc (ze #[O la ln lc,O ka kn kc] 44)).alloc (ze #[U zd ek,U zd en,O xa xl xc] 94)).alloc (ze #[O none 0 0,O none 0 0] 50)).heap.size=w.heap.size+4:=by simp
 have HB0:=Aa hb0
 have HRP:=Aa rowP
 have HRL:=Aa rowL
 have HRE0:=Aa rowE
 have HBK0:=Aa hbk
 have HSZ0:=Aa hsz0
 have HOKW:Hx (∀ why:Int,(why=0 ↔ (X/\L.vs.length=vs.length/\L.fs.length=fs.length/\(∀ x∈L.vs,Br n gs x=0)/\∀ x∈L.fs,Br n gs x=0))->why=0):=Aa (fun why hh=>hh.2 ⟨hX,hlo⟩)
 obtain ⟨c0,c1,c2,c3,c4,c5,c6,c7⟩:=rc8 rowP
 obtain ⟨l0,l1⟩:=rc2 rowL
 clear hb0 rowP rowL rowE hbk h hV hF hvl hfl KS hX hok hlo hx hck hvx hlen hsz0
 go_enter Tryz.func41,Tryz.ntmps41
 go_wp2_with fail
 refine (K1.o).mono ?_
 rintro e w1 ⟨why,rfl,hPw,hb1⟩
 obtain rfl:why=0:=HOKW.o why hPw
 have HRP1:=Aa (HRP.o.over hb1)
 have HRL1:=Aa (HRL.o.over hb1)
 have hre1:=HRE0.o.over hb1
 have HRE1:=Aa hre1
 have HBK1:=Aa ((hb1.block _ (by rw [HSZ0.o];omega)).trans HBK0.o)
 have HSZ1:Hx (w.heap.size+3 < w1.heap.size):=Aa (by have:=hb1.size;rw [HSZ0.o] at this;omega)
 have HB1:=Aa (Ac HB0.o hb1)
 have KX1:=Aa (KX.o w1 HB1.o)
 obtain ⟨x0,x1,x2⟩:=rc3 hre1
 clear c0 c1 c2 c3 c4 c5 c6 c7 l0 l1 K1 hPw hb1 hre1
 have c5:=HRP1.o 5 _ rfl
 go_wp2_with fail
 refine (KX1.o).mono ?_
 rintro e w2 ⟨rfl,hb2⟩
 have HB2:=Aa (Ac HB1.o hb2)
 have hrp2:=HRP1.o.over hb2
 have hrl2:=HRL1.o.over hb2
 have HRE2:=Aa (HRE1.o.over hb2)
 have HBK2:=Aa ((hb2.block _ HSZ1.o).trans HBK1.o)
 have HSZ2:Hx (w.heap.size+3 < w2.heap.size):=Aa (Nat.lt_of_lt_of_le HSZ1.o hb2.size)
 have K3:=Aa (KWO.o w2)
 clear c5 x0 x1 x2 KX1 hb2
 obtain ⟨c0,c1,c2,c3,c4,c5,c6,c7⟩:=rc8 hrp2
 obtain ⟨l0,l1⟩:=rc2 hrl2
 clear hrp2 hrl2
 go_wp2_with fail
 refine (K3.o).mono ?_
 rintro e w3 ⟨rfl,hb3⟩
 have hba:=bA w3 (ze #[U zd (n:Int),O ga gn gc,O sa sn sc,O ya ls.length yc,O oa on oc,O va vs.length vc,O fa fs.length fc,O ba bn bc,O la ln lc,O ka kn kc] 110)
 have hb4:=Ac hb3 hba
 have HBA:=Aa (Ac HB2.o hb4)
 have HRE:=Aa (HRE2.o.over hb4)
 have HBK:=Aa ((hb4.block _ HSZ2.o).trans HBK2.o)
 have HLT:Hx (w.heap.size+3 < (w3.alloc (ze #[U zd (n:Int),O ga gn gc,O sa sn sc,O ya ls.length yc,O oa on oc,O va vs.length vc,O fa fs.length fc,O ba bn bc,O la ln lc,O ka kn kc] 110)).heap.size):=Aa (Nat.lt_of_lt_of_le HSZ2.o hb4.size)
 have HRW:=Aa (Ae.new [U zd (n:Int),O ga gn gc,O sa sn sc,O ya ls.length yc,O oa on oc,O va vs.length vc,O fa fs.length fc,O ba bn bc,O la ln lc,O ka kn kc] 110 w3)
 have KW:=Aa fun W (hW:Ov (w3.alloc (ze #[U zd (n:Int),O ga gn gc,O sa sn sc,O ya ls.length yc,O oa on oc,O va vs.length vc,O fa fs.length fc,O ba bn bc,O la ln lc,O ka kn kc] 110)) W) v hv=>KWW.o W (Ac HBA.o hW) v hv
 have HNE3:Hx (w.heap.size+3≠w3.heap.size):=Aa (by have:=Nat.lt_of_lt_of_le HSZ2.o hb3.size;omega)
 have hS0:(w3.alloc (ze #[U zd (n:Int),O ga gn gc,O sa sn sc,O ya ls.length yc,O oa on oc,O va vs.length vc,O fa fs.length fc,O ba bn bc,O la ln lc,O ka kn kc] 110)).cell? ⟨w3.heap.size,0,none⟩=some (U zd (n:Int))/\(w3.alloc (ze #[U zd (n:Int),O ga gn gc,O sa sn sc,O ya ls.length yc,O oa on oc,O va vs.length vc,O fa fs.length fc,O ba bn bc,O la ln lc,O ka kn kc] 110)).cell? ⟨w3.heap.size,1,none⟩=some (O ga gn gc)/\(w3.alloc (ze #[U zd (n:Int),O ga gn gc,O sa sn sc,O ya ls.length yc,O oa on oc,O va vs.length vc,O fa fs.length fc,O ba bn bc,O la ln lc,O ka kn kc] 110)).cell? ⟨w3.heap.size,2,none⟩=some (O sa sn sc)/\(w3.alloc (ze #[U zd (n:Int),O ga gn gc,O sa sn sc,O ya ls.length yc,O oa on oc,O va vs.length vc,O fa fs.length fc,O ba bn bc,O la ln lc,O ka kn kc] 110)).cell? ⟨w3.heap.size,3,none⟩=some (O ya ls.length yc)/\(w3.alloc (ze #[U zd (n:Int),O ga gn gc,O sa sn sc,O ya ls.length yc,O oa on oc,O va vs.length vc,O fa fs.length fc,O ba bn bc,O la ln lc,O ka kn kc] 110)).cell? ⟨w3.heap.size,4,none⟩=some (O oa on oc)/\(w3.alloc (ze #[U zd (n:Int),O ga gn gc,O sa sn sc,O ya ls.length yc,O oa on oc,O va vs.length vc,O fa fs.length fc,O ba bn bc,O la ln lc,O ka kn kc] 110)).cell? ⟨w3.heap.size,5,none⟩=some (O va vs.length vc)/\(w3.alloc (ze #[U zd (n:Int),O ga gn gc,O sa sn sc,O ya ls.length yc,O oa on oc,O va vs.length vc,O fa fs.length fc,O ba bn bc,O la ln lc,O ka kn kc] 110)).cell? ⟨w3.heap.size,6,none⟩=some (O fa fs.length fc)/\(w3.alloc (ze #[U zd (n:Int),O ga gn gc,O sa sn sc,O ya ls.length yc,O oa on oc,O va vs.length vc,O fa fs.length fc,O ba bn bc,O la ln lc,O ka kn kc] 110)).cell? ⟨w3.heap.size,7,none⟩=some (O ba bn bc)/\(w3.alloc (ze #[U zd (n:Int),O ga gn gc,O sa sn sc,O ya ls.length yc,O oa on oc,O va vs.length vc,O fa fs.length fc,O ba bn bc,O la ln lc,O ka kn kc] 110)).cell? ⟨w3.heap.size,8,none⟩=some (O la ln lc)/\(w3.alloc (ze #[U zd (n:Int),O ga gn gc,O sa sn sc,O ya ls.length yc,O oa on oc,O va vs.length vc,O fa fs.length fc,O ba bn bc,O la ln lc,O ka kn kc] 110)).cell? ⟨w3.heap.size,9,none⟩=some (O ka kn kc)/\(w3.alloc (ze #[U zd (n:Int),O ga gn gc,O sa sn sc,O ya ls.length yc,O oa on oc,O va vs.length vc,O fa fs.length fc,O ba bn bc,O la ln lc,O ka kn kc] 110)).cell? ⟨(w.heap.size+2),0,none⟩=some (U zd ek)/\(w3.alloc (ze #[U zd (n:Int),O ga gn gc,O sa sn sc,O ya ls.length yc,O oa on oc,O va vs.length vc,O fa fs.length fc,O ba bn bc,O la ln lc,O ka kn kc] 110)).cell? ⟨(w.heap.size+2),1,none⟩=some (U zd en)/\(w3.alloc (ze #[U zd (n:Int),O ga gn gc,O sa sn sc,O ya ls.length yc,O oa on oc,O va vs.length vc,O fa fs.length fc,O ba bn bc,O la ln lc,O ka kn kc] 110)).cell? ⟨(w.heap.size+2),2,none⟩=some (O xa xl xc):=by
  have hr0:=HRW.o
  have hre:=HRE.o
  exact ⟨hr0 0 _ rfl,hr0 1 _ rfl,hr0 2 _ rfl,hr0 3 _ rfl,hr0 4 _ rfl,hr0 5 _ rfl,hr0 6 _ rfl,hr0 7 _ rfl,hr0 8 _ rfl,hr0 9 _ rfl,hre 0 _ rfl,hre 1 _ rfl,hre 2 _ rfl⟩
 clear c0 c1 c2 c3 c4 c5 c6 c7 l0 l1 K3 hb3 hba hb4
 go_wp2_with fail
 refine gS (fun Wz=>Wz.cell? ⟨w3.heap.size,0,none⟩=some (U zd (n:Int))/\Wz.cell? ⟨w3.heap.size,1,none⟩=some (O ga gn gc)/\Wz.cell? ⟨w3.heap.size,2,none⟩=some (O sa sn sc)/\Wz.cell? ⟨w3.heap.size,3,none⟩=some (O ya ls.length yc)/\Wz.cell? ⟨w3.heap.size,4,none⟩=some (O oa on oc)/\Wz.cell? ⟨w3.heap.size,5,none⟩=some (O va vs.length vc)/\Wz.cell? ⟨w3.heap.size,6,none⟩=some (O fa fs.length fc)/\Wz.cell? ⟨w3.heap.size,7,none⟩=some (O ba bn bc)/\Wz.cell? ⟨w3.heap.size,8,none⟩=some (O la ln lc)/\Wz.cell? ⟨w3.heap.size,9,none⟩=some (O ka kn kc)/\Wz.cell? ⟨(w.heap.size+2),0,none⟩=some (U zd ek)/\Wz.cell? ⟨(w.heap.size+2),1,none⟩=some (U zd en)/\Wz.cell? ⟨(w.heap.size+2),2,none⟩=some (O xa xl xc)) (hS0) fun hHeld=>?_
 refine kT 0 ?_
 refine kT 1 ?_
 refine kT 2 ?_
 refine kT 3 ?_
 refine kT 5 ?_
 refine rdA 4 rfl fun K hK=>?_
 go_simp
 refine (KB.o _).mono ?_
 rintro e W5 ⟨vj,rfl,hfr,hb5⟩
 have hbz:=Ac ((Below.refl _ (w3.alloc (ze #[U zd (n:Int),O ga gn gc,O sa sn sc,O ya ls.length yc,O oa on oc,O va vs.length vc,O fa fs.length fc,O ba bn bc,O la ln lc,O ka kn kc] 110))).drew) hb5
 obtain ⟨m1,m2,m3,m4,m5,m6,hNV⟩:∃ m1 m2 m3 m4 m5 m6,vj=zh #[O m1 m2 m3,O m4 m5 m6]:=by
  obtain ⟨x,y,e,-⟩:=Ao hfr
  subst e
  obtain ⟨z1,z2,z3,z4,z5,z6,rfl,rfl⟩:=AN (Ao hfr)
  exact ⟨_,_,_,_,_,_,rfl⟩
 subst hNV
 have hM5:AW n (fun _ _=>False) W5 (zh #[O m1 m2 m3,O m4 m5 m6]) (Bu n):=⟨Ao hfr,C0 n,_,_,rfl,fun _ _ _ _ h=>h,fun _ _ _ _ h=>h⟩
 have hr0:=HRW.o.over hbz
 have hre:=HRE.o.over hbz
 have hS5:W5.cell? ⟨w3.heap.size,0,none⟩=some (U zd (n:Int))/\W5.cell? ⟨w3.heap.size,1,none⟩=some (O ga gn gc)/\W5.cell? ⟨w3.heap.size,2,none⟩=some (O sa sn sc)/\W5.cell? ⟨w3.heap.size,3,none⟩=some (O ya ls.length yc)/\W5.cell? ⟨w3.heap.size,4,none⟩=some (O oa on oc)/\W5.cell? ⟨w3.heap.size,5,none⟩=some (O va vs.length vc)/\W5.cell? ⟨w3.heap.size,6,none⟩=some (O fa fs.length fc)/\W5.cell? ⟨w3.heap.size,7,none⟩=some (O ba bn bc)/\W5.cell? ⟨w3.heap.size,8,none⟩=some (O la ln lc)/\W5.cell? ⟨w3.heap.size,9,none⟩=some (O ka kn kc)/\W5.cell? ⟨(w.heap.size+2),0,none⟩=some (U zd ek)/\W5.cell? ⟨(w.heap.size+2),1,none⟩=some (U zd en)/\W5.cell? ⟨(w.heap.size+2),2,none⟩=some (O xa xl xc):=⟨hr0 0 _ rfl,hr0 1 _ rfl,hr0 2 _ rfl,hr0 3 _ rfl,hr0 4 _ rfl,hr0 5 _ rfl,hr0 6 _ rfl,hr0 7 _ rfl,hr0 8 _ rfl,hr0 9 _ rfl,hre 0 _ rfl,hre 1 _ rfl,hre 2 _ rfl⟩
 have K6:=Aa (KW.o W5 hbz _ hM5)
 have HBZ5:=Aa hbz
 clear hr0 hre hM5 hfr hb5 hbz
 go_simp
 refine xK hK (hS5) fun hHeld=>?_
 clear hK K
 refine rdA 6 rfl fun K hK=>?_
 go_simp
 refine (K6.o).mono ?_
 rintro e W6 ⟨⟨k1,k2,k3,k4,k5,k6,rfl,hlo⟩,hb6⟩
 have hbz:=Ac HBZ5.o hb6
 have hr0:=HRW.o.over hbz
 have hre:=HRE.o.over hbz
 have hS6:W6.cell? ⟨w3.heap.size,0,none⟩=some (U zd (n:Int))/\W6.cell? ⟨w3.heap.size,1,none⟩=some (O ga gn gc)/\W6.cell? ⟨w3.heap.size,2,none⟩=some (O sa sn sc)/\W6.cell? ⟨w3.heap.size,3,none⟩=some (O ya ls.length yc)/\W6.cell? ⟨w3.heap.size,4,none⟩=some (O oa on oc)/\W6.cell? ⟨w3.heap.size,5,none⟩=some (O va vs.length vc)/\W6.cell? ⟨w3.heap.size,6,none⟩=some (O fa fs.length fc)/\W6.cell? ⟨w3.heap.size,7,none⟩=some (O ba bn bc)/\W6.cell? ⟨w3.heap.size,8,none⟩=some (O la ln lc)/\W6.cell? ⟨w3.heap.size,9,none⟩=some (O ka kn kc)/\W6.cell? ⟨(w.heap.size+2),0,none⟩=some (U zd ek)/\W6.cell? ⟨(w.heap.size+2),1,none⟩=some (U zd en)/\W6.cell? ⟨(w.heap.size+2),2,none⟩=some (O xa xl xc):=⟨hr0 0 _ rfl,hr0 1 _ rfl,hr0 2 _ rfl,hr0 3 _ rfl,hr0 4 _ rfl,hr0 5 _ rfl,hr0 6 _ rfl,hr0 7 _ rfl,hr0 8 _ rfl,hr0 9 _ rfl,hre 0 _ rfl,hre 1 _ rfl,hre 2 _ rfl⟩
 have HLO:=Aa hlo
 have HB6:=Aa (Ac HBA.o hbz)
 have hbk:W6.heap[w.heap.size+3]? = some (ze #[O none 0 0,O none 0 0] 50):=(hbz.block _ HLT.o).trans HBK.o
 have HBK6:=Aa hbk
 have r0:W6.cell? ⟨w.heap.size+3,0,none⟩=some (O none 0 0):=by rw [Lib.cell_of_heap hbk];rfl
 have r1:W6.cell? ⟨w.heap.size+3,1,none⟩=some (O none 0 0):=by rw [Lib.cell_of_heap hbk];rfl
 have rz:∀ j,W6.frozen? ⟨w.heap.size+3,j,none⟩=false:=fun j=>by simp [World.frozen?,hbk]
 have HS6:=Aa hS6
 clear hr0 hre hlo hb6 hbz hbk
 go_simp
 refine xK hK (hS6) fun hHeld=>?_
 clear hK K
 refine rdA 7 rfl fun K hK=>?_
 go_simp
 refine xK hK (by obtain ⟨t0,t1,t2,t3,t4,t5,t6,t7,t8,t9,t10,t11,t12⟩:=hS6;have hne:=HNE3.o;exact ⟨by simp [go_sem,t0],by simp [go_sem,t1],by simp [go_sem,t2],by simp [go_sem,t3],by simp [go_sem,t4],by simp [go_sem,t5],by simp [go_sem,t6],by simp [go_sem,t7],by simp [go_sem,t8],by simp [go_sem,t9],by simp [go_sem,t10],by simp [go_sem,t11],by simp [go_sem,t12]⟩) fun hHeld=>?_
 clear hK K
 refine kT 8 ?_
 refine gE ?_
 have hcr:∀ j u,W6.cell? ⟨w.heap.size+3,j,none⟩=some u->∃ a m c,u=O a m c:=fun j u hu=>by
  rw [Lib.cell_of_heap HBK6.o] at hu
  match j,hu with
  | 0,hu=>simp at hu;exact ⟨_,_,_,hu.symm⟩
  | 1,hu=>simp at hu;exact ⟨_,_,_,hu.symm⟩
  | j+2,hu=>simp at hu
 have hfin:=GT (x:=O k1 k2 k3) (y:=O k4 k5 k6) HLO.o.at_ hcr
 have HFIN:=Aa hfin
 clear hfin hcr
 go_wp2_with fail
 have r0':W6.cell? ⟨w.heap.size+1+1+1,0,none⟩=some (O none 0 0):=r0
 have r1':W6.cell? ⟨w.heap.size+1+1+1,1,none⟩=some (O none 0 0):=r1
 refine bodyPost_ret (v:=zm #[zh #[O k1 k2 k3,O k4 k5 k6],U zd 0]) (by simp [results,Tryz.results41,go_sem,r0',r1']) rfl ⟨k1,k2,k3,k4,k5,k6,rfl,HFIN.o,?_⟩
 exact (HB6.o.setCell (p:=⟨w.heap.size+3,0,none⟩) (by simp) _).setCell (p:=⟨w.heap.size+3,1,none⟩) (by simp) _
theorem CS:Ey.xP 1 1 1 1 1 1 0 [] [] [⟨[],[]⟩] [⟨[],[]⟩] [(false,⟨[],[]⟩)] [] [sm1,sm2]:=by
 refine ⟨Dk.chk,by simp,Dk.speak,Dk.labs,⟨by have:=Dk.many;omega,fun f hf=>absurd hf (by simp),?_⟩,fun i h=>absurd h (by simp),?_⟩
 ·intro s hs
  simp at hs
  rcases hs with rfl | rfl
  ·exact ⟨by omega,fun s hs=>absurd hs (by simp [sm1]),fun s hs=>absurd hs (by simp [sm1])⟩
  ·exact ⟨by omega,fun s hs=>absurd hs (by simp [sm2]),fun s hs=>absurd hs (by simp [sm2])⟩
 ·intro s hs
  simp at hs
  rcases hs with rfl | rfl
  ·exact ⟨⟨Lj,fun _=>rfl,fun _=>rfl,fun _=>rfl,fun _=>rfl,fun _=>rfl,fun _=>rfl⟩,fun s hs=>absurd hs (by simp [sm1]),fun s hs=>absurd hs (by simp [sm1])⟩
  ·exact ⟨⟨Li,fun _=>rfl,fun _=>rfl,fun h=>absurd h (by decide),fun _=>rfl,fun _=>rfl,fun _=>rfl⟩,fun s hs=>absurd hs (by simp [sm2]),fun s hs=>absurd hs (by simp [sm2])⟩
theorem Ek (bi bo bv bm:Nat) (w:World) (h:DS bi bo bv bm w):∀ W,Ov w W->Calls Tryz.prog 53 #[zh #[U zd 1,O none 0 0,O none 0 0,O (some ⟨bi,0,none⟩) 1 1,O (some ⟨bo,0,none⟩) 1 1,O (some ⟨bv,0,none⟩) 1 1,O none 0 0,O (some ⟨bm,0,none⟩) 2 2]] W fun e w'=>∃ why:Int,e=zk (U zd why)/\(why=0 ↔ True)/\Ov W w':=fun W hW=>
 (Ey.scopeCheck_any 1 1 1 none 0 0 none 0 0 (some ⟨bi,0,none⟩) 1 1 (some ⟨bo,0,none⟩) 1 1 (some ⟨bv,0,none⟩) 1 1 none 0 0 (some ⟨bm,0,none⟩) 2 2 [] [] [⟨[],[]⟩] [⟨[],[]⟩] [(false,⟨[],[]⟩)] [] [sm1,sm2] W (CP (h.over hW))).mono fun e w' hh=>by
  obtain ⟨why,he,hx,hB⟩:=hh
  exact ⟨why,he,⟨fun _=>trivial,fun _=>hx.2 CS⟩,hB⟩
theorem I0 (bi bo bv bm:Nat) (w:World) (h:DS bi bo bv bm w):Calls Tryz.prog 15 #[zh #[U zd 1,O none 0 0,O none 0 0,O (some ⟨bi,0,none⟩) 1 1,O (some ⟨bo,0,none⟩) 1 1,O (some ⟨bv,0,none⟩) 1 1,O none 0 0,O (some ⟨bm,0,none⟩) 2 2]] w fun e w'=>∃ la lc ka kc,e=zk (zm #[zh #[O la 1 lc,O ka 0 kc],U zd 0])/\Bd w' (O la 1 lc) [⟨[true],[true]⟩]/\Bd w' (O ka 0 kc) []/\Ov w w':=by
 refine (GU 1 1 1 none 0 0 none 0 0 (some ⟨bi,0,none⟩) 1 1 (some ⟨bo,0,none⟩) 1 1 (some ⟨bv,0,none⟩) 1 1 none 0 0 (some ⟨bm,0,none⟩) 2 2 [] [] [⟨[],[]⟩] [⟨[],[]⟩] [(false,⟨[],[]⟩)] [] [sm1,sm2] w (CP h) (fun why=>(why=0 ↔ True)) (Ek bi bo bv bm w h) (fun _=>Dk)).mono ?_
 rintro e w' ⟨why,hP,hB,hh⟩
 have hw:why=0:=hP.2 trivial
 rcases hh with ⟨hne,-⟩ | ⟨-,-,n,st,la,ln,lc,ka,kn,kc,hn,rfl,h1,h2,-,-,-,-,hinf,-,-⟩
 ·exact absurd hw hne
 ·obtain rfl:n=1:=by omega
  obtain ⟨e1,e2⟩:=JT hinf
  rw [e1] at h1
  rw [e2] at h2
  obtain rfl:ln=1:=by obtain ⟨a,c,he,-⟩:=h1;injection he
  obtain rfl:kn=0:=by obtain ⟨a,c,he,-⟩:=h2;injection he
  exact ⟨la,lc,ka,kc,rfl,h1,h2,hB⟩
def smL:ISt:=⟨[⟨[true],[true]⟩],[],false⟩
theorem Lh:C5 1 1 1 [false] [Az [] 1 ⟨[],[]⟩] [] [sm1,sm2] smL true=true:=by rfl
theorem Lg:FC (1:Int) [] 1 0 smL:=by
 refine ⟨rfl,rfl,fun x hx=>?_,fun x hx=>absurd hx (by simp [smL])⟩
 simp [smL] at hx
 subst hx
 rfl
theorem Kl (bi bo bv bm:Nat) (la:Option Addr) (lc:Nat) (ka:Option Addr) (kc:Nat) (w:World) (h:DS bi bo bv bm w) (h1:Bd w (O la 1 lc) [⟨[true],[true]⟩]) (h2:Bd w (O ka 0 kc) []):Calls Tryz.prog 40 #[zh #[U zd 1,O none 0 0,O none 0 0,O (some ⟨bi,0,none⟩) 1 1,O (some ⟨bo,0,none⟩) 1 1,O (some ⟨bv,0,none⟩) 1 1,O none 0 0,O (some ⟨bm,0,none⟩) 2 2],zh #[O la 1 lc,O ka 0 kc]] w fun e w'=>e=zk (zm #[zg true,U zd 0])/\Ov w w':=by
 refine (O3 1 1 1 none 0 0 none 0 0 (some ⟨bi,0,none⟩) 1 1 (some ⟨bo,0,none⟩) 1 1 (some ⟨bv,0,none⟩) 1 1 none 0 0 (some ⟨bm,0,none⟩) 2 2 [] [] [⟨[],[]⟩] [⟨[],[]⟩] [(false,⟨[],[]⟩)] [] [sm1,sm2] la 1 lc ka 0 kc smL w (CP h) h1 h2 (by simp [smL]) (by simp [smL]) True (Ek bi bo bv bm w h) (fun _=>Dk)).mono ?_
 rintro e w' ⟨why,hP,hB,hh⟩
 have hw:why=0:=hP.2 ⟨trivial,Lg⟩
 rcases hh with ⟨hne,-⟩ | ⟨-,n,b,hn,rfl,hb⟩
 ·exact absurd hw hne
 ·obtain rfl:n=1:=by omega
  have:b=true:=hb.2 ⟨fun i hi hk=>by
   have:i=0:=by simp at hi;omega
   subst this
   exact absurd hk (by simp),Lh⟩
  subst this
  exact ⟨rfl,hB⟩
theorem Md:AZ ((1:Nat):Int) 1 (xD 2 0 [])=0:=Le
theorem Lf:AC 1 (xD 2 0 [])=[0]:=by rfl
theorem NM:AX 1 smL.vs (Bu 1) (AC 1 (xD 2 0 []))=⟨[true],[true]⟩:=by rfl
theorem GQ (bi bo bv bm:Nat) (la:Option Addr) (lc:Nat) (ka:Option Addr) (kc:Nat) (w:World) (h:DS bi bo bv bm w) (h1:Bd w (O la 1 lc) [⟨[true],[true]⟩]) (h2:Bd w (O ka 0 kc) []):Calls Tryz.prog 41 #[zh #[U zd 1,O none 0 0,O none 0 0,O (some ⟨bi,0,none⟩) 1 1,O (some ⟨bo,0,none⟩) 1 1,O (some ⟨bv,0,none⟩) 1 1,O none 0 0,O (some ⟨bm,0,none⟩) 2 2],zh #[O la 1 lc,O ka 0 kc],zh #[U zd 2,U zd 0,O none 0 0]] w fun e w'=>∃ k1 k2 k3 k4 k5 k6,e=zk (zm #[zh #[O k1 k2 k3,O k4 k5 k6],U zd 0])/\A7 w' (zh #[O k1 k2 k3,O k4 k5 k6]) ⟨[true],[true]⟩/\Ov w w':=by
 have key:=ofW 1 1 1 (by omega) (by omega) none 0 0 none 0 0 (some ⟨bi,0,none⟩) 1 1 (some ⟨bo,0,none⟩) 1 1 (some ⟨bv,0,none⟩) 1 1 none 0 0 (some ⟨bm,0,none⟩) 2 2 [] [] [⟨[],[]⟩] [⟨[],[]⟩] [(false,⟨[],[]⟩)] [] [sm1,sm2] la 1 lc ka 0 kc smL w (CP h) h1 h2 (by simp [smL]) (by simp [smL]) True (Ek bi bo bv bm w h) trivial Dk Lg 1 2 0 none 0 0 (xD 2 0 []) ⟨2,0,_,[],rfl,rfl,A1 _ (by omega) (by omega),A1 _ (by omega) (by omega),B6⟩ Md (by rw [Lf];intro x hx;simp at hx;subst hx;simp [smL])
 rw [NM] at key
 exact key
theorem Ga {n K kf:Nat} {gs:List (Int × Int)} {vs:List (Bool × Lab)} {ls:List Lab} {fs:List FnD} {main:List D} {st:ISt} (h:Bw n K kf gs vs ls fs main st):C5 n K kf (vs.map Prod.fst) (ls.map (Az (AB gs) n)) fs main st true=true:=by
 obtain ⟨k,hk,hm,-⟩:=h
 have hk2:st=DJ n K kf (vs.map Prod.fst) (ls.map (Az (AB gs) n)) fs main ⟨(BZ n K kf (vs.map Prod.fst) (ls.map (Az (AB gs) n)) fs main (Cb gs n vs fs.length) k).vs,(BZ n K kf (vs.map Prod.fst) (ls.map (Az (AB gs) n)) fs main (Cb gs n vs fs.length) k).fs,false⟩:=hk
 rw [hk2] at hm
 obtain ⟨h1,h2⟩:=JZ n K kf _ _ fs main _ hm
 rw [hk2,h1]
 exact h2
theorem Kh {gs:List (Int × Int)} {n:Nat} {vs:List (Bool × Lab)} {i:Nat} (h:i < vs.length):(Ce gs n vs).getD i AE=if vs[i].1=true then Az (AB gs) n vs[i].2 else Bu n:=by
 simp [Ce,List.getD_eq_getElem?_getD,h]
theorem IZ (gs) (n:Nat) (vs:List (Bool × Lab)) (nf:Nat) (b:Bool):El n vs.length nf (vs.map Prod.fst) (Ce gs n vs) ⟨Ce gs n vs,List.replicate nf (Bu n),b⟩:=by
 refine ⟨by simp [Ce],by simp,fun l hl=>?_,fun l hl=>?_,fun i _=>rfl⟩
 ·simp only [Ce,List.mem_map] at hl
  obtain ⟨v,-,rfl⟩:=hl
  split
  ·exact FD _ _ _
  ·exact C0 n
 ·rw [List.eq_of_mem_replicate hl]
  exact C0 n
theorem El.more {n nv nf:Nat} {known:List Bool} {L:List Lev} {st:ISt} (h:El n nv nf known L st) (b:Bool):El n nv nf known L ⟨st.vs,st.fs,b⟩:=⟨h.lv,h.lf,h.rv,h.rf,h.kn⟩
theorem IV (n K kf:Nat) (gs) (vs:List (Bool × Lab)) (ls:List Lab) (fs:List FnD) (main):∀ k,El n vs.length fs.length (vs.map Prod.fst) (Ce gs n vs) (BZ n K kf (vs.map Prod.fst) (ls.map (Az (AB gs) n)) fs main (Cb gs n vs fs.length) k)
 | 0=>IZ gs n vs fs.length true
 | k+1=>(JY n vs.length fs.length K kf _ (Ce gs n vs) _ fs main _).1 ((IV n K kf gs vs ls fs main k).more false)
theorem FI (n K kf:Nat) (gs) (vs:List (Bool × Lab)) (ls:List Lab) (fs:List FnD) (main) (L:ISt) (hv:L.vs.length=vs.length) (hf:L.fs.length=fs.length) (hkn:∀ i (hi:i < vs.length),vs[i].1=true->L.vs.getD i AE=Az (AB gs) n vs[i].2) (hb:C5 n K kf (vs.map Prod.fst) (ls.map (Az (AB gs) n)) fs main L true=true):∀ k,LeI n (BZ n K kf (vs.map Prod.fst) (ls.map (Az (AB gs) n)) fs main (Cb gs n vs fs.length) k) L
 | 0=>by
  refine ⟨fun i=>?_,fun i=>?_⟩
  ·show Ay ((Ce gs n vs).getD i AE) _ n=true
   by_cases hi:i < vs.length
   ·rw [Kh hi]
    split
    ·rename_i hk
     rw [hkn i hi hk]
     exact Cd _ _
    ·exact G5 _ _
   ·rw [EA (by simp [Ce];omega),EA (by omega)]
    exact Cd _ _
  ·show Ay ((List.replicate fs.length (Bu n)).getD i AE) _ n=true
   by_cases hi:i < fs.length
   ·have:(List.replicate fs.length (Bu n)).getD i AE=Bu n:=by simp [List.getD_eq_getElem?_getD,hi]
    rw [this]
    exact G5 _ _
   ·rw [EA (by simp;omega),EA (by omega)]
    exact Cd _ _
 | k+1=>II n K kf _ _ fs main L _ (FI n K kf gs vs ls fs main L hv hf hkn hb k) hb
theorem FL {n K kf:Nat} {gs:List (Int × Int)} {vs:List (Bool × Lab)} {ls:List Lab} {fs:List FnD} {main:List D} {st L:ISt} (h:Bw n K kf gs vs ls fs main st) (hv:L.vs.length=vs.length) (hf:L.fs.length=fs.length) (hkn:∀ i (hi:i < vs.length),vs[i].1=true->L.vs.getD i AE=Az (AB gs) n vs[i].2) (hb:C5 n K kf (vs.map Prod.fst) (ls.map (Az (AB gs) n)) fs main L true=true):LeI n st L:=by
 obtain ⟨k,hk,-,-⟩:=h
 rw [hk]
 exact FI n K kf gs vs ls fs main L hv hf hkn hb (k+1)
end Go.Proofs.YtfffpjkcfnekaaaGreat.Ex
namespace Go.Proofs.YtfffpjkcfnekaaaGreat
open Go.RowKit
open Go.Value renaming slice -> O, int -> U, bool -> zg, agg -> zh, pointer -> zj, tuple -> zm
open Go.IntKind renaming i64 -> zd
open Go.Obj renaming cells -> ze
open Go.Ending renaming returned -> zk
attribute [local go_sem ↓] Go.wp_at_zero Go.wp_at_succ
def lv:Lev:=⟨[false,true],[true,true]⟩
end Go.Proofs.YtfffpjkcfnekaaaGreat
namespace Go.Proofs.YtfffpjkcfnekaaaGreat.Ex
open Go.RowKit
open Go.Value renaming slice -> O, int -> U, bool -> zg, agg -> zh, pointer -> zj, tuple -> zm
open Go.IntKind renaming i64 -> zd
open Go.Obj renaming cells -> ze
open Go.Ending renaming returned -> zk
set_option linter.unusedSimpArgs false
theorem Dc {W:World} {b:Nat} (h:W.cell? ⟨b,0,none⟩=some (zg true)):AP W (O (some ⟨b,0,none⟩) 1 1) [true]:=⟨some ⟨b,0,none⟩,1,rfl,fun _=>⟨b,0,rfl,fun i hi=>by
 have:i=0:=by simp at hi;omega
 subst this
 exact h⟩⟩
theorem OY (cs:Array Value) (t:Nat) (w:World):Ae cs.toList (w.alloc (.cells cs t)) w.heap.size:=by
 have:=Ae.new cs.toList t w
 simpa using this
theorem GK {cs:List Value} {w w':World} {b:Nat} {a:Array Value} {t:Nat} (ha:a.toList=cs) (hb:b=w.heap.size) (hw:Ov (w.alloc (.cells a t)) w'):Ae cs w' b:=by
 subst hb
 rw [<-ha]
 exact (OY a t w).over hw
theorem NL (w:World):Calls Tryz.prog 38 #[] w fun e w'=>∃ bi bo bv bm,e=zk (zh #[U zd 1,O none 0 0,O none 0 0,O (some ⟨bi,0,none⟩) 1 1,O (some ⟨bo,0,none⟩) 1 1,O (some ⟨bv,0,none⟩) 1 1,O none 0 0,O (some ⟨bm,0,none⟩) 2 2])/\DS bi bo bv bm w'/\Ov w w':=by
 go_enter Tryz.func38,Tryz.ntmps38
 go_wp2_with fail
 have hbr:=fun (W:World) (o:Obj)=>bA W o
 refine bodyPost_ret (v:=DH (w.heap.size+1) (w.heap.size+1+1) (w.heap.size+1+1+1) (w.heap.size+1+1+1+1)) (by simp [results,Tryz.results38,go_sem]) rfl ⟨_,_,_,_,rfl,⟨?_,?_,?_,?_⟩,?_⟩
 ·exact GK rfl (by simp) (Ac (Ac (hbr _ _) (hbr _ _)) (hbr _ _))
 ·exact GK rfl (by simp) (Ac (hbr _ _) (hbr _ _))
 ·exact GK rfl (by simp) (hbr _ _)
 ·exact GK rfl (by simp) (Below.refl _ _)
 ·exact Ac (Ac (Ac (Ac (hbr _ _) (hbr _ _)) (hbr _ _)) (hbr _ _)) (hbr _ _)
abbrev CR (xb:Nat) (k1:Option Addr) (k2 k3:Nat) (k4:Option Addr) (k5 k6:Nat) (w2:World) (bl ol lc:Nat) (ka:Option Addr) (kc:Nat) (m1:Option Addr) (m2 m3:Nat) (m4:Option Addr) (m5 m6:Nat) (Wz:World):Prop:=Wz.cell? ⟨xb,0,none⟩=some (O k1 k2 k3)/\Wz.cell? ⟨xb,1,none⟩=some (O k4 k5 k6)/\Wz.cell? ⟨w2.heap.size,0,none⟩=some (O (some ⟨bl,ol,none⟩) 1 lc)/\Wz.cell? ⟨w2.heap.size,1,none⟩=some (O ka 0 kc)/\Wz.cell? ⟨bl,ol,none⟩=some (O m1 m2 m3)/\Wz.cell? ⟨bl,ol+1,none⟩=some (O m4 m5 m6)
theorem FM (w:World):Calls Tryz.prog 12 #[] w fun e w'=>e=zk (zg true)/\Ov w w':=by
 have K1:=Aa NL
 go_enter Tryz.func12,Tryz.ntmps12
 go_wp2_with fail
 refine (K1.o _).mono ?_
 rintro e w1 ⟨bi,bo,bv,bm,rfl,hs,hb1⟩
 have K2:=Aa (I0 bi bo bv bm w1 hs)
 go_wp2_with fail
 refine (K2.o).mono ?_
 rintro e w2 ⟨la,lc,ka,kc,rfl,h1,h2,hb2⟩
 have hba:=bA w2 (ze #[O la 1 lc,O ka 0 kc] 44)
 have HI1:=Aa (Au h1 hba)
 have HI2:=Aa (Au h2 hba)
 have HRL:=Aa (Ae.new [O la 1 lc,O ka 0 kc] 44 w2)
 have HB2:=Aa (Ac (Ac hb1 hb2) hba)
 have hS0:(w2.alloc (ze #[O la 1 lc,O ka 0 kc] 44)).cell? ⟨w2.heap.size,0,none⟩=some (O la 1 lc)/\(w2.alloc (ze #[O la 1 lc,O ka 0 kc] 44)).cell? ⟨w2.heap.size,1,none⟩=some (O ka 0 kc):=⟨HRL.o 0 _ rfl,HRL.o 1 _ rfl⟩
 clear hs hb1 K2 h1 h2 hb2 hba
 go_wp2_with fail
 refine gS (fun Wz=>Wz.cell? ⟨w2.heap.size,0,none⟩=some (O la 1 lc)/\Wz.cell? ⟨w2.heap.size,1,none⟩=some (O ka 0 kc)) (hS0) fun hHeld=>?_
 refine kT 1 ?_
 refine rdA 0 rfl fun K hK=>?_
 go_simp
 refine (K1.o _).mono ?_
 rintro e W3 ⟨ci,co,cv,cm,rfl,hs3,hb3⟩
 have hbz:=Ac ((Below.refl _ (w2.alloc (ze #[O la 1 lc,O ka 0 kc] 44))).drew) hb3
 have hr:=HRL.o.over hbz
 have hS3:W3.cell? ⟨w2.heap.size,0,none⟩=some (O la 1 lc)/\W3.cell? ⟨w2.heap.size,1,none⟩=some (O ka 0 kc):=⟨hr 0 _ rfl,hr 1 _ rfl⟩
 have K5:=Aa (Kl ci co cv cm la lc ka kc W3 hs3 (Au HI1.o hbz) (Au HI2.o hbz))
 have HBZ3:=Aa hbz
 clear hr hs3 hb3 hbz
 go_simp
 refine xK hK (hS3) fun hHeld=>?_
 clear hK K
 refine rdA 2 rfl fun K hK=>?_
 go_simp
 refine (K5.o).mono ?_
 rintro e W4 ⟨rfl,hb4⟩
 have hbz:=Ac HBZ3.o hb4
 have hr:=HRL.o.over hbz
 have hS4:W4.cell? ⟨w2.heap.size,0,none⟩=some (O la 1 lc)/\W4.cell? ⟨w2.heap.size,1,none⟩=some (O ka 0 kc):=⟨hr 0 _ rfl,hr 1 _ rfl⟩
 have HBZ4:=Aa hbz
 clear hr hb4 hbz
 go_simp
 refine xK hK (hS4) fun hHeld=>?_
 clear hK K
 refine kT 3 ?_
 refine kT 4 ?_
 refine kT 5 ?_
 refine kT 6 ?_
 refine kT 7 ?_
 refine gE ?_
 clear hS0 hS3 hHeld K5
 have hS0:=hS4
 clear hS4
 go_wp2_with fail
 refine gS (fun Wz=>Wz.cell? ⟨w2.heap.size,0,none⟩=some (O la 1 lc)/\Wz.cell? ⟨w2.heap.size,1,none⟩=some (O ka 0 kc)) (hS0) fun hHeld=>?_
 refine kT 1 ?_
 refine kT 2 ?_
 refine rdB 0 7 rfl (fun K hK=>?_) rfl fun K hK=>?_
 ·go_simp
  refine (K1.o _).mono ?_
  rintro e W5 ⟨di,dj,dv,dm,rfl,hs5,hb5⟩
  have hbz5:Ov W4 W5:=Ac (bD W4) hb5
  have hr:=HRL.o.over (Ac HBZ4.o hbz5)
  have hS5:W5.cell? ⟨w2.heap.size,0,none⟩=some (O la 1 lc)/\W5.cell? ⟨w2.heap.size,1,none⟩=some (O ka 0 kc):=⟨hr 0 _ rfl,hr 1 _ rfl⟩
  have HBZ5:=Aa hbz5
  have HS5:=Aa hs5
  clear hr hs5 hb5 hbz5
  go_simp
  refine xK hK (hS5) fun hHeld=>?_
  clear hK K
  refine rdB 3 7 rfl (fun K hK=>?_) rfl fun K hK=>?_
  ·go_simp
   refine (GQ di dj dv dm la lc ka kc _ (HS5.o) (Au HI1.o (Ac HBZ4.o (HBZ5.o))) (Au HI2.o (Ac HBZ4.o (HBZ5.o)))).mono ?_
   rintro e W6 ⟨k1,k2,k3,k4,k5,k6,rfl,hlev,hb6⟩
   have hbz6:Ov W4 W6:=Ac (HBZ5.o) hb6
   have hr:=HRL.o.over (Ac HBZ4.o hbz6)
   have hS6:W6.cell? ⟨w2.heap.size,0,none⟩=some (O la 1 lc)/\W6.cell? ⟨w2.heap.size,1,none⟩=some (O ka 0 kc):=⟨hr 0 _ rfl,hr 1 _ rfl⟩
   have HBZ6:=Aa hbz6
   have HLV:=Aa hlev
   clear hr hlev hb6 hbz6
   go_simp
   refine xK hK (hS6) fun hHeld=>?_
   clear hK K
   refine kT 4 ?_
   refine kT 5 ?_
   refine kT 6 ?_
   refine rdA 7 rfl fun K hK=>?_
   go_simp
   refine xK hK (by have hr:=HRL.o.over (Ac HBZ4.o ((HBZ6.o).alloc ((HBZ6.o).size) (ze #[O none 0 0,O none 0 0] 50)));exact ⟨hr 0 _ rfl,hr 1 _ rfl⟩) fun hHeld=>?_
   clear hK K
   have hal:=bA W6 (ze #[O k1 k2 k3,O k4 k5 k6] 50)
   have hF2:=HRL.o.over (Ac HBZ4.o (Ac HBZ6.o hal))
   have hF1:=Ae.new [O k1 k2 k3,O k4 k5 k6] 50 W6
   have HF1:=Aa (And.intro (hF1 0 _ rfl) (hF1 1 _ rfl))
   have HF2:=Aa hF2
   have HF3:=Aa (Aw HLV.o hal)
   have HF4:=Aa (Au HI1.o (Ac HBZ4.o (Ac HBZ6.o hal)))
   have HF5:=Aa (Ac HB2.o (Ac HBZ4.o (Ac HBZ6.o hal)))
   have hSF:(W6.alloc (ze #[O k1 k2 k3,O k4 k5 k6] 50)).cell? ⟨w2.heap.size,0,none⟩=some (O la 1 lc)/\(W6.alloc (ze #[O k1 k2 k3,O k4 k5 k6] 50)).cell? ⟨w2.heap.size,1,none⟩=some (O ka 0 kc):=⟨hF2 0 _ rfl,hF2 1 _ rfl⟩
   clear hal hF2 hF1
   refine rdA 8 rfl fun K hK=>?_
   go_simp
   refine xK hK (hSF) fun hHeld=>?_
   clear hK K
   refine kT 9 ?_
   refine gE ?_
   clear hS0 hSF hHeld
   generalize (W6.alloc (ze #[O k1 k2 k3,O k4 k5 k6] 50))=WX at HF1 HF2 HF3 HF4 HF5 ⊢
   generalize W6.heap.size=xb at HF1 ⊢
   obtain ⟨x0,x1⟩:=HF1.o
   obtain ⟨ao,cap,hle,hel⟩:=HF4.o
   injection hle with e1 e2 e3
   obtain ⟨bl,ol,hbo,hel⟩:=hel (by simp)
   obtain ⟨rv,wv,g0,g1,hlv⟩:=hel 0 (by simp)
   have e4:=e1.trans hbo
   subst e4
   obtain ⟨m1,m2,m3,m4,m5,m6,hf3,hf4⟩:=AN hlv
   subst hf3 hf4
   simp only [Nat.zero_mul,Nat.add_zero] at g0 g1
   have y0:=HF2.o 0 _ rfl
   have y1:=HF2.o 1 _ rfl
   have hlv1:A7 WX (zh #[O m1 m2 m3,O m4 m5 m6]) ⟨[true],[true]⟩:=hlv
   have KSL:=Aa fun W (hW:Ov WX W)=>C9 (zh #[O k1 k2 k3,O k4 k5 k6]) (zh #[O m1 m2 m3,O m4 m5 m6]) ⟨[true],[true]⟩ ⟨[true],[true]⟩ W (Aw HF3.o hW) (Aw hlv1 hW) ⟨by simp,by simp⟩
   have hsl:Eo ⟨[true],[true]⟩ ⟨[true],[true]⟩=true:=rfl
   rw [hsl] at KSL
   obtain ⟨u1,u2,hu,bu1,bu2⟩:=HF3.o
   simp at hu
   obtain ⟨hu1,hu2⟩:=hu
   subst hu1 hu2
   have hdt:decide ([true]=[true])=true:=rfl
   have KSR:=Aa fun b W (hW:Ov WX W) (hc:W.cell? ⟨b,0,none⟩=some (zg true))=>BE (O k1 k2 k3) (O (some ⟨b,0,none⟩) 1 1) [true] [true] W (Ax bu1 hW) (Dc hc) (by simp)
   have KSW:=Aa fun b W (hW:Ov WX W) (hc:W.cell? ⟨b,0,none⟩=some (zg true))=>BE (O k4 k5 k6) (O (some ⟨b,0,none⟩) 1 1) [true] [true] W (Ax bu2 hW) (Dc hc) (by simp)
   rw [hdt] at KSR KSW
   have hS9:CR xb k1 k2 k3 k4 k5 k6 w2 bl ol lc ka kc m1 m2 m3 m4 m5 m6 WX:=⟨x0,x1,y0,y1,g0,g1⟩
   clear hel hlv hlv1 hsl hdt bu1 bu2 e1 e2 e3 hbo HF1 HF2 HF3 HF4
   go_wp2_with fail
   refine gS (CR xb k1 k2 k3 k4 k5 k6 w2 bl ol lc ka kc m1 m2 m3 m4 m5 m6) (hS9) fun hHeld=>?_
   refine kT 0 ?_
   refine kT 1 ?_
   refine kT 2 ?_
   refine kT 3 ?_
   refine kT 4 ?_
   refine kT 5 ?_
   refine kT 6 ?_
   refine kT 7 ?_
   refine kT 8 ?_
   refine kT 9 ?_
   refine kT 10 ?_
   refine kT 11 ?_
   refine kT 12 ?_
   refine kT 13 ?_
   refine kT 14 ?_
   refine kT 15 ?_
   refine kT 16 ?_
   refine kT 17 ?_
   refine kT 18 ?_
   refine kT 19 ?_
   refine kT 20 ?_
   refine kT 21 ?_
   refine kT 22 ?_
   refine kT 23 ?_
   refine kT 24 ?_
   refine rdA 25 rfl fun K hK=>?_
   go_simp
   refine (KSL.o _ (bD WX)).mono ?_
   rintro e W7 ⟨rfl,hb7⟩
   have hbz7:Ov WX W7:=Ac (bD WX) hb7
   have hSW7:CR xb k1 k2 k3 k4 k5 k6 w2 bl ol lc ka kc m1 m2 m3 m4 m5 m6 W7:=⟨Ab hbz7 _ _ x0,Ab hbz7 _ _ x1,Ab hbz7 _ _ y0,Ab hbz7 _ _ y1,Ab hbz7 _ _ g0,Ab hbz7 _ _ g1⟩
   have HBW7:=Aa hbz7
   clear hb7 hbz7
   go_simp
   refine xK hK (hSW7) fun hHeld=>?_
   clear hK K
   refine kT 26 ?_
   refine kT 27 ?_
   refine kT 28 ?_
   refine kT 29 ?_
   refine rdA 30 rfl fun K hK=>?_
   go_simp
   refine xK hK (⟨Ab ((HBW7.o).alloc ((HBW7.o).size) (ze #[zg true] 4)) _ _ x0,Ab ((HBW7.o).alloc ((HBW7.o).size) (ze #[zg true] 4)) _ _ x1,Ab ((HBW7.o).alloc ((HBW7.o).size) (ze #[zg true] 4)) _ _ y0,Ab ((HBW7.o).alloc ((HBW7.o).size) (ze #[zg true] 4)) _ _ y1,Ab ((HBW7.o).alloc ((HBW7.o).size) (ze #[zg true] 4)) _ _ g0,Ab ((HBW7.o).alloc ((HBW7.o).size) (ze #[zg true] 4)) _ _ g1⟩) fun hHeld=>?_
   clear hK K
   refine rdA 31 rfl fun K hK=>?_
   go_simp
   refine (KSR.o W7.heap.size _ ((HBW7.o).alloc ((HBW7.o).size) (ze #[zg true] 4)) (by simp [go_sem])).mono ?_
   rintro e W8 ⟨rfl,nn,hW⟩
   have hb8:Ov WX W8:=by rw [hW];exact below_drewN (((HBW7.o).alloc ((HBW7.o).size) (ze #[zg true] 4))) nn
   have hSW8:CR xb k1 k2 k3 k4 k5 k6 w2 bl ol lc ka kc m1 m2 m3 m4 m5 m6 W8:=⟨Ab hb8 _ _ x0,Ab hb8 _ _ x1,Ab hb8 _ _ y0,Ab hb8 _ _ y1,Ab hb8 _ _ g0,Ab hb8 _ _ g1⟩
   have HBW8:=Aa hb8
   clear hb8 hW
   go_simp
   refine xK hK (hSW8) fun hHeld=>?_
   clear hK K
   refine kT 32 ?_
   refine kT 33 ?_
   refine kT 34 ?_
   refine kT 35 ?_
   refine rdA 36 rfl fun K hK=>?_
   go_simp
   refine xK hK (⟨Ab ((HBW8.o).alloc ((HBW8.o).size) (ze #[zg true] 4)) _ _ x0,Ab ((HBW8.o).alloc ((HBW8.o).size) (ze #[zg true] 4)) _ _ x1,Ab ((HBW8.o).alloc ((HBW8.o).size) (ze #[zg true] 4)) _ _ y0,Ab ((HBW8.o).alloc ((HBW8.o).size) (ze #[zg true] 4)) _ _ y1,Ab ((HBW8.o).alloc ((HBW8.o).size) (ze #[zg true] 4)) _ _ g0,Ab ((HBW8.o).alloc ((HBW8.o).size) (ze #[zg true] 4)) _ _ g1⟩) fun hHeld=>?_
   clear hK K
   refine rdA 37 rfl fun K hK=>?_
   go_simp
   refine (KSW.o W8.heap.size _ ((HBW8.o).alloc ((HBW8.o).size) (ze #[zg true] 4)) (by simp [go_sem])).mono ?_
   rintro e W9 ⟨rfl,nn,hW⟩
   have hb8:Ov WX W9:=by rw [hW];exact below_drewN (((HBW8.o).alloc ((HBW8.o).size) (ze #[zg true] 4))) nn
   have hSW9:CR xb k1 k2 k3 k4 k5 k6 w2 bl ol lc ka kc m1 m2 m3 m4 m5 m6 W9:=⟨Ab hb8 _ _ x0,Ab hb8 _ _ x1,Ab hb8 _ _ y0,Ab hb8 _ _ y1,Ab hb8 _ _ g0,Ab hb8 _ _ g1⟩
   have HBW9:=Aa hb8
   clear hb8 hW
   go_simp
   refine xK hK (hSW9) fun hHeld=>?_
   clear hK K
   refine kT 38 ?_
   refine kT 39 ?_
   refine gE ?_
   have HEND:=Aa (Ac HF5.o HBW9.o)
   go_wp2_with fail
   go_ret
   exact ⟨rfl,HEND.o⟩
  ·go_simp
   refine xK hK (by have hr:=HRL.o.over (Ac HBZ4.o ((HBZ5.o).alloc ((HBZ5.o).size) (ze #[O none 0 0,O none 0 0] 50)));exact ⟨hr 0 _ rfl,hr 1 _ rfl⟩) fun hHeld=>?_
   clear hK K
   refine rdA 3 rfl fun K hK=>?_
   go_simp
   refine (GQ di dj dv dm la lc ka kc _ (HS5.o.over (bA W5 _)) (Au HI1.o (Ac HBZ4.o (((HBZ5.o).alloc ((HBZ5.o).size) (ze #[O none 0 0,O none 0 0] 50))))) (Au HI2.o (Ac HBZ4.o (((HBZ5.o).alloc ((HBZ5.o).size) (ze #[O none 0 0,O none 0 0] 50)))))).mono ?_
   rintro e W6 ⟨k1,k2,k3,k4,k5,k6,rfl,hlev,hb6⟩
   have hbz6:Ov W4 W6:=Ac (((HBZ5.o).alloc ((HBZ5.o).size) (ze #[O none 0 0,O none 0 0] 50))) hb6
   have hr:=HRL.o.over (Ac HBZ4.o hbz6)
   have hS6:W6.cell? ⟨w2.heap.size,0,none⟩=some (O la 1 lc)/\W6.cell? ⟨w2.heap.size,1,none⟩=some (O ka 0 kc):=⟨hr 0 _ rfl,hr 1 _ rfl⟩
   have HBZ6:=Aa hbz6
   have HLV:=Aa hlev
   have bx6:W6.heap[W5.heap.size]? = some (ze #[O none 0 0,O none 0 0] 50):=(hb6.block _ (Array.getElem?_eq_some_iff.1 (BG W5 (ze #[O none 0 0,O none 0 0] 50))).1).trans (BG W5 (ze #[O none 0 0,O none 0 0] 50))
   have BX6:=Aa bx6
   clear bx6
   clear hr hlev hb6 hbz6
   go_simp
   refine xK hK (hS6) fun hHeld=>?_
   clear hK K
   refine kT 4 ?_
   refine kT 5 ?_
   refine kT 6 ?_
   have bX:W6.heap[W5.heap.size]? = some (ze #[O none 0 0,O none 0 0] 50):=BX6.o
   have x0:W6.cell? ⟨W5.heap.size,0,none⟩=some (O none 0 0):=by rw [Lib.cell_of_heap bX];rfl
   have x1:W6.cell? ⟨W5.heap.size,1,none⟩=some (O none 0 0):=by rw [Lib.cell_of_heap bX];rfl
   have xz:∀ j,W6.frozen? ⟨W5.heap.size,j,none⟩=false:=fun j=>by first | (simp [World.frozen?,bX];done) | (simp [go_sem];done)
   have hlt4:W4.heap.size<=W5.heap.size:=by first | exact Nat.le_refl _ | exact HBZ5.o.size | exact HBZ6.o.size
   have hbB:Ov W4 W6:=HBZ6.o
   have hr:=HRL.o.over (Ac HBZ4.o hbB)
   have hne:W5.heap.size≠w2.heap.size:=by have h1:=bL (HRL.o.over HBZ4.o 0 _ rfl);simp at h1;omega
   have hcr:∀ j u,W6.cell? ⟨W5.heap.size,j,none⟩=some u->∃ a m c,u=O a m c:=fun j u hu=>by
    rw [Lib.cell_of_heap bX] at hu
    match j,hu with
    | 0,hu=>simp at hu;exact ⟨_,_,_,hu.symm⟩
    | 1,hu=>simp at hu;exact ⟨_,_,_,hu.symm⟩
    | j+2,hu=>simp at hu
   have hF3:A7 ((W6.setCell ⟨W5.heap.size,0,none⟩ (O k1 k2 k3)).setCell ⟨W5.heap.size,1,none⟩ (O k4 k5 k6)) (zh #[O k1 k2 k3,O k4 k5 k6]) ⟨[true],[true]⟩:=GT (HLV.o) hcr
   have hF4:Bd ((W6.setCell ⟨W5.heap.size,0,none⟩ (O k1 k2 k3)).setCell ⟨W5.heap.size,1,none⟩ (O k4 k5 k6)) (O la 1 lc) [⟨[true],[true]⟩]:=Eu (n:=1) (X:=fun _ _=>False) (Ev (Nat.le_refl _) (Au HI1.o (Ac HBZ4.o hbB)) (by intro x hx;simp at hx;subst hx;exact ⟨rfl,rfl⟩) (fun _ h=>h.elim)) hcr (fun a m c e=>by injection e with e1;exact Fl HI1.o (by simp) e1 (Nat.le_trans HBZ4.o.size hlt4))
   have hF2:Ae [O la 1 lc,O ka 0 kc] ((W6.setCell ⟨W5.heap.size,0,none⟩ (O k1 k2 k3)).setCell ⟨W5.heap.size,1,none⟩ (O k4 k5 k6)) w2.heap.size:=fun j u hu=>by rw [Bz (Or.inl hne),Bz (Or.inl hne)];exact hr j u hu
   have hF1a:((W6.setCell ⟨W5.heap.size,0,none⟩ (O k1 k2 k3)).setCell ⟨W5.heap.size,1,none⟩ (O k4 k5 k6)).cell? ⟨W5.heap.size,0,none⟩=some (O k1 k2 k3):=by rw [Bz (Or.inr (by omega))];exact World.cell?_setCell_same _ _ _ x0
   have hF1b:((W6.setCell ⟨W5.heap.size,0,none⟩ (O k1 k2 k3)).setCell ⟨W5.heap.size,1,none⟩ (O k4 k5 k6)).cell? ⟨W5.heap.size,1,none⟩=some (O k4 k5 k6):=World.cell?_setCell_same _ _ _ (u:=O none 0 0) (by rw [Bz (Or.inr (by omega))];exact x1)
   have hF5:Ov w ((W6.setCell ⟨W5.heap.size,0,none⟩ (O k1 k2 k3)).setCell ⟨W5.heap.size,1,none⟩ (O k4 k5 k6)):=((Ac HB2.o (Ac HBZ4.o hbB)).setCell (p:=⟨W5.heap.size,0,none⟩) (by have h1:=(Ac HB2.o HBZ4.o).size;simp;omega) _).setCell (p:=⟨W5.heap.size,1,none⟩) (by have h1:=(Ac HB2.o HBZ4.o).size;simp;omega) _
   have HF1:=Aa (And.intro hF1a hF1b)
   have HF2:=Aa hF2
   have HF3:=Aa hF3
   have HF4:=Aa hF4
   have HF5:=Aa hF5
   have hSF:((W6.setCell ⟨W5.heap.size,0,none⟩ (O k1 k2 k3)).setCell ⟨W5.heap.size,1,none⟩ (O k4 k5 k6)).cell? ⟨w2.heap.size,0,none⟩=some (O la 1 lc)/\((W6.setCell ⟨W5.heap.size,0,none⟩ (O k1 k2 k3)).setCell ⟨W5.heap.size,1,none⟩ (O k4 k5 k6)).cell? ⟨w2.heap.size,1,none⟩=some (O ka 0 kc):=⟨hF2 0 _ rfl,hF2 1 _ rfl⟩
   clear bX hbB hr hcr hF3 hF4 hF2 hF1a hF1b hF5 hlt4 hne
   refine rdA 8 rfl fun K hK=>?_
   go_simp
   refine xK hK (hSF) fun hHeld=>?_
   clear hK K
   refine kT 9 ?_
   refine gE ?_
   clear x0 x1 xz
   clear hS0 hSF hHeld
   generalize ((W6.setCell ⟨W5.heap.size,0,none⟩ (O k1 k2 k3)).setCell ⟨W5.heap.size,1,none⟩ (O k4 k5 k6))=WX at HF1 HF2 HF3 HF4 HF5 ⊢
   generalize W5.heap.size=xb at HF1 ⊢
   obtain ⟨x0,x1⟩:=HF1.o
   obtain ⟨ao,cap,hle,hel⟩:=HF4.o
   injection hle with e1 e2 e3
   obtain ⟨bl,ol,hbo,hel⟩:=hel (by simp)
   obtain ⟨rv,wv,g0,g1,hlv⟩:=hel 0 (by simp)
   have e4:=e1.trans hbo
   subst e4
   obtain ⟨m1,m2,m3,m4,m5,m6,hf3,hf4⟩:=AN hlv
   subst hf3 hf4
   simp only [Nat.zero_mul,Nat.add_zero] at g0 g1
   have y0:=HF2.o 0 _ rfl
   have y1:=HF2.o 1 _ rfl
   have hlv1:A7 WX (zh #[O m1 m2 m3,O m4 m5 m6]) ⟨[true],[true]⟩:=hlv
   have KSL:=Aa fun W (hW:Ov WX W)=>C9 (zh #[O k1 k2 k3,O k4 k5 k6]) (zh #[O m1 m2 m3,O m4 m5 m6]) ⟨[true],[true]⟩ ⟨[true],[true]⟩ W (Aw HF3.o hW) (Aw hlv1 hW) ⟨by simp,by simp⟩
   have hsl:Eo ⟨[true],[true]⟩ ⟨[true],[true]⟩=true:=rfl
   rw [hsl] at KSL
   obtain ⟨u1,u2,hu,bu1,bu2⟩:=HF3.o
   simp at hu
   obtain ⟨hu1,hu2⟩:=hu
   subst hu1 hu2
   have hdt:decide ([true]=[true])=true:=rfl
   have KSR:=Aa fun b W (hW:Ov WX W) (hc:W.cell? ⟨b,0,none⟩=some (zg true))=>BE (O k1 k2 k3) (O (some ⟨b,0,none⟩) 1 1) [true] [true] W (Ax bu1 hW) (Dc hc) (by simp)
   have KSW:=Aa fun b W (hW:Ov WX W) (hc:W.cell? ⟨b,0,none⟩=some (zg true))=>BE (O k4 k5 k6) (O (some ⟨b,0,none⟩) 1 1) [true] [true] W (Ax bu2 hW) (Dc hc) (by simp)
   rw [hdt] at KSR KSW
   have hS9:CR xb k1 k2 k3 k4 k5 k6 w2 bl ol lc ka kc m1 m2 m3 m4 m5 m6 WX:=⟨x0,x1,y0,y1,g0,g1⟩
   clear hel hlv hlv1 hsl hdt bu1 bu2 e1 e2 e3 hbo HF1 HF2 HF3 HF4
   go_wp2_with fail
   refine gS (CR xb k1 k2 k3 k4 k5 k6 w2 bl ol lc ka kc m1 m2 m3 m4 m5 m6) (hS9) fun hHeld=>?_
   refine kT 0 ?_
   refine kT 1 ?_
   refine kT 2 ?_
   refine kT 3 ?_
   refine kT 4 ?_
   refine kT 5 ?_
   refine kT 6 ?_
   refine kT 7 ?_
   refine kT 8 ?_
   refine kT 9 ?_
   refine kT 10 ?_
   refine kT 11 ?_
   refine kT 12 ?_
   refine kT 13 ?_
   refine kT 14 ?_
   refine kT 15 ?_
   refine kT 16 ?_
   refine kT 17 ?_
   refine kT 18 ?_
   refine kT 19 ?_
   refine kT 20 ?_
   refine kT 21 ?_
   refine kT 22 ?_
   refine kT 23 ?_
   refine kT 24 ?_
   refine rdA 25 rfl fun K hK=>?_
   go_simp
   refine (KSL.o _ (bD WX)).mono ?_
   rintro e W7 ⟨rfl,hb7⟩
   have hbz7:Ov WX W7:=Ac (bD WX) hb7
   have hSW7:CR xb k1 k2 k3 k4 k5 k6 w2 bl ol lc ka kc m1 m2 m3 m4 m5 m6 W7:=⟨Ab hbz7 _ _ x0,Ab hbz7 _ _ x1,Ab hbz7 _ _ y0,Ab hbz7 _ _ y1,Ab hbz7 _ _ g0,Ab hbz7 _ _ g1⟩
   have HBW7:=Aa hbz7
   clear hb7 hbz7
   go_simp
   refine xK hK (hSW7) fun hHeld=>?_
   clear hK K
   refine kT 26 ?_
   refine kT 27 ?_
   refine kT 28 ?_
   refine kT 29 ?_
   refine rdA 30 rfl fun K hK=>?_
   go_simp
   refine xK hK (⟨Ab ((HBW7.o).alloc ((HBW7.o).size) (ze #[zg true] 4)) _ _ x0,Ab ((HBW7.o).alloc ((HBW7.o).size) (ze #[zg true] 4)) _ _ x1,Ab ((HBW7.o).alloc ((HBW7.o).size) (ze #[zg true] 4)) _ _ y0,Ab ((HBW7.o).alloc ((HBW7.o).size) (ze #[zg true] 4)) _ _ y1,Ab ((HBW7.o).alloc ((HBW7.o).size) (ze #[zg true] 4)) _ _ g0,Ab ((HBW7.o).alloc ((HBW7.o).size) (ze #[zg true] 4)) _ _ g1⟩) fun hHeld=>?_
   clear hK K
   refine rdA 31 rfl fun K hK=>?_
   go_simp
   refine (KSR.o W7.heap.size _ ((HBW7.o).alloc ((HBW7.o).size) (ze #[zg true] 4)) (by simp [go_sem])).mono ?_
   rintro e W8 ⟨rfl,nn,hW⟩
   have hb8:Ov WX W8:=by rw [hW];exact below_drewN (((HBW7.o).alloc ((HBW7.o).size) (ze #[zg true] 4))) nn
   have hSW8:CR xb k1 k2 k3 k4 k5 k6 w2 bl ol lc ka kc m1 m2 m3 m4 m5 m6 W8:=⟨Ab hb8 _ _ x0,Ab hb8 _ _ x1,Ab hb8 _ _ y0,Ab hb8 _ _ y1,Ab hb8 _ _ g0,Ab hb8 _ _ g1⟩
   have HBW8:=Aa hb8
   clear hb8 hW
   go_simp
   refine xK hK (hSW8) fun hHeld=>?_
   clear hK K
   refine kT 32 ?_
   refine kT 33 ?_
   refine kT 34 ?_
   refine kT 35 ?_
   refine rdA 36 rfl fun K hK=>?_
   go_simp
   refine xK hK (⟨Ab ((HBW8.o).alloc ((HBW8.o).size) (ze #[zg true] 4)) _ _ x0,Ab ((HBW8.o).alloc ((HBW8.o).size) (ze #[zg true] 4)) _ _ x1,Ab ((HBW8.o).alloc ((HBW8.o).size) (ze #[zg true] 4)) _ _ y0,Ab ((HBW8.o).alloc ((HBW8.o).size) (ze #[zg true] 4)) _ _ y1,Ab ((HBW8.o).alloc ((HBW8.o).size) (ze #[zg true] 4)) _ _ g0,Ab ((HBW8.o).alloc ((HBW8.o).size) (ze #[zg true] 4)) _ _ g1⟩) fun hHeld=>?_
   clear hK K
   refine rdA 37 rfl fun K hK=>?_
   go_simp
   refine (KSW.o W8.heap.size _ ((HBW8.o).alloc ((HBW8.o).size) (ze #[zg true] 4)) (by simp [go_sem])).mono ?_
   rintro e W9 ⟨rfl,nn,hW⟩
   have hb8:Ov WX W9:=by rw [hW];exact below_drewN (((HBW8.o).alloc ((HBW8.o).size) (ze #[zg true] 4))) nn
   have hSW9:CR xb k1 k2 k3 k4 k5 k6 w2 bl ol lc ka kc m1 m2 m3 m4 m5 m6 W9:=⟨Ab hb8 _ _ x0,Ab hb8 _ _ x1,Ab hb8 _ _ y0,Ab hb8 _ _ y1,Ab hb8 _ _ g0,Ab hb8 _ _ g1⟩
   have HBW9:=Aa hb8
   clear hb8 hW
   go_simp
   refine xK hK (hSW9) fun hHeld=>?_
   clear hK K
   refine kT 38 ?_
   refine kT 39 ?_
   refine gE ?_
   have HEND:=Aa (Ac HF5.o HBW9.o)
   go_wp2_with fail
   go_ret
   exact ⟨rfl,HEND.o⟩
 ·go_simp
  refine xK hK (by have hr:=HRL.o.over (Ac HBZ4.o ((bA W4 (ze #[O none 0 0,O none 0 0] 50)).drew));exact ⟨hr 0 _ rfl,hr 1 _ rfl⟩) fun hHeld=>?_
  clear hK K
  refine rdA 0 rfl fun K hK=>?_
  go_simp
  refine (K1.o _).mono ?_
  rintro e W5 ⟨di,dj,dv,dm,rfl,hs5,hb5⟩
  have hbz5:Ov W4 W5:=Ac ((bA W4 (ze #[O none 0 0,O none 0 0] 50)).drew) hb5
  have hr:=HRL.o.over (Ac HBZ4.o hbz5)
  have hS5:W5.cell? ⟨w2.heap.size,0,none⟩=some (O la 1 lc)/\W5.cell? ⟨w2.heap.size,1,none⟩=some (O ka 0 kc):=⟨hr 0 _ rfl,hr 1 _ rfl⟩
  have HBZ5:=Aa hbz5
  have HS5:=Aa hs5
  have bx5:W5.heap[W4.heap.size]? = some (ze #[O none 0 0,O none 0 0] 50):=(hb5.block _ (by simp)).trans (BG W4 (ze #[O none 0 0,O none 0 0] 50))
  have BX5:=Aa bx5
  clear bx5
  clear hr hs5 hb5 hbz5
  go_simp
  refine xK hK (hS5) fun hHeld=>?_
  clear hK K
  refine rdA 3 rfl fun K hK=>?_
  go_simp
  refine (GQ di dj dv dm la lc ka kc _ (HS5.o) (Au HI1.o (Ac HBZ4.o (HBZ5.o))) (Au HI2.o (Ac HBZ4.o (HBZ5.o)))).mono ?_
  rintro e W6 ⟨k1,k2,k3,k4,k5,k6,rfl,hlev,hb6⟩
  have hbz6:Ov W4 W6:=Ac (HBZ5.o) hb6
  have hr:=HRL.o.over (Ac HBZ4.o hbz6)
  have hS6:W6.cell? ⟨w2.heap.size,0,none⟩=some (O la 1 lc)/\W6.cell? ⟨w2.heap.size,1,none⟩=some (O ka 0 kc):=⟨hr 0 _ rfl,hr 1 _ rfl⟩
  have HBZ6:=Aa hbz6
  have HLV:=Aa hlev
  have bx6:W6.heap[W4.heap.size]? = some (ze #[O none 0 0,O none 0 0] 50):=(hb6.block _ (Array.getElem?_eq_some_iff.1 (BX5.o)).1).trans (BX5.o)
  have BX6:=Aa bx6
  clear bx6
  clear hr hlev hb6 hbz6
  go_simp
  refine xK hK (hS6) fun hHeld=>?_
  clear hK K
  refine kT 4 ?_
  refine kT 5 ?_
  refine kT 6 ?_
  have bX:W6.heap[W4.heap.size]? = some (ze #[O none 0 0,O none 0 0] 50):=BX6.o
  have x0:W6.cell? ⟨W4.heap.size,0,none⟩=some (O none 0 0):=by rw [Lib.cell_of_heap bX];rfl
  have x1:W6.cell? ⟨W4.heap.size,1,none⟩=some (O none 0 0):=by rw [Lib.cell_of_heap bX];rfl
  have xz:∀ j,W6.frozen? ⟨W4.heap.size,j,none⟩=false:=fun j=>by first | (simp [World.frozen?,bX];done) | (simp [go_sem];done)
  have hlt4:W4.heap.size<=W4.heap.size:=by first | exact Nat.le_refl _ | exact HBZ5.o.size | exact HBZ6.o.size
  have hbB:Ov W4 W6:=HBZ6.o
  have hr:=HRL.o.over (Ac HBZ4.o hbB)
  have hne:W4.heap.size≠w2.heap.size:=by have h1:=bL (HRL.o.over HBZ4.o 0 _ rfl);simp at h1;omega
  have hcr:∀ j u,W6.cell? ⟨W4.heap.size,j,none⟩=some u->∃ a m c,u=O a m c:=fun j u hu=>by
   rw [Lib.cell_of_heap bX] at hu
   match j,hu with
   | 0,hu=>simp at hu;exact ⟨_,_,_,hu.symm⟩
   | 1,hu=>simp at hu;exact ⟨_,_,_,hu.symm⟩
   | j+2,hu=>simp at hu
  have hF3:A7 ((W6.setCell ⟨W4.heap.size,0,none⟩ (O k1 k2 k3)).setCell ⟨W4.heap.size,1,none⟩ (O k4 k5 k6)) (zh #[O k1 k2 k3,O k4 k5 k6]) ⟨[true],[true]⟩:=GT (HLV.o) hcr
  have hF4:Bd ((W6.setCell ⟨W4.heap.size,0,none⟩ (O k1 k2 k3)).setCell ⟨W4.heap.size,1,none⟩ (O k4 k5 k6)) (O la 1 lc) [⟨[true],[true]⟩]:=Eu (n:=1) (X:=fun _ _=>False) (Ev (Nat.le_refl _) (Au HI1.o (Ac HBZ4.o hbB)) (by intro x hx;simp at hx;subst hx;exact ⟨rfl,rfl⟩) (fun _ h=>h.elim)) hcr (fun a m c e=>by injection e with e1;exact Fl HI1.o (by simp) e1 (Nat.le_trans HBZ4.o.size hlt4))
  have hF2:Ae [O la 1 lc,O ka 0 kc] ((W6.setCell ⟨W4.heap.size,0,none⟩ (O k1 k2 k3)).setCell ⟨W4.heap.size,1,none⟩ (O k4 k5 k6)) w2.heap.size:=fun j u hu=>by rw [Bz (Or.inl hne),Bz (Or.inl hne)];exact hr j u hu
  have hF1a:((W6.setCell ⟨W4.heap.size,0,none⟩ (O k1 k2 k3)).setCell ⟨W4.heap.size,1,none⟩ (O k4 k5 k6)).cell? ⟨W4.heap.size,0,none⟩=some (O k1 k2 k3):=by rw [Bz (Or.inr (by omega))];exact World.cell?_setCell_same _ _ _ x0
  have hF1b:((W6.setCell ⟨W4.heap.size,0,none⟩ (O k1 k2 k3)).setCell ⟨W4.heap.size,1,none⟩ (O k4 k5 k6)).cell? ⟨W4.heap.size,1,none⟩=some (O k4 k5 k6):=World.cell?_setCell_same _ _ _ (u:=O none 0 0) (by rw [Bz (Or.inr (by omega))];exact x1)
  have hF5:Ov w ((W6.setCell ⟨W4.heap.size,0,none⟩ (O k1 k2 k3)).setCell ⟨W4.heap.size,1,none⟩ (O k4 k5 k6)):=((Ac HB2.o (Ac HBZ4.o hbB)).setCell (p:=⟨W4.heap.size,0,none⟩) (by have h1:=(Ac HB2.o HBZ4.o).size;simp;omega) _).setCell (p:=⟨W4.heap.size,1,none⟩) (by have h1:=(Ac HB2.o HBZ4.o).size;simp;omega) _
  have HF1:=Aa (And.intro hF1a hF1b)
  have HF2:=Aa hF2
  have HF3:=Aa hF3
  have HF4:=Aa hF4
  have HF5:=Aa hF5
  have hSF:((W6.setCell ⟨W4.heap.size,0,none⟩ (O k1 k2 k3)).setCell ⟨W4.heap.size,1,none⟩ (O k4 k5 k6)).cell? ⟨w2.heap.size,0,none⟩=some (O la 1 lc)/\((W6.setCell ⟨W4.heap.size,0,none⟩ (O k1 k2 k3)).setCell ⟨W4.heap.size,1,none⟩ (O k4 k5 k6)).cell? ⟨w2.heap.size,1,none⟩=some (O ka 0 kc):=⟨hF2 0 _ rfl,hF2 1 _ rfl⟩
  clear bX hbB hr hcr hF3 hF4 hF2 hF1a hF1b hF5 hlt4 hne
  refine rdA 8 rfl fun K hK=>?_
  go_simp
  refine xK hK (hSF) fun hHeld=>?_
  clear hK K
  refine kT 9 ?_
  refine gE ?_
  clear x0 x1 xz
  clear hS0 hSF hHeld
  generalize ((W6.setCell ⟨W4.heap.size,0,none⟩ (O k1 k2 k3)).setCell ⟨W4.heap.size,1,none⟩ (O k4 k5 k6))=WX at HF1 HF2 HF3 HF4 HF5 ⊢
  generalize W4.heap.size=xb at HF1 ⊢
  obtain ⟨x0,x1⟩:=HF1.o
  obtain ⟨ao,cap,hle,hel⟩:=HF4.o
  injection hle with e1 e2 e3
  obtain ⟨bl,ol,hbo,hel⟩:=hel (by simp)
  obtain ⟨rv,wv,g0,g1,hlv⟩:=hel 0 (by simp)
  have e4:=e1.trans hbo
  subst e4
  obtain ⟨m1,m2,m3,m4,m5,m6,hf3,hf4⟩:=AN hlv
  subst hf3 hf4
  simp only [Nat.zero_mul,Nat.add_zero] at g0 g1
  have y0:=HF2.o 0 _ rfl
  have y1:=HF2.o 1 _ rfl
  have hlv1:A7 WX (zh #[O m1 m2 m3,O m4 m5 m6]) ⟨[true],[true]⟩:=hlv
  have KSL:=Aa fun W (hW:Ov WX W)=>C9 (zh #[O k1 k2 k3,O k4 k5 k6]) (zh #[O m1 m2 m3,O m4 m5 m6]) ⟨[true],[true]⟩ ⟨[true],[true]⟩ W (Aw HF3.o hW) (Aw hlv1 hW) ⟨by simp,by simp⟩
  have hsl:Eo ⟨[true],[true]⟩ ⟨[true],[true]⟩=true:=rfl
  rw [hsl] at KSL
  obtain ⟨u1,u2,hu,bu1,bu2⟩:=HF3.o
  simp at hu
  obtain ⟨hu1,hu2⟩:=hu
  subst hu1 hu2
  have hdt:decide ([true]=[true])=true:=rfl
  have KSR:=Aa fun b W (hW:Ov WX W) (hc:W.cell? ⟨b,0,none⟩=some (zg true))=>BE (O k1 k2 k3) (O (some ⟨b,0,none⟩) 1 1) [true] [true] W (Ax bu1 hW) (Dc hc) (by simp)
  have KSW:=Aa fun b W (hW:Ov WX W) (hc:W.cell? ⟨b,0,none⟩=some (zg true))=>BE (O k4 k5 k6) (O (some ⟨b,0,none⟩) 1 1) [true] [true] W (Ax bu2 hW) (Dc hc) (by simp)
  rw [hdt] at KSR KSW
  have hS9:CR xb k1 k2 k3 k4 k5 k6 w2 bl ol lc ka kc m1 m2 m3 m4 m5 m6 WX:=⟨x0,x1,y0,y1,g0,g1⟩
  clear hel hlv hlv1 hsl hdt bu1 bu2 e1 e2 e3 hbo HF1 HF2 HF3 HF4
  go_wp2_with fail
  refine gS (CR xb k1 k2 k3 k4 k5 k6 w2 bl ol lc ka kc m1 m2 m3 m4 m5 m6) (hS9) fun hHeld=>?_
  refine kT 0 ?_
  refine kT 1 ?_
  refine kT 2 ?_
  refine kT 3 ?_
  refine kT 4 ?_
  refine kT 5 ?_
  refine kT 6 ?_
  refine kT 7 ?_
  refine kT 8 ?_
  refine kT 9 ?_
  refine kT 10 ?_
  refine kT 11 ?_
  refine kT 12 ?_
  refine kT 13 ?_
  refine kT 14 ?_
  refine kT 15 ?_
  refine kT 16 ?_
  refine kT 17 ?_
  refine kT 18 ?_
  refine kT 19 ?_
  refine kT 20 ?_
  refine kT 21 ?_
  refine kT 22 ?_
  refine kT 23 ?_
  refine kT 24 ?_
  refine rdA 25 rfl fun K hK=>?_
  go_simp
  refine (KSL.o _ (bD WX)).mono ?_
  rintro e W7 ⟨rfl,hb7⟩
  have hbz7:Ov WX W7:=Ac (bD WX) hb7
  have hSW7:CR xb k1 k2 k3 k4 k5 k6 w2 bl ol lc ka kc m1 m2 m3 m4 m5 m6 W7:=⟨Ab hbz7 _ _ x0,Ab hbz7 _ _ x1,Ab hbz7 _ _ y0,Ab hbz7 _ _ y1,Ab hbz7 _ _ g0,Ab hbz7 _ _ g1⟩
  have HBW7:=Aa hbz7
  clear hb7 hbz7
  go_simp
  refine xK hK (hSW7) fun hHeld=>?_
  clear hK K
  refine kT 26 ?_
  refine kT 27 ?_
  refine kT 28 ?_
  refine kT 29 ?_
  refine rdA 30 rfl fun K hK=>?_
  go_simp
  refine xK hK (⟨Ab ((HBW7.o).alloc ((HBW7.o).size) (ze #[zg true] 4)) _ _ x0,Ab ((HBW7.o).alloc ((HBW7.o).size) (ze #[zg true] 4)) _ _ x1,Ab ((HBW7.o).alloc ((HBW7.o).size) (ze #[zg true] 4)) _ _ y0,Ab ((HBW7.o).alloc ((HBW7.o).size) (ze #[zg true] 4)) _ _ y1,Ab ((HBW7.o).alloc ((HBW7.o).size) (ze #[zg true] 4)) _ _ g0,Ab ((HBW7.o).alloc ((HBW7.o).size) (ze #[zg true] 4)) _ _ g1⟩) fun hHeld=>?_
  clear hK K
  refine rdA 31 rfl fun K hK=>?_
  go_simp
  refine (KSR.o W7.heap.size _ ((HBW7.o).alloc ((HBW7.o).size) (ze #[zg true] 4)) (by simp [go_sem])).mono ?_
  rintro e W8 ⟨rfl,nn,hW⟩
  have hb8:Ov WX W8:=by rw [hW];exact below_drewN (((HBW7.o).alloc ((HBW7.o).size) (ze #[zg true] 4))) nn
  have hSW8:CR xb k1 k2 k3 k4 k5 k6 w2 bl ol lc ka kc m1 m2 m3 m4 m5 m6 W8:=⟨Ab hb8 _ _ x0,Ab hb8 _ _ x1,Ab hb8 _ _ y0,Ab hb8 _ _ y1,Ab hb8 _ _ g0,Ab hb8 _ _ g1⟩
  have HBW8:=Aa hb8
  clear hb8 hW
  go_simp
  refine xK hK (hSW8) fun hHeld=>?_
  clear hK K
  refine kT 32 ?_
  refine kT 33 ?_
  refine kT 34 ?_
  refine kT 35 ?_
  refine rdA 36 rfl fun K hK=>?_
  go_simp
  refine xK hK (⟨Ab ((HBW8.o).alloc ((HBW8.o).size) (ze #[zg true] 4)) _ _ x0,Ab ((HBW8.o).alloc ((HBW8.o).size) (ze #[zg true] 4)) _ _ x1,Ab ((HBW8.o).alloc ((HBW8.o).size) (ze #[zg true] 4)) _ _ y0,Ab ((HBW8.o).alloc ((HBW8.o).size) (ze #[zg true] 4)) _ _ y1,Ab ((HBW8.o).alloc ((HBW8.o).size) (ze #[zg true] 4)) _ _ g0,Ab ((HBW8.o).alloc ((HBW8.o).size) (ze #[zg true] 4)) _ _ g1⟩) fun hHeld=>?_
  clear hK K
  refine rdA 37 rfl fun K hK=>?_
  go_simp
  refine (KSW.o W8.heap.size _ ((HBW8.o).alloc ((HBW8.o).size) (ze #[zg true] 4)) (by simp [go_sem])).mono ?_
  rintro e W9 ⟨rfl,nn,hW⟩
  have hb8:Ov WX W9:=by rw [hW];exact below_drewN (((HBW8.o).alloc ((HBW8.o).size) (ze #[zg true] 4))) nn
  have hSW9:CR xb k1 k2 k3 k4 k5 k6 w2 bl ol lc ka kc m1 m2 m3 m4 m5 m6 W9:=⟨Ab hb8 _ _ x0,Ab hb8 _ _ x1,Ab hb8 _ _ y0,Ab hb8 _ _ y1,Ab hb8 _ _ g0,Ab hb8 _ _ g1⟩
  have HBW9:=Aa hb8
  clear hb8 hW
  go_simp
  refine xK hK (hSW9) fun hHeld=>?_
  clear hK K
  refine kT 38 ?_
  refine kT 39 ?_
  refine gE ?_
  have HEND:=Aa (Ac HF5.o HBW9.o)
  go_wp2_with fail
  go_ret
  exact ⟨rfl,HEND.o⟩
end Go.Proofs.YtfffpjkcfnekaaaGreat.Ex
namespace Go.Proofs.YtfffpjkcfnekaaaGreat.Ex
open Go.RowKit Go.ChangeShapes Go.WideShapes
open Go.Value renaming slice -> O, int -> U, bool -> zg, agg -> zh, pointer -> zj, tuple -> zm
open Go.IntKind renaming i64 -> zd
open Go.Obj renaming cells -> ze
open Go.Ending renaming returned -> zk
theorem Tryz.cells25:Tryz.prog.cellsOf 25=1:=by kernel_rfl
theorem Tryz.cells26:Tryz.prog.cellsOf 26=1:=by kernel_rfl
theorem Tryz.cells27:Tryz.prog.cellsOf 27=1:=by kernel_rfl
theorem Tryz.cells28:Tryz.prog.cellsOf 28=1:=by kernel_rfl
theorem Tryz.cells29:Tryz.prog.cellsOf 29=1:=by kernel_rfl
theorem Tryz.cells22:Tryz.prog.cellsOf 22=1:=by kernel_rfl
theorem Tryz.cells52:Tryz.prog.cellsOf 92=1:=by kernel_rfl
theorem Tryz.cells65:Tryz.prog.cellsOf 37=1:=by kernel_rfl
theorem Tryz.cells4:Tryz.prog.cellsOf 4=1:=by kernel_rfl
theorem Tryz.cells3':Tryz.prog.cellsOf 3=1:=by kernel_rfl
theorem Tryz.cells24:Tryz.prog.cellsOf 24=2:=by kernel_rfl
theorem Tryz.cells54:Tryz.prog.cellsOf 94=3:=by kernel_rfl
theorem Tryz.cells67:Tryz.prog.cellsOf 39=2:=by kernel_rfl
theorem Tryz.cells122:Tryz.prog.cellsOf 87=2:=by kernel_rfl
theorem Tryz.cells71:Tryz.prog.cellsOf 130=9:=by kernel_rfl
theorem Tryz.cells80:Tryz.prog.cellsOf 105=5:=by kernel_rfl
theorem Tryz.cells69:Tryz.prog.cellsOf 41=3:=by kernel_rfl
theorem Tryz.cells101:Tryz.prog.cellsOf 169=2:=by kernel_rfl
theorem Tryz.cells31:Tryz.prog.cellsOf 31=8:=by kernel_rfl
def LAt {α:Type} (s:Nat) (R:List Value->α->Prop) (W:World) (v:Value) (ds:List α):Prop:=
 ds.length<=maxLen/\∃ ao cap,v=O ao ds.length cap/\ds.length<=cap/\cap<=maxLen/\(ao=none->cap=0)/\(ds≠[]->∃ b off,ao=some ⟨b,off,none⟩ /\
  ∀ (i:Nat) (d:α),ds[i]? = some d->∃ cs:List Value,cs.length=s/\(∀ (j:Nat) (u:Value),cs[j]? = some u->W.cell? ⟨b,off+i*s+j,none⟩=some u)/\R cs d)
section
variable {H:Type} {enc:TypeId × Value->H} {W:World}
theorem B0 {α:Type} {TS E s:Nat} (hU:Tryz.prog.underlying TS=some (.slice E)) (hc:Tryz.prog.cellsOf E=s) (hs:0 < s) {fuel:Nat} {v:Value} {x:DataW H × List MemPlace} (h:DataW.trod enc Tryz.prog W 0 (fun _=>true) true fuel TS [v]=some x)
  (d0:α) (R:List Value->α->Prop) (hel:∀ (m:Nat) (cs:List Value) (y:DataW H × List MemPlace),m < fuel->DataW.trod enc Tryz.prog W 0 (fun _=>true) true m E cs=some y->∃ d,R cs d):∃ ds:List α,LAt s R W v ds:=by
 haveI:Inhabited α:=⟨d0⟩
 rcases DataW.trod_slice hU h with ⟨hcs,-⟩ | ⟨ad,len,cap,elems,rest,m,rfl,hcs,-,-,hlc,hcm,hen,hat,-,-⟩
 ·simp at hcs
  subst hcs
  exact ⟨[],by simp,none,0,rfl,by simp,by unfold maxLen;omega,fun _=>rfl,fun h=>absurd rfl h⟩
 ·simp at hcs
  subst hcs
  rw [hc] at hat
  have hget:∀ i,i < len->∃ d:α,∃ cs:List Value,cs.length=s/\(∀ (j:Nat) (u:Value),cs[j]? = some u->W.cell? (ad.add (i*s+j))=some u)/\R cs d:=fun i hi=>by
   have hi2:=hat i hi
   rw [List.getElem?_eq_getElem (by omega),Option.bind_eq_some_iff] at hi2
   obtain ⟨cs,hcc,ht⟩:=hi2
   obtain ⟨-,hlen,hcell⟩:=World.cells?_some hcc
   obtain ⟨d,hd⟩:=hel m cs _ (Nat.lt_succ_self _) ht
   refine ⟨d,cs,hlen,fun j u hu=>?_,hd⟩
   have hj:j < s:=by have:=(List.getElem?_eq_some_iff.1 hu).1;omega
   have hk:=hcell j hj
   rw [hu] at hk
   rw [Addr.add_add] at hk
   exact hk
  obtain ⟨f,hf⟩:=Deep.choose_lt hget
  refine ⟨(List.range len).map f,by simp;omega,some ad,cap,by simp,by simpa using hlc,hcm,fun h=>absurd h (by simp),fun hne=>?_⟩
  have h0:0 < len:=by
   rcases Nat.eq_zero_or_pos len with h | h
   ·subst h;simp at hne
   ·exact h
  have hp:∃ b off,ad=⟨b,off,none⟩:=by
   obtain ⟨cs,hl,hcl,-⟩:=hf 0 h0
   obtain ⟨u,hu⟩:∃ u,cs[0]? = some u:=⟨cs[0]'(by omega),List.getElem?_eq_getElem (by omega)⟩
   have hk:=hcl 0 u hu
   have hsp:ad.spot=none:=by simpa [Addr.add] using World.cell?_spot hk
   obtain ⟨b,off,sp⟩:=ad
   simp only at hsp
   subst hsp
   exact ⟨b,off,rfl⟩
  obtain ⟨bb,off,rfl⟩:=hp
  refine ⟨bb,off,rfl,fun i d hd=>?_⟩
  have hi:i < len:=by
   have:=(List.getElem?_eq_some_iff.1 hd).1
   simpa using this
  have hd':d=f i:=by
   rw [List.getElem?_map,List.getElem?_range hi] at hd
   simpa using hd.symm
  subst hd'
  obtain ⟨cs,hl,hcl,hr⟩:=hf i hi
  exact ⟨cs,hl,fun j u hu=>by have:=hcl j u hu;rw [Addr.add_lit] at this;simpa [Nat.add_assoc] using this,hr⟩
theorem IY {v:Value} {l:List Int} (h:LAt 1 (fun cs x=>cs=[U zd x]) W v l):AL W v l:=by
 obtain ⟨-,ao,cap,hv,-,-,-,hc⟩:=h
 refine ⟨ao,cap,hv,fun hne=>?_⟩
 obtain ⟨b,off,hb,hel⟩:=hc hne
 refine ⟨b,off,hb,fun i hi=>?_⟩
 obtain ⟨cs,-,hcs,rfl⟩:=hel i l[i] (List.getElem?_eq_getElem hi)
 have:=hcs 0 _ rfl
 simpa using this
theorem Cm {m:Nat} {cs:List Value} {y:DataW H × List MemPlace} (h:DataW.trod enc Tryz.prog W 0 (fun _=>true) true m 3 cs=some y):∃ n:Int,cs=[U zd n]/\Ch n:=by
 obtain ⟨n,e,-,hw⟩:=DataW.trod_int Tryz.underlying3 h
 exact ⟨n,e,Nr hw⟩
theorem Eg {fuel:Nat} {v:Value} {x:DataW H × List MemPlace} (h:DataW.trod enc Tryz.prog W 0 (fun _=>true) true fuel 25 [v]=some x):∃ l:List Int,LAt 1 (fun cs x=>cs=[U zd x]) W v l:=
 B0 Tryz.underlying25 Tryz.cells3' (by omega) h 0 _ fun m cs y _ hy=>by obtain ⟨n,e,-⟩:=Cm hy;exact ⟨n,e⟩
theorem GP {fuel:Nat} {v:Value} {x:DataW H × List MemPlace} (h:DataW.trod enc Tryz.prog W 0 (fun _=>true) true fuel 22 [v]=some x):∃ l:List (Int × Int),AG W v l:=by
 obtain ⟨l,hl⟩:=B0 Tryz.underlying22 Tryz.cells101 (by omega) h (0,0) (fun cs (x:Int × Int)=>cs=[U zd x.1,U zd x.2]) fun m cs y _ hy=>by
  obtain ⟨xs,n,rfl,-,hl,hxl,hf⟩:=DataW.trod_struct Tryz.underlying169 hy
  rw [Tryz.cells101] at hl
  match cs,hl,xs,hxl with
  | [c0,c1],_,[y0,y1],_=>
   have h0:=hf 0 _ rfl
   have h1:=hf 1 _ rfl
   simp [Tryz.cells3'] at h0 h1
   obtain ⟨a,e0,-⟩:=Cm h0
   obtain ⟨b,e1,-⟩:=Cm h1
   simp at e0 e1
   subst e0
   subst e1
   exact ⟨(a,b),rfl⟩
 obtain ⟨-,ao,cap,hv,-,-,-,hc⟩:=hl
 refine ⟨l,ao,cap,hv,fun hne=>?_⟩
 obtain ⟨b,off,hb,hel⟩:=hc hne
 refine ⟨b,off,hb,fun i hi=>?_⟩
 obtain ⟨cs,-,hcs,rfl⟩:=hel i l[i] (List.getElem?_eq_getElem hi)
 exact ⟨hcs 0 _ rfl,hcs 1 _ rfl⟩
theorem FA {fuel:Nat} {v:Value} {x:DataW H × List MemPlace} (h:DataW.trod enc Tryz.prog W 0 (fun _=>true) true fuel 37 [v]=some x):∃ l:List Pol,AI W v l:=by
 obtain ⟨l,hl⟩:=B0 Tryz.underlying37 Tryz.cells122 (by omega) h ⟨0,[]⟩ (fun cs (x:Pol)=>∃ u,cs=[U zd x.owner,u]/\AL W u x.names) fun m cs y _ hy=>by
  obtain ⟨xs,n,rfl,-,hl,hxl,hf⟩:=DataW.trod_struct Tryz.underlying87 hy
  rw [Tryz.cells122] at hl
  match cs,hl,xs,hxl with
  | [c0,c1],_,[y0,y1],_=>
   have h0:=hf 0 _ rfl
   have h1:=hf 1 _ rfl
   simp [Tryz.cells3',Tryz.cells25] at h0 h1
   obtain ⟨a,e0,-⟩:=Cm h0
   simp at e0
   subst e0
   obtain ⟨ns,hns⟩:=Eg h1
   exact ⟨⟨a,ns⟩,c1,rfl,IY hns⟩
 obtain ⟨-,ao,cap,hv,-,-,-,hc⟩:=hl
 refine ⟨l,ao,cap,hv,fun hne=>?_⟩
 obtain ⟨b,off,hb,hel⟩:=hc hne
 refine ⟨b,off,hb,fun i hi=>?_⟩
 obtain ⟨cs,-,hcs,u,rfl,hu⟩:=hel i l[i] (List.getElem?_eq_getElem hi)
 exact ⟨hcs 0 _ rfl,u,hcs 1 _ rfl,hu⟩
theorem Hu {m:Nat} {cs:List Value} {y:DataW H × List MemPlace} (h:DataW.trod enc Tryz.prog W 0 (fun _=>true) true m 39 cs=some y):∃ (l:Lab) (pr pw:Value),cs=[pr,pw]/\AI W pr l.r/\AI W pw l.w:=by
 obtain ⟨xs,n,rfl,-,hl,hxl,hf⟩:=DataW.trod_struct Tryz.underlying39 h
 rw [Tryz.cells67] at hl
 match cs,hl,xs,hxl with
 | [c0,c1],_,[y0,y1],_=>
  have h0:=hf 0 _ rfl
  have h1:=hf 1 _ rfl
  simp [Tryz.cells65] at h0 h1
  obtain ⟨a,ha⟩:=FA h0
  obtain ⟨b,hb⟩:=FA h1
  exact ⟨⟨a,b⟩,c0,c1,rfl,ha,hb⟩
theorem FB {fuel:Nat} {ao:Option Addr} {n cap:Nat} {x:DataW H × List MemPlace} (h:DataW.trod enc Tryz.prog W 0 (fun _=>true) true fuel 26 [O ao n cap]=some x):∃ l:List Lab,A9 W (O ao n cap) l/\(ao=none->cap=0):=by
 obtain ⟨l,hl⟩:=B0 Tryz.underlying26 Tryz.cells67 (by omega) h ⟨[],[]⟩ (fun cs (l:Lab)=>∃ pr pw,cs=[pr,pw]/\AI W pr l.r/\AI W pw l.w) fun m cs y _ hy=>Hu hy
 obtain ⟨hm,ao',cap',hv,-,-,hz,hc⟩:=hl
 injection hv with e1 e2 e3
 subst e1 e2 e3
 refine ⟨l,⟨hm,ao,cap,rfl,fun hne=>?_⟩,hz⟩
 obtain ⟨b,off,hb,hel⟩:=hc hne
 refine ⟨b,off,hb,fun i hi=>?_⟩
 obtain ⟨cs,-,hcs,pr,pw,rfl,h1,h2⟩:=hel i l[i] (List.getElem?_eq_getElem hi)
 exact ⟨pr,pw,hcs 0 _ rfl,hcs 1 _ rfl,h1,h2⟩
theorem IP {fuel:Nat} {v:Value} {x:DataW H × List MemPlace} (h:DataW.trod enc Tryz.prog W 0 (fun _=>true) true fuel 27 [v]=some x):∃ l:List (Bool × Lab),Bo W v l:=by
 obtain ⟨l,hl⟩:=B0 Tryz.underlying27 Tryz.cells69 (by omega) h (false,⟨[],[]⟩) (fun cs (l:Bool × Lab)=>∃ pr pw,cs=[zg l.1,pr,pw]/\AI W pr l.2.r/\AI W pw l.2.w) fun m cs y _ hy=>by
  obtain ⟨xs,n,rfl,-,hl,hxl,hf⟩:=DataW.trod_struct Tryz.underlying41 hy
  rw [Tryz.cells69] at hl
  match cs,hl,xs,hxl with
  | [c0,c1,c2],_,[y0,y1],_=>
   have h0:=hf 0 _ rfl
   have h1:=hf 1 _ rfl
   simp [Tryz.cells4,Tryz.cells67] at h0 h1
   obtain ⟨b,e0,-⟩:=DataW.trod_bool Tryz.underlying4 h0
   simp at e0
   subst e0
   obtain ⟨lb,pr,pw,e1,h2,h3⟩:=Hu h1
   simp at e1
   obtain ⟨rfl,rfl⟩:=e1
   exact ⟨(b,lb),c1,c2,rfl,h2,h3⟩
 obtain ⟨hm,ao,cap,hv,-,-,-,hc⟩:=hl
 refine ⟨l,hm,ao,cap,hv,fun hne=>?_⟩
 obtain ⟨b,off,hb,hel⟩:=hc hne
 refine ⟨b,off,hb,fun i hi=>?_⟩
 obtain ⟨cs,-,hcs,pr,pw,rfl,h1,h2⟩:=hel i l[i] (List.getElem?_eq_getElem hi)
 exact ⟨pr,pw,hcs 0 _ rfl,hcs 1 _ rfl,hcs 2 _ rfl,h1,h2⟩
theorem L9 {s:Nat} {R:List Value->D->Prop} {v:Value} {l:List D} (h:LAt s R W v l):XS s R W v l:=by
 obtain ⟨hm,ao,cap,hv,-,-,-,hc⟩:=h
 exact ⟨hm,ao,cap,hv,hc⟩
theorem J3 (K:Nat):∀ (fuel:Nat) (cs:List Value) (x:DataW H × List MemPlace),fuel<=K->DataW.trod enc Tryz.prog W 0 (fun _=>true) true fuel 130 cs=some x->∃ d,RS W K fuel cs d:=by
 intro fuel
 induction fuel using Nat.strongRecOn with
 | ind fuel ih=>
  intro cs x hK h
  obtain ⟨xs,n,rfl,-,hl,hxl,hf⟩:=DataW.trod_struct Tryz.underlying130 h
  rw [Tryz.cells71] at hl
  match cs,hl,xs,hxl with
  | [c0,c1,c2,c3,c4,c5,c6,c7,c8],_,[y0,y1,y2,y3,y4,y5,y6],_=>
   have h0:=hf 0 _ rfl
   have h1:=hf 1 _ rfl
   have h2:=hf 2 _ rfl
   have h3:=hf 3 _ rfl
   have h4:=hf 4 _ rfl
   have h5:=hf 5 _ rfl
   have h6:=hf 6 _ rfl
   simp [Tryz.cells3',Tryz.cells54,Tryz.cells52,Tryz.cells29] at h0 h1 h2 h3 h4 h5 h6
   obtain ⟨kd,e0,w0⟩:=Cm h0
   obtain ⟨va,e1,w1⟩:=Cm h1
   obtain ⟨ot,e2,w2⟩:=Cm h2
   simp at e0 e1 e2
   subst e0
   subst e1
   subst e2
   obtain ⟨e,he⟩:=EP n _ _ h3
   obtain ⟨ags,hA⟩:=B0 Tryz.underlying92 Tryz.cells54 (by omega) h4 (.agg []) (RX W K) fun m cs y hm hy=>by
    obtain ⟨d,hd⟩:=EP m _ _ hy
    exact ⟨d,RX.mono (fun _ _ h=>h) m K _ _ (by omega) hd⟩
   obtain ⟨ts,hT⟩:=B0 Tryz.underlying29 Tryz.cells71 (by omega) h5 (.agg []) (RS W K n) fun m cs y hm hy=>by
    obtain ⟨d,hd⟩:=ih m (by omega) cs y (by omega) hy
    exact ⟨d,RS.mono (fun _ _ h=>h) m n _ _ (by omega) hd⟩
   obtain ⟨es,hE⟩:=B0 Tryz.underlying29 Tryz.cells71 (by omega) h6 (.agg []) (RS W K n) fun m cs y hm hy=>by
    obtain ⟨d,hd⟩:=ih m (by omega) cs y (by omega) hy
    exact ⟨d,RS.mono (fun _ _ h=>h) m n _ _ (by omega) hd⟩
   exact ⟨sD kd va ot e ags ts es,kd,va,ot,c3,c4,c5,e,c6,ags,c7,ts,c8,es,rfl,rfl,w0,w1,w2,RX.mono (fun _ _ h=>h) n K _ _ (by omega) he,L9 hA,L9 hT,L9 hE⟩
theorem E8 (K:Nat) {fuel:Nat} {v:Value} {x:DataW H × List MemPlace} (hK:fuel<=K) (h:DataW.trod enc Tryz.prog W 0 (fun _=>true) true fuel 29 [v]=some x):∃ l,Bc W K K v l:=by
 obtain ⟨l,hl⟩:=B0 Tryz.underlying29 Tryz.cells71 (by omega) h (.agg []) (RS W K K) fun m cs y hm hy=>by
  obtain ⟨d,hd⟩:=J3 K m cs y (by omega) hy
  exact ⟨d,RS.mono (fun _ _ h=>h) m K _ _ (by omega) hd⟩
 exact ⟨l,L9 hl⟩
theorem Hv (K:Nat) {fuel:Nat} {v:Value} {x:DataW H × List MemPlace} (hK:fuel<=K) (h:DataW.trod enc Tryz.prog W 0 (fun _=>true) true fuel 28 [v]=some x):∃ l,BA W K K v l:=by
 obtain ⟨l,hl⟩:=B0 Tryz.underlying28 Tryz.cells80 (by omega) h ⟨[],[],.agg []⟩ (fun cs (f:FnD)=>∃ vP vB x0 x1 x2,cs=[vP,vB,x0,x1,x2]/\AL W vP f.ps/\MT vP f.ps/\Bc W K K vB f.body/\RX W K [x0,x1,x2] f.res) fun m cs y hm hy=>by
  obtain ⟨xs,n,rfl,-,hl,hxl,hf⟩:=DataW.trod_struct Tryz.underlying105 hy
  rw [Tryz.cells80] at hl
  match cs,hl,xs,hxl with
  | [c0,c1,c2,c3,c4],_,[y0,y1,y2],_=>
   have h0:=hf 0 _ rfl
   have h1:=hf 1 _ rfl
   have h2:=hf 2 _ rfl
   simp [Tryz.cells25,Tryz.cells29,Tryz.cells54] at h0 h1 h2
   obtain ⟨ps,hps⟩:=Eg h0
   obtain ⟨bd,hbd⟩:=E8 K (by omega) h1
   obtain ⟨e,he⟩:=EP n _ _ h2
   refine ⟨⟨ps,bd,e⟩,c0,c1,c2,c3,c4,rfl,IY hps,?_,hbd,RX.mono (fun _ _ h=>h) n K _ _ (by omega) he⟩
   obtain ⟨hm2,ao,cap,hv,h5,h6,-⟩:=hps
   exact ⟨hm2,ao,cap,hv,h5,h6⟩
 obtain ⟨hm,ao,cap,hv,-,-,-,hc⟩:=hl
 refine ⟨l,hm,ao,cap,hv,fun hne=>?_⟩
 obtain ⟨b,off,hb,hel⟩:=hc hne
 refine ⟨b,off,hb,fun i hi=>?_⟩
 obtain ⟨cs,-,hcs,vP,vB,x0,x1,x2,rfl,h1,h2,h3,h4⟩:=hel i l[i] (List.getElem?_eq_getElem hi)
 exact ⟨vP,vB,x0,x1,x2,hcs 0 _ rfl,hcs 1 _ rfl,hcs 2 _ rfl,hcs 3 _ rfl,hcs 4 _ rfl,h1,h2,h3,h4⟩
end
section
variable {H:Type} {enc:TypeId × Value->H} {W:World}
theorem B7 {TS E:Nat} (hU:Tryz.prog.underlying TS=some (.slice E)) {fuel:Nat} {v:Value} {x:DataW H × List MemPlace} (h:DataW.trod enc Tryz.prog W 0 (fun _=>true) true fuel TS [v]=some x):∃ a n c,v=O a n c:=by
 rcases DataW.trod_slice hU h with ⟨hcs,-⟩ | ⟨ad,len,cap,elems,rest,m,rfl,hcs,-⟩
 ·simp at hcs
  exact ⟨_,_,_,hcs⟩
 ·simp at hcs
  exact ⟨_,_,_,hcs⟩
theorem J4 {fuel:Nat} {cs:List Value} {x:DataW H × List MemPlace} (h:DataW.trod enc Tryz.prog W 0 (fun _=>true) true fuel 31 cs=some x) :
  ∃ (m:Int) (ga:Option Addr) (gn gc:Nat) (sa:Option Addr) (sn sc:Nat) (ya:Option Addr) (yn yc:Nat) (oa:Option Addr) (on oc:Nat) (va:Option Addr) (vn vc:Nat) (fa:Option Addr) (fn fc:Nat) (ba:Option Addr) (bn bc:Nat) (gs:List (Int × Int)) (sp:List Int) (ls ms:List Lab) (vs:List (Bool × Lab)) (fs:List FnD) (l:List D),cs=[U zd m,O ga gn gc,O sa sn sc,O ya yn yc,O oa on oc,O va vn vc,O fa fn fc,O ba bn bc]/\BC fuel fuel m ga gn gc sa sn sc ya yn yc oa on oc va vn vc fa fn fc ba bn bc gs sp ls ms vs fs l W:=by
 obtain ⟨xs,n,rfl,-,hl,hxl,hf⟩:=DataW.trod_struct Tryz.underlying31 h
 rw [Tryz.cells31] at hl
 match cs,hl,xs,hxl with
 | [c0,c1,c2,c3,c4,c5,c6,c7],_,[y0,y1,y2,y3,y4,y5,y6],_=>
  have h0:=hf 0 _ rfl
  have h1:=hf 1 _ rfl
  have h2:=hf 2 _ rfl
  have h3:=hf 3 _ rfl
  have h4:=hf 4 _ rfl
  have h5:=hf 5 _ rfl
  have h6:=hf 6 _ rfl
  simp [Tryz.cells24,Tryz.cells25,Tryz.cells26,Tryz.cells27,Tryz.cells28,Tryz.cells29] at h0 h1 h2 h3 h4 h5 h6
  obtain ⟨zs,n2,rfl,-,hl2,hzl,hf2⟩:=DataW.trod_struct Tryz.underlying24 h0
  match zs,hzl with
  | [z0,z1],_=>
   have g0:=hf2 0 _ rfl
   have g1:=hf2 1 _ rfl
   simp [Tryz.cells3',Tryz.cells22] at g0 g1
   obtain ⟨m,e0,hm⟩:=Cm g0
   simp at e0
   subst e0
   obtain ⟨ga,gn,gc,rfl⟩:=B7 Tryz.underlying22 g1
   obtain ⟨sa,sn,sc,rfl⟩:=B7 Tryz.underlying25 h1
   obtain ⟨ya,yn,yc,rfl⟩:=B7 Tryz.underlying26 h2
   obtain ⟨oa,on,oc,rfl⟩:=B7 Tryz.underlying26 h3
   obtain ⟨va,vn,vc,rfl⟩:=B7 Tryz.underlying27 h4
   obtain ⟨fa,fn,fc,rfl⟩:=B7 Tryz.underlying28 h5
   obtain ⟨ba,bn,bc,rfl⟩:=B7 Tryz.underlying29 h6
   obtain ⟨gs,hgs⟩:=GP g1
   obtain ⟨sp,hsp⟩:=Eg h1
   obtain ⟨ls,hls,hln⟩:=FB h2
   obtain ⟨ms,hms,hmn⟩:=FB h3
   obtain ⟨vs,hvs⟩:=IP h4
   obtain ⟨fs,hfs⟩:=Hv (n2+1+1) (by omega) h5
   obtain ⟨l,hl⟩:=E8 (n2+1+1) (by omega) h6
   exact ⟨m,ga,gn,gc,sa,sn,sc,ya,yn,yc,oa,on,oc,va,vn,vc,fa,fn,fc,ba,bn,bc,gs,sp,ls,ms,vs,fs,l,rfl,hm,hgs,IY hsp,by have:=hsp.1;unfold maxLen at this;omega,hls,hms,hvs,hfs,hl,hln,hmn⟩
theorem open_program {r:Go.Reach} {b0:Nat} {v:Value} {d:DataW H} {p:List MemPlace} (hv:Value.okWide Tryz.prog W r b0 31 v) (h:DataW.Trod enc Tryz.prog W 0 (fun _=>true) true 31 v d p) :
  ∃ (K:Nat) (m:Int) (ga:Option Addr) (gn gc:Nat) (sa:Option Addr) (sn sc:Nat) (ya:Option Addr) (yn yc:Nat) (oa:Option Addr) (on oc:Nat) (va:Option Addr) (vn vc:Nat) (fa:Option Addr) (fn fc:Nat) (ba:Option Addr) (bn bc:Nat) (gs:List (Int × Int)) (sp:List Int) (ls ms:List Lab) (vs:List (Bool × Lab)) (fs:List FnD) (l:List D),v=zh #[U zd m,O ga gn gc,O sa sn sc,O ya yn yc,O oa on oc,O va vn vc,O fa fn fc,O ba bn bc]/\BC K K m ga gn gc sa sn sc ya yn yc oa on oc va vn vc fa fn fc ba bn bc gs sp ls ms vs fs l W:=by
 obtain ⟨cs,rfl,hsz⟩:=okWide_struct Tryz.underlying31 hv
 obtain ⟨fuel,hf⟩:=h
 have hf2:DataW.trod enc Tryz.prog W 0 (fun _=>true) true fuel 31 cs.toList=some (d,p):=by simpa [Value.cells] using hf
 obtain ⟨m,ga,gn,gc,sa,sn,sc,ya,yn,yc,oa,on,oc,va,vn,vc,fa,fn,fc,ba,bn,bc,gs,sp,ls,ms,vs,fs,l,hcs,hp⟩:=J4 hf2
 refine ⟨fuel,m,ga,gn,gc,sa,sn,sc,ya,yn,yc,oa,on,oc,va,vn,vc,fa,fn,fc,ba,bn,bc,gs,sp,ls,ms,vs,fs,l,?_,hp⟩
 have:cs=#[U zd m,O ga gn gc,O sa sn sc,O ya yn yc,O oa on oc,O va vn vc,O fa fn fc,O ba bn bc]:=by
  cases cs
  simp_all
 rw [this]
end
end Go.Proofs.YtfffpjkcfnekaaaGreat.Ex
namespace Go.Proofs.YtfffpjkcfnekaaaGreat.Ex
open Go.RowKit
open Go.Value renaming slice -> O, int -> U, bool -> zg, agg -> zh, pointer -> zj, tuple -> zm
open Go.IntKind renaming i64 -> zd
open Go.Obj renaming cells -> ze
open Go.Ending renaming returned -> zk
theorem LU (args:Array Value) (w:World):(callFunc 179 args).run Tryz.prog w=.ok (.enter 179 args) w:=by simp [go_sem]
theorem Ae.set {cs:List Value} {w:World} {b j:Nat} {v:Value} (h:Ae cs w b) (hj:j < cs.length):Ae (cs.set j v) (w.setCell ⟨b,j,none⟩ v) b:=by
 have hc:=h j _ (List.getElem?_eq_getElem hj)
 have hb:=bL hc
 intro k u hu
 by_cases hk:k=j
 ·subst hk
  rw [List.getElem?_set_self hj] at hu
  simp at hu
  subst hu
  simp [go_sem,hc]
 ·rw [List.getElem?_set_ne (by omega)] at hu
  have:=h k u hu
  simp [go_sem,this]
theorem Ae.other {cs:List Value} {w:World} {b b' j:Nat} {v:Value} (h:Ae cs w b) (hb:b≠b'):Ae cs (w.setCell ⟨b',j,none⟩ v) b:=fun k u hu=>by
 have:=h k u hu
 simp [go_sem,this]
theorem LL {w:World} {r n j:Nat} {u:Value}:w.grownBy ((w.drewN n).setCell ⟨r,j,none⟩ u) (some r):=by
 have h:=Below.heap_setCell (w.drewN n) ⟨r,j,none⟩ u
 refine ⟨rfl,rfl,rfl,by simp [World.setCell],fun k hk hne=>?_⟩
 rw [h k (fun e=>hne (by rw [e]))]
 rfl
theorem Ae.newA (cs:Array Value) (t:Nat) (w:World):Ae cs.toList (w.alloc (.cells cs t)) w.heap.size:=fun j u hu=>by
 rw [Lib.cell_of_heap (heap_alloc_new w _)]
 simpa using hu
end Go.Proofs.YtfffpjkcfnekaaaGreat.Ex
namespace Go.Proofs.YtfffpjkcfnekaaaGreat.Ex
open Go.RowKit
open Go.Value renaming slice -> O, int -> U, bool -> zg, agg -> zh, pointer -> zj, tuple -> zm
open Go.IntKind renaming i64 -> zd
open Go.Obj renaming cells -> ze
open Go.Ending renaming returned -> zk
open Go.ChangeShapes Go.WideShapes Go.ChangeAt
section
variable {H:Type} {enc:TypeId × Value->H} {W:World}
end
end Go.Proofs.YtfffpjkcfnekaaaGreat.Ex
namespace Go.Proofs.YtfffpjkcfnekaaaGreat.Ex
open Go.RowKit
open Go.Value renaming slice -> O, int -> U, bool -> zg, agg -> zh, pointer -> zj, tuple -> zm
open Go.IntKind renaming i64 -> zd
open Go.Obj renaming cells -> ze
open Go.Ending renaming returned -> zk
abbrev Dd (l:List Int):List Value:=l.map fun x=>Value.int zd x
section
variable {w:World}
theorem AO {r j:Nat} {u:Value}:w.grownBy (w.setCell ⟨r,j,none⟩ u) (some r):=LL (n:=0)
theorem A8 {a b j k:Nat} {u:Value}:(w.setCell ⟨a,j,none⟩ u).frozen? ⟨b,k,none⟩=w.frozen? ⟨b,k,none⟩:=by simp [go_sem]
end
def Off (B:Nat) (g:Option Nat) (w:World) (P:World->Prop):Prop:=∀ W:World,(∀ k,B<=k->k < w.heap.size->some k≠g->W.heap[k]? = w.heap[k]?)->P W
section
variable {B B':Nat} {g:Option Nat} {w w':World} {P P':World->Prop} {v v':Value}
theorem Off.self (h:Off B g w P):P w:=h w fun _ _ _ _=>rfl
theorem Off.imp (h:Off B g w P) (f:∀ W,P W->P' W):Off B g w P':=fun W hW=>f W (h W hW)
theorem Off.over (h:Off B g w P) (hb:Ov w w'):Off B g w' P:=fun W hW=>h W fun k h1 h2 h3=>(hW k h1 (Nat.lt_of_lt_of_le h2 hb.size) h3).trans (hb.block k h2)
theorem Off.base (h:Off B g w P) (hb:B'<=B):Off B' g w P:=fun W hW=>h W fun k h1 h2 h3=>hW k (Nat.le_trans hb h1) h2 h3
theorem Off.row (h:Off B v.ownBlock w P) (hg:w.grownBy w' v.ownBlock) (hv:v'.ownBlock=v.ownBlock\/v'.ownBlock=some w.heap.size):Off B v'.ownBlock w' P:=fun W hW=>h W fun k h1 h2 h3=>
 (hW k h1 (Nat.lt_of_lt_of_le h2 hg.size) (by
  rcases hv with e | e
  ·rw [e];exact h3
  ·rw [e];intro q;injection q with q;omega)).trans (hg.block k h2 h3)
theorem Off.weak (h:Off B none w P) (hb:B'<=B) (hg:∀ k,g=some k->k < B):Off B' g w P:=fun W hW=>h W fun k h1 h2 _=>hW k (Nat.le_trans hb h1) h2 (fun e=>by have:=hg k e.symm;omega)
theorem Off.set {b j:Nat} {u:Value} (h:Off B g w P) (hb:b < B):Off B g (w.setCell ⟨b,j,none⟩ u) P:=fun W hW=>h W fun k h1 h2 h3=>
 (hW k h1 (by simpa [World.setCell] using h2) h3).trans ((AO (w:=w) (r:=b) (j:=j) (u:=u)).block k h2 (fun e=>by injection e with e;omega))
end
def Cop (B T s:Nat) (P:Nat->List Value->World->Prop) (n:Nat) (v:Value) (w:World):Prop:=
 ∃ xs,w.ownsRow B T s v n xs/\∀ i,i < n->∃ cs:List Value,cs.length=s/\(∀ j u,cs[j]? = some u->xs[i*s+j]? = some u)/\Off B v.ownBlock w (P i cs)
section
variable {B T s n:Nat} {P:Nat->List Value->World->Prop} {v v':Value} {w w' w2:World}
theorem Cop.nil:Cop B T s P 0 (O none 0 0) w:=⟨[],World.ownsRow_nil w B T s,fun i hi=>absurd hi (Nat.not_lt_zero _)⟩
theorem Cop.over (h:Cop B T s P n v w) (hb:Ov w w'):Cop B T s P n v w':=by
 obtain ⟨xs,ho,he⟩:=h
 refine ⟨xs,Ad ho hb,fun i hi=>?_⟩
 obtain ⟨cs,h1,h2,h3⟩:=he i hi
 exact ⟨cs,h1,h2,h3.over hb⟩
theorem Cop.set {b j:Nat} {u:Value} (h:Cop B T s P n v w) (hb:b < B):Cop B T s P n v (w.setCell ⟨b,j,none⟩ u):=by
 obtain ⟨xs,ho,he⟩:=h
 refine ⟨xs,ho.kept AO (Or.inr (fun e=>by have:=(Al ho e).1;omega)),fun i hi=>?_⟩
 obtain ⟨cs,h1,h2,h3⟩:=he i hi
 exact ⟨cs,h1,h2,h3.set hb⟩
theorem Cop.add {xs cs:List Value} {B1:Nat} (ho:w.ownsRow B T s v n xs) (he:∀ i,i < n->∃ cs:List Value,cs.length=s/\(∀ j u,cs[j]? = some u->xs[i*s+j]? = some u)/\Off B v.ownBlock w (P i cs))
  (hl:cs.length=s) (hn:Off B1 none w (P n cs)) (hB:B<=B1) (hrow:∀ k,v.ownBlock=some k->k < B1) (ho':w2.ownsRow B T s v' (n+1) (xs++cs)) (hg:w.grownBy w2 v.ownBlock) (hat:v'.ownBlock=v.ownBlock\/v'.ownBlock=some w.heap.size):Cop B T s P (n+1) v' w2:=by
 refine ⟨xs++cs,ho',fun i hi=>?_⟩
 by_cases h:i < n
 ·obtain ⟨ds,h1,h2,h3⟩:=he i h
  refine ⟨ds,h1,fun j u hu=>?_,h3.row hg hat⟩
  have:=h2 j u hu
  rw [List.getElem?_append_left (List.getElem?_eq_some_iff.1 this).1]
  exact this
 ·obtain rfl:i=n:=by omega
  refine ⟨cs,hl,fun j u hu=>?_,(hn.weak hB hrow).row hg hat⟩
  rw [List.getElem?_append_right (by rw [ho.1];omega),ho.1,Nat.add_sub_cancel_left]
  exact hu
theorem Cop.cells (h:Cop B T s P n v w) (hs:0 < s):∃ (a:Option Addr) (c:Nat),v=O a n c/\Off B none w (fun W=>(n≠0->∃ b,a=some ⟨b,0,none⟩/\∀ i,i < n->∃ cs:List Value,cs.length=s/\(∀ j u,cs[j]? = some u->W.cell? ⟨b,i*s+j,none⟩=some u)/\P i cs W)):=by
 obtain ⟨xs,ho,he⟩:=h
 rcases ho.2 with ⟨hv,h0⟩ | ⟨g,cap,cur,hv,hb,hg,h1,h2,h3,h4⟩
 ·exact ⟨none,0,by rw [hv,h0],fun W _ hne=>absurd h0 hne⟩
 ·refine ⟨some ⟨g,0,none⟩,cap,hv,fun W hW hne=>⟨g,rfl,fun i hi=>?_⟩⟩
  obtain ⟨cs,q1,q2,q3⟩:=he i hi
  refine ⟨cs,q1,fun j u hu=>?_,q3 W fun k k1 k2 _=>hW k k1 k2 (by simp)⟩
  have hlt:g < w.heap.size:=(Array.getElem?_eq_some_iff.1 hg).1
  have hx:=q2 j u hu
  have hblk:W.heap[g]? = w.heap[g]?:=hW g hb hlt (by simp)
  rw [World.cell?_of_block (a:=⟨g,i*s+j,none⟩) hblk,Lib.cell_of_heap hg]
  have hlx:i*s+j < n*s:=by rw [<-ho.1];exact (List.getElem?_eq_some_iff.1 hx).1
  rw [<-h4,List.getElem?_take,if_pos hlx] at hx
  simpa using hx
end
end Go.Proofs.YtfffpjkcfnekaaaGreat.Ex
