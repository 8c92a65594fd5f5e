/- The least levels that may be, of a program. -/
import Derived.Test.YtfffpjkcfnekaaaGreatB04
import Derived.Deep.RegionHeld2
import Derived.Deep.CutRange
set_option linter.unusedVariables false
set_option maxHeartbeats 8000000
set_option maxRecDepth 100000
namespace Go.Proofs.YtfffpjkcfnekaaaGreat.Ex
open Go.RowKit
open Go.Value renaming slice -> O, int -> U, bool -> zg, agg -> zh, pointer -> zi, tuple -> zk
open Go.IntKind renaming i64 -> zd
open Go.Obj renaming cells -> ze
open Go.Ending renaming returned -> zj
def Eo (W:World) (b:Nat):Prop:=∀ (cur:Array Value) (fr:Nat × Nat),W.heap[b]?≠some (Obj.cells cur 4 fr)
theorem Eo.set {W:World} {b b' j:Nat} {u:Value} (h:Eo W b):Eo (W.setCell ⟨b',j,none⟩ u) b:=by
 intro cur fr he
 by_cases hb:b'=b
 ·subst hb
  simp only [World.setCell,Array.getElem?_modify,if_true] at he
  cases ho:W.heap[b']? with
  | none=>rw [ho] at he;simp at he
  | some o=>
   rw [ho] at he
   cases o with
   | cells c e f=>
    simp at he
    obtain ⟨-,rfl,-⟩:=he
    exact h _ _ ho
   | _=>simp at he
 ·rw [Bf hb] at he
  exact h cur fr he
theorem AM.setLow {n B:Nat} {W:World} {v:Value} {Ls:List Lev} (h1:1<=n) (h:AM n B W v Ls) {b j:Nat} {u:Value} (hb:b < B) (hn:Eo W b):AM n B (W.setCell ⟨b,j,none⟩ u) v Ls:=
 h.keep h1 B8 (by
  cases hv:v.ownBlock with
  | none=>exact Or.inl rfl
  | some g=>
   refine Or.inr fun e=>?_
   injection e with e
   have:=(BP h g hv).1
   omega) (fun g e=>by injection e with e;subst e;exact hn)
theorem AM.low {n B B':Nat} {W:World} {v:Value} {Ls:List Lev} (h:AM n B W v Ls) (hb:B'<=B):AM n B' W v Ls:=by
 obtain ⟨us,ho,hel⟩:=h
 exact ⟨us,BV ho hb,hel⟩
def setN (b:Nat):List Value->Nat->World->World
 | [],_,W=>W
 | u::us,j,W=>setN b us (j+1) (W.setCell ⟨b,j,none⟩ u)
theorem AM.setN {n B b:Nat} {v:Value} {Ls:List Lev} (h1:1<=n) (hb:b < B):∀ (us:List Value) (j:Nat) (W:World),AM n B W v Ls->Eo W b->AM n B (setN b us j W) v Ls
 | [],_,_,h,_=>h
 | u::us,j,W,h,hn=>AM.setN h1 hb us (j+1) _ (h.setLow h1 hb hn) hn.set
theorem GB {B b:Nat} {w:World} (hb:B<=b):∀ (us:List Value) (j:Nat) (W:World),Below B w W->Below B w (setN b us j W)
 | [],_,_,h=>h
 | u::us,j,W,h=>GB hb us (j+1) _ (h.setCell hb u)
theorem BO.box {n B bw:Nat} {P:List Value} {Ls Fs:List Lev} {v k:Value} {W:World} {b j:Nat} {u:Value} (h1:1<=n) (h:BO n B bw P Ls Fs v k W) (hb:b≠bw) (hv:v.ownBlock≠some b) (hk:k.ownBlock≠some b) (hn:Eo W b):BO n B bw P Ls Fs v k (W.setCell ⟨b,j,none⟩ u):=by
 have hbw:(W.setCell ⟨b,j,none⟩ u).heap[bw]? = W.heap[bw]?:=Bf hb u
 refine ⟨fun i x hx=>(World.cell?_of_block (a:=⟨bw,i,none⟩) hbw).trans (h.row i x hx),fun i=>(World.frozen?_of_block (a:=⟨bw,i,none⟩) hbw).trans (h.fz i),h.vs.keep h1 B8 (Or.inr hv) (fun g e=>by injection e with e;subst e;exact hn),h.fs.keep h1 B8 (Or.inr hk) (fun g e=>by injection e with e;subst e;exact hn),h.ap,h.ap2,?_,h.lo.1,by simpa [World.setCell] using h.lo.2⟩
 obtain ⟨c,f,e⟩:=h.ty
 exact ⟨c,f,hbw.trans e⟩
theorem LI {gs:List (Int × Int)} {n:Nat} {vs:List (Bool × Lab)} {j:Nat} (h:j < vs.length):DG gs n (vs.take (j+1))=DG gs n (vs.take j)++[if vs[j].1=true then Av (Ay gs) n vs[j].2 else Bs n]:=by
 unfold DG
 rw [List.take_succ_eq_append_getElem h,List.map_append]
 rfl
theorem IV {W:World} {cs:Array Value} {T:Nat} (h:T≠4):Eo (W.alloc (.cells cs T)) W.heap.size:=by
 intro cur fr he
 rw [CH] at he
 injection he with he
 injection he with e1 e2 e3
 exact h e2
theorem Eo.over {W W':World} {b:Nat} (h:Eo W b) (hb:Ov W W') (hlt:b < W.heap.size):Eo W' b:=fun cur fr he=>h cur fr ((hb.block b hlt) ▸ he)
theorem D8 {ops:Array Oper} {o:Oper} {a:Act} {W:World} {K:Act->World->Prop} {Q:Exit->Act->World->Prop} {E:Prop} (hg:o.guard=none) (s x:Operand) (t:TypeId) (hop:o.op=Op.call { callee:=Callee.builtin Builtin.append,args:=#[s,x],argTypes:=#[t,t] }) (v u v':Value) (W':World) (hs:a.eval s=v) (hx:a.eval x=u)
  (hr:(Builtin.append_ #[t,t] o.type #[v,u]).run Tryz.prog W=.ok v' W') (h:K (a.put o.dst v') W'):if Region.wanted o (yielded ops a.tmps)=true then Oper.wp Tryz.prog o a W K Q else E:=by
 have hw:Region.wanted o (yielded ops a.tmps)=true:=by simp [Region.wanted,hg]
 rw [if_pos hw]
 unfold Oper.wp execOp
 simp only [hop,resolve,invoke,builtin,Sem.run_bind,Sem.run_pure,Result.andThen_ok,List.map_toArray,List.map_cons,List.map_nil,hs,hx,hr]
 exact h
theorem Qh (n:Nat) (h1:1<=n) (h6:n<=6) (ga gn gc) (sa sn sc ya yn yc oa on oc) (va vn vc) (fa:Option Addr) (fn fc:Nat) (ba bn bc gs vs) (w:World) (hg:AF w (O ga gn gc) gs) (hE:AL n gs=0) (hv:Bh w (O va vn vc) vs) (hvc:∀ v∈vs,A3 n gs v.2=0) (h16:vs.length<=16) (hf5:fn<=5) :
  Calls Tryz.prog 54 #[zh #[U zd (n:Int),O ga gn gc,O sa sn sc,O ya yn yc,O oa on oc,O va vn vc,O fa fn fc,O ba bn bc]] w fun e w'=>∃ la ln lc ka kn2 kc,e=zj (zh #[U zd (n:Int),O ga gn gc,O sa sn sc,O ya yn yc,O oa on oc,O va vn vc,O fa fn fc,O ba bn bc,O la ln lc,O ka kn2 kc])/\AM n w.heap.size w' (O la ln lc) (DG gs n vs)/\AM n w.heap.size w' (O ka kn2 kc) (List.replicate fn (Bs n))/\(Value.ownBlock (O la ln lc)=none\/Value.ownBlock (O la ln lc)≠Value.ownBlock (O ka kn2 kc))/\Ov w w':=by
 obtain ⟨i0,hi,hz0,hz1,hz2⟩:=info_parts Tryz.infoLv
 have hb0:Ov w ((w.alloc (ze #[U zd (n:Int),O ga gn gc,O sa sn sc,O ya yn yc,O oa on oc,O va vn vc,O fa fn fc,O ba bn bc] 31)).alloc (ze #[U zd 0,O none 0 0,O none 0 0,O none 0 0,O none 0 0,O none 0 0,O none 0 0,O none 0 0,O none 0 0,O none 0 0] 110)):=(bA w _).alloc (by simp) _
 have KW:=Aa (Hr n ga gn gc sa sn sc ya yn yc oa on oc va vn vc fa fn fc ba bn bc none 0 0 none 0 0 ((w.alloc (ze #[U zd (n:Int),O ga gn gc,O sa sn sc,O ya yn yc,O oa on oc,O va vn vc,O fa fn fc,O ba bn bc] 31)).alloc (ze #[U zd 0,O none 0 0,O none 0 0,O none 0 0,O none 0 0,O none 0 0,O none 0 0,O none 0 0,O none 0 0,O none 0 0] 110)))
 have KB:=Aa fun (la:Option Addr) (ln lc:Nat) (ka:Option Addr) (kn kc:Nat) W=>Ek n h1 h6 ga gn gc sa sn sc ya yn yc oa on oc va vn vc fa fn fc ba bn bc la ln lc ka kn kc W
 have KL:=Aa fun (la:Option Addr) (ln lc:Nat) (ka:Option Addr) (kn kc:Nat) (pr pw:Value) (bl:Lab) W (hb:Ov w W) (h2:AN W pr bl.r) (h3:AN W pw bl.w) (h4:A3 n gs bl=0)=>JB (n:Int) ga gn gc sa sn sc ya yn yc oa on oc va vn vc fa fn fc ba bn bc la ln lc ka kn kc gs pr pw bl W (Af hg hb) h2 h3 h4
 have rowP:Ad [U zd (n:Int),O ga gn gc,O sa sn sc,O ya yn yc,O oa on oc,O va vn vc,O fa fn fc,O ba bn bc] ((w.alloc (ze #[U zd (n:Int),O ga gn gc,O sa sn sc,O ya yn yc,O oa on oc,O va vn vc,O fa fn fc,O ba bn bc] 31)).alloc (ze #[U zd 0,O none 0 0,O none 0 0,O none 0 0,O none 0 0,O none 0 0,O none 0 0,O none 0 0,O none 0 0,O none 0 0] 110)) w.heap.size:=(Ad.new [U zd (n:Int),O ga gn gc,O sa sn sc,O ya yn yc,O oa on oc,O va vn vc,O fa fn fc,O ba bn bc] 31 w).over (bA _ _)
 have HB0:=Aa hb0
 have HRP:=Aa rowP
 have HV:=Aa hv
 have HVC:=Aa hvc
 have hvn:vn=vs.length:=by obtain ⟨-,a,c,he,-⟩:=hv;injection he
 have hvn16:vn<=16:=by omega
 have HVN:=Aa hvn
 obtain ⟨V0,hV0⟩:=nm (((w.alloc (ze #[U zd (n:Int),O ga gn gc,O sa sn sc,O ya yn yc,O oa on oc,O va vn vc,O fa fn fc,O ba bn bc] 31)).alloc (ze #[U zd 0,O none 0 0,O none 0 0,O none 0 0,O none 0 0,O none 0 0,O none 0 0,O none 0 0,O none 0 0,O none 0 0] 110)))
 have hs0:V0.heap.size=w.heap.size+1+1:=by rw [hV0];simp
 rw [<-hV0] at HB0 HRP
 have HS0:=Aa hs0
 have HSZ:Hx (∀ W,Below (w.heap.size+1+1) V0 W->(w.heap.size+1+1)<=W.heap.size):=fun W h=>by have:=h.size;rw [HS0.o] at this;exact this
 have nb1:Eo V0 (w.heap.size+1):=by
  rw [hV0]
  have:=IV (W:=w.alloc (ze #[U zd (n:Int),O ga gn gc,O sa sn sc,O ya yn yc,O oa on oc,O va vn vc,O fa fn fc,O ba bn bc] 31)) (cs:=#[U zd 0,O none 0 0,O none 0 0,O none 0 0,O none 0 0,O none 0 0,O none 0 0,O none 0 0,O none 0 0,O none 0 0]) (T:=110) (by decide)
  simpa using this
 have zr:Ad [U zd 0,O none 0 0,O none 0 0,O none 0 0,O none 0 0,O none 0 0,O none 0 0,O none 0 0,O none 0 0,O none 0 0] V0 (w.heap.size+1):=by
  rw [hV0]
  have:=Ad.new [U zd 0,O none 0 0,O none 0 0,O none 0 0,O none 0 0,O none 0 0,O none 0 0,O none 0 0,O none 0 0,O none 0 0] 110 (w.alloc (ze #[U zd (n:Int),O ga gn gc,O sa sn sc,O ya yn yc,O oa on oc,O va vn vc,O fa fn fc,O ba bn bc] 31))
  simpa using this
 have zf:∀ j,V0.frozen? ⟨w.heap.size+1,j,none⟩=false:=fun j=>by rw [hV0];simp [go_sem]
 have NB1:=Aa nb1
 have ZR:=Aa zr
 have ZF:=Aa zf
 obtain ⟨c0,c1,c2,c3,c4,c5,c6,c7⟩:=rc8 rowP
 clear hb0 rowP hv hvc hg hE hvn hs0 nb1 zr zf
 go_enter Tryz.func54,Tryz.ntmps54
 go_wp2_with fail
 refine (KW.o).mono ?_
 rintro e w1 ⟨rfl,hb1⟩
 rw [<-hV0] at hb1
 have hbw2:=bA w1 (ze #[U zd (n:Int),O ga gn gc,O sa sn sc,O ya yn yc,O oa on oc,O va vn vc,O fa fn fc,O ba bn bc,O none 0 0,O none 0 0] 110)
 have hB02:Below (w.heap.size+1+1) V0 (w1.alloc (ze #[U zd (n:Int),O ga gn gc,O sa sn sc,O ya yn yc,O oa on oc,O va vn vc,O fa fn fc,O ba bn bc,O none 0 0,O none 0 0] 110)):=by rw [<-HS0.o];exact Ac hb1 hbw2
 have hL0:BO n (w.heap.size+1+1) w1.heap.size [U zd (n:Int),O ga gn gc,O sa sn sc,O ya yn yc,O oa on oc,O va vn vc,O fa fn fc,O ba bn bc] [] [] (O none 0 0) (O none 0 0) (w1.alloc (ze #[U zd (n:Int),O ga gn gc,O sa sn sc,O ya yn yc,O oa on oc,O va vn vc,O fa fn fc,O ba bn bc,O none 0 0,O none 0 0] 110)):=by
  refine ⟨Ad.new [U zd (n:Int),O ga gn gc,O sa sn sc,O ya yn yc,O oa on oc,O va vn vc,O fa fn fc,O ba bn bc,O none 0 0,O none 0 0] 110 w1,fun j=>by simp [go_sem],FA _ _ _,FA _ _ _,Or.inl rfl,⟨by simp [Value.ownBlock],by simp [Value.ownBlock]⟩,⟨_,_,CH _ _⟩,?_,by simp⟩
  have:=hb1.size
  rw [HS0.o] at this
  exact this
 have HL0:=Aa hL0
 have HB02:=Aa hB02
 have hRP2:=HRP.o.over (Ac hb1 hbw2)
 have HRP2:=Aa hRP2
 clear c0 c1 c2 c3 c4 c5 c6 c7 KW hb1 hbw2 hB02 hL0 hV0
 obtain ⟨c0,c1,c2,c3,c4,c5,c6,c7⟩:=rc8 hRP2
 clear hRP2
 go_wp2_with fail
 go_loopw [13] (fun x wr=>∃ (j:Nat) (la:Option Addr) (ln lc:Nat),j<=vn/\x=U zd j/\BO n (w.heap.size+1+1) w1.heap.size [U zd (n:Int),O ga gn gc,O sa sn sc,O ya yn yc,O oa on oc,O va vn vc,O fa fn fc,O ba bn bc] (DG gs n (vs.take j)) [] (O la ln lc) (O none 0 0) wr/\Below (w.heap.size+1+1) V0 wr) (fun x _=>vn - (intOf x).toNat)
 case atStart=>exact ⟨0,none,0,0,Nat.zero_le _,rfl,HL0.o,HB02.o⟩
 case round=>
  clear c0 c1 c2 c3 c4 c5 c6 c7
  obtain ⟨j,la,ln,lc,hj,rfl,hL,hB⟩:=hrel
  have hBw:=HB0.o.trans (hB.mono (by omega))
  have hrp:Ad [U zd (n:Int),O ga gn gc,O sa sn sc,O ya yn yc,O oa on oc,O va vn vc,O fa fn fc,O ba bn bc] wr w.heap.size:=fun i u hu=>(hB.cell (p:=⟨w.heap.size,i,none⟩) (by simp <;> omega)).trans (HRP.o i u hu)
  by_cases hlt:j < vn
  ·have hj2:j < vs.length:=by rw [<-HVN.o];exact hlt
   obtain ⟨-,va',vc',hve,hvel⟩:=HV.o
   injection hve with x1 x2 x3
   obtain ⟨bv,ov,hvo,hvel⟩:=hvel (by intro h;rw [h] at hj2;simp at hj2)
   obtain ⟨pr,pw,g0,g1,g2,hpr,hpw⟩:=hvel j hj2
   have hva:va=some ⟨bv,ov,none⟩:=x1.trans hvo
   subst hva
   obtain ⟨b1,b2,b3,rfl⟩:=Aw hpr
   obtain ⟨b4,b5,b6,rfl⟩:=Aw hpw
   obtain ⟨g0,g1,g2⟩:=co3 hBw g0 g1 g2
   have HIN:=Aa (LI (gs:=gs) (n:=n) hj2)
   obtain ⟨kn,hkn⟩:=nm (vs[j].1)
   obtain ⟨lb,hlb⟩:=nm (vs[j].2)
   rw [<-hkn] at g0 HIN
   rw [<-hlb] at hpr hpw HIN
   have HCK:=Aa (HVC.o vs[j] (List.getElem_mem hj2))
   rw [<-hlb] at HCK
   have hba:=bA wr (ze #[zg kn,O b1 b2 b3,O b4 b5 b6] 41)
   have hL1:=hL.over h1 hba
   have rowV:=Ad.new [zg kn,O b1 b2 b3,O b4 b5 b6] 41 wr
   have KB1:=Aa (KB.o la ln lc none 0 0 (wr.alloc (ze #[zg kn,O b1 b2 b3,O b4 b5 b6] 41)))
   have hB1:=hB.trans (hba.mono (HSZ.o _ hB))
   have HL1:=Aa hL1
   have HB1:=Aa hB1
   have HRV:=Aa rowV
   have HPR:=Aa (Ak hpr (hBw.trans (hba.mono hBw.size)))
   have HPW:=Aa (Ak hpw (hBw.trans (hba.mono hBw.size)))
   have HBW1:=Aa (hBw.trans (hba.mono hBw.size))
   have hj3:(j:Int) < (vn:Int):=by omega
   obtain ⟨d0,d1,d2,d3,d4,d5,d6,d7,d8,d9⟩:=Ca hL1.row
   obtain ⟨e0,e1,e2⟩:=rc3 rowV
   clear hL hB hBw hrp hvel hvo x1 x2 x3 hpr hpw hkn hlb hba hL1 rowV hB1
   go_wp2_with fail
   refine (KB1.o).mono ?_
   rintro e W3 ⟨vj,rfl,hfr,hb3⟩
   have hT3:=CX hfr (E2 n)
   obtain ⟨a1,a2,a3,a4,a5,a6,hvj⟩:∃ a1 a2 a3 a4 a5 a6,vj=zh #[O a1 a2 a3,O a4 a5 a6]:=by
    obtain ⟨x,y,e,-⟩:=An hfr
    subst e
    obtain ⟨z1,z2,z3,z4,z5,z6,rfl,rfl⟩:=AR (An hfr)
    exact ⟨_,_,_,_,_,_,rfl⟩
   subst hvj
   have hb4:=bA W3 (ze #[O a1 a2 a3,O a4 a5 a6] 50)
   have hb34:=Ac hb3 hb4
   have hL4:=HL1.o.over h1 hb34
   have HT4:=Aa (hT3.over h1 hb4)
   have hB4:=HB1.o.trans (hb34.mono (HSZ.o _ HB1.o))
   have rowA:=Ad.new [O a1 a2 a3,O a4 a5 a6] 50 W3
   have rowV:=HRV.o.over hb34
   have HL4:=Aa hL4
   have HB4:=Aa hB4
   have HRA:=Aa rowA
   have HP4:=Aa (Ak HPR.o hb34)
   have HQ4:=Aa (Ak HPW.o hb34)
   have HBW4:=Aa (HBW1.o.trans (hb34.mono HBW1.o.size))
   have HVB:Hx (Value.ownBlock (O la ln lc)≠some W3.heap.size/\W3.heap.size≠w1.heap.size/\w1.heap.size < W3.heap.size):=by
    have h3:=hb3.size
    have h4:=HL1.o.lo.2
    refine ⟨fun e=>?_,by omega,by omega⟩
    obtain ⟨-,c,f,he⟩:=BP HL1.o.vs _ e
    have:=(Array.getElem?_eq_some_iff.1 he).1
    omega
   have HNB:=Aa (IV (W:=W3) (cs:=#[O a1 a2 a3,O a4 a5 a6]) (T:=50) (by decide))
   clear d0 d1 d2 d3 d4 d5 d6 d7 d8 d9 e0 e1 e2 hfr hb3 hT3 hb4 hb34 hL4 hB4 KB1 HL1 HB1 HRV HPR HPW HBW1
   obtain ⟨d0,d1,d2,d3,d4,d5,d6,d7,d8,d9⟩:=Ca HL4.o.row
   obtain ⟨e0,e1,e2⟩:=rc3 rowV
   obtain ⟨f0,f1⟩:=rc2 rowA
   clear rowA rowV
   cases kn with
   | false=>
    have HLb:=HL4
    have HBb:=HB4
    have HT:=HT4
    have hbN:=(Below.refl _ (W3.alloc (ze #[O a1 a2 a3,O a4 a5 a6] 50))).alloc (Nat.le_refl _) (ze #[O a1 a2 a3,O a4 a5 a6] 50)
    have hLN:=HLb.o.over h1 hbN
    have hN:=Ad.new [O a1 a2 a3,O a4 a5 a6] 50 (W3.alloc (ze #[O a1 a2 a3,O a4 a5 a6] 50))
    have hsz:(W3.alloc (ze #[O a1 a2 a3,O a4 a5 a6] 50)).heap.size=(W3.heap.size+1):=by simp
    rw [hsz] at hN
    have HN:=Aa hN
    clear hN hsz
    obtain ⟨us,hous,helu⟩:=hLN.vs
    have HHEL:=Aa helu
    have HOUS:=Aa hous
    have HTN:=Aa (HT.o.over h1 hbN)
    have HLN:=Aa hLN
    have HBW:=Aa (show (w.heap.size+1+1)<=((W3.alloc (ze #[O a1 a2 a3,O a4 a5 a6] 50)).alloc (ze #[O a1 a2 a3,O a4 a5 a6] 50)).heap.size by have:=hLN.lo;omega)
    have hl16:(DG gs n (vs.take j)).length<=16:=by simp [DG];omega
    have HBN:=Aa (HBb.o.trans (hbN.mono (HSZ.o _ HBb.o)))
    have dN:=hLN.row 8 _ rfl
    have fN:=hLN.fz 8
    clear hbN hLN helu
    go_wp2_with (at_builtin;refine wpList_append_own_at _ rfl _ _ 42 rfl (w.heap.size+1+1) 50 i0 (zh #[O none 0 0,O none 0 0]) 2 48 Tryz.underlying42 hi hz0 hz1 hz2 rfl (by decide) _ _ _ rfl HOUS.o ⟨(W3.heap.size+1),0,none⟩ 1 1 [O a1 a2 a3,O a4 a5 a6] rfl rfl (fun jj u hu=>by rw [Addr.add_lit,Nat.zero_add];exact HN.o jj u hu) (by simp [Value.oneCell']) (by unfold maxLen;omega) (by omega) HBW.o ?_)
    intro v2 w2 hown2 hgr2 _ hat
    obtain ⟨va2,vn2,vc2,rfl⟩:=AG hown2
    have hfin:=BO.addV h1 rfl HLN.o HOUS.o HHEL.o HTN.o hown2 hgr2 (by simpa using hat)
    have d2:=hgr2.cell dN (fun hx=>HLN.o.ap2.1 hx.symm)
    have f2:w2.frozen? ⟨w1.heap.size,8,none⟩=false:=(World.frozen?_of_block (a:=⟨w1.heap.size,8,none⟩) (hgr2.block w1.heap.size HLN.o.lo.2 (fun hx=>HLN.o.ap2.1 hx.symm))).trans fN
    have HFIN:=Aa hfin
    clear hfin hown2 hgr2 hat hous dN fN
    go_wp2_with fail
    refine ⟨⟨j+1,va2,vn2,vc2,by omega,by go_num,by rw [HIN.o];exact HFIN.o.1,HBN.o.trans HFIN.o.2⟩,by simp [intOf];omega⟩
   | true=>
    have KL1:=Aa (KL.o la ln lc none 0 0 _ _ lb _ HBW4.o HP4.o HQ4.o HCK.o)
    go_wp2_with fail
    refine (KL1.o).mono ?_
    rintro e W5 ⟨vj,rfl,hfr,hb5⟩
    have hfr2:AY (W3.alloc (ze #[O a1 a2 a3,O a4 a5 a6] 50)) W5 vj (Av (Ay gs) n lb):=by simpa using hfr
    have hT5:=CX hfr2 (Dx _ n lb)
    obtain ⟨m1,m2,m3,m4,m5,m6,hvj⟩:∃ a1 a2 a3 a4 a5 a6,vj=zh #[O a1 a2 a3,O a4 a5 a6]:=by
     obtain ⟨x,y,e,-⟩:=An hfr2
     subst e
     obtain ⟨z1,z2,z3,z4,z5,z6,rfl,rfl⟩:=AR (An hfr2)
     exact ⟨_,_,_,_,_,_,rfl⟩
    subst hvj
    have hlt4:W3.heap.size < (W3.alloc (ze #[O a1 a2 a3,O a4 a5 a6] 50)).heap.size:=by simp
    have nb5:=HNB.o.over hb5 hlt4
    obtain ⟨p0,p1⟩:=co2 hb5 f0 f1
    have z0:W5.frozen? ⟨W3.heap.size,0,none⟩=false:=((Am hb5).2 _ _ hlt4).trans (by simp [go_sem])
    have z1:W5.frozen? ⟨W3.heap.size,1,none⟩=false:=((Am hb5).2 _ _ hlt4).trans (by simp [go_sem])
    have hL5:=HL4.o.over h1 hb5
    have hL6:=(hL5.box (j:=0) (u:=O m1 m2 m3) h1 HVB.o.2.1 HVB.o.1 (by simp [Value.ownBlock]) nb5).box (j:=1) (u:=O m4 m5 m6) h1 HVB.o.2.1 HVB.o.1 (by simp [Value.ownBlock]) nb5.set
    have HLb:=Aa hL6
    have hlo3:(w.heap.size+1+1)<=W3.heap.size:=by have:=HL4.o.lo.1;have:=HVB.o.2.2;omega
    have HBb:=Aa (((HB4.o.trans (hb5.mono (HSZ.o _ HB4.o))).setCell (p:=⟨W3.heap.size,0,none⟩) hlo3 (O m1 m2 m3)).setCell (p:=⟨W3.heap.size,1,none⟩) hlo3 (O m4 m5 m6))
    have HT:=Aa ((hT5.keep h1 (fun k cur fr hk=>(B8 (b:=W3.heap.size) (j:=0) (u:=O m1 m2 m3)).block k (Array.getElem?_eq_some_iff.1 hk).1 (fun e=>by injection e with e;subst e;exact nb5 cur fr hk))).keep h1 (fun k cur fr hk=>(B8 (b:=W3.heap.size) (j:=1) (u:=O m4 m5 m6)).block k (Array.getElem?_eq_some_iff.1 hk).1 (fun e=>by injection e with e;subst e;exact nb5.set cur fr hk)))
    have q0:((W5.setCell ⟨W3.heap.size,0,none⟩ (O m1 m2 m3)).setCell ⟨W3.heap.size,1,none⟩ (O m4 m5 m6)).cell? ⟨W3.heap.size,0,none⟩=some (O m1 m2 m3):=by simp [go_sem,p0]
    have q1:((W5.setCell ⟨W3.heap.size,0,none⟩ (O m1 m2 m3)).setCell ⟨W3.heap.size,1,none⟩ (O m4 m5 m6)).cell? ⟨W3.heap.size,1,none⟩=some (O m4 m5 m6):=by simp [go_sem,p1]
    clear d0 d1 d2 d3 d4 d5 d6 d7 d8 d9 e0 e1 e2 f0 f1 KL1 hfr hfr2 hT5 hL5
    obtain ⟨d0,d1,d2,d3,d4,d5,d6,d7,d8,d9⟩:=Ca hL6.row
    clear hL6 hb5
    have hbN:=(Below.refl _ ((W5.setCell ⟨W3.heap.size,0,none⟩ (O m1 m2 m3)).setCell ⟨W3.heap.size,1,none⟩ (O m4 m5 m6))).alloc (Nat.le_refl _) (ze #[O m1 m2 m3,O m4 m5 m6] 50)
    have hLN:=HLb.o.over h1 hbN
    have hN:=Ad.new [O m1 m2 m3,O m4 m5 m6] 50 ((W5.setCell ⟨W3.heap.size,0,none⟩ (O m1 m2 m3)).setCell ⟨W3.heap.size,1,none⟩ (O m4 m5 m6))
    have hsz:((W5.setCell ⟨W3.heap.size,0,none⟩ (O m1 m2 m3)).setCell ⟨W3.heap.size,1,none⟩ (O m4 m5 m6)).heap.size=W5.heap.size:=by simp [World.setCell]
    rw [hsz] at hN
    have HN:=Aa hN
    clear hN hsz
    obtain ⟨us,hous,helu⟩:=hLN.vs
    have HHEL:=Aa helu
    have HOUS:=Aa hous
    have HTN:=Aa (HT.o.over h1 hbN)
    have HLN:=Aa hLN
    have HBW:=Aa (show (w.heap.size+1+1)<=(((W5.setCell ⟨W3.heap.size,0,none⟩ (O m1 m2 m3)).setCell ⟨W3.heap.size,1,none⟩ (O m4 m5 m6)).alloc (ze #[O m1 m2 m3,O m4 m5 m6] 50)).heap.size by have:=hLN.lo;omega)
    have hl16:(DG gs n (vs.take j)).length<=16:=by simp [DG];omega
    have HBN:=Aa (HBb.o.trans (hbN.mono (HSZ.o _ HBb.o)))
    have dN:=hLN.row 8 _ rfl
    have fN:=hLN.fz 8
    clear hbN hLN helu
    go_wp2_with (at_builtin;refine wpList_append_own_at _ rfl _ _ 42 rfl (w.heap.size+1+1) 50 i0 (zh #[O none 0 0,O none 0 0]) 2 48 Tryz.underlying42 hi hz0 hz1 hz2 rfl (by decide) _ _ _ rfl HOUS.o ⟨W5.heap.size,0,none⟩ 1 1 [O m1 m2 m3,O m4 m5 m6] rfl rfl (fun jj u hu=>by rw [Addr.add_lit,Nat.zero_add];exact HN.o jj u hu) (by simp [Value.oneCell']) (by unfold maxLen;omega) (by omega) HBW.o ?_)
    intro v2 w2 hown2 hgr2 _ hat
    obtain ⟨va2,vn2,vc2,rfl⟩:=AG hown2
    have hfin:=BO.addV h1 rfl HLN.o HOUS.o HHEL.o HTN.o hown2 hgr2 (by simpa using hat)
    have d2:=hgr2.cell dN (fun hx=>HLN.o.ap2.1 hx.symm)
    have f2:w2.frozen? ⟨w1.heap.size,8,none⟩=false:=(World.frozen?_of_block (a:=⟨w1.heap.size,8,none⟩) (hgr2.block w1.heap.size HLN.o.lo.2 (fun hx=>HLN.o.ap2.1 hx.symm))).trans fN
    have HFIN:=Aa hfin
    clear hfin hown2 hgr2 hat hous dN fN
    go_wp2_with fail
    refine ⟨⟨j+1,va2,vn2,vc2,by omega,by go_num,by rw [HIN.o];exact HFIN.o.1,HBN.o.trans HFIN.o.2⟩,by simp [intOf];omega⟩
  ·have hj2:vs.take j=vs:=List.take_of_length_le (by rw [<-HVN.o];omega)
   rw [hj2] at hL
   have HL:=Aa hL
   have HB:=Aa hB
   obtain ⟨c0,c1,c2,c3,c4,c5,c6,c7⟩:=rc8 hrp
   clear hj2 hL hB hBw hrp
   go_wp2_with fail
   go_loopw [41] (fun x wr=>∃ (q:Nat) (ka:Option Addr) (kn2 kc:Nat),q<=fn/\x=U zd q/\BO n (w.heap.size+1+1) w1.heap.size [U zd (n:Int),O ga gn gc,O sa sn sc,O ya yn yc,O oa on oc,O va vn vc,O fa fn fc,O ba bn bc] (DG gs n vs) (List.replicate q (Bs n)) (O la ln lc) (O ka kn2 kc) wr/\Below (w.heap.size+1+1) V0 wr) (fun x _=>fn - (intOf x).toNat)
   case atStart=>exact ⟨0,none,0,0,Nat.zero_le _,rfl,HL.o,HB.o⟩
   case round=>
    clear c0 c1 c2 c3 c4 c5 c6 c7 HL HB
    obtain ⟨q,ka,kn2,kc,hq,rfl,hL,hB⟩:=hrel
    have HL:=Aa hL
    have HBX:=Aa hB
    obtain ⟨d0,d1,d2,d3,d4,d5,d6,d7,d8,d9⟩:=Ca hL.row
    have KB1:=Aa (KB.o la ln lc ka kn2 kc wr.drew)
    clear hL hB
    by_cases hlt2:q < fn
    ·have hq3:(q:Int) < (fn:Int):=by omega
     go_wp2_with fail
     refine gS (fun Wz=>True) (trivial) fun hHeld=>?_
     refine kT 0 ?_
     refine kT 1 ?_
     refine kT 2 ?_
     refine kT 4 ?_
     refine rdB 3 5 rfl (fun K hK=>?_) rfl fun K hK=>?_
     ·go_simp
      refine xK hK trivial fun hHeld=>?_
      clear hK K
      refine rdA 5 rfl fun K hK=>?_
      go_simp
      refine xK hK trivial fun hHeld=>?_
      clear hK K
      refine rdA 6 rfl fun K hK=>?_
      go_simp
      refine (KB1.o).mono ?_
      rintro e W3 ⟨vj,rfl,hfr,hb3⟩
      have hT3:=CX hfr (E2 n)
      obtain ⟨a1,a2,a3,a4,a5,a6,hvj⟩:∃ a1 a2 a3 a4 a5 a6,vj=zh #[O a1 a2 a3,O a4 a5 a6]:=by
       obtain ⟨x,y,e,-⟩:=An hfr
       subst e
       obtain ⟨z1,z2,z3,z4,z5,z6,rfl,rfl⟩:=AR (An hfr)
       exact ⟨_,_,_,_,_,_,rfl⟩
      subst hvj
      have hb3':=Ac (bD wr) hb3
      have hL3:=HL.o.over h1 hb3'
      have hB3:=HBX.o.trans (hb3'.mono (HSZ.o _ HBX.o))
      have x9:=hL3.row 9 _ rfl
      have hbN:=bA W3 (ze #[O a1 a2 a3,O a4 a5 a6] 50)
      have hLN:=hL3.over h1 hbN
      have hN:=Ad.new [O a1 a2 a3,O a4 a5 a6] 50 W3
      obtain ⟨us,hous,helu⟩:=hLN.fs
      have hTN:=hT3.over h1 hbN
      have hBN:=hB3.trans (hbN.mono (HSZ.o _ hB3))
      have y9:=hLN.row 9 _ rfl
      have z9:=hLN.fz 9
      have hBW:(w.heap.size+1+1)<=(W3.alloc (ze #[O a1 a2 a3,O a4 a5 a6] 50)).heap.size:=HSZ.o _ hBN
      obtain ⟨v2,w2,hrun,hown2,hgr2,-,hat⟩:=run_append_own_at (P:=Tryz.prog) (w:=W3.alloc (ze #[O a1 a2 a3,O a4 a5 a6] 50)) (w.heap.size+1+1) 42 42 50 i0 (zh #[O none 0 0,O none 0 0]) 2 48 Tryz.underlying42 hi hz0 hz1 hz2 rfl (by decide) _ _ _ hous ⟨W3.heap.size,0,none⟩ 1 1 [O a1 a2 a3,O a4 a5 a6] rfl (fun jj u hu=>by rw [Addr.add_lit,Nat.zero_add];exact hN jj u hu) (by simp [Value.oneCell']) (by unfold maxLen;simp;omega) (by simp;omega) hBW
      obtain ⟨va2,vn2,vc2,rfl⟩:=AG hown2
      have hfin:=BO.addF h1 rfl hLN hous helu hTN hown2 hgr2 hat
      have d2:=hgr2.cell y9 (fun hx=>hLN.ap2.2 hx.symm)
      have f2:w2.frozen? ⟨w1.heap.size,9,none⟩=false:=(World.frozen?_of_block (a:=⟨w1.heap.size,9,none⟩) (hgr2.block w1.heap.size hLN.lo.2 (fun hx=>hLN.ap2.2 hx.symm))).trans z9
      have HFIN:=Aa hfin
      have HBN:=Aa hBN
      clear hfin hown2 hgr2 hat hous helu hTN hN hL3 hB3 hb3 hb3' hfr hT3 hbN hLN hBN z9
      go_simp
      refine xK hK trivial fun hHeld=>?_
      clear hK K
      refine rdA 7 rfl fun K hK=>?_
      go_simp
      refine xK hK trivial fun hHeld=>?_
      clear hK K
      refine rdA 8 rfl fun K hK=>?_
      refine D8 rfl _ _ _ rfl _ _ _ _ rfl rfl hrun ?_
      refine xK hK trivial fun hHeld=>?_
      clear hK K
      refine rdA 9 rfl fun K hK=>?_
      go_simp
      refine xK hK trivial fun hHeld=>?_
      clear hK K
      refine rdA 10 rfl fun K hK=>?_
      go_simp
      refine xK hK trivial fun hHeld=>?_
      clear hK K
      refine rdA 11 rfl fun K hK=>?_
      go_simp
      refine xK hK trivial fun hHeld=>?_
      clear hK K
      refine rdA 12 rfl fun K hK=>?_
      go_simp
      refine xK hK trivial fun hHeld=>?_
      clear hK K
      refine gE ?_
      go_wp2_with fail
      refine ⟨⟨q+1,va2,vn2,vc2,by omega,by go_num,by rw [List.replicate_succ'];exact HFIN.o.1,HBN.o.trans HFIN.o.2⟩,by simp [intOf];omega⟩
     ·go_simp
      refine xK hK trivial fun hHeld=>?_
      clear hK K
      refine rdB 3 6 rfl (fun K hK=>?_) rfl fun K hK=>?_
      ·go_simp
       refine xK hK trivial fun hHeld=>?_
       clear hK K
       refine rdA 6 rfl fun K hK=>?_
       go_simp
       refine (KB1.o).mono ?_
       rintro e W3 ⟨vj,rfl,hfr,hb3⟩
       have hT3:=CX hfr (E2 n)
       obtain ⟨a1,a2,a3,a4,a5,a6,hvj⟩:∃ a1 a2 a3 a4 a5 a6,vj=zh #[O a1 a2 a3,O a4 a5 a6]:=by
        obtain ⟨x,y,e,-⟩:=An hfr
        subst e
        obtain ⟨z1,z2,z3,z4,z5,z6,rfl,rfl⟩:=AR (An hfr)
        exact ⟨_,_,_,_,_,_,rfl⟩
       subst hvj
       have hb3':=Ac (bD wr) hb3
       have hL3:=HL.o.over h1 hb3'
       have hB3:=HBX.o.trans (hb3'.mono (HSZ.o _ HBX.o))
       have x9:=hL3.row 9 _ rfl
       have hbN:=bA W3 (ze #[O a1 a2 a3,O a4 a5 a6] 50)
       have hLN:=hL3.over h1 hbN
       have hN:=Ad.new [O a1 a2 a3,O a4 a5 a6] 50 W3
       obtain ⟨us,hous,helu⟩:=hLN.fs
       have hTN:=hT3.over h1 hbN
       have hBN:=hB3.trans (hbN.mono (HSZ.o _ hB3))
       have y9:=hLN.row 9 _ rfl
       have z9:=hLN.fz 9
       have hBW:(w.heap.size+1+1)<=(W3.alloc (ze #[O a1 a2 a3,O a4 a5 a6] 50)).heap.size:=HSZ.o _ hBN
       obtain ⟨v2,w2,hrun,hown2,hgr2,-,hat⟩:=run_append_own_at (P:=Tryz.prog) (w:=W3.alloc (ze #[O a1 a2 a3,O a4 a5 a6] 50)) (w.heap.size+1+1) 42 42 50 i0 (zh #[O none 0 0,O none 0 0]) 2 48 Tryz.underlying42 hi hz0 hz1 hz2 rfl (by decide) _ _ _ hous ⟨W3.heap.size,0,none⟩ 1 1 [O a1 a2 a3,O a4 a5 a6] rfl (fun jj u hu=>by rw [Addr.add_lit,Nat.zero_add];exact hN jj u hu) (by simp [Value.oneCell']) (by unfold maxLen;simp;omega) (by simp;omega) hBW
       obtain ⟨va2,vn2,vc2,rfl⟩:=AG hown2
       have hfin:=BO.addF h1 rfl hLN hous helu hTN hown2 hgr2 hat
       have d2:=hgr2.cell y9 (fun hx=>hLN.ap2.2 hx.symm)
       have f2:w2.frozen? ⟨w1.heap.size,9,none⟩=false:=(World.frozen?_of_block (a:=⟨w1.heap.size,9,none⟩) (hgr2.block w1.heap.size hLN.lo.2 (fun hx=>hLN.ap2.2 hx.symm))).trans z9
       have HFIN:=Aa hfin
       have HBN:=Aa hBN
       clear hfin hown2 hgr2 hat hous helu hTN hN hL3 hB3 hb3 hb3' hfr hT3 hbN hLN hBN z9
       go_simp
       refine xK hK trivial fun hHeld=>?_
       clear hK K
       refine rdA 7 rfl fun K hK=>?_
       go_simp
       refine xK hK trivial fun hHeld=>?_
       clear hK K
       refine rdA 8 rfl fun K hK=>?_
       refine D8 rfl _ _ _ rfl _ _ _ _ rfl rfl hrun ?_
       refine xK hK trivial fun hHeld=>?_
       clear hK K
       refine rdA 9 rfl fun K hK=>?_
       go_simp
       refine xK hK trivial fun hHeld=>?_
       clear hK K
       refine rdA 10 rfl fun K hK=>?_
       go_simp
       refine xK hK trivial fun hHeld=>?_
       clear hK K
       refine rdA 11 rfl fun K hK=>?_
       go_simp
       refine xK hK trivial fun hHeld=>?_
       clear hK K
       refine rdA 12 rfl fun K hK=>?_
       go_simp
       refine xK hK trivial fun hHeld=>?_
       clear hK K
       refine gE ?_
       go_wp2_with fail
       refine ⟨⟨q+1,va2,vn2,vc2,by omega,by go_num,by rw [List.replicate_succ'];exact HFIN.o.1,HBN.o.trans HFIN.o.2⟩,by simp [intOf];omega⟩
      ·go_simp
       refine (KB1.o).mono ?_
       rintro e W3 ⟨vj,rfl,hfr,hb3⟩
       have hT3:=CX hfr (E2 n)
       obtain ⟨a1,a2,a3,a4,a5,a6,hvj⟩:∃ a1 a2 a3 a4 a5 a6,vj=zh #[O a1 a2 a3,O a4 a5 a6]:=by
        obtain ⟨x,y,e,-⟩:=An hfr
        subst e
        obtain ⟨z1,z2,z3,z4,z5,z6,rfl,rfl⟩:=AR (An hfr)
        exact ⟨_,_,_,_,_,_,rfl⟩
       subst hvj
       have hb3':=Ac (bD wr) hb3
       have hL3:=HL.o.over h1 hb3'
       have hB3:=HBX.o.trans (hb3'.mono (HSZ.o _ HBX.o))
       have x9:=hL3.row 9 _ rfl
       have hbN:=bA W3 (ze #[O a1 a2 a3,O a4 a5 a6] 50)
       have hLN:=hL3.over h1 hbN
       have hN:=Ad.new [O a1 a2 a3,O a4 a5 a6] 50 W3
       obtain ⟨us,hous,helu⟩:=hLN.fs
       have hTN:=hT3.over h1 hbN
       have hBN:=hB3.trans (hbN.mono (HSZ.o _ hB3))
       have y9:=hLN.row 9 _ rfl
       have z9:=hLN.fz 9
       have hBW:(w.heap.size+1+1)<=(W3.alloc (ze #[O a1 a2 a3,O a4 a5 a6] 50)).heap.size:=HSZ.o _ hBN
       obtain ⟨v2,w2,hrun,hown2,hgr2,-,hat⟩:=run_append_own_at (P:=Tryz.prog) (w:=W3.alloc (ze #[O a1 a2 a3,O a4 a5 a6] 50)) (w.heap.size+1+1) 42 42 50 i0 (zh #[O none 0 0,O none 0 0]) 2 48 Tryz.underlying42 hi hz0 hz1 hz2 rfl (by decide) _ _ _ hous ⟨W3.heap.size,0,none⟩ 1 1 [O a1 a2 a3,O a4 a5 a6] rfl (fun jj u hu=>by rw [Addr.add_lit,Nat.zero_add];exact hN jj u hu) (by simp [Value.oneCell']) (by unfold maxLen;simp;omega) (by simp;omega) hBW
       obtain ⟨va2,vn2,vc2,rfl⟩:=AG hown2
       have hfin:=BO.addF h1 rfl hLN hous helu hTN hown2 hgr2 hat
       have d2:=hgr2.cell y9 (fun hx=>hLN.ap2.2 hx.symm)
       have f2:w2.frozen? ⟨w1.heap.size,9,none⟩=false:=(World.frozen?_of_block (a:=⟨w1.heap.size,9,none⟩) (hgr2.block w1.heap.size hLN.lo.2 (fun hx=>hLN.ap2.2 hx.symm))).trans z9
       have HFIN:=Aa hfin
       have HBN:=Aa hBN
       clear hfin hown2 hgr2 hat hous helu hTN hN hL3 hB3 hb3 hb3' hfr hT3 hbN hLN hBN z9
       go_simp
       refine xK hK trivial fun hHeld=>?_
       clear hK K
       refine rdB 3 7 rfl (fun K hK=>?_) rfl fun K hK=>?_
       ·go_simp
        refine xK hK trivial fun hHeld=>?_
        clear hK K
        refine rdA 7 rfl fun K hK=>?_
        go_simp
        refine xK hK trivial fun hHeld=>?_
        clear hK K
        refine rdA 8 rfl fun K hK=>?_
        refine D8 rfl _ _ _ rfl _ _ _ _ rfl rfl hrun ?_
        refine xK hK trivial fun hHeld=>?_
        clear hK K
        refine rdA 9 rfl fun K hK=>?_
        go_simp
        refine xK hK trivial fun hHeld=>?_
        clear hK K
        refine rdA 10 rfl fun K hK=>?_
        go_simp
        refine xK hK trivial fun hHeld=>?_
        clear hK K
        refine rdA 11 rfl fun K hK=>?_
        go_simp
        refine xK hK trivial fun hHeld=>?_
        clear hK K
        refine rdA 12 rfl fun K hK=>?_
        go_simp
        refine xK hK trivial fun hHeld=>?_
        clear hK K
        refine gE ?_
        go_wp2_with fail
        refine ⟨⟨q+1,va2,vn2,vc2,by omega,by go_num,by rw [List.replicate_succ'];exact HFIN.o.1,HBN.o.trans HFIN.o.2⟩,by simp [intOf];omega⟩
       ·go_simp
        refine xK hK trivial fun hHeld=>?_
        clear hK K
        refine rdA 3 rfl fun K hK=>?_
        go_simp
        refine xK hK trivial fun hHeld=>?_
        clear hK K
        refine rdA 8 rfl fun K hK=>?_
        refine D8 rfl _ _ _ rfl _ _ _ _ rfl rfl hrun ?_
        refine xK hK trivial fun hHeld=>?_
        clear hK K
        refine rdA 9 rfl fun K hK=>?_
        go_simp
        refine xK hK trivial fun hHeld=>?_
        clear hK K
        refine rdA 10 rfl fun K hK=>?_
        go_simp
        refine xK hK trivial fun hHeld=>?_
        clear hK K
        refine rdA 11 rfl fun K hK=>?_
        go_simp
        refine xK hK trivial fun hHeld=>?_
        clear hK K
        refine rdA 12 rfl fun K hK=>?_
        go_simp
        refine xK hK trivial fun hHeld=>?_
        clear hK K
        refine gE ?_
        go_wp2_with fail
        refine ⟨⟨q+1,va2,vn2,vc2,by omega,by go_num,by rw [List.replicate_succ'];exact HFIN.o.1,HBN.o.trans HFIN.o.2⟩,by simp [intOf];omega⟩
    ·have hq2:fn=q:=by omega
     subst hq2
     have nbw:Eo wr (w.heap.size+1):=fun cur fr he=>NB1.o cur fr ((HBX.o.block (w.heap.size+1) (by omega)) ▸ he)
     have hzr:Ad [U zd 0,O none 0 0,O none 0 0,O none 0 0,O none 0 0,O none 0 0,O none 0 0,O none 0 0,O none 0 0,O none 0 0] wr (w.heap.size+1):=fun i u hu=>(HBX.o.cell (p:=⟨w.heap.size+1,i,none⟩) (by simp)).trans (ZR.o i u hu)
     have hzf:∀ j,wr.frozen? ⟨w.heap.size+1,j,none⟩=false:=fun j=>(HBX.o.frozen (p:=⟨w.heap.size+1,j,none⟩) (by simp)).trans (ZF.o j)
     obtain ⟨z0,z1,z2,z3,z4,z5,z6,z7,z8,z9⟩:=Ca hzr
     have f0:=hzf 0
     have f1:=hzf 1
     have f2:=hzf 2
     have f3:=hzf 3
     have f4:=hzf 4
     have f5:=hzf 5
     have f6:=hzf 6
     have f7:=hzf 7
     have f8:=hzf 8
     have f9:=hzf 9
     have HNW:=Aa nbw
     clear nbw hzr hzf
     go_wp2_with fail
     refine bodyPost_ret (v:=zh #[U zd (n:Int),O ga gn gc,O sa sn sc,O ya yn yc,O oa on oc,O va vn vc,O fa fn fc,O ba bn bc,O la ln lc,O ka kn2 kc]) (by simp [results,Tryz.results54,go_sem,z0,z1,z2,z3,z4,z5,z6,z7,z8,z9]) rfl ⟨la,ln,lc,ka,kn2,kc,rfl,?_,?_,HL.o.ap,?_⟩
     ·refine AM.low (B:=w.heap.size+1+1) ?_ (by omega)
      exact AM.setN h1 (by omega) [U zd (n:Int),O ga gn gc,O sa sn sc,O ya yn yc,O oa on oc,O va vn vc,O fa fn fc,O ba bn bc,O la ln lc,O ka kn2 kc] 0 wr HL.o.vs HNW.o
     ·refine AM.low (B:=w.heap.size+1+1) ?_ (by omega)
      exact AM.setN h1 (by omega) [U zd (n:Int),O ga gn gc,O sa sn sc,O ya yn yc,O oa on oc,O va vn vc,O fa fn fc,O ba bn bc,O la ln lc,O ka kn2 kc] 0 wr HL.o.fs HNW.o
     ·exact GB (by omega) [U zd (n:Int),O ga gn gc,O sa sn sc,O ya yn yc,O oa on oc,O va vn vc,O fa fn fc,O ba bn bc,O la ln lc,O ka kn2 kc] 0 wr (HB0.o.trans (HBX.o.mono (by omega)))
def XI (c:WC) (bm:Nat):World->Nat->Prop:=fun _ k=>(∃ a,c.la=some a/\k=a.block)\/(∃ a,c.ka=some a/\k=a.block)\/k=bm
theorem E8 (c) (bm:Nat):XOk (XI c bm):=⟨fun _ _ _ _ h=>h⟩
structure E7 (c:WC) (w0:World) (bw bm:Nat):Prop where
 la:∀ a,c.la=some a->a.off=0/\a.spot=none/\w0.heap.size<=a.block/\a.block≠bw/\a.block≠bm
 ka:∀ a,c.ka=some a->a.off=0/\a.spot=none/\w0.heap.size<=a.block/\a.block≠bw/\a.block≠bm
 lk:∀ a b,c.la=some a->c.ka=some b->a.block≠b.block
 m:w0.heap.size<=bm/\bw≠bm
structure CR (c:WC) (w0:World) (nv nf bw bm:Nat) (st:ISt) (W:World):Prop where
 below:Ov w0 W
 vs:A1 c.n (XI c bm) W (O c.la c.ln c.lc) st.vs
 fs:A1 c.n (XI c bm) W (O c.ka c.kn c.kc) st.fs
 lv:st.vs.length=nv
 lf:st.fs.length=nf
 more:W.cell? ⟨bm,0,none⟩=some (zg st.more)
 mz:W.frozen? ⟨bm,0,none⟩=false
 row:Ad c.cs W bw
 hl:∀ a,c.la=some a->a.block < W.heap.size/\∀ j,W.frozen? ⟨a.block,j,none⟩=false
 hk:∀ a,c.ka=some a->a.block < W.heap.size/\∀ j,W.frozen? ⟨a.block,j,none⟩=false
theorem Pd {c:WC} {w0:World} {nv nf bw bm:Nat} {st:ISt} {W:World} (hC:E7 c w0 bw bm) (h:CR c w0 nv nf bw bm st W) {W':World} (k:Nat) (hx:XI c bm W' k):k < W.heap.size:=by
 rcases hx with ⟨a,e,rfl⟩ | ⟨a,e,rfl⟩ | rfl
 ·exact (h.hl a e).1
 ·exact (h.hk a e).1
 ·exact bL h.more
theorem CR.over {c:WC} {w0:World} {nv nf bw bm:Nat} {st:ISt} {W W':World} (h:CR c w0 nv nf bw bm st W) (hb:Ov W W'):CR c w0 nv nf bw bm st W':=
 ⟨h.below.trans (hb.mono h.below.size),h.vs.over (E8 c bm) hb,h.fs.over (E8 c bm) hb,h.lv,h.lf,Ab hb _ _ h.more,((Am hb).2 _ _ (bL h.more)).trans h.mz,h.row.over hb,
  fun a e=>⟨Nat.lt_of_lt_of_le (h.hl a e).1 hb.size,fun j=>((Am hb).2 _ _ (h.hl a e).1).trans ((h.hl a e).2 j)⟩,fun a e=>⟨Nat.lt_of_lt_of_le (h.hk a e).1 hb.size,fun j=>((Am hb).2 _ _ (h.hk a e).1).trans ((h.hk a e).2 j)⟩⟩
theorem QQ {c:WC} {w0:World} {nv bw bm:Nat} {fs:List FnD} {gs:List (Int × Int)} (n1:1<=c.n) (n6:c.n<=6) (gr:AF w0 (O c.ga c.gn c.gc) gs) (chk:AL c.n gs=0) (nv16:nv<=16) (hC:E7 c w0 bw bm):EJ c w0 nv fs gs ISt.vs ISt.fs (CR c w0 nv fs.length bw bm) (XI c bm):=
 ⟨n1,n6,gr,chk,nv16,fun st W h=>h.below,fun st W h=>⟨h.vs,h.lv⟩,fun st W h=>⟨h.fs,h.lf⟩,fun st W W' h hb=>h.over hb,E8 c bm,fun st W h k hx=>Pd hC h k hx⟩
theorem Cs {W:World} {b o b' o':Nat} {u:Value} (h:b≠b'\/o≠o'):(W.setCell ⟨b,o,none⟩ u).cell? ⟨b',o',none⟩=W.cell? ⟨b',o',none⟩:=
 World.cell?_setCell_other _ _ _ _ (by intro e;injection e with e1 e2;rcases h with h | h;exact h e1;exact h e2)
theorem A1.set {n:Nat} {X:World->Nat->Prop} {W W3:World} {b i cap:Nat} {Ls:List Lev} {x y:Value} {l:Lev} (n1:1<=n) (h:A1 n X W (O (some ⟨b,0,none⟩) Ls.length cap) Ls) (hi:i < Ls.length) (hl:Ar n X W3 (zh #[x,y]) l)
  (hF:FrW X W W3) (e0:W3.cell? ⟨b,i*2,none⟩=some x) (e1:W3.cell? ⟨b,i*2+1,none⟩=some y) (hc:∀ j u,j≠i*2->j≠i*2+1->W.cell? ⟨b,j,none⟩=some u->W3.cell? ⟨b,j,none⟩=some u):A1 n X W3 (O (some ⟨b,0,none⟩) Ls.length cap) (Ls.set i l):=by
 obtain ⟨ao,cap',hv,hel⟩:=h
 injection hv with v1 v2 v3
 subst v1
 refine ⟨some ⟨b,0,none⟩,cap,by simp,fun _=>⟨b,0,rfl,fun j hj=>?_⟩⟩
 obtain ⟨b',o',hb',hel⟩:=hel (by intro h;rw [h] at hi;simp at hi)
 injection hb' with hb'
 injection hb' with hb1 hb2
 subst hb1 hb2
 simp only [Nat.zero_add] at hel ⊢
 by_cases hij:i=j
 ·subst hij
  refine ⟨x,y,e0,e1,?_⟩
  rw [List.getElem_set_self]
  exact hl
 ·obtain ⟨rv,wv,c0,c1,ho⟩:=hel j (by simpa using hj)
  refine ⟨rv,wv,hc _ _ (by omega) (by omega) c0,hc _ _ (by omega) (by omega) c1,?_⟩
  rw [List.getElem_set_ne hij]
  exact ho.keep n1 hF
theorem A1.keep {n:Nat} {X:World->Nat->Prop} {W W3:World} {v:Value} {Ls:List Lev} (n1:1<=n) (h:A1 n X W v Ls) (hF:FrW X W W3) (hc:∀ b o ln cp,v=O (some ⟨b,o,none⟩) ln cp->∀ j u,W.cell? ⟨b,j,none⟩=some u->W3.cell? ⟨b,j,none⟩=some u):A1 n X W3 v Ls:=by
 obtain ⟨ao,cap,hv,hel⟩:=h
 refine ⟨ao,cap,hv,fun hne=>?_⟩
 obtain ⟨b,off,hao,hel⟩:=hel hne
 refine ⟨b,off,hao,fun i hi=>?_⟩
 obtain ⟨rv,wv,h1,h2,h3⟩:=hel i hi
 have hk:=hc b off _ _ (by rw [hv,hao])
 exact ⟨rv,wv,hk _ _ h1,hk _ _ h2,h3.keep n1 hF⟩
theorem E7.upd {c:WC} {w0:World} {nv nf bw bm b:Nat} {st:ISt} {W W3:World} {i:Bool × Nat} {l:Lev} {x y:Value} (hC:E7 c w0 bw bm) (h:CR c w0 nv nf bw bm st W) (hn:1<=c.n/\(if i.1=true then c.la else c.ka)=some ⟨b,0,none⟩) (hb3:Ov W W3) (hl:Ar c.n (XI c bm) W3 (zh #[x,y]) l)
  (h1:i.1=true->i.2 < nv) (h2:i.1=false->i.2 < nf) :
  CR c w0 nv nf bw bm (st.up i l) (((W3.setCell ⟨b,i.2*2,none⟩ x).setCell ⟨b,i.2*2+1,none⟩ y).setCell ⟨bm,0,none⟩ (zg true))/\FrW (XI c bm) W (((W3.setCell ⟨b,i.2*2,none⟩ x).setCell ⟨b,i.2*2+1,none⟩ y).setCell ⟨bm,0,none⟩ (zg true)):=by
 obtain ⟨n1,hib⟩:=hn
 have h3:=h.over hb3
 obtain ⟨W',hW'⟩:∃ W',W'=(((W3.setCell ⟨b,i.2*2,none⟩ x).setCell ⟨b,i.2*2+1,none⟩ y).setCell ⟨bm,0,none⟩ (zg true)):=⟨_,rfl⟩
 rw [<-hW']
 have hxb:XI c bm W3 b:=by
  by_cases hi:i.1=true
  ·rw [if_pos hi] at hib;exact Or.inl ⟨_,hib,rfl⟩
  ·rw [if_neg hi] at hib;exact Or.inr (Or.inl ⟨_,hib,rfl⟩)
 have hbm:b≠bm/\b≠bw/\w0.heap.size<=b:=by
  by_cases hi:i.1=true
  ·rw [if_pos hi] at hib;have:=hC.la _ hib;exact ⟨this.2.2.2.2,this.2.2.2.1,this.2.2.1⟩
  ·rw [if_neg hi] at hib;have:=hC.ka _ hib;exact ⟨this.2.2.2.2,this.2.2.2.1,this.2.2.1⟩
 have hsz:W'.heap.size=W3.heap.size:=by rw [hW'];simp [World.setCell]
 have hblk:∀ k,k≠b->k≠bm->W'.heap[k]? = W3.heap[k]?:=fun k hk hm=>by
  rw [hW',Bf (Ne.symm hm),Bf (Ne.symm hk),Bf (Ne.symm hk)]
 have hF3:FrW (XI c bm) W3 W':=by
  refine ⟨by rw [hW'];rfl,by rw [hW'];rfl,by rw [hW'];rfl,by omega,fun k _ hx=>hblk k (fun e=>hx (e ▸ hxb)) (fun e=>hx (Or.inr (Or.inr e))),fun k _ hx=>hx⟩
 have hF:=(FrW.of_below (E8 c bm) hb3).trans hF3
 have cne:∀ b' o' u,b'≠b->b'≠bm->W3.cell? ⟨b',o',none⟩=some u->W'.cell? ⟨b',o',none⟩=some u:=fun b' o' u hb hm hc=>(World.cell?_of_block (a:=⟨b',o',none⟩) (hblk b' hb hm)).trans hc
 have cin:∀ j u,j≠i.2*2->j≠i.2*2+1->W3.cell? ⟨b,j,none⟩=some u->W'.cell? ⟨b,j,none⟩=some u:=fun j u hj hj' hc=>by
  rw [hW',Cs (Or.inl hbm.1.symm),Cs (Or.inr (Ne.symm hj')),Cs (Or.inr (Ne.symm hj))]
  exact hc
 have fzz:∀ b' j,W'.frozen? ⟨b',j,none⟩=W3.frozen? ⟨b',j,none⟩:=fun b' j=>by rw [hW'];simp [go_sem]
 have hl':=hl.keep n1 hF3
 have exs:(∃ u,W3.cell? ⟨b,i.2*2,none⟩=some u)/\∃ u,W3.cell? ⟨b,i.2*2+1,none⟩=some u:=by
  by_cases hi:i.1=true
  ·rw [if_pos hi] at hib
   have hlt:=h1 hi
   obtain ⟨ao,cap,hv,hel⟩:=h3.vs
   injection hv with v1 v2 v3
   obtain ⟨b',o',hb',hel⟩:=hel (by intro e;have:=h3.lv;rw [e] at this;simp at this;omega)
   rw [<-v1,hib] at hb'
   injection hb' with hb'
   injection hb' with hb1 hb2
   subst hb1 hb2
   obtain ⟨rv,wv,c0,c1,-⟩:=hel i.2 (by have:=h3.lv;omega)
   simp only [Nat.zero_add] at c0 c1
   exact ⟨⟨_,c0⟩,_,c1⟩
  ·rw [if_neg hi] at hib
   have hlt:=h2 (by simpa using hi)
   obtain ⟨ao,cap,hv,hel⟩:=h3.fs
   injection hv with v1 v2 v3
   obtain ⟨b',o',hb',hel⟩:=hel (by intro e;have:=h3.lf;rw [e] at this;simp at this;omega)
   rw [<-v1,hib] at hb'
   injection hb' with hb'
   injection hb' with hb1 hb2
   subst hb1 hb2
   obtain ⟨rv,wv,c0,c1,-⟩:=hel i.2 (by have:=h3.lf;omega)
   simp only [Nat.zero_add] at c0 c1
   exact ⟨⟨_,c0⟩,_,c1⟩
 obtain ⟨⟨u0,hu0⟩,u1,hu1⟩:=exs
 have e0:W'.cell? ⟨b,i.2*2,none⟩=some x:=by
  rw [hW',Cs (Or.inl hbm.1.symm),Cs (Or.inr (by omega))]
  exact World.cell?_setCell_same _ _ _ hu0
 have e1:W'.cell? ⟨b,i.2*2+1,none⟩=some y:=by
  rw [hW',Cs (Or.inl hbm.1.symm)]
  exact World.cell?_setCell_same _ _ _ (u:=u1) (by rw [Cs (Or.inr (by omega))];exact hu1)
 have hBel:Ov w0 W':=by
  rw [hW']
  exact ((h3.below.setCell (p:=⟨b,i.2*2,none⟩) hbm.2.2 _).setCell (p:=⟨b,i.2*2+1,none⟩) hbm.2.2 _).setCell (p:=⟨bm,0,none⟩) hC.m.1 _
 have hm:W'.cell? ⟨bm,0,none⟩=some (zg true):=by
  rw [hW']
  exact World.cell?_setCell_same _ _ _ (u:=zg st.more) (by rw [Cs (Or.inl hbm.1),Cs (Or.inl hbm.1)];exact h3.more)
 have hrw:Ad c.cs W' bw:=fun j u hu=>cne _ _ _ (Ne.symm hbm.2.1) hC.m.2 (h3.row j u hu)
 refine ⟨?_,hF⟩
 by_cases hi:i.1=true
 ·rw [if_pos hi] at hib
  have hst:st.up i l=⟨st.vs.set i.2 l,st.fs,true⟩:=by unfold ISt.up;rw [if_pos hi]
  rw [hst]
  obtain ⟨ao,cap,hv,-⟩:=h3.vs
  injection hv with v1 v2 v3
  refine ⟨hBel,?_,h3.fs.keep n1 hF3 (fun b' o' ln cp hv j u hc=>?_),by simpa using h3.lv,h3.lf,hm,(fzz _ _).trans h3.mz,hrw,fun a e=>⟨by rw [hsz];exact (h3.hl a e).1,fun j=>(fzz _ _).trans ((h3.hl a e).2 j)⟩,fun a e=>⟨by rw [hsz];exact (h3.hk a e).1,fun j=>(fzz _ _).trans ((h3.hk a e).2 j)⟩⟩
  ·have:=h3.vs
   rw [hib,v2] at this ⊢
   exact A1.set n1 this (by have:=h1 hi;have:=h3.lv;omega) hl' hF3 e0 e1 cin
  ·injection hv with v1' v2' v3'
   exact cne _ _ _ (fun e=>hC.lk _ _ hib v1' e.symm) (hC.ka _ v1').2.2.2.2 hc
 ·rw [if_neg hi] at hib
  have hst:st.up i l=⟨st.vs,st.fs.set i.2 l,true⟩:=by unfold ISt.up;rw [if_neg hi]
  rw [hst]
  obtain ⟨ao,cap,hv,-⟩:=h3.fs
  injection hv with v1 v2 v3
  refine ⟨hBel,h3.vs.keep n1 hF3 (fun b' o' ln cp hv j u hc=>?_),?_,h3.lv,by simpa using h3.lf,hm,(fzz _ _).trans h3.mz,hrw,fun a e=>⟨by rw [hsz];exact (h3.hl a e).1,fun j=>(fzz _ _).trans ((h3.hl a e).2 j)⟩,fun a e=>⟨by rw [hsz];exact (h3.hk a e).1,fun j=>(fzz _ _).trans ((h3.hk a e).2 j)⟩⟩
  ·injection hv with v1' v2' v3'
   exact cne _ _ _ (fun e=>hC.lk _ _ v1' hib e) (hC.la _ v1').2.2.2.2 hc
  ·have:=h3.fs
   rw [hib,v2] at this ⊢
   exact A1.set n1 this (by have:=h2 (by simpa using hi);have:=h3.lf;omega) hl' hF3 e0 e1 cin
theorem Oy (args:Array Value) (w:World):(callFunc 56 args).run Tryz.prog w=.ok (.enter 56 args) w:=by simp [go_sem]
theorem CR.lev {c:WC} {w0:World} {nv nf bw bm b off:Nat} {st:ISt} {W:World} {i:Bool × Nat} (hC:E7 c w0 bw bm) (h:CR c w0 nv nf bw bm st W) (hib:(if i.1=true then c.la else c.ka)=some ⟨b,off,none⟩) (h1:i.1=true->i.2 < nv) (h2:i.1=false->i.2 < nf) :
  off=0/\(b < W.heap.size/\∀ j,W.frozen? ⟨b,j,none⟩=false)/\b≠bw/\b≠bm/\∃ rv wv,W.cell? ⟨b,i.2*2,none⟩=some rv/\W.cell? ⟨b,i.2*2+1,none⟩=some wv/\Ar c.n (XI c bm) W (zh #[rv,wv]) (st.at i):=by
 unfold ISt.at
 by_cases hi:i.1=true
 ·rw [if_pos hi] at hib ⊢
  have hlt:=h1 hi
  have hca:=hC.la _ hib
  have ho:off=0:=hca.1
  subst ho
  obtain ⟨ao,cap,hv,hel⟩:=h.vs
  injection hv with v1 v2 v3
  obtain ⟨b',o',hb',hel⟩:=hel (by intro e;have:=h.lv;rw [e] at this;simp at this;omega)
  rw [<-v1,hib] at hb'
  injection hb' with hb'
  injection hb' with hb1 hb2
  subst hb1 hb2
  have hlt2:i.2 < st.vs.length:=by have:=h.lv;omega
  obtain ⟨rv,wv,c0,c1,hl⟩:=hel i.2 hlt2
  simp only [Nat.zero_add] at c0 c1
  refine ⟨rfl,h.hl _ hib,hca.2.2.2.1,hca.2.2.2.2,rv,wv,c0,c1,?_⟩
  have e:st.vs.getD i.2 AU=st.vs[i.2]:=by simp [List.getD_eq_getElem?_getD,hlt2]
  rw [e]
  exact hl
 ·rw [if_neg hi] at hib ⊢
  have hlt:=h2 (by simpa using hi)
  have hca:=hC.ka _ hib
  have ho:off=0:=hca.1
  subst ho
  obtain ⟨ao,cap,hv,hel⟩:=h.fs
  injection hv with v1 v2 v3
  obtain ⟨b',o',hb',hel⟩:=hel (by intro e;have:=h.lf;rw [e] at this;simp at this;omega)
  rw [<-v1,hib] at hb'
  injection hb' with hb'
  injection hb' with hb1 hb2
  subst hb1 hb2
  have hlt2:i.2 < st.fs.length:=by have:=h.lf;omega
  obtain ⟨rv,wv,c0,c1,hl⟩:=hel i.2 hlt2
  simp only [Nat.zero_add] at c0 c1
  refine ⟨rfl,h.hk _ hib,hca.2.2.2.1,hca.2.2.2.2,rv,wv,c0,c1,?_⟩
  have e:st.fs.getD i.2 AU=st.fs[i.2]:=by simp [List.getD_eq_getElem?_getD,hlt2]
  rw [e]
  exact hl
abbrev Iu (bw:Nat) (c:WC) (W:World) (p1:Option Addr) (q1 r1:Nat) (p2:Option Addr) (q2 r2 b:Nat) (i:Bool × Nat) (m1:Option Addr) (m2 m3:Nat) (m4:Option Addr) (m5 m6:Nat) (Wz:World):Prop:=Wz.cell? ⟨bw,0,none⟩=some (U zd (c.n:Int))/\Wz.cell? ⟨bw,1,none⟩=some (O c.ga c.gn c.gc)/\Wz.cell? ⟨bw,2,none⟩=some (O c.sa c.sn c.sc)/\Wz.cell? ⟨bw,3,none⟩=some (O c.ya c.yn c.yc)/\Wz.cell? ⟨bw,4,none⟩=some (O c.oa c.on c.oc)/\Wz.cell? ⟨bw,5,none⟩=some (O c.va c.vn c.vc)/\Wz.cell? ⟨bw,6,none⟩=some (O c.fa c.fn c.fc)/\Wz.cell? ⟨bw,7,none⟩=some (O c.ba c.bn c.bc)/\Wz.cell? ⟨bw,8,none⟩=some (O c.la c.ln c.lc)/\Wz.cell? ⟨bw,9,none⟩=some (O c.ka c.kn c.kc)/\Wz.cell? ⟨W.heap.size,0,none⟩=some (O p1 q1 r1)/\Wz.cell? ⟨W.heap.size,1,none⟩=some (O p2 q2 r2)/\Wz.cell? ⟨b,i.2*2,none⟩=some (O m1 m2 m3)/\Wz.cell? ⟨b,i.2*2+1,none⟩=some (O m4 m5 m6)
abbrev L7 (bw:Nat) (c:WC) (W:World) (p1:Option Addr) (q1 r1:Nat) (p2:Option Addr) (q2 r2:Nat) (Wz:World):Prop:=Wz.cell? ⟨bw,0,none⟩=some (U zd (c.n:Int))/\Wz.cell? ⟨bw,1,none⟩=some (O c.ga c.gn c.gc)/\Wz.cell? ⟨bw,2,none⟩=some (O c.sa c.sn c.sc)/\Wz.cell? ⟨bw,3,none⟩=some (O c.ya c.yn c.yc)/\Wz.cell? ⟨bw,4,none⟩=some (O c.oa c.on c.oc)/\Wz.cell? ⟨bw,5,none⟩=some (O c.va c.vn c.vc)/\Wz.cell? ⟨bw,6,none⟩=some (O c.fa c.fn c.fc)/\Wz.cell? ⟨bw,7,none⟩=some (O c.ba c.bn c.bc)/\Wz.cell? ⟨bw,8,none⟩=some (O c.la c.ln c.lc)/\Wz.cell? ⟨bw,9,none⟩=some (O c.ka c.kn c.kc)/\Wz.cell? ⟨W.heap.size,0,none⟩=some (O p1 q1 r1)/\Wz.cell? ⟨W.heap.size,1,none⟩=some (O p2 q2 r2)
theorem Oo (c:WC) (w0:World) (nv bw bm:Nat) (fs gs) (n1:1<=c.n) (gr:AF w0 (O c.ga c.gn c.gc) gs) (chk:AL c.n gs=0) (hC:E7 c w0 bw bm) :
  Dd c nv fs (CR c w0 nv fs.length bw bm) (XI c bm) (C5 c.n) 56 (zi (some ⟨bw,0,none⟩)) (zi (some ⟨bm,0,none⟩)):=by
 intro st W v l i b off hI hl hi1 hi2 hib
 obtain ⟨rfl,⟨hbl,hfz⟩,hbw,hbm,rv,wv,c0,c1,hlv⟩:=CR.lev hC hI hib hi1 hi2
 obtain ⟨p1,q1,r1,p2,q2,r2,rfl⟩:=hl.form
 obtain ⟨m1,m2,m3,m4,m5,m6,hform⟩:=hlv.form
 simp at hform
 obtain ⟨rfl,rfl⟩:=hform
 have hba:Ov W (W.alloc (ze #[O p1 q1 r1,O p2 q2 r2] 50)):=bA W _
 have hI1:=hI.over hba
 have hl1:=hl.over (E8 c bm) hba
 have hlv1:=hlv.over (E8 c bm) hba
 obtain ⟨l0,l1⟩:=co2 hba c0 c1
 have L0:=Aa l0
 have L1:=Aa l1
 have rowB:=Ad.new [O p1 q1 r1,O p2 q2 r2] 50 W
 have hgr:=Af gr hI1.below
 have KF:=Aa fun (W2:World) (hb2:Ov (W.alloc (ze #[O p1 q1 r1,O p2 q2 r2] 50)) W2)=>Nk (c.n:Int) c.ga c.gn c.gc c.sa c.sn c.sc c.ya c.yn c.yc c.oa c.on c.oc c.va c.vn c.vc c.fa c.fn c.fc c.ba c.bn c.bc c.la c.ln c.lc c.ka c.kn c.kc gs (O p1 q1 r1) (O p2 q2 r2) (O m1 m2 m3) (O m4 m5 m6) l (st.at i) W2 (Af hgr hb2) (AJ hl1.at_ hb2) (AJ hlv1.at_ hb2) (Eg chk hl1.len hlv1.len)
 have KJ:=Aa fun (W2:World) (hb2:Ov (W.alloc (ze #[O p1 q1 r1,O p2 q2 r2] 50)) W2)=>Ku (c.n:Int) c.ga c.gn c.gc c.sa c.sn c.sc c.ya c.yn c.yc c.oa c.on c.oc c.va c.vn c.vc c.fa c.fn c.fc c.ba c.bn c.bc c.la c.ln c.lc c.ka c.kn c.kc gs (O m1 m2 m3) (O m4 m5 m6) (O p1 q1 r1) (O p2 q2 r2) (st.at i) l W2 (Af hgr hb2) (AJ hlv1.at_ hb2) (AJ hl1.at_ hb2) (Eg chk hlv1.len hl1.len)
 simp only [Int.toNat_natCast] at KF
 obtain ⟨fb,hfb⟩:=nm (AE l (st.at i) c.n)
 rw [<-hfb] at KF
 have HFB:=Aa hfb.symm
 have HC:=Aa hC
 have HI:=Aa hI1
 have HR:=Aa hI1.row
 have HRB:=Aa rowB
 have HIB:=Aa (And.intro n1 hib)
 have HF0:=Aa (FrW.of_below (E8 c bm) hba)
 have HBL:=Aa (show b < (W.alloc (ze #[O p1 q1 r1,O p2 q2 r2] 50)).heap.size by simp;omega)
 have HFZ:=Aa (show ∀ j,(W.alloc (ze #[O p1 q1 r1,O p2 q2 r2] 50)).frozen? ⟨b,j,none⟩=false from fun j=>((Am hba).2 _ _ hbl).trans (hfz j))
 have HML:=Aa (bL hI1.more)
 have HMZ:=Aa hI1.mz
 have HMC:=Aa hI1.more
 have HNE:=Aa (Ne.symm hbm)
 have HBN:=Aa hbw
 have HBN2:=Aa (show b≠W.heap.size by omega)
 have HR1:=Aa hi1
 have HR2:=Aa hi2
 obtain ⟨t0,t1,t2,t3,t4,t5,t6,t7,t8,t9⟩:=Ca hI1.row
 obtain ⟨b0,b1⟩:=rc2 rowB
 have hS0:Iu bw c W p1 q1 r1 p2 q2 r2 b i m1 m2 m3 m4 m5 m6 (W.alloc (ze #[O p1 q1 r1,O p2 q2 r2] 50)):=⟨t0,t1,t2,t3,t4,t5,t6,t7,t8,t9,b0,b1,l0,l1⟩
 clear hI hl hlv hI1 hl1 hlv1 rowB hgr hfb hba c0 c1 hfz hi1 hi2 hC gr chk hbw hbm hbl hib n1
 go_enter Tryz.func56,Tryz.ntmps56
 rw [Nat.zero_add]
 cases fb with
 | true=>
  go_wp2_with fail
  refine gS (Iu bw c W p1 q1 r1 p2 q2 r2 b i m1 m2 m3 m4 m5 m6) (hS0) fun hHeld=>?_
  refine kT 0 ?_
  refine kT 1 ?_
  refine kT 2 ?_
  refine kT 3 ?_
  refine kT 4 ?_
  refine kT 5 ?_
  refine rdA 6 rfl fun K hK=>?_
  go_simp
  refine (KF.o _ (bD _)).mono ?_
  rintro e W2 ⟨rfl,hb2⟩
  have hbz:=Ac ((Below.refl _ (W.alloc (ze #[O p1 q1 r1,O p2 q2 r2] 50))).drew) hb2
  have hr0:=HR.o.over hbz
  have hr1:=HRB.o.over hbz
  have hS2:Iu bw c W p1 q1 r1 p2 q2 r2 b i m1 m2 m3 m4 m5 m6 W2:=⟨hr0 0 _ rfl,hr0 1 _ rfl,hr0 2 _ rfl,hr0 3 _ rfl,hr0 4 _ rfl,hr0 5 _ rfl,hr0 6 _ rfl,hr0 7 _ rfl,hr0 8 _ rfl,hr0 9 _ rfl,hr1 0 _ rfl,hr1 1 _ rfl,Ab hbz _ _ l0,Ab hbz _ _ l1⟩
  have HBZ:=Aa hbz
  clear hr0 hr1 hb2 hbz
  go_simp
  refine xK hK (hS2) fun hHeld=>?_
  clear hK K
  refine rdA 7 rfl fun K hK=>?_
  go_simp
  refine xK hK (hS2) fun hHeld=>?_
  clear hK K
  refine gE ?_
  go_wp2_with fail
  go_end0
  refine ⟨rfl,?_,HF0.o.trans (FrW.of_below (E8 c bm) HBZ.o)⟩
  unfold C5
  rw [if_pos HFB.o]
  exact HI.o.over HBZ.o
 | false=>
  go_wp2_with fail
  refine gS (Iu bw c W p1 q1 r1 p2 q2 r2 b i m1 m2 m3 m4 m5 m6) (hS0) fun hHeld=>?_
  refine kT 0 ?_
  refine kT 1 ?_
  refine kT 2 ?_
  refine kT 3 ?_
  refine kT 4 ?_
  refine kT 5 ?_
  refine rdA 6 rfl fun K hK=>?_
  go_simp
  refine (KF.o _ (bD _)).mono ?_
  rintro e W2 ⟨rfl,hb2⟩
  have hbz:=Ac ((Below.refl _ (W.alloc (ze #[O p1 q1 r1,O p2 q2 r2] 50))).drew) hb2
  have hr0:=HR.o.over hbz
  have hr1:=HRB.o.over hbz
  have hS2:Iu bw c W p1 q1 r1 p2 q2 r2 b i m1 m2 m3 m4 m5 m6 W2:=⟨hr0 0 _ rfl,hr0 1 _ rfl,hr0 2 _ rfl,hr0 3 _ rfl,hr0 4 _ rfl,hr0 5 _ rfl,hr0 6 _ rfl,hr0 7 _ rfl,hr0 8 _ rfl,hr0 9 _ rfl,hr1 0 _ rfl,hr1 1 _ rfl,Ab hbz _ _ l0,Ab hbz _ _ l1⟩
  have HBZ:=Aa hbz
  clear hr0 hr1 hb2 hbz
  go_simp
  refine xK hK (hS2) fun hHeld=>?_
  clear hK K
  refine rdA 7 rfl fun K hK=>?_
  go_simp
  refine xK hK (hS2) fun hHeld=>?_
  clear hK K
  refine gE ?_
  clear hS0 t0 t1 t2 t3 t4 t5 t6 t7 t8 t9 b0 b1
  obtain ⟨l0,l1⟩:=co2 HBZ.o l0 l1
  have t0:=HR.o.over HBZ.o 0 _ rfl
  have t1:=HR.o.over HBZ.o 1 _ rfl
  have t2:=HR.o.over HBZ.o 2 _ rfl
  have t3:=HR.o.over HBZ.o 3 _ rfl
  have t4:=HR.o.over HBZ.o 4 _ rfl
  have t5:=HR.o.over HBZ.o 5 _ rfl
  have t6:=HR.o.over HBZ.o 6 _ rfl
  have t7:=HR.o.over HBZ.o 7 _ rfl
  have t8:=HR.o.over HBZ.o 8 _ rfl
  have t9:=HR.o.over HBZ.o 9 _ rfl
  have b0:=HRB.o.over HBZ.o 0 _ rfl
  have b1:=HRB.o.over HBZ.o 1 _ rfl
  have hS0:L7 bw c W p1 q1 r1 p2 q2 r2 W2:=⟨t0,t1,t2,t3,t4,t5,t6,t7,t8,t9,b0,b1⟩
  clear hS2
  go_wp2_with fail
  refine gS (L7 bw c W p1 q1 r1 p2 q2 r2) (hS0) fun hHeld=>?_
  refine kT 0 ?_
  refine kT 1 ?_
  refine kT 2 ?_
  refine kT 3 ?_
  refine kT 4 ?_
  refine kT 6 ?_
  refine rdA 5 rfl fun K hK=>?_
  go_simp
  refine xK hK (hHeld) fun hHeld=>?_
  clear hK K
  refine rdA 7 rfl fun K hK=>?_
  go_simp
  refine (KJ.o W2.drew (Ac HBZ.o (bD _))).mono ?_
  rintro e W3 ⟨vj,rfl,hfr,hb3⟩
  have hfr2:AY W2.drew W3 vj (BE (st.at i) l c.n):=by simpa using hfr
  obtain ⟨k1,k2,k3,k4,k5,k6,hvj⟩:∃ a1 a2 a3 a4 a5 a6,vj=zh #[O a1 a2 a3,O a4 a5 a6]:=by
   obtain ⟨x,y,e,-⟩:=An hfr2
   subst e
   obtain ⟨z1,z2,z3,z4,z5,z6,rfl,rfl⟩:=AR (An hfr2)
   exact ⟨_,_,_,_,_,_,rfl⟩
  subst hvj
  have hbz:=Ac (Ac HBZ.o (bD W2)) hb3
  have hr0:=HR.o.over hbz
  have hr1:=HRB.o.over hbz
  have hS3:L7 bw c W p1 q1 r1 p2 q2 r2 W3:=⟨hr0 0 _ rfl,hr0 1 _ rfl,hr0 2 _ rfl,hr0 3 _ rfl,hr0 4 _ rfl,hr0 5 _ rfl,hr0 6 _ rfl,hr0 7 _ rfl,hr0 8 _ rfl,hr0 9 _ rfl,hr1 0 _ rfl,hr1 1 _ rfl⟩
  have HBZ3:=Aa hbz
  have HFR3:=Aa (show Ar c.n (XI c bm) W3 (zh #[O k1 k2 k3,O k4 k5 k6]) (BE (st.at i) l c.n) from ⟨An hfr2,Gh _ _ _,BR (E8 c bm) hb3 (fun k hk=>by have:=(Pd HC.o HI.o k hk);have:=hb3.size;have:=HBZ.o.size;simp at *;omega) (Be hfr2)⟩)
  have x0:=Ab hbz _ _ L0.o
  have x1:=Ab hbz _ _ L1.o
  have xf0:W3.frozen? ⟨b,i.2*2,none⟩=false:=((Am hbz).2 _ _ HBL.o).trans (HFZ.o _)
  have xf1:W3.frozen? ⟨b,i.2*2+1,none⟩=false:=((Am hbz).2 _ _ HBL.o).trans (HFZ.o _)
  have mz3:W3.frozen? ⟨bm,0,none⟩=false:=((Am hbz).2 _ _ HML.o).trans HMZ.o
  have mc3:=Ab hbz _ _ HMC.o
  clear hr0 hr1 hb3 hbz hfr hfr2
  go_simp
  refine xK hK (hS3) fun hHeld=>?_
  clear hK K
  refine rdA 8 rfl fun K hK=>?_
  go_simp
  refine xK hK (hS3) fun hHeld=>?_
  clear hK K
  refine rdA 9 rfl fun K hK=>?_
  go_simp
  refine xK hK (by have hne:=HBN.o;have hne2:=HBN2.o;obtain ⟨t0,t1,t2,t3,t4,t5,t6,t7,t8,t9,t10,t11⟩:=hS3;exact ⟨by simp [go_sem,t0],by simp [go_sem,t1],by simp [go_sem,t2],by simp [go_sem,t3],by simp [go_sem,t4],by simp [go_sem,t5],by simp [go_sem,t6],by simp [go_sem,t7],by simp [go_sem,t8],by simp [go_sem,t9],by simp [go_sem,t10],by simp [go_sem,t11]⟩) fun hHeld=>?_
  clear hK K
  refine gE ?_
  have hfin:=HC.o.upd HI.o HIB.o HBZ3.o HFR3.o HR1.o HR2.o
  have mc4:((W3.setCell ⟨b,i.2*2,none⟩ (O k1 k2 k3)).setCell ⟨b,i.2*2+1,none⟩ (O k4 k5 k6)).cell? ⟨bm,0,none⟩=some (zg st.more):=by
   have hne:=HNE.o
   simp [go_sem,mc3]
  have mz4:((W3.setCell ⟨b,i.2*2,none⟩ (O k1 k2 k3)).setCell ⟨b,i.2*2+1,none⟩ (O k4 k5 k6)).frozen? ⟨bm,0,none⟩=false:=by simp [go_sem,mz3]
  have HFIN:=Aa hfin
  clear hfin hS3 x0 x1 xf0 xf1 mc3 mz3
  go_wp2_with fail
  go_end0
  refine ⟨rfl,?_,HF0.o.trans HFIN.o.2⟩
  unfold C5
  rw [if_neg (by rw [HFB.o];simp)]
  exact HFIN.o.1
theorem M0 {P:Nat->Prop}:∀ n,P n->∃ m,P m/\∀ k,P k->m<=k:=by
 intro n
 induction n using Nat.strongRecOn with
 | ind n ih=>
  intro h
  by_cases hx:∃ k,k < n/\P k
  ·obtain ⟨k,hk,hp⟩:=hx
   exact ih k hk hp
  ·exact ⟨n,h,fun k hk=>Nat.le_of_not_lt fun hlt=>hx ⟨k,hlt,hk⟩⟩
theorem LA {α:Type} (P:α->Nat->Prop):∃ μ:α->Nat,∀ a n,P a n->P a (μ a)/\∀ k,P a k->μ a<=k:=by
 have h:∀ a,∃ m,∀ n,P a n->P a m/\∀ k,P a k->m<=k:=fun a=>by
  by_cases hx:∃ n,P a n
  ·obtain ⟨n,hn⟩:=hx
   obtain ⟨m,h1,h2⟩:=M0 n hn
   exact ⟨m,fun _ _=>⟨h1,h2⟩⟩
  ·exact ⟨0,fun n hn=>absurd ⟨n,hn⟩ hx⟩
 exact ⟨fun a=>Classical.choose (h a),fun a=>Classical.choose_spec (h a)⟩
def Cm (n K kf:Nat) (known:List Bool) (ins:List Lev) (fs:List FnD) (main:List D) (st0:ISt):Nat->ISt
 | 0=>st0
 | k+1=>G8 n K kf known ins fs main ⟨(Cm n K kf known ins fs main st0 k).vs,(Cm n K kf known ins fs main st0 k).fs,false⟩
def Cz (gs:List (Int × Int)) (n:Nat) (vs:List (Bool × Lab)) (nf:Nat):ISt:=⟨DG gs n vs,List.replicate nf (Bs n),true⟩
def D1 (n K kf:Nat) (gs:List (Int × Int)) (vs:List (Bool × Lab)) (ls:List Lab) (fs:List FnD) (main:List D) (st:ISt):Prop:=
 ∃ k,st=Cm n K kf (vs.map Prod.fst) (ls.map (Av (Ay gs) n)) fs main (Cz gs n vs fs.length) (k+1)/\st.more=false/\∀ j,j < k->(Cm n K kf (vs.map Prod.fst) (ls.map (Av (Ay gs) n)) fs main (Cz gs n vs fs.length) (j+1)).more=true
theorem P9 {W:World} {B e s n:Nat} {a:Addr} {ln lc:Nat} {us:List Value} (h:W.ownsRow B e s (O (some a) ln lc) n us):a.off=0/\a.spot=none/\B<=a.block/\a.block < W.heap.size/\∀ j,W.frozen? ⟨a.block,j,none⟩=false:=by
 rcases h.2 with ⟨h,-⟩ | ⟨g,cap,cur,h,hb,hg,-⟩
 ·cases h
 ·injection h with h1 h2 h3
  injection h1 with h1
  subst h1
  exact ⟨rfl,rfl,hb,(Array.getElem?_eq_some_iff.1 hg).1,fun j=>by simp [World.frozen?,hg]⟩
theorem F7 {n B:Nat} {W:World} {a:Addr} {ln lc:Nat} {Ls:List Lev} (h:AM n B W (O (some a) ln lc) Ls):a.off=0/\a.spot=none/\B<=a.block/\a.block < W.heap.size/\∀ j,W.frozen? ⟨a.block,j,none⟩=false:=by
 obtain ⟨us,ho,-⟩:=h
 exact P9 ho
theorem Es {n B:Nat} {X:World->Nat->Prop} {W:World} {v:Value} {Ls:List Lev} (n1:1<=n) (h:AM n B W v Ls) (hx:∀ k,X W k->Eo W k\/W.heap.size<=k):A1 n X W v Ls:=by
 obtain ⟨us,ho,hel⟩:=h
 have hlen:=ho.1
 have key:∀ (u:Value) (l:List Bool),AH W u l->l.length=n->T4 W u->∀ a m c,u=O (some a) m c->¬ X W a.block:=by
  intro u l hb hl ht a m c hu hxx
  obtain ⟨cur,fr,he⟩:=ht a m c hu
  rcases hx _ hxx with h | h
  ·exact h cur fr he
  ·have:=(Array.getElem?_eq_some_iff.1 he).1
   omega
 have mk:∀ (x y:Value) (l:Lev),EL n W (zh #[x,y]) l->Ar n X W (zh #[x,y]) l:=by
  intro x y l ht
  obtain ⟨x',y',e,tx,ty⟩:=ht.ty
  simp at e
  obtain ⟨rfl,rfl⟩:=e
  obtain ⟨x',y',e,bx,by'⟩:=ht.at_
  simp at e
  obtain ⟨rfl,rfl⟩:=e
  exact ⟨ht.at_,ht.len,x,y,rfl,key _ _ bx ht.len.1 tx,key _ _ by' ht.len.2 ty⟩
 rcases ho.2 with ⟨h,h0⟩ | ⟨g,cap,cur,h,hb,hg,hc1,hc2,hc3,hc4⟩
 ·have:Ls=[]:=List.eq_nil_of_length_eq_zero h0
  subst this
  exact ⟨none,0,h,fun h=>absurd rfl h⟩
 ·refine ⟨some ⟨g,0,none⟩,cap,h,fun hne=>⟨g,0,rfl,fun i hi=>?_⟩⟩
  obtain ⟨x,y,e0,e1,hl⟩:=hel i hi
  have hcell:∀ j u,us[j]? = some u->W.cell? ⟨g,0+j,none⟩=some u:=fun j u hu=>by
   rw [Nat.zero_add,Lib.cell_of_heap hg]
   rw [<-hc4,List.getElem?_take] at hu
   split at hu
   ·simpa using hu
   ·cases hu
  exact ⟨x,y,hcell _ _ e0,by have:=hcell _ _ e1;simpa [Nat.add_assoc] using this,mk x y _ hl⟩
theorem Nj {fs:List FnD} {i:Int} (h0:0<=i) (h1:i < fs.length):Cv fs i∈fs:=by
 unfold Cv
 rw [List.getD_eq_getElem?_getD,List.getElem?_eq_getElem (by omega:i.toNat < fs.length)]
 exact List.getElem_mem _
theorem M8 {K nv ni no:Nat} {funcs:Int} {fs:List FnD} {d:D} (h:Cq K nv ni no funcs fs d) (hf:funcs<=fs.length) (hp:∀ f∈fs,∀ p∈f.ps,0<=p/\p < (nv:Int)):inR nv fs.length fs d:=by
 obtain ⟨-,hv,h2,-⟩:=h
 refine ⟨fun hk=>by have:=hv hk;omega,fun hk=>?_⟩
 obtain ⟨⟨a,b⟩,-,-⟩:=h2 hk
 refine ⟨by omega,fun v hv=>?_⟩
 have:=hp _ (Nj a (by omega)) v hv
 omega
theorem Lm (n K kf nv ni no:Nat) (known:List Bool) (ins) (fs:List FnD) (main:List D) (st:ISt) (hof:∀ i (h:i < fs.length),okF K nv ni no (i:Int) fs kf fs[i]) (hom:∀ s∈main,okS K nv ni no (fs.length:Int) fs kf s) :
  CA n nv fs.length st (G8 n K kf known ins fs main st):=by
 have hp:∀ f∈fs,∀ p∈f.ps,0<=p/\p < (nv:Int):=fun f hf=>by
  obtain ⟨i,hi,rfl⟩:=List.getElem_of_mem hf
  exact (hof i hi).2.1
 exact I7 n K ISt.vs _ (P:=fun _ _=>True) (Pm:=okS K nv ni no (fs.length:Int) fs) (P1:=inR nv fs.length fs) (fun k d h=>⟨M8 h.1 (by omega) hp,h.2⟩) (Q:=fun i k d=>i<=fs.length/\okS K nv ni no (i:Int) fs k d)
  (fun i k d h=>⟨M8 h.2.1 (by omega) hp,fun s hs=>⟨h.1,h.2.2.1 s hs⟩,fun s hs=>⟨h.1,h.2.2.2 s hs⟩⟩) (R:=CA n nv fs.length) (CA.refl n nv fs.length) CA.trans (fun a d p st hd=>Nv n nv fs.length K known ins fs a d p st hd) ISt.fs kf fs main st
  (fun i hi s hs=>⟨by omega,(hof i hi).2.2.1 s hs⟩) hom
theorem Ar.mono {n:Nat} {X Y:World->Nat->Prop} {W:World} {v:Value} {l:Lev} (n1:1<=n) (h:Ar n X W v l) (hx:∀ k,k < W.heap.size->Y W k->X W k):Ar n Y W v l:=by
 obtain ⟨x,y,hv,h1,h2⟩:=h.off
 obtain ⟨x',y',hv',bx,by'⟩:=h.at_
 rw [hv] at hv'
 simp at hv'
 obtain ⟨rfl,rfl⟩:=hv'
 have lt:∀ (v:Value) (l:List Bool),AH W v l->l.length=n->∀ a m c,v=O (some a) m c->a.block < W.heap.size:=by
  intro v l hb hl a m c e
  obtain ⟨ao,cap,hv,hel⟩:=hb
  obtain ⟨b,off,hao,hel⟩:=hel (by rintro rfl;simp at hl;omega)
  rw [hv,hao] at e
  injection e with e1
  injection e1 with e1
  rw [<-e1]
  exact bL (hel 0 (by omega))
 exact ⟨h.at_,h.len,x,y,hv,fun a m c e hh=>h1 a m c e (hx _ (lt _ _ bx h.len.1 a m c e) hh),fun a m c e hh=>h2 a m c e (hx _ (lt _ _ by' h.len.2 a m c e) hh)⟩
theorem A1.mono {n:Nat} {X Y:World->Nat->Prop} {W:World} {v:Value} {ls:List Lev} (n1:1<=n) (h:A1 n X W v ls) (hx:∀ k,k < W.heap.size->Y W k->X W k):A1 n Y W v ls:=by
 obtain ⟨ao,cap,hv,hel⟩:=h
 refine ⟨ao,cap,hv,fun hne=>?_⟩
 obtain ⟨b,off,hao,hel⟩:=hel hne
 refine ⟨b,off,hao,fun i hi=>?_⟩
 obtain ⟨rv,wv,h1,h2,h3⟩:=hel i hi
 exact ⟨rv,wv,h1,h2,h3.mono n1 hx⟩
theorem CR.setM {c:WC} {w0:World} {nv nf bw bm:Nat} {st:ISt} {W:World} {b:Bool} (n1:1<=c.n) (hC:E7 c w0 bw bm) (h:CR c w0 nv nf bw bm st W):CR c w0 nv nf bw bm ⟨st.vs,st.fs,b⟩ (W.setCell ⟨bm,0,none⟩ (zg b)):=by
 have hsz:(W.setCell ⟨bm,0,none⟩ (zg b)).heap.size=W.heap.size:=by simp [World.setCell]
 have hblk:∀ k,k≠bm->(W.setCell ⟨bm,0,none⟩ (zg b)).heap[k]? = W.heap[k]?:=fun k hk=>Bf (Ne.symm hk) _
 have hF:FrW (XI c bm) W (W.setCell ⟨bm,0,none⟩ (zg b)):=⟨rfl,rfl,rfl,by omega,fun k _ hx=>hblk k (fun e=>hx (Or.inr (Or.inr e))),fun k _ hx=>hx⟩
 have cne:∀ b' o' u,b'≠bm->W.cell? ⟨b',o',none⟩=some u->(W.setCell ⟨bm,0,none⟩ (zg b)).cell? ⟨b',o',none⟩=some u:=fun b' o' u hm hc=>(World.cell?_of_block (a:=⟨b',o',none⟩) (hblk b' hm)).trans hc
 have fzz:∀ b' j,(W.setCell ⟨bm,0,none⟩ (zg b)).frozen? ⟨b',j,none⟩=W.frozen? ⟨b',j,none⟩:=fun b' j=>by simp [go_sem]
 refine ⟨h.below.setCell (p:=⟨bm,0,none⟩) hC.m.1 _,h.vs.keep n1 hF (fun b' o' ln cp hv j u hc=>?_),h.fs.keep n1 hF (fun b' o' ln cp hv j u hc=>?_),h.lv,h.lf,World.cell?_setCell_same _ _ _ h.more,(fzz _ _).trans h.mz,fun j u hu=>cne _ _ _ hC.m.2 (h.row j u hu),fun a e=>⟨by rw [hsz];exact (h.hl a e).1,fun j=>(fzz _ _).trans ((h.hl a e).2 j)⟩,fun a e=>⟨by rw [hsz];exact (h.hk a e).1,fun j=>(fzz _ _).trans ((h.hk a e).2 j)⟩⟩
 ·injection hv with v1
  exact cne _ _ _ (hC.la _ v1).2.2.2.2 hc
 ·injection hv with v1
  exact cne _ _ _ (hC.ka _ v1).2.2.2.2 hc
theorem CR.newM {c:WC} {w0:World} {nv nf bw bm:Nat} {st:ISt} {W:World} (n1:1<=c.n) (hC:E7 c w0 bw bm) (h:CR c w0 nv nf bw bm st W):CR c w0 nv nf bw W.heap.size st (W.alloc (ze #[zg st.more] 4)):=by
 have hb:Ov W (W.alloc (ze #[zg st.more] 4)):=bA W _
 have hx:∀ k,k < W.heap.size->XI c W.heap.size W k->XI c bm W k:=fun k hk hx=>by
  rcases hx with h | h | h
  ·exact Or.inl h
  ·exact Or.inr (Or.inl h)
  ·omega
 exact ⟨h.below.trans (hb.mono h.below.size),(h.vs.mono n1 hx).over (E8 c _) hb,(h.fs.mono n1 hx).over (E8 c _) hb,h.lv,h.lf,by simp [go_sem],by simp [go_sem],h.row.over hb,
  fun a e=>⟨Nat.lt_of_lt_of_le (h.hl a e).1 hb.size,fun j=>((Am hb).2 _ _ (h.hl a e).1).trans ((h.hl a e).2 j)⟩,fun a e=>⟨Nat.lt_of_lt_of_le (h.hk a e).1 hb.size,fun j=>((Am hb).2 _ _ (h.hk a e).1).trans ((h.hk a e).2 j)⟩⟩
theorem E7.newM {c:WC} {w0:World} {nv nf bw bm:Nat} {st:ISt} {W:World} (hC:E7 c w0 bw bm) (h:CR c w0 nv nf bw bm st W) (hw:bw < W.heap.size):E7 c w0 bw W.heap.size:=
 ⟨fun a e=>by have:=hC.la a e;have h2:=(h.hl a e).1;exact ⟨this.1,this.2.1,this.2.2.1,this.2.2.2.1,by omega⟩,fun a e=>by have:=hC.ka a e;have h2:=(h.hk a e).1;exact ⟨this.1,this.2.1,this.2.2.1,this.2.2.2.1,by omega⟩,hC.lk,h.below.size,by omega⟩
theorem I2 {n:Nat} {X:World->Nat->Prop} {W:World} {rb:Nat} {x y v:Value} {Ls:List Lev} (h:A1 n X W v Ls) (hr:∀ j u,W.cell? ⟨rb,j,none⟩=some u->∃ a m c,u=O a m c) (hv:∀ a m c,v=O (some a) m c->a.block≠rb):BI ((W.setCell ⟨rb,0,none⟩ x).setCell ⟨rb,1,none⟩ y) v Ls:=by
 have cne:∀ b' o' u,b'≠rb->W.cell? ⟨b',o',none⟩=some u->((W.setCell ⟨rb,0,none⟩ x).setCell ⟨rb,1,none⟩ y).cell? ⟨b',o',none⟩=some u:=fun b' o' u hm hc=>by
  rw [Cs (Or.inl (Ne.symm hm)),Cs (Or.inl (Ne.symm hm))];exact hc
 have hbo:∀ u l,AH W u l->AH ((W.setCell ⟨rb,0,none⟩ x).setCell ⟨rb,1,none⟩ y) u l:=by
  intro u l ⟨ao,cap,e,hel⟩
  refine ⟨ao,cap,e,fun hne=>?_⟩
  obtain ⟨b,off,hao,hel⟩:=hel hne
  refine ⟨b,off,hao,fun i hi=>cne _ _ _ (fun eb=>?_) (hel i hi)⟩
  subst eb
  obtain ⟨a,m,c,e⟩:=hr _ _ (hel i hi)
  cases e
 obtain ⟨ao,cap,hv',hel⟩:=h
 refine ⟨ao,cap,hv',fun hne=>?_⟩
 obtain ⟨b,off,hao,hel⟩:=hel hne
 have hb:b≠rb:=hv _ _ _ (by rw [hv',hao])
 refine ⟨b,off,hao,fun i hi=>?_⟩
 obtain ⟨rv,wv,h1,h2,h3⟩:=hel i hi
 obtain ⟨x',y',e,bx,by'⟩:=h3.at_
 exact ⟨rv,wv,cne _ _ _ hb h1,cne _ _ _ hb h2,x',y',e,hbo _ _ bx,hbo _ _ by'⟩
theorem IP {n B:Nat} {W:World} {a:Option Addr} {ln lc:Nat} {Ls:List Lev} (h:AM n B W (O a ln lc) Ls):a=none->lc=0:=by
 obtain ⟨us,ho,-⟩:=h
 intro e
 rcases ho.2 with ⟨h,-⟩ | ⟨g,cap,cur,h,-⟩
 ·injection h with h1 h2 h3
 ·injection h with h1 h2 h3
  rw [e] at h1
  cases h1
theorem M9 (c:WC) {w1 w2:World} {Ls Fs:List Lev} {nv nf:Nat} (n1:1<=c.n) (hv:AM c.n w1.heap.size w2 (O c.la c.ln c.lc) Ls) (hk:AM c.n w1.heap.size w2 (O c.ka c.kn c.kc) Fs) (hap:Value.ownBlock (O c.la c.ln c.lc)=none\/Value.ownBlock (O c.la c.ln c.lc)≠Value.ownBlock (O c.ka c.kn c.kc)) (hb2:Ov w1 w2) (hlv:Ls.length=nv) (hlf:Fs.length=nf) :
  E7 c w1 w2.heap.size (w2.heap.size+1)/\CR c w1 nv nf w2.heap.size (w2.heap.size+1) ⟨Ls,Fs,true⟩ ((w2.alloc (.cells c.cs.toArray 110)).alloc (ze #[zg true] 4)):=by
 have e1:∀ a,c.la=some a->a.off=0/\a.spot=none/\w1.heap.size<=a.block/\a.block < w2.heap.size/\(∀ j,w2.frozen? ⟨a.block,j,none⟩=false)/\Eo w2 a.block:=fun a e=>by
  rw [e] at hv
  obtain ⟨o1,o2,o3,o4,o5⟩:=F7 hv
  obtain ⟨-,cur,fr,hh⟩:=BP hv a.block (by simp [Value.ownBlock])
  exact ⟨o1,o2,o3,o4,o5,fun cur' fr' h'=>by rw [hh] at h';injection h' with h';injection h' with h1 h2;exact absurd h2 (by decide)⟩
 have e2:∀ a,c.ka=some a->a.off=0/\a.spot=none/\w1.heap.size<=a.block/\a.block < w2.heap.size/\(∀ j,w2.frozen? ⟨a.block,j,none⟩=false)/\Eo w2 a.block:=fun a e=>by
  rw [e] at hk
  obtain ⟨o1,o2,o3,o4,o5⟩:=F7 hk
  obtain ⟨-,cur,fr,hh⟩:=BP hk a.block (by simp [Value.ownBlock])
  exact ⟨o1,o2,o3,o4,o5,fun cur' fr' h'=>by rw [hh] at h';injection h' with h';injection h' with h1 h2;exact absurd h2 (by decide)⟩
 have hx:∀ k,XI c (w2.heap.size+1) w2 k->Eo w2 k\/w2.heap.size<=k:=fun k h=>by
  rcases h with ⟨a,e,rfl⟩ | ⟨a,e,rfl⟩ | rfl
  ·exact Or.inl (e1 a e).2.2.2.2.2
  ·exact Or.inl (e2 a e).2.2.2.2.2
  ·exact Or.inr (by omega)
 have hb:Ov w2 ((w2.alloc (.cells c.cs.toArray 110)).alloc (ze #[zg true] 4)):=(bA w2 _).alloc (by simp) _
 refine ⟨⟨fun a e=>?_,fun a e=>?_,fun a b ea eb=>?_,?_,by omega⟩,⟨Ac hb2 hb,(Es n1 hv hx).over (E8 c _) hb,(Es n1 hk hx).over (E8 c _) hb,hlv,hlf,?_,?_,?_,fun a e=>?_,fun a e=>?_⟩⟩
 ·obtain ⟨o1,o2,o3,o4,-⟩:=e1 a e;exact ⟨o1,o2,o3,by omega,by omega⟩
 ·obtain ⟨o1,o2,o3,o4,-⟩:=e2 a e;exact ⟨o1,o2,o3,by omega,by omega⟩
 ·rw [ea,eb] at hap
  rcases hap with h | h
  ·simp [Value.ownBlock] at h
  ·intro e;apply h;simp [Value.ownBlock,e]
 ·have:=hb2.size;omega
 ·simp [go_sem]
 ·simp [go_sem]
 ·exact (Ad.new c.cs 110 w2).over (bA _ _)
 ·obtain ⟨o1,o2,o3,o4,o5,-⟩:=e1 a e
  exact ⟨Nat.lt_of_lt_of_le o4 hb.size,fun j=>((Am hb).2 _ _ o4).trans (o5 j)⟩
 ·obtain ⟨o1,o2,o3,o4,o5,-⟩:=e2 a e
  exact ⟨Nat.lt_of_lt_of_le o4 hb.size,fun j=>((Am hb).2 _ _ o4).trans (o5 j)⟩
def QO (c:WC) (K kf:Nat) (gs:List (Int × Int)) (vs:List (Bool × Lab)) (ls:List Lab) (fs:List FnD) (l:List D) (w0:World) (bw:Nat) (x:Value × World) (N:Nat):Prop:=
 ∃ bm k,x.1=zi (some ⟨bm,0,none⟩)/\E7 c w0 bw bm/\CR c w0 vs.length fs.length bw bm (Cm c.n K kf (vs.map Prod.fst) (ls.map (Av (Ay gs) c.n)) fs l (Cz gs c.n vs fs.length) k) x.2/\bw < x.2.heap.size /\
  N=2*Dn c.n (Cm c.n K kf (vs.map Prod.fst) (ls.map (Av (Ay gs) c.n)) fs l (Cz gs c.n vs fs.length) k)+(if (Cm c.n K kf (vs.map Prod.fst) (ls.map (Av (Ay gs) c.n)) fs l (Cz gs c.n vs fs.length) k).more=true then 1 else 0) /\
  ∀ j,j < k->(Cm c.n K kf (vs.map Prod.fst) (ls.map (Av (Ay gs) c.n)) fs l (Cz gs c.n vs fs.length) j).more=true
def Ir (K kf:Nat) (m:Int) (vn yn on:Nat) (gs:List (Int × Int)) (sp:List Int) (ls ms:List Lab) (vs:List (Bool × Lab)) (fs:List FnD) (l:List D) (P:Int->Prop) (w:World) (e:Ending) (w':World):Prop:=
 ∃ why:Int,P why/\Ov w w'/\((why≠0/\e=zj (zk #[zh #[O none 0 0,O none 0 0],U zd why])) \/
  (why=0/\okP K kf m vn yn on gs sp ls ms vs fs l/\∃ (n:Nat) (st:ISt) (la:Option Addr) (ln lc:Nat) (ka:Option Addr) (kn kc:Nat),m=n/\e=zj (zk #[zh #[O la ln lc,O ka kn kc],U zd 0])/\BI w' (O la ln lc) st.vs/\BI w' (O ka kn kc) st.fs/\(∀ x∈st.vs,x.len n)/\(∀ x∈st.fs,x.len n)/\st.vs.length=vn/\st.fs.length=fs.length/\D1 n K kf gs vs ls fs l st/\(la=none->lc=0)/\(ka=none->kc=0)))
theorem NY (K kf n:Nat) (h1:1<=n) (h6:n<=6) (ga gn gc sa sn sc ya yn yc oa on oc va vn vc fa fn fc ba bn bc gs sp ls ms vs fs l) (w:World) (h:Br K kf (n:Int) ga gn gc sa sn sc ya yn yc oa on oc va vn vc fa fn fc ba bn bc gs sp ls ms vs fs l w)
  (P:Int->Prop) (KS:∀ W,Ov w W->Calls Tryz.prog 53 #[zh #[U zd (n:Int),O ga gn gc,O sa sn sc,O ya yn yc,O oa on oc,O va vn vc,O fa fn fc,O ba bn bc]] W fun e w'=>∃ why:Int,e=zj (U zd why)/\P why/\Ov W w') (hP:P 0->okP K kf (n:Int) vn yn on gs sp ls ms vs fs l) :
  Calls Tryz.prog 15 #[zh #[U zd (n:Int),O ga gn gc,O sa sn sc,O ya yn yc,O oa on oc,O va vn vc,O fa fn fc,O ba bn bc]] w (Ir K kf (n:Int) vn yn on gs sp ls ms vs fs l P w):=by
 obtain rfl:vn=vs.length:=by obtain ⟨-,a,c,he,-⟩:=h.vars;injection he
 obtain rfl:yn=ls.length:=by obtain ⟨-,a,c,he,-⟩:=h.ins;injection he
 obtain rfl:fn=fs.length:=by obtain ⟨-,a,c,he,-⟩:=h.funcs;injection he
 have hb0:Ov w ((w.alloc (ze #[U zd (n:Int),O ga gn gc,O sa sn sc,O ya ls.length yc,O oa on oc,O va vs.length vc,O fa fs.length fc,O ba bn bc] 31)).alloc (ze #[O none 0 0,O none 0 0] 44)):=(bA w _).alloc (by simp) _
 have K1:=Aa (KS _ hb0)
 have KL:=Aa fun W (hW:Ov w W) (hok:okP K kf (n:Int) vs.length ls.length on gs sp ls ms vs fs l)=>Qh n h1 h6 ga gn gc sa sn sc ya ls.length yc oa on oc va vs.length vc fa fs.length fc ba bn bc gs vs W (Af h.grants hW) hok.chk (h.vars.over hW) hok.labs.2.1 hok.vars hok.funcs
 have rowP:Ad [U zd (n:Int),O ga gn gc,O sa sn sc,O ya ls.length yc,O oa on oc,O va vs.length vc,O fa fs.length fc,O ba bn bc] ((w.alloc (ze #[U zd (n:Int),O ga gn gc,O sa sn sc,O ya ls.length yc,O oa on oc,O va vs.length vc,O fa fs.length fc,O ba bn bc] 31)).alloc (ze #[O none 0 0,O none 0 0] 44)) w.heap.size:=(Ad.new [U zd (n:Int),O ga gn gc,O sa sn sc,O ya ls.length yc,O oa on oc,O va vs.length vc,O fa fs.length fc,O ba bn bc] 31 w).over (bA _ _)
 have heR:((w.alloc (ze #[U zd (n:Int),O ga gn gc,O sa sn sc,O ya ls.length yc,O oa on oc,O va vs.length vc,O fa fs.length fc,O ba bn bc] 31)).alloc (ze #[O none 0 0,O none 0 0] 44)).heap[w.heap.size+1]? = some (ze #[O none 0 0,O none 0 0] 44):=by
  have:=CH (w.alloc (ze #[U zd (n:Int),O ga gn gc,O sa sn sc,O ya ls.length yc,O oa on oc,O va vs.length vc,O fa fs.length fc,O ba bn bc] 31)) (ze #[O none 0 0,O none 0 0] 44)
  simpa using this
 have HP:=Aa hP
 have H:=Aa h
 obtain ⟨V0,hV0⟩:=nm (((w.alloc (ze #[U zd (n:Int),O ga gn gc,O sa sn sc,O ya ls.length yc,O oa on oc,O va vs.length vc,O fa fs.length fc,O ba bn bc] 31)).alloc (ze #[O none 0 0,O none 0 0] 44)))
 have hs0:V0.heap.size=w.heap.size+1+1:=by rw [hV0];simp
 rw [<-hV0] at hb0 rowP heR
 have HB0:=Aa hb0
 have HRP:=Aa rowP
 have HER:=Aa heR
 have HS0:=Aa hs0
 rw [hV0] at rowP
 obtain ⟨c0,c1,c2,c3,c4,c5,c6,c7⟩:=rc8 rowP
 clear hb0 rowP heR h hP hs0 KS
 go_enter Tryz.func15,Tryz.ntmps15
 go_wp2_with fail
 refine (K1.o).mono ?_
 rintro e w1 ⟨why,rfl,hPw,hb1⟩
 rw [<-hV0] at hb1
 clear c0 c1 c2 c3 c4 c5 c6 c7 K1
 have hRP1:=HRP.o.over hb1
 have heR1:w1.heap[w.heap.size+1]? = some (ze #[O none 0 0,O none 0 0] 44):=(hb1.block _ (by rw [HS0.o];omega)).trans HER.o
 have HB1:=Aa (Ac HB0.o (by simpa using hb1))
 have hsz1:w.heap.size+1+1<=w1.heap.size:=by have:=hb1.size;rw [HS0.o] at this;exact this
 have r0:w1.cell? ⟨w.heap.size+1,0,none⟩=some (O none 0 0):=by rw [Lib.cell_of_heap heR1];rfl
 have r1:w1.cell? ⟨w.heap.size+1,1,none⟩=some (O none 0 0):=by rw [Lib.cell_of_heap heR1];rfl
 have rz:∀ j,w1.frozen? ⟨w.heap.size+1,j,none⟩=false:=fun j=>by simp [World.frozen?,heR1]
 have HR1:=Aa heR1
 have HSZ1:=Aa hsz1
 by_cases hz:why=0
 ·subst hz
  have hok:=HP.o hPw
  have HOK:=Aa hok
  have HPW:=Aa hPw
  have KL1:=Aa (KL.o w1 HB1.o hok)
  obtain ⟨c0,c1,c2,c3,c4,c5,c6,c7⟩:=rc8 hRP1
  clear hok hPw hb1 hRP1 heR1 hV0 hsz1 KL HP
  go_wp2_with fail
  refine (KL1.o).mono ?_
  rintro e w2 ⟨la,ln,lc,ka,kn,kc,rfl,hv,hk,hap,hb2⟩
  have hS:=M9 (⟨n,ga,gn,gc,sa,sn,sc,ya,ls.length,yc,oa,on,oc,va,vs.length,vc,fa,fs.length,fc,ba,bn,bc,la,ln,lc,ka,kn,kc⟩:WC) h1 hv hk hap hb2 (nv:=vs.length) (nf:=fs.length) (by simp [DG]) (by simp)
  have HSt:=Aa hS
  have HNN:=Aa (And.intro (IP hv) (IP hk))
  have HB2:=Aa hb2
  have hPr:=H.o.over HB1.o
  have hok:=HOK.o
  have KA:Hx (∀ (bm:Nat) (st:ISt) (W:World),E7 (⟨n,ga,gn,gc,sa,sn,sc,ya,ls.length,yc,oa,on,oc,va,vs.length,vc,fa,fs.length,fc,ba,bn,bc,la,ln,lc,ka,kn,kc⟩:WC) w1 w2.heap.size bm->CR (⟨n,ga,gn,gc,sa,sn,sc,ya,ls.length,yc,oa,on,oc,va,vs.length,vc,fa,fs.length,fc,ba,bn,bc,la,ln,lc,ka,kn,kc⟩:WC) w1 vs.length fs.length w2.heap.size bm st W->Calls Tryz.prog 55 #[zh #[U zd (n:Int),O ga gn gc,O sa sn sc,O ya ls.length yc,O oa on oc,O va vs.length vc,O fa fs.length fc,O ba bn bc,O la ln lc,O ka kn kc],.func (.func 56) #[] #[zi (some ⟨w2.heap.size,0,none⟩),zi (some ⟨bm,0,none⟩)]] W fun e W'=>e=zj (zk #[])/\CR (⟨n,ga,gn,gc,sa,sn,sc,ya,ls.length,yc,oa,on,oc,va,vs.length,vc,fa,fs.length,fc,ba,bn,bc,la,ln,lc,ka,kn,kc⟩:WC) w1 vs.length fs.length w2.heap.size bm (G8 n K kf (vs.map Prod.fst) (ls.map (Av (Ay gs) n)) fs l st) W'/\FrW (XI (⟨n,ga,gn,gc,sa,sn,sc,ya,ls.length,yc,oa,on,oc,va,vs.length,vc,fa,fs.length,fc,ba,bn,bc,la,ln,lc,ka,kn,kc⟩:WC) bm) W W'):=fun bm st W hC hI=>
   QB (QQ (c:=(⟨n,ga,gn,gc,sa,sn,sc,ya,ls.length,yc,oa,on,oc,va,vs.length,vc,fa,fs.length,fc,ba,bn,bc,la,ln,lc,ka,kn,kc⟩:WC)) h1 h6 hPr.grants hok.chk hok.vars hC) (C5 n) Oy (Aa (Oo (⟨n,ga,gn,gc,sa,sn,sc,ya,ls.length,yc,oa,on,oc,va,vs.length,vc,fa,fs.length,fc,ba,bn,bc,la,ln,lc,ka,kn,kc⟩:WC) w1 vs.length w2.heap.size bm fs gs h1 hPr.grants hok.chk hC)) vs hPr.vars rfl ls hPr.ins (fun b hb=>hok.labs.1 b (List.mem_append_left _ hb)) rfl hok.ins kf hPr.funcs hok.funcs hok.body l hPr.main hok.main hok.many st W hI
  have HBits:Hx (∀ st,CA n vs.length fs.length st (G8 n K kf (vs.map Prod.fst) (ls.map (Av (Ay gs) n)) fs l st)):=fun st=>Lm n K kf vs.length ls.length on _ _ fs l st hok.body hok.main
  obtain ⟨μ,hμ⟩:=LA (QO (⟨n,ga,gn,gc,sa,sn,sc,ya,ls.length,yc,oa,on,oc,va,vs.length,vc,fa,fs.length,fc,ba,bn,bc,la,ln,lc,ka,kn,kc⟩:WC) K kf gs vs ls fs l w1 w2.heap.size)
  have HM:=Aa hμ
  clear hv hk hap hS hPr hok hμ hb2 c0 c1 c2 c3 c4 c5 c6 c7 KL1 r0 r1 rz
  go_wp2_with fail
  go_loopw [6] (fun x wr=>∃ N,QO (⟨n,ga,gn,gc,sa,sn,sc,ya,ls.length,yc,oa,on,oc,va,vs.length,vc,fa,fs.length,fc,ba,bn,bc,la,ln,lc,ka,kn,kc⟩:WC) K kf gs vs ls fs l w1 w2.heap.size (x,wr) N) (fun x wr=>μ (x,wr))
  case atStart=>exact ⟨_,w2.heap.size+1,0,rfl,HSt.o.1,HSt.o.2,by simp <;> omega,rfl,fun j hj=>absurd hj (by omega)⟩
  case round=>
   obtain ⟨N,hN⟩:=hrel
   obtain ⟨⟨bm,k,hx,hC,hI,hlt,hNe,hmore⟩,-⟩:=HM.o _ _ hN
   clear hN
   dsimp only at hx hI hlt
   subst hx
   have HNE:=Aa hNe
   have HMO:=Aa hmore
   have hI2:=hI
   by_cases hm:((Cm n K kf (vs.map Prod.fst) (ls.map (Av (Ay gs) n)) fs l (Cz gs n vs fs.length) k)).more=true
   ·have m0:wr.cell? ⟨bm,0,none⟩=some (zg true):=by have:=hI.more;rw [<-hm];exact this
    have mz:wr.frozen? ⟨bm,0,none⟩=false:=hI.mz
    have hI1:=CR.setM (b:=false) h1 hC hI
    have KA1:=Aa (KA.o bm _ _ hC hI1)
    have HC:=Aa hC
    have HL:=Aa hlt
    have HMM:=Aa hm
    have rw0:Ad [U zd (n:Int),O ga gn gc,O sa sn sc,O ya ls.length yc,O oa on oc,O va vs.length vc,O fa fs.length fc,O ba bn bc,O la ln lc,O ka kn kc] (wr.setCell ⟨bm,0,none⟩ (zg false)) w2.heap.size:=hI1.row
    obtain ⟨c0,c1,c2,c3,c4,c5,c6,c7,c8,c9⟩:=Ca rw0
    have HLen:=Aa (And.intro hI1.lv hI1.lf)
    clear rw0 hI hI1 hI2 hNe hmore hlt hC hm
    go_wp2_with fail
    refine (KA1.o).mono ?_
    rintro e w3 ⟨rfl,hI3,hF3⟩
    clear c0 c1 c2 c3 c4 c5 c6 c7 c8 c9 m0 mz KA1
    have m0:=hI3.more
    have HI3:=Aa hI3
    have HF3:=Aa hF3
    clear hI3 hF3
    go_wp2_with fail
    have hsz:w2.heap.size < w3.heap.size:=by have h1:=HF3.o.size;have h2:=HL.o;simp [World.setCell] at h1;omega
    obtain ⟨-,b1,b2⟩:=HBits.o ⟨(Cm n K kf (vs.map Prod.fst) (ls.map (Av (Ay gs) n)) fs l (Cz gs n vs fs.length) k).vs,(Cm n K kf (vs.map Prod.fst) (ls.map (Av (Ay gs) n)) fs l (Cz gs n vs fs.length) k).fs,false⟩ HLen.o
    have hP:QO (⟨n,ga,gn,gc,sa,sn,sc,ya,ls.length,yc,oa,on,oc,va,vs.length,vc,fa,fs.length,fc,ba,bn,bc,la,ln,lc,ka,kn,kc⟩:WC) K kf gs vs ls fs l w1 w2.heap.size (zi (some ⟨w3.heap.size,0,none⟩),_) _:=⟨w3.heap.size,k+1,rfl,HC.o.newM HI3.o hsz,CR.newM h1 HC.o HI3.o,by simp <;> omega,rfl,fun j hj=>by
     by_cases hjk:j=k
     ·subst hjk;exact HMM.o
     ·exact HMO.o j (by omega)⟩
    refine ⟨⟨_,hP⟩,Nat.lt_of_le_of_lt ((HM.o _ _ hP).2 _ hP) ?_⟩
    rw [HNE.o,if_pos HMM.o]
    have hbe:Dn n ⟨(Cm n K kf (vs.map Prod.fst) (ls.map (Av (Ay gs) n)) fs l (Cz gs n vs fs.length) k).vs,(Cm n K kf (vs.map Prod.fst) (ls.map (Av (Ay gs) n)) fs l (Cz gs n vs fs.length) k).fs,false⟩=Dn n (Cm n K kf (vs.map Prod.fst) (ls.map (Av (Ay gs) n)) fs l (Cz gs n vs fs.length) k):=rfl
    rw [hbe] at b1 b2
    show 2*Dn n (G8 n K kf (vs.map Prod.fst) (ls.map (Av (Ay gs) n)) fs l ⟨(Cm n K kf (vs.map Prod.fst) (ls.map (Av (Ay gs) n)) fs l (Cz gs n vs fs.length) k).vs,(Cm n K kf (vs.map Prod.fst) (ls.map (Av (Ay gs) n)) fs l (Cz gs n vs fs.length) k).fs,false⟩)+(if (G8 n K kf (vs.map Prod.fst) (ls.map (Av (Ay gs) n)) fs l ⟨(Cm n K kf (vs.map Prod.fst) (ls.map (Av (Ay gs) n)) fs l (Cz gs n vs fs.length) k).vs,(Cm n K kf (vs.map Prod.fst) (ls.map (Av (Ay gs) n)) fs l (Cz gs n vs fs.length) k).fs,false⟩).more=true then 1 else 0) < 2*Dn n (Cm n K kf (vs.map Prod.fst) (ls.map (Av (Ay gs) n)) fs l (Cz gs n vs fs.length) k)+1
    split
    ·rename_i hmm
     rcases b2 hmm with h | h
     ·cases h
     ·omega
    ·omega
   ·have hmf:((Cm n K kf (vs.map Prod.fst) (ls.map (Av (Ay gs) n)) fs l (Cz gs n vs fs.length) k)).more=false:=by simpa using hm
    have m0:wr.cell? ⟨bm,0,none⟩=some (zg false):=by have:=hI.more;rw [<-hmf];exact this
    have hblk:wr.heap[w.heap.size+1]? = some (ze #[O none 0 0,O none 0 0] 44):=(hI.below.block _ (by have:=HSZ1.o;omega)).trans HR1.o
    have r0:wr.cell? ⟨w.heap.size+1,0,none⟩=some (O none 0 0):=by rw [Lib.cell_of_heap hblk];rfl
    have r1:wr.cell? ⟨w.heap.size+1,1,none⟩=some (O none 0 0):=by rw [Lib.cell_of_heap hblk];rfl
    have rz:∀ j,wr.frozen? ⟨w.heap.size+1,j,none⟩=false:=fun j=>by simp [World.frozen?,hblk]
    have HBK:=Aa hblk
    have rw0:Ad [U zd (n:Int),O ga gn gc,O sa sn sc,O ya ls.length yc,O oa on oc,O va vs.length vc,O fa fs.length fc,O ba bn bc,O la ln lc,O ka kn kc] wr w2.heap.size:=hI.row
    have c8:=rw0 8 _ rfl
    have c9:=rw0 9 _ rfl
    have HI:=Aa hI
    have HC:=Aa hC
    have HMF:=Aa hmf
    clear rw0 hI hI2 hNe hmore hlt hC hm hmf hblk
    go_wp2_with fail
    have hBf:Ov w ((wr.setCell ⟨w.heap.size+1,0,none⟩ (O la ln lc)).setCell ⟨w.heap.size+1,1,none⟩ (O ka kn kc)):=((HB1.o.trans (HI.o.below.mono (by have:=HSZ1.o;omega))).setCell (p:=⟨w.heap.size+1,0,none⟩) (by simp) _).setCell (p:=⟨w.heap.size+1,1,none⟩) (by simp) _
    have hcr:∀ j u,wr.cell? ⟨w.heap.size+1,j,none⟩=some u->∃ a m c,u=O a m c:=fun j u hu=>by
     rw [Lib.cell_of_heap HBK.o] at hu
     match j,hu with
     | 0,hu=>simp at hu;exact ⟨_,_,_,hu.symm⟩
     | 1,hu=>simp at hu;exact ⟨_,_,_,hu.symm⟩
     | j+2,hu=>simp at hu
    have hL1:=I2 (x:=O la ln lc) (y:=O ka kn kc) HI.o.vs hcr (fun a m c e=>by injection e with e1;have:=(HC.o.la a e1).2.2.1;have:=HSZ1.o;omega)
    have hL2:=I2 (x:=O la ln lc) (y:=O ka kn kc) HI.o.fs hcr (fun a m c e=>by injection e with e1;have:=(HC.o.ka a e1).2.2.1;have:=HSZ1.o;omega)
    have hk0:k≠0:=fun e=>by have:=HMF.o;rw [e] at this;cases this
    obtain ⟨k',hk'⟩:=Nat.exists_eq_succ_of_ne_zero hk0
    refine bodyPost_ret (v:=zk #[zh #[O la ln lc,O ka kn kc],U zd 0]) (by simp [results,Tryz.results15,go_sem,r0,r1]) rfl ⟨0,HPW.o,hBf,Or.inr ⟨rfl,HOK.o,n,_,la,ln,lc,ka,kn,kc,rfl,rfl,hL1,hL2,HI.o.vs.len,HI.o.fs.len,HI.o.lv,HI.o.lf,⟨k',?_,HMF.o,fun j hj=>HMO.o (j+1) (by omega)⟩,HNN.o.1,HNN.o.2⟩⟩
    rw [hk']
 ·have HZ:=Aa hz
  have HPW:=Aa hPw
  clear hPw hb1 hRP1 heR1 hV0 hsz1 KL HP
  go_wp2_with fail
  refine bodyPost_ret (v:=zk #[zh #[O none 0 0,O none 0 0],U zd why]) ?_ rfl ⟨why,HPW.o,?_,Or.inl ⟨HZ.o,rfl⟩⟩
  ·simp [results,Tryz.results15,go_sem,r0,r1]
  ·exact (HB1.o.setCell (p:=⟨w.heap.size+1,0,none⟩) (by simp) _).setCell (p:=⟨w.heap.size+1,1,none⟩) (by simp) _
theorem NZ (K kf:Nat) (m:Int) (ga gn gc sa sn sc ya yn yc oa on oc va vn vc fa fn fc ba bn bc gs sp ls ms vs fs l) (w:World)
  (P:Int->Prop) (KS:∀ W,Ov w W->Calls Tryz.prog 53 #[zh #[U zd m,O ga gn gc,O sa sn sc,O ya yn yc,O oa on oc,O va vn vc,O fa fn fc,O ba bn bc]] W fun e w'=>∃ why:Int,e=zj (U zd why)/\P why/\Ov W w') (hP:¬ P 0) :
  Calls Tryz.prog 15 #[zh #[U zd m,O ga gn gc,O sa sn sc,O ya yn yc,O oa on oc,O va vn vc,O fa fn fc,O ba bn bc]] w (Ir K kf m vn yn on gs sp ls ms vs fs l P w):=by
 have hb0:Ov w ((w.alloc (ze #[U zd m,O ga gn gc,O sa sn sc,O ya yn yc,O oa on oc,O va vn vc,O fa fn fc,O ba bn bc] 31)).alloc (ze #[O none 0 0,O none 0 0] 44)):=(bA w _).alloc (by simp) _
 have K1:=Aa (KS _ hb0)
 have rowP:Ad [U zd m,O ga gn gc,O sa sn sc,O ya yn yc,O oa on oc,O va vn vc,O fa fn fc,O ba bn bc] ((w.alloc (ze #[U zd m,O ga gn gc,O sa sn sc,O ya yn yc,O oa on oc,O va vn vc,O fa fn fc,O ba bn bc] 31)).alloc (ze #[O none 0 0,O none 0 0] 44)) w.heap.size:=(Ad.new [U zd m,O ga gn gc,O sa sn sc,O ya yn yc,O oa on oc,O va vn vc,O fa fn fc,O ba bn bc] 31 w).over (bA _ _)
 have rowR:Ad [O none 0 0,O none 0 0] ((w.alloc (ze #[U zd m,O ga gn gc,O sa sn sc,O ya yn yc,O oa on oc,O va vn vc,O fa fn fc,O ba bn bc] 31)).alloc (ze #[O none 0 0,O none 0 0] 44)) (w.heap.size+1):=by
  have:=Ad.new [O none 0 0,O none 0 0] 44 (w.alloc (ze #[U zd m,O ga gn gc,O sa sn sc,O ya yn yc,O oa on oc,O va vn vc,O fa fn fc,O ba bn bc] 31))
  simpa using this
 have rf:∀ j,((w.alloc (ze #[U zd m,O ga gn gc,O sa sn sc,O ya yn yc,O oa on oc,O va vn vc,O fa fn fc,O ba bn bc] 31)).alloc (ze #[O none 0 0,O none 0 0] 44)).frozen? ⟨w.heap.size+1,j,none⟩=false:=fun j=>by simp [go_sem]
 have HB0:=Aa hb0
 have HRR:=Aa rowR
 have HRF:=Aa rf
 have HP:=Aa hP
 obtain ⟨c0,c1,c2,c3,c4,c5,c6,c7⟩:=rc8 rowP
 clear hb0 rowP rowR rf hP KS
 go_enter Tryz.func15,Tryz.ntmps15
 go_wp2_with fail
 refine (K1.o).mono ?_
 rintro e w1 ⟨why,rfl,hPw,hb1⟩
 have hrr:=HRR.o.over hb1
 obtain ⟨r0,r1⟩:=rc2 hrr
 have rz:∀ j,w1.frozen? ⟨w.heap.size+1,j,none⟩=false:=fun j=>((Am hb1).2 _ _ (by simp)).trans (HRF.o j)
 have HB1:=Aa (Ac HB0.o hb1)
 have hz:why≠0:=fun e=>HP.o (e ▸ hPw)
 have HZ:=Aa hz
 have HPW:=Aa hPw
 clear hPw hb1 hrr c0 c1 c2 c3 c4 c5 c6 c7 K1
 go_wp2_with fail
 refine bodyPost_ret (v:=zk #[zh #[O none 0 0,O none 0 0],U zd why]) ?_ rfl ⟨why,HPW.o,?_,Or.inl ⟨HZ.o,rfl⟩⟩
 ·simp [results,Tryz.results15,go_sem,r0,r1]
 ·exact (HB1.o.setCell (p:=⟨w.heap.size+1,0,none⟩) (by simp) _).setCell (p:=⟨w.heap.size+1,1,none⟩) (by simp) _
theorem Qo (K kf:Nat) (m:Int) (ga gn gc sa sn sc ya yn yc oa on oc va vn vc fa fn fc ba bn bc gs sp ls ms vs fs l) (w:World) (h:Br K kf m ga gn gc sa sn sc ya yn yc oa on oc va vn vc fa fn fc ba bn bc gs sp ls ms vs fs l w)
  (P:Int->Prop) (KS:∀ W,Ov w W->Calls Tryz.prog 53 #[zh #[U zd m,O ga gn gc,O sa sn sc,O ya yn yc,O oa on oc,O va vn vc,O fa fn fc,O ba bn bc]] W fun e w'=>∃ why:Int,e=zj (U zd why)/\P why/\Ov W w') (hP:P 0->okP K kf m vn yn on gs sp ls ms vs fs l) :
  Calls Tryz.prog 15 #[zh #[U zd m,O ga gn gc,O sa sn sc,O ya yn yc,O oa on oc,O va vn vc,O fa fn fc,O ba bn bc]] w (Ir K kf m vn yn on gs sp ls ms vs fs l P w):=by
 by_cases h0:P 0
 ·obtain ⟨n,rfl,n1,n6,-⟩:=EI (hP h0).chk
  exact NY K kf n n1 n6 ga gn gc sa sn sc ya yn yc oa on oc va vn vc fa fn fc ba bn bc gs sp ls ms vs fs l w h P KS hP
 ·exact NZ K kf m ga gn gc sa sn sc ya yn yc oa on oc va vn vc fa fn fc ba bn bc gs sp ls ms vs fs l w P KS h0
end Go.Proofs.YtfffpjkcfnekaaaGreat.Ex
namespace Go.Proofs.YtfffpjkcfnekaaaGreat.Ex.Ey
open Go.RowKit
open Go.Value renaming slice -> O, int -> U, bool -> zg, agg -> zh, pointer -> zi, tuple -> zk
open Go.IntKind renaming i64 -> zd
open Go.Obj renaming cells -> ze
open Go.Ending renaming returned -> zj
def CL (ok:Prop) (w:World) (e:Ending) (w':World):Prop:=((ok/\e=zj (zk #[]))\/(¬ ok/\∃ why:Int,why≠0/\e=Au why))/\Ov w w'
theorem CL.imp {p q:Prop} {w:World} {e:Ending} {w':World} (h:CL p w e w') (hpq:p ↔ q):CL q w e w':=by
 have:p=q:=propext hpq
 subst this
 exact h
def zerS (d:D):Prop:=
 ((Ag d=4\/Ag d=7\/Ag d=8)->Ao d=0)/\((Ag d=1\/Ag d=5\/Ag d=6\/Ag d=7\/Ag d=8)->Ae d=0)/\((Ag d=2\/Ag d=3)->A6 (Ap d)=0)/\(Ag d≠2->Ah d=[])/\((Ag d≠7/\Ag d≠8)->Ai d=[])/\(Ag d≠7->Al d=[])
def xS1 (K:Nat) (nv ni no:Nat) (funcs:Int) (fs:List FnD) (d:D):Prop:=Cq K nv ni no funcs fs d/\zerS d
def xS (K:Nat) (nv ni no:Nat) (funcs:Int) (fs:List FnD):Nat->D->Prop
 | 0,_=>False
 | k+1,d=>xS1 K nv ni no funcs fs d/\(∀ s∈Ai d,xS K nv ni no funcs fs k s)/\∀ s∈Al d,xS K nv ni no funcs fs k s
theorem xS.ok {K nv ni no:Nat} {funcs:Int} {fs:List FnD}:∀ {k:Nat} {d:D},xS K nv ni no funcs fs k d->okS K nv ni no funcs fs k d
 | 0,_,h=>h
 | k+1,d,h=>⟨h.1.1,fun s hs=>xS.ok (h.2.1 s hs),fun s hs=>xS.ok (h.2.2 s hs)⟩
theorem len0 {α:Type} {l:List α}:l.length=0 ↔ l=[]:=List.length_eq_zero_iff
theorem LJ (vs) (x:Int) (v:Value) (w:World) (hv:AQ w v vs) (hl:vs.length<=9223372036854775807) :
  Calls Tryz.prog 242 #[v,U zd x] w fun e w'=>∃ r:Int,e=zj (U zd r)/\(-1<=r/\(0<=r ↔ x∈vs))/\∃ n,w'=w.drewN n:=by
 obtain ⟨ao,cap,rfl,hcc⟩:=hv
 have HCC:=Aa hcc
 clear hcc
 go_enter Tryz.func242,Tryz.ntmps242
 go_wp2_with fail
 go_loopw [8] (fun i wr=>∃ k:Nat,k<=vs.length/\i=U zd k/\Hx (x ∉ vs.take k)/\∃ n,wr=w.drewN n) (fun i _=>vs.length - (intOf i).toNat)
 case atStart=>exact ⟨0,Nat.zero_le _,rfl,Aa (by simp),0,rfl⟩
 case round=>
  obtain ⟨k,hk,rfl,HX,n,rfl⟩:=hrel
  by_cases hkl:k < vs.length
  ·obtain ⟨b,off,rfl,hcl⟩:=HCC.o (by rintro rfl;simp at hkl)
   have q0:=hcl k hkl
   obtain ⟨y,hy⟩:=nm (vs[k])
   rw [<-hy] at q0
   have HM:Hx (y∈vs):=Aa (by rw [hy];exact List.getElem_mem hkl)
   have HT:Hx (vs.take (k+1)=vs.take k++[y]):=Aa (by rw [hy];exact List.take_succ_eq_append_getElem hkl)
   clear hcl hy
   by_cases hxy:x=y
   ·subst hxy
    go_wp2_with fail
    go_ret
    exact ⟨(k:Int),rfl,⟨by omega,fun _=>HM.o,fun _=>by omega⟩,n,rfl⟩
   ·have hb:(x == y)=false:=by simpa using hxy
    have HX2:Hx (x ∉ vs.take (k+1)):=Aa (by rw [HT.o];simp [hxy];exact HX.o)
    go_wp2_with fail
    exact ⟨⟨k+1,by omega,by go_num,HX2,n,rfl⟩,by simp [intOf];omega⟩
  ·have HX2:Hx (x ∉ vs):=Aa (by have:=HX.o;rw [List.take_of_length_le (by omega)] at this;exact this)
   go_wp2_with fail
   go_ret
   exact ⟨-1,rfl,⟨by omega,fun h=>absurd h (by omega),fun h=>absurd h HX2.o⟩,n,rfl⟩
theorem contains_any (vs) (x:Int) (v:Value) (w:World) (hv:AQ w v vs) (hl:vs.length<=9223372036854775807) :
  Calls Tryz.prog 218 #[v,U zd x] w fun e w'=>e=zj (zg (decide (x∈vs)))/\∃ n,w'=w.drewN n:=by
 have HI:=Aa (LJ vs x v w hv hl)
 obtain ⟨ao,cap,rfl,-⟩:=hv
 go_enter Tryz.func218,Tryz.ntmps218
 go_wp2_with fail
 refine (HI.o).mono ?_
 rintro e w1 ⟨r,rfl,hr,n,rfl⟩
 clear HI
 have HR:=Aa hr
 clear hr
 go_wp2_with fail
 go_ret
 refine ⟨?_,n,rfl⟩
 have:=HR.o
 by_cases h:x∈vs
 ·have h0:0<=r:=this.2.2 h
  simp [h,h0]
 ·have h0:¬ 0<=r:=fun hh=>h (this.2.1 hh)
  simp [h,h0]
def xF (K:Nat) (nv ni no:Nat) (ahead:Int) (fs:List FnD) (k:Nat) (f:FnD):Prop:=
 f.ps.length<=4/\(∀ p∈f.ps,0<=p/\p < nv)/\(∀ i (h:i < f.ps.length),f.ps[i] ∉ f.ps.take i)/\(∀ s∈f.body,xS K nv ni no ahead fs k s)/\Az nv K f.res=0
theorem xF.ok {K nv ni no:Nat} {ahead:Int} {fs:List FnD} {k:Nat} {f:FnD} (h:xF K nv ni no ahead fs k f):okF K nv ni no ahead fs k f:=⟨h.1,h.2.1,fun s hs=>(h.2.2.2.1 s hs).ok,h.2.2.2.2⟩
def dpS:Nat->Int->D->Prop
 | 0,_,_=>False
 | k+1,deep,d=>deep<=6/\(∀ s∈Ai d,dpS k (deep+1) s)/\∀ s∈Al d,dpS k (deep+1) s
def dps (k:Nat) (deep:Int) (l:List D):Prop:=∀ s∈l,dpS k deep s
theorem Ij {k:Nat} {l:List D} (j:Nat):AC k (l.take j)<=AC k l:=by
 have h:AC k l=AC k (l.take j)+AC k (l.drop j):=by
  unfold AC
  rw [<-List.sum_append,<-List.map_append,List.take_append_drop]
 omega
def OP (dp:Prop) (many n:Int) (w:World) (e:Ending) (w':World):Prop:=((e=zj (U zd (many+n))/\many+n<=50/\dp)\/(¬ (many+n<=50/\dp)/\e=Au 2))/\Ov w w'
theorem LN (K:Nat):∀ (k:Nat) (v:Value) (l:List D) (deep many:Int) (w:World),Bd w K k v l->0<=deep->deep<=7->0<=many->many<=50 ->
  Calls Tryz.prog 217 #[v,U zd deep,U zd many] w (OP (dps k deep l) many (AC k l) w):=by
 intro k
 induction k with
 | zero=>
  intro v l deep many w h d0 d1 m0 m1
  obtain rfl:=h.zero
  obtain ⟨-,ao,cap,rfl,-⟩:=h
  have hz:many+((AC 0 []:Nat):Int)=many:=by simp [AC]
  show Calls Tryz.prog 217 #[O ao 0 cap,U zd deep,U zd many] w _
  go_enter Tryz.func217,Tryz.ntmps217
  go_wp2_with fail
  go_loopw [2,11] (fun c i wr=>c=U zd many/\i=U zd 0/\wr=w) (fun _ _ _=>0)
  case atStart=>exact ⟨rfl,rfl,rfl⟩
  case round=>
   obtain ⟨rfl,rfl,hw⟩:=hrel
   have hw':=hw.symm
   subst hw'
   clear hw
   go_wp2_with fail
   go_ret
   exact ⟨Or.inl ⟨by rw [hz];rfl,by rw [hz];exact m1,fun s hs=>absurd hs (by simp)⟩,Below.refl _ _⟩
 | succ k ih=>
  intro v l deep many w h d0 d1 m0 m1
  have HS:=Aa h
  have hlen:l.length<=9223372036854775807:=h.1
  obtain ⟨ao,cap,rfl,hc⟩:=h.2
  have HC:=Aa hc
  have IH:=Aa ih
  clear hc ih h
  have KM:=Aa BL
  go_enter Tryz.func217,Tryz.ntmps217
  go_wp2_with fail
  go_loopw [2,11] (fun c i wr=>∃ j:Nat,j<=l.length/\i=U zd j/\c=U zd (many+(AC (k+1) (l.take j):Nat))/\many+(AC (k+1) (l.take j):Nat)<=50/\Hx (dps (k+1) deep (l.take j))/\Ov w wr) (fun _ i _=>l.length - (intOf i).toNat)
  case atStart=>exact ⟨0,Nat.zero_le _,rfl,by simp [AC],by simp [AC];omega,Aa (fun s hs=>absurd hs (by simp)),Below.refl _ w⟩
  case round=>
   obtain ⟨j,hj,rfl,rfl,hle,HDP,hB⟩:=hrel
   by_cases hjl:j < l.length
   ·obtain ⟨b,off,rfl,hcl⟩:=HC.o (by rintro rfl;simp at hjl)
    obtain ⟨cs,hl9,hcs,hr⟩:=hcl j l[j] (List.getElem?_eq_getElem hjl)
    have htk:=Fo (k:=k+1) hjl
    have hcn:CJ (k+1) l[j]=1+AC k (Ai l[j])+AC k (Al l[j]):=rfl
    rw [hcn] at htk
    obtain ⟨d,hd⟩:=nm (l[j])
    have hmd:=List.getElem_mem hjl
    have htl2:l.take (j+1)=l.take j++[l[j]]:=List.take_succ_eq_append_getElem hjl
    have hle2:=Ij (k:=k+1) (l:=l) (j+1)
    rw [<-hd] at hr htk hmd htl2
    have HMD:=Aa hmd
    have HTL:=Aa htl2
    clear hmd htl2
    obtain ⟨ek,en,xa,xl,xc,aa,ac,ta,tc,ea,ec,hcse,-,-,-,-,-,hT,hE,-,-,-⟩:=hr.form
    subst hcse
    obtain ⟨M,hM⟩:∃ M:Int,M=many+(AC (k+1) (l.take j):Nat):=⟨_,rfl⟩
    rw [<-hM] at hle ⊢
    have hM0:0<=M:=by omega
    obtain ⟨n1,hn1⟩:∃ n:Nat,n=AC k (Ai d):=⟨_,rfl⟩
    obtain ⟨n2,hn2⟩:∃ n:Nat,n=AC k (Al d):=⟨_,rfl⟩
    rw [<-hn1,<-hn2] at htk
    have HTOT:Hx (M+1+(n1:Int)+n2<=many+(AC (k+1) l:Nat)):=Aa (by rw [hM];omega)
    have HTK:=Aa htk
    have HMM:=Aa hM
    clear htk hM hcn hle2
    obtain ⟨kd,hkd⟩:=nm (Ag d)
    obtain ⟨va,hva⟩:=nm (Ao d)
    obtain ⟨ot,hot⟩:=nm (Ae d)
    obtain ⟨al,hal⟩:=nm ((Ah d).length)
    obtain ⟨tl,htl⟩:=nm ((Ai d).length)
    obtain ⟨el,hel⟩:=nm ((Al d).length)
    rw [<-htl] at hT
    rw [<-hel] at hE
    rw [<-hkd,<-hva,<-hot,<-hal,<-htl,<-hel] at hcs
    have q0:wr.cell? ⟨b,off+j*9,none⟩=_:=Ab hB _ _ (hcs 0 _ rfl)
    have q1:=Ab hB _ _ (hcs 1 _ rfl)
    have q2:=Ab hB _ _ (hcs 2 _ rfl)
    have q3:=Ab hB _ _ (hcs 3 _ rfl)
    have q4:=Ab hB _ _ (hcs 4 _ rfl)
    have q5:=Ab hB _ _ (hcs 5 _ rfl)
    have q6:=Ab hB _ _ (hcs 6 _ rfl)
    have q7:=Ab hB _ _ (hcs 7 _ rfl)
    have q8:=Ab hB _ _ (hcs 8 _ rfl)
    have hba:Ov wr (wr.alloc (ze #[U zd kd,U zd va,U zd ot,U zd ek,U zd en,O xa xl xc,O aa al ac,O ta tl tc,O ea el ec] 130)):=bA wr _
    have hBa:=hB.trans (hba.mono hB.size)
    have hTa:=hT.over hBa
    have K1:=Aa fun (h1:M+1<=50) (h2:deep<=6)=>IH.o (O ta tl tc) (Ai d) (deep+1) (M+1) _ hTa (by omega) (by omega) (by omega) h1
    have K2:=Aa fun W (hW:Ov w W) (mm:Int) (h0:0<=mm) (h1:mm<=50) (h2:deep<=6)=>IH.o (O ea el ec) (Al d) (deep+1) mm W (hE.over hW) (by omega) (by omega) h0 h1
    rw [<-hn1] at K1
    rw [<-hn2] at K2
    have s8:(wr.alloc (ze #[U zd kd,U zd va,U zd ot,U zd ek,U zd en,O xa xl xc,O aa al ac,O ta tl tc,O ea el ec] 130)).cell? ⟨wr.heap.size,8,none⟩=some (O ea el ec):=by simp [go_sem]
    clear hT hE hTa hcs hcl hr hl9 hn1 hn2 hkd hva hot hal htl hel hd
    by_cases c1:M+1<=50/\deep<=6
    ·obtain ⟨c1,c2⟩:=c1
     have K1':=Aa (K1.o c1 c2)
     go_wp2_with fail
     refine (KM.o true 2 _).mono ?_
     rintro e wz ⟨he,rfl⟩
     have he2:=orT he
     subst he2
     clear he
     go_wp2_with fail
     refine (K1'.o).mono ?_
     rintro e w1 ⟨he,hb1⟩
     have hB1:=hBa.trans (hb1.mono hBa.size)
     rcases he with ⟨rfl,hm1,hdp1⟩ | ⟨hng,rfl⟩
     ·have HDP1:=Aa hdp1
      clear hdp1
      have t8:=Ab hb1 _ _ s8
      have hM1:0<=M+1+(n1:Int):=by omega
      obtain ⟨M1,hM1e⟩:=nm (M+1+(n1:Int))
      rw [<-hM1e] at hm1 hM1 ⊢
      have HME:=Aa hM1e
      clear hM1e
      have K2':=Aa (K2.o w1 hB1 M1 hM1 hm1 c2)
      clear K1 K2 K1' s8 hb1 hBa q0 q1 q2 q3 q4 q5 q6 q7 q8 hB hba
      go_wp2_with fail
      refine (K2'.o).mono ?_
      rintro e w2 ⟨he,hb2⟩
      have hB2:=hB1.trans (hb2.mono hB1.size)
      rcases he with ⟨rfl,hm2,hdp2⟩ | ⟨hng,rfl⟩
      ·have HDN:Hx (dps (k+1) deep (l.take (j+1))):=Aa (fun s hs=>by
        rw [HTL.o,List.mem_append,List.mem_singleton] at hs
        rcases hs with hs | rfl
        ·exact HDP.o s hs
        ·exact ⟨c2,HDP1.o,hdp2⟩)
       clear K2' t8 hb2 hB1 hdp2
       go_wp2_with fail
       refine ⟨⟨j+1,by omega,by go_num,?_,?_,HDN,hB2⟩,by simp [intOf];omega⟩
       ·rw [HTK.o]
        have:=HMM.o
        refine congrArg (Value.int IntKind.i64) ?_
        have h2:=HME.o
        push_cast
        omega
       ·rw [HTK.o]
        have:=HMM.o
        have h2:=HME.o
        push_cast
        omega
      ·have HN:Hx (¬ (many+(AC (k+1) l:Nat)<=50/\dps (k+1) deep l)):=Aa (fun hh=>hng ⟨by have h1:=HTOT.o;have h2:=HME.o;have h3:=hh.1;omega,(hh.2 d HMD.o).2.2⟩)
       clear hng
       unfold Au
       go_wp2_with fail
       exact ⟨rfl,Or.inr ⟨HN.o,rfl⟩,hB2⟩
     ·have HN:Hx (¬ (many+(AC (k+1) l:Nat)<=50/\dps (k+1) deep l)):=Aa (fun hh=>hng ⟨by have h1:=HTOT.o;have h3:=hh.1;omega,(hh.2 d HMD.o).2.1⟩)
      clear hng
      unfold Au
      go_wp2_with fail
      exact ⟨rfl,Or.inr ⟨HN.o,rfl⟩,hB1⟩
    ·clear K1 K2 s8
     by_cases c2:M+1<=50
     ·have c3:¬ deep<=6:=fun h=>c1 ⟨c2,h⟩
      clear c1
      have HN:Hx (¬ (many+(AC (k+1) l:Nat)<=50/\dps (k+1) deep l)):=Aa (fun hh=>c3 (hh.2 d HMD.o).1)
      go_wp2_with fail
      refine (KM.o false 2 _).mono ?_
      rintro e wz ⟨he,rfl⟩
      have he2:e=Au 2:=by
       rcases he with ⟨he,_⟩ | ⟨_,he⟩
       ·cases he
       ·exact he
      subst he2
      clear he
      unfold Au
      go_wp2_with fail
      exact ⟨rfl,Or.inr ⟨HN.o,rfl⟩,hBa⟩
     ·clear c1
      have HN:Hx (¬ (many+(AC (k+1) l:Nat)<=50/\dps (k+1) deep l)):=Aa (fun hh=>c2 (by have h1:=HTOT.o;have h3:=hh.1;omega))
      go_wp2_with fail
      refine (KM.o false 2 _).mono ?_
      rintro e wz ⟨he,rfl⟩
      have he2:e=Au 2:=by
       rcases he with ⟨he,_⟩ | ⟨_,he⟩
       ·cases he
       ·exact he
      subst he2
      clear he
      unfold Au
      go_wp2_with fail
      exact ⟨rfl,Or.inr ⟨HN.o,rfl⟩,hBa⟩
   ·have hd:l.take j=l:=List.take_of_length_le (by omega)
    rw [hd] at hle HDP ⊢
    go_wp2_with fail
    go_ret
    exact ⟨Or.inl ⟨rfl,hle,HDP.o⟩,hB⟩
theorem Ik {k:Nat} {l:List FnD} (j:Nat):AV k (l.take j)<=AV k l:=by
 have h:AV k l=AV k (l.take j)+AV k (l.drop j):=by
  unfold AV
  rw [<-List.sum_append,<-List.map_append,List.take_append_drop]
 omega
def dpF (k:Nat) (fs:List FnD):Prop:=∀ f∈fs,dps k 1 f.body
def OJ (dp:Prop) (n:Int) (w:World) (e:Ending) (w':World):Prop:=((e=zj (zk #[])/\n<=50/\dp)\/(¬ (n<=50/\dp)/\e=Au 2))/\Ov w w'
theorem limits_any (K k:Nat) (m:Int) (ga gn gc sa sn sc ya yn yc oa on oc va vn vc) (fa fn fc ba bn bc) (fs l) (w:World) (hf:Bk w K k (O fa fn fc) fs) (hl:Bd w K k (O ba bn bc) l) :
  Calls Tryz.prog 175 #[zh #[U zd m,O ga gn gc,O sa sn sc,O ya yn yc,O oa on oc,O va vn vc,O fa fn fc,O ba bn bc]] w (OJ (dpF k fs/\dps k 1 l) ((AV k fs:Nat)+(AC k l:Nat)) w):=by
 have zr:=BC w [U zd m,O ga gn gc,O sa sn sc,O ya yn yc,O oa on oc,O va vn vc,O fa fn fc,O ba bn bc] 184
 have c6:=zr 6 _ rfl
 have c7:=zr 7 _ rfl
 clear zr
 have hbel:Ov w (w.alloc (ze #[U zd m,O ga gn gc,O sa sn sc,O ya yn yc,O oa on oc,O va vn vc,O fa fn fc,O ba bn bc] 184)):=bA w _
 obtain ⟨hfl,fa',fc',hfe,hfc⟩:=hf
 injection hfe with e1 e2 e3
 subst e1 e2 e3
 have hfl':fs.length<=9223372036854775807:=hfl
 have HF:=Aa hfc
 have HM:=Aa hl
 clear hfc hl hfl
 have K1:=Aa (LN K)
 go_enter Tryz.func175,Tryz.ntmps175
 go_wp2_with fail
 go_loopw [2,9] (fun c i wr=>∃ j:Nat,j<=fs.length/\i=U zd j/\c=U zd (AV k (fs.take j):Nat)/\((AV k (fs.take j):Nat):Int)<=50/\Hx (dpF k (fs.take j))/\wr.cell? ⟨w.heap.size,7,none⟩=some (O ba bn bc)/\Ov w wr) (fun _ i _=>fs.length - (intOf i).toNat)
 case atStart=>exact ⟨0,Nat.zero_le _,rfl,by simp [AV],by simp [AV],Aa (fun s hs=>absurd hs (by simp)),c7,hbel⟩
 case round=>
  clear c6 c7 hbel
  obtain ⟨j,hj,rfl,rfl,hle,HDP,c7,hB⟩:=hrel
  by_cases hjl:j < fs.length
  ·obtain ⟨b,off,rfl,hcl⟩:=HF.o (by rintro rfl;simp at hjl)
   obtain ⟨vP,vB,x0,x1,x2,q0,q1,q2,q3,q4,hp,hpl,hs,hx⟩:=hcl j hjl
   obtain ⟨pa,pc,rfl,-⟩:=hp
   obtain ⟨za,zc,rfl,-⟩:=hs.2
   obtain ⟨xa,xc,hxf⟩:=hx.form
   simp only [List.cons.injEq,and_true] at hxf
   obtain ⟨rfl,rfl,rfl⟩:=hxf
   have htk:=Dm (k:=k) hjl
   obtain ⟨fd,hfd⟩:=nm (fs[j])
   have hmd:=List.getElem_mem hjl
   have htl2:fs.take (j+1)=fs.take j++[fs[j]]:=List.take_succ_eq_append_getElem hjl
   have hle2:=Ik (k:=k) (l:=fs) (j+1)
   rw [<-hfd] at q0 q1 q2 q3 q4 hs htk hmd htl2
   have HMD:=Aa hmd
   have HTL:=Aa htl2
   clear hmd htl2
   obtain ⟨M,hM⟩:∃ M:Nat,M=AV k (fs.take j):=⟨_,rfl⟩
   rw [<-hM] at hle htk ⊢
   have HTK:=Aa htk
   have HTOT:Hx (M+AC k fd.body<=AV k fs):=Aa (by rw [<-htk];exact hle2)
   have HFB:Hx (fd∈fs):=HMD
   clear htk hM hle2
   have r0:wr.cell? ⟨b,off+j*5,none⟩=_:=Ab hB _ _ q0
   obtain ⟨r1,r2,r3,r4⟩:=co4 hB q1 q2 q3 q4
   obtain ⟨pn,hpn⟩:=nm fd.ps.length
   obtain ⟨zn,hzn⟩:=nm fd.body.length
   obtain ⟨ek,hek⟩:=nm (AK fd.res)
   obtain ⟨en,hen⟩:=nm (A6 fd.res)
   obtain ⟨xl,hxl⟩:=nm ((AX fd.res).length)
   rw [<-hpn] at r0
   rw [<-hzn] at r1 hs
   rw [<-hek] at r2
   rw [<-hen] at r3
   rw [<-hxl] at r4
   have hba:=bA wr (ze #[O pa pn pc,O za zn zc,U zd ek,U zd en,O xa xl xc] 105)
   have hBa:=hB.trans (hba.mono hB.size)
   have c7':=Ab hba _ _ c7
   have K1':=Aa (K1.o k _ _ 1 (M:Int) _ (hs.over hBa) (by omega) (by omega) (by omega) hle)
   obtain ⟨n1,hn1⟩:=nm (AC k fd.body)
   rw [<-hn1] at K1' HTK HTOT
   clear q0 q1 q2 q3 q4 hs hx hcl hfd hpn hzn hek hen hxl hn1 hpl
   go_wp2_with fail
   refine (K1'.o).mono ?_
   rintro e w1 ⟨he,hb1⟩
   have hB1:=hBa.trans (hb1.mono hBa.size)
   rcases he with ⟨rfl,hm1,hdp1⟩ | ⟨hng,rfl⟩
   ·have HDN:Hx (dpF k (fs.take (j+1))):=Aa (fun f hf=>by
     rw [HTL.o,List.mem_append,List.mem_singleton] at hf
     rcases hf with hf | rfl
     ·exact HDP.o f hf
     ·exact hdp1)
    clear hdp1
    have c7'':=Ab hb1 _ _ c7'
    clear K1' hb1 hBa hba hB r0 r1 r2 r3 r4 c7 c7'
    go_wp2_with fail
    refine ⟨⟨j+1,by omega,by go_num,?_,?_,HDN,c7'',hB1⟩,by simp [intOf];omega⟩
    ·rw [HTK.o]
     refine congrArg (Value.int IntKind.i64) ?_
     push_cast
     omega
    ·rw [HTK.o]
     push_cast
     omega
   ·have HN:Hx (¬ ((AV k fs:Nat)+((AC k l:Nat):Int)<=50/\dpF k fs/\dps k 1 l)):=Aa (fun hh=>hng ⟨by have h1:=HTOT.o;have h3:=hh.1;omega,hh.2.1 fd HMD.o⟩)
    clear hng
    unfold Au
    go_wp2_with fail
    exact ⟨rfl,Or.inr ⟨HN.o,rfl⟩,hB1⟩
  ·have hd:fs.take j=fs:=List.take_of_length_le (by omega)
   rw [hd] at hle HDP ⊢
   have K1':=Aa (K1.o k _ _ 1 ((AV k fs:Nat):Int) _ (HM.o.over hB) (by omega) (by omega) (by omega) hle)
   obtain ⟨M,hM⟩:∃ M:Nat,M=AV k fs:=⟨_,rfl⟩
   rw [<-hM] at K1' hle ⊢
   have HMM:=Aa hM
   clear hM hd
   go_wp2_with fail
   refine (K1'.o).mono ?_
   rintro e w1 ⟨he,hb1⟩
   have hB1:=hB.trans (hb1.mono hB.size)
   rcases he with ⟨rfl,hm1,hdp1⟩ | ⟨hng,rfl⟩
   ·have hm2:((AV k fs:Nat):Int)+(AC k l:Nat)<=50:=by rw [<-HMM.o];exact hm1
    have HM2:=Aa hm2
    have HD2:=Aa hdp1
    clear K1' hm2 hdp1
    go_wp2_with fail
    go_end0
    exact ⟨Or.inl ⟨rfl,HM2.o,HDP.o,HD2.o⟩,hB1⟩
   ·have HN:Hx (¬ ((AV k fs:Nat)+((AC k l:Nat):Int)<=50/\dpF k fs/\dps k 1 l)):=Aa (fun hh=>hng ⟨by have h1:=HMM.o;have h3:=hh.1;omega,hh.2.2⟩)
    clear hng
    unfold Au
    go_wp2_with fail
    exact ⟨rfl,Or.inr ⟨HN.o,rfl⟩,hB1⟩
structure xP (K kf:Nat) (m:Int) (vn yn on sn:Nat) (gs:List (Int × Int)) (sp:List Int) (ls ms:List Lab) (vs:List (Bool × Lab)) (fs:List FnD) (l:List D):Prop where
 chk:AL m gs=0
 lim:(vn:Int)<=16/\(yn:Int)<=5/\(on:Int)<=5/\(fs.length:Int)<=5/\(sn:Int)<=m
 speak:∀ x∈sp,0<=x/\x < m
 labs:H7 m gs (ls++ms) vs
 many:((AV kf fs:Nat):Int)+(AC kf l:Nat)<=50/\dpF kf fs/\dps kf 1 l
 body:∀ i (h:i < fs.length),xF K vn yn on (i:Int) fs kf fs[i]
 main:∀ s∈l,xS K vn yn on (fs.length:Int) fs kf s
theorem xP.ok {K kf:Nat} {m:Int} {vn yn on sn:Nat} {gs:List (Int × Int)} {sp:List Int} {ls ms:List Lab} {vs:List (Bool × Lab)} {fs:List FnD} {l:List D} (h:xP K kf m vn yn on sn gs sp ls ms vs fs l):okP K kf m vn yn on gs sp ls ms vs fs l:=
 ⟨h.chk,h.speak,h.labs,by have:=h.lim;omega,by have:=h.lim;omega,by have:=h.lim;omega,by have:=h.lim;omega,by have:=h.many.1;omega,fun i hi=>(h.body i hi).ok,fun s hs=>(h.main s hs).ok⟩
end Go.Proofs.YtfffpjkcfnekaaaGreat.Ex.Ey
namespace Go.Proofs.YtfffpjkcfnekaaaGreat.Ex
open Go.RowKit
open Go.Value renaming slice -> O, int -> U, bool -> zg, agg -> zh, pointer -> zi, tuple -> zk
open Go.IntKind renaming i64 -> zd
open Go.Obj renaming cells -> ze
open Go.Ending renaming returned -> zj
def sm1:D:=sD 3 0 0 (xD 0 0 []) [] [] []
def sm2:D:=sD 4 0 0 (xD 2 0 []) [] [] []
theorem BD (n:Int) (h:0<=n) (h2:n<=100):Ce n:=⟨by omega,by omega⟩
theorem DJ {s:Nat} {R:List Value->D->Prop} {w:World}:XS s R w (O none 0 0) []:=⟨Nat.zero_le _,none,0,rfl,fun h=>absurd rfl h⟩
theorem DP {w:World}:AN w (O none 0 0) []:=⟨none,0,rfl,fun h=>absurd rfl h⟩
theorem Fc {bi bo bv bm:Nat} {w:World} (h:GG bi bo bv bm w):Br 1 1 1 none 0 0 none 0 0 (some ⟨bi,0,none⟩) 1 1 (some ⟨bo,0,none⟩) 1 1 (some ⟨bv,0,none⟩) 1 1 none 0 0 (some ⟨bm,0,none⟩) 2 2 [] [] [⟨[],[]⟩] [⟨[],[]⟩] [(false,⟨[],[]⟩)] [] [sm1,sm2] w:=by
 have hlab:∀ b,Ad [O none 0 0,O none 0 0] w b->AW w (O (some ⟨b,0,none⟩) 1 1) [⟨[],[]⟩]:=fun b hr=>by
  refine ⟨by simp [maxLen],some ⟨b,0,none⟩,1,rfl,fun _=>⟨b,0,rfl,fun i hi=>?_⟩⟩
  have:i=0:=by simp at hi;omega
  subst this
  exact ⟨_,_,hr 0 _ rfl,hr 1 _ rfl,DP,DP⟩
 refine ⟨BD 1 (by omega) (by omega),⟨none,0,rfl,fun h=>absurd rfl h⟩,⟨none,0,rfl,fun h=>absurd rfl h⟩,by simp,hlab _ h.ins,hlab _ h.outs,?_,?_,?_,fun h=>absurd h (by simp),fun h=>absurd h (by simp)⟩
 ·refine ⟨by simp [maxLen],some ⟨bv,0,none⟩,1,rfl,fun _=>⟨bv,0,rfl,fun i hi=>?_⟩⟩
  have:i=0:=by simp at hi;omega
  subst this
  exact ⟨_,_,h.vars 0 _ rfl,h.vars 1 _ rfl,h.vars 2 _ rfl,DP,DP⟩
 ·exact ⟨by simp,none,0,rfl,fun h=>absurd rfl h⟩
 ·refine ⟨by simp [maxLen],some ⟨bm,0,none⟩,2,rfl,fun _=>⟨bm,0,rfl,fun i d hd=>?_⟩⟩
  match i,hd with
  | 0,hd=>
   simp at hd
   subst hd
   refine ⟨Ee.take 9,rfl,fun j u hu=>?_,3,0,0,_,_,_,xD 0 0 [],_,[],_,[],_,[],rfl,rfl,BD _ (by omega) (by omega),BD _ (by omega) (by omega),BD _ (by omega) (by omega),⟨0,0,_,[],rfl,rfl,BD _ (by omega) (by omega),BD _ (by omega) (by omega),DJ⟩,DJ,DJ,DJ⟩
   rw [List.getElem?_take] at hu
   split at hu
   ·have:=h.main j u hu
    simpa using this
   ·cases hu
  | 1,hd=>
   simp at hd
   subst hd
   refine ⟨Ee.drop 9,rfl,fun j u hu=>?_,4,0,0,_,_,_,xD 2 0 [],_,[],_,[],_,[],rfl,rfl,BD _ (by omega) (by omega),BD _ (by omega) (by omega),BD _ (by omega) (by omega),⟨2,0,_,[],rfl,rfl,BD _ (by omega) (by omega),BD _ (by omega) (by omega),DJ⟩,DJ,DJ,DJ⟩
   rw [List.getElem?_drop] at hu
   have:=h.main (9+j) u hu
   simpa [Nat.add_assoc] using this
  | i+2,hd=>simp at hd
theorem PY:Az ((1:Nat):Int) 1 (Ap sm2)=0:=by
 simp [Az,sm2,CD,Ck,B9,Bx,BB,xD,AK,A6,AX]
theorem MA:Cq 1 1 1 1 (([]:List FnD).length:Int) [] sm1:=by
 unfold Cq
 simp [sm1,xD,AK,AX]
theorem Mz:Cq 1 1 1 1 (([]:List FnD).length:Int) [] sm2:=by
 have h:=PY
 unfold Cq
 have e:Ag sm2=4:=rfl
 have e2:Ae sm2=0:=rfl
 rw [e,e2]
 exact ⟨by decide,fun h=>absurd h (by decide),fun h=>absurd h (by decide),fun h=>absurd h (by decide),fun _=>h,fun h=>absurd h (by decide),fun _=>by decide⟩
theorem FO:okP 1 1 1 1 1 1 [] [] [⟨[],[]⟩] [⟨[],[]⟩] [(false,⟨[],[]⟩)] [] [sm1,sm2]:=by
 refine ⟨rfl,by simp,⟨?_,?_,?_⟩,by omega,by omega,by omega,by simp,by decide,fun i h=>absurd h (by simp),?_⟩
 ·intro b hb
  simp at hb
  subst hb
  rfl
 ·intro v hv
  simp at hv
  subst hv
  rfl
 ·intro v hv _
  simp at hv
  subst hv
  exact ⟨rfl,rfl⟩
 ·intro s hs
  simp at hs
  rcases hs with rfl | rfl
  ·exact ⟨MA,fun s hs=>absurd hs (by simp [sm1]),fun s hs=>absurd hs (by simp [sm1])⟩
  ·exact ⟨Mz,fun s hs=>absurd hs (by simp [sm2]),fun s hs=>absurd hs (by simp [sm2])⟩
theorem FZ:Ey.xP 1 1 1 1 1 1 0 [] [] [⟨[],[]⟩] [⟨[],[]⟩] [(false,⟨[],[]⟩)] [] [sm1,sm2]:=by
 refine ⟨FO.chk,by simp,FO.speak,FO.labs,⟨by have:=FO.many;omega,fun f hf=>absurd hf (by simp),?_⟩,fun i h=>absurd h (by simp),?_⟩
 ·intro s hs
  simp at hs
  rcases hs with rfl | rfl
  ·exact ⟨by omega,fun s hs=>absurd hs (by simp [sm1]),fun s hs=>absurd hs (by simp [sm1])⟩
  ·exact ⟨by omega,fun s hs=>absurd hs (by simp [sm2]),fun s hs=>absurd hs (by simp [sm2])⟩
 ·intro s hs
  simp at hs
  rcases hs with rfl | rfl
  ·exact ⟨⟨MA,fun _=>rfl,fun _=>rfl,fun _=>rfl,fun _=>rfl,fun _=>rfl,fun _=>rfl⟩,fun s hs=>absurd hs (by simp [sm1]),fun s hs=>absurd hs (by simp [sm1])⟩
  ·exact ⟨⟨Mz,fun _=>rfl,fun _=>rfl,fun h=>absurd h (by decide),fun _=>rfl,fun _=>rfl,fun _=>rfl⟩,fun s hs=>absurd hs (by simp [sm2]),fun s hs=>absurd hs (by simp [sm2])⟩
end Go.Proofs.YtfffpjkcfnekaaaGreat.Ex
namespace Go.Proofs.YtfffpjkcfnekaaaGreat
open Go.RowKit
open Go.Value renaming slice -> O, int -> U, bool -> zg, agg -> zh, pointer -> zi, tuple -> zk
open Go.IntKind renaming i64 -> zd
open Go.Obj renaming cells -> ze
open Go.Ending renaming returned -> zj
attribute [local go_sem ↓] Go.wp_at_zero Go.wp_at_succ
def lv:Lev:=⟨[false,true],[true,true]⟩
end Go.Proofs.YtfffpjkcfnekaaaGreat
