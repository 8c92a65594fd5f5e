/- Commands are copied, whatever they are. -/
import Derived.Test.YtfffpjkcfnekaaaGreatF31
set_option linter.unusedVariables false
set_option maxHeartbeats 8000000
set_option maxRecDepth 100000
namespace Go.Proofs.YtfffpjkcfnekaaaGreat.Ex
open Go.RowKit
open Go.Value renaming slice -> O, int -> U, bool -> zg, agg -> zh, pointer -> zj, tuple -> zm
open Go.IntKind renaming i64 -> zd
open Go.Obj renaming cells -> ze
open Go.Ending renaming returned -> zk
theorem Tryz.infoSt:(Tryz.prog.info? 130).map (fun i=>(i.zero,i.size,i.bytes))=some (some (zh #[U zd 0,U zd 0,U zd 0,U zd 0,U zd 0,O none 0 0,O none 0 0,O none 0 0,O none 0 0]),9,136):=by kernel_rfl
def smS (K:Nat):Nat->D->Prop
 | 0,_=>False
 | k+1,d=>(Bn K (AV d)).length<=15/\(Ap d).length<=15/\(∀ a∈Ap d,(Bn K a).length<=15)/\(Av d).length<=50/\(Ax d).length<=50/\(∀ x∈Av d,smS K k x)/\∀ x∈Ax d,smS K k x
theorem Off.grownG {B b:Nat} {w w':World} {P:World->Prop} (h:Off B (some b) w P) (hg:w.grownBy w' (some b)):Off B (some b) w' P:=fun W hW=>h W fun k h1 h2 h3=>(hW k h1 (Nat.lt_of_lt_of_le h2 hg.size) h3).trans (hg.block k h2 h3)
theorem BT {B B' g:Nat} {w:World} {P:World->Prop} (h:Off B none w P) (hB:B'<=B) (hg:g < B\/w.heap.size<=g):Off B' (some g) w P:=fun W hW=>h W fun k h1 h2 _=>hW k (Nat.le_trans hB h1) h2 (fun e=>by injection e with e;omega)
theorem A0 {w w' w2:World} {r:Option Nat} (h:w.grownBy w' r) (k:w'.grownBy w2 r):w.grownBy w2 r:=⟨k.os.trans h.os,k.tape.trans h.tape,k.output.trans h.output,Nat.le_trans h.size k.size,fun i hi hr=>(k.block i (Nat.lt_of_lt_of_le hi h.size) hr).trans (h.block i hi hr)⟩
theorem Bi {B b:Nat} {A w w':World} (h:Below B A w) (hg:w.grownBy w' (some b)) (hb:B<=b) (hA:B<=A.heap.size):Below B A w':=⟨hg.os.trans h.os,hg.tape.trans h.tape,hg.output.trans h.output,Nat.le_trans h.size hg.size,fun k hk=>(hg.block k (Nat.lt_of_lt_of_le hk (Nat.le_trans hA h.size)) (fun e=>by injection e with e;omega)).trans (h.block k hk)⟩
structure Z9 (b:Nat) (w:World):Prop where
 row:Ae [U zd 0,U zd 0,U zd 0,U zd 0,U zd 0,O none 0 0,O none 0 0,O none 0 0,O none 0 0] w b
 fz:∀ j,w.frozen? ⟨b,j,none⟩=false
theorem GW (t:Nat) (w:World):Z9 w.heap.size (w.alloc (ze #[U zd 0,U zd 0,U zd 0,U zd 0,U zd 0,O none 0 0,O none 0 0,O none 0 0,O none 0 0] t)):=⟨Ae.newA #[U zd 0,U zd 0,U zd 0,U zd 0,U zd 0,O none 0 0,O none 0 0,O none 0 0,O none 0 0] t w,fun j=>by simp [go_sem]⟩
theorem Z9.over {b:Nat} {w w':World} (h:Z9 b w) (hb:Ov w w'):Z9 b w':=⟨h.row.over hb,fun j=>((Al hb).2 b j (bL (h.row 0 _ rfl))).trans (h.fz j)⟩
def Dt (W:World) (b:Nat) (v0 v1 v2 v3 v4 v5 v6 v7 v8:Value):World:=((((((((W.setCell ⟨b,0,none⟩ v0).setCell ⟨b,1,none⟩ v1).setCell ⟨b,2,none⟩ v2).setCell ⟨b,3,none⟩ v3).setCell ⟨b,4,none⟩ v4).setCell ⟨b,5,none⟩ v5).setCell ⟨b,6,none⟩ v6).setCell ⟨b,7,none⟩ v7).setCell ⟨b,8,none⟩ v8
theorem B0 (W:World) (b:Nat) {v0 v1 v2 v3 v4 v5 v6 v7 v8:Value}:W.grownBy (Dt W b v0 v1 v2 v3 v4 v5 v6 v7 v8) (some b):=A0 (A0 (A0 (A0 (A0 (A0 (A0 (A0 AR AR) AR) AR) AR) AR) AR) AR) AR
theorem CV (W:World) (b q:Nat) {v0 v1 v2 v3 v4 v5 v6 v7 v8:Value}:(Dt W b v0 v1 v2 v3 v4 v5 v6 v7 v8).frozen? ⟨b,q,none⟩=W.frozen? ⟨b,q,none⟩:=by
 unfold Dt
 rw [Ba,Ba,Ba,Ba,Ba,Ba,Ba,Ba,Ba]
theorem Z9.fill {b:Nat} {W:World} (h:Z9 b W) (v0 v1 v2 v3 v4 v5 v6 v7 v8:Value):Ae [v0,v1,v2,v3,v4,v5,v6,v7,v8] (Dt W b v0 v1 v2 v3 v4 v5 v6 v7 v8) b:=by
 have:=((((((((h.row.set (j:=0) (v:=v0) (by simp)).set (j:=1) (v:=v1) (by simp)).set (j:=2) (v:=v2) (by simp)).set (j:=3) (v:=v3) (by simp)).set (j:=4) (v:=v4) (by simp)).set (j:=5) (v:=v5) (by simp)).set (j:=6) (v:=v6) (by simp)).set (j:=7) (v:=v7) (by simp)).set (j:=8) (v:=v8) (by simp)
 simpa [Dt] using this
structure CpS (Wn:World) (bx:Nat) (a0 a1 a2 a3 a4 a5 a7 a8:Value) (K:Nat) (ds:List D) (j:Nat) (v:Value) (w:World):Prop where
 grown:Wn.grownBy w (some bx)
 out:Ae [a0,a1,a2,a3,a4,a5,v,a7,a8] w bx
 fz:∀ q,w.frozen? ⟨bx,q,none⟩=false
 cop:Cop Wn.heap.size 94 3 (fun i cs W=>∀ d,ds[i]? = some d->RX W K cs d) j v w
section
variable {Wn:World} {bx:Nat} {a0 a1 a2 a3 a4 a5 a7 a8:Value} {K:Nat} {ds:List D} {j:Nat} {v v':Value} {w w' w2:World}
theorem CpS.sz (h:CpS Wn bx a0 a1 a2 a3 a4 a5 a7 a8 K ds j v w):Wn.heap.size<=w.heap.size:=h.grown.size
theorem CpS.over (h:CpS Wn bx a0 a1 a2 a3 a4 a5 a7 a8 K ds j v w) (hb:Ov w w'):CpS Wn bx a0 a1 a2 a3 a4 a5 a7 a8 K ds j v w':=
 ⟨⟨hb.os.trans h.grown.os,hb.tape.trans h.grown.tape,hb.output.trans h.grown.output,Nat.le_trans h.grown.size hb.size,fun k hk hr=>(hb.block k (Nat.lt_of_lt_of_le hk h.grown.size)).trans (h.grown.block k hk hr)⟩,h.out.over hb,fun q=>((Al hb).2 bx q (bL (h.out 0 _ rfl))).trans (h.fz q),h.cop.over hb⟩
theorem CpS.rowlt (h:CpS Wn bx a0 a1 a2 a3 a4 a5 a7 a8 K ds j v w) (g:Nat) (hg:v.ownBlock=some g):g < w.heap.size:=by
 obtain ⟨xs,ho,-⟩:=h.cop
 exact (An ho hg).2
theorem CpS.add {xs cs:List Value} {B1:Nat} (h:CpS Wn bx a0 a1 a2 a3 a4 a5 a7 a8 K ds j v w) (hbx:bx < Wn.heap.size) (ho:w.ownsRow Wn.heap.size 94 3 v j xs) (he:∀ i,i < j->∃ cs:List Value,cs.length=3/\(∀ q u,cs[q]? = some u->xs[i*3+q]? = some u)/\Off Wn.heap.size v.ownBlock w ((fun i cs W=>∀ d,ds[i]? = some d->RX W K cs d) i cs))
  (hl:cs.length=3) (hn:Off B1 none w ((fun i cs W=>∀ d,ds[i]? = some d->RX W K cs d) j cs)) (hB1:Wn.heap.size<=B1) (hrow:∀ g,v.ownBlock=some g->g < B1) (ho':w2.ownsRow Wn.heap.size 94 3 v' (j+1) (xs++cs)) (hg:w.grownBy w2 v.ownBlock) (hat:v'.ownBlock=v.ownBlock\/v'.ownBlock=some w.heap.size) :
  CpS Wn bx a0 a1 a2 a3 a4 a5 a7 a8 K ds (j+1) v' (w2.setCell ⟨bx,6,none⟩ v'):=by
 have hlow:∀ b,b < Wn.heap.size->w2.heap[b]? = w.heap[b]?:=fun b hb=>hg.block b (Nat.lt_of_lt_of_le hb h.sz) (fun e=>by have:=(An ho e.symm).1;omega)
 refine ⟨A0 ⟨hg.os.trans h.grown.os,hg.tape.trans h.grown.tape,hg.output.trans h.grown.output,Nat.le_trans h.grown.size hg.size,fun k hk hr=>(hlow k hk).trans (h.grown.block k hk hr)⟩ AR,?_,fun q=>?_,(Cop.add ho he hl hn hB1 hrow ho' hg hat).set hbx⟩
 ·have h1:Ae [a0,a1,a2,a3,a4,a5,v,a7,a8] w2 bx:=fun q u hu=>(World.cell?_of_block (a:=⟨bx,q,none⟩) (hlow bx hbx)).trans (h.out q u hu)
  exact h1.set (j:=6) (v:=v') (by simp)
 ·rw [Ba,World.frozen?_of_block (a:=⟨bx,q,none⟩) (hlow bx hbx)]
  exact h.fz q
end
theorem NP (K:Nat):∀ (k:Nat) (v:Value) (l:List D) (w:World),Bf w K k v l->l.length<=50->(∀ d∈l,smS K k d) ->
  Calls Tryz.prog 50 #[v] w fun e w'=>∃ a c,e=zk (O a l.length c)/\Off w.heap.size none w' (fun W=>Bf W K k (O a l.length c) l)/\Ov w w':=by
 intro k
 induction k with
 | zero=>
  intro v l w h hl hs
  have h0:l=[]:=by cases l with
   | nil=>rfl
   | cons d l=>exact (hs d (List.mem_cons_self ..)).elim
  subst h0
  obtain ⟨hm,ao,cap,rfl,-⟩:=h
  clear hl hs hm
  show Calls Tryz.prog 50 #[O ao 0 cap] w fun e w'=>∃ a c,e=zk (O a 0 c)/\Off w.heap.size none w' (fun W=>Bf W K 0 (O a 0 c) [])/\Ov w w'
  go_enter Tryz.func50,Tryz.ntmps50
  go_wp2_with fail
  go_loopw [3,4] (fun u i wr=>u=O none 0 0/\i=U zd 0/\wr=w) (fun _ _ _=>0)
  case atStart=>exact ⟨rfl,rfl,rfl⟩
  case round=>
   obtain ⟨rfl,rfl,rfl⟩:=hrel
   go_wp2_with fail
   go_ret
   exact ⟨none,0,rfl,fun W _=>⟨Nat.zero_le _,none,0,rfl,fun h=>absurd rfl h⟩,Below.refl _ _⟩
 | succ k ih=>
  intro v l w h hl hs
  obtain ⟨hm,ao,cap,rfl,hc⟩:=h
  obtain ⟨i0,hi,hz0,hz1,hz2⟩:=info_parts Tryz.infoSt
  obtain ⟨i1,hi1,hy0,hy1,hy2⟩:=info_parts Tryz.infoX
  have HC:=Aa hc
  have HS:=Aa hs
  have IH:=Aa ih
  clear hc hs ih hm
  go_enter Tryz.func50,Tryz.ntmps50
  go_wp2_with fail
  go_loopw [3,4] (fun out i wr=>∃ j:Nat,j<=l.length/\i=U zd j/\Cop w.heap.size 130 9 (fun i cs W=>∀ d,l[i]? = some d->RS W K (k+1) cs d) j out wr/\Ov w wr) (fun _ i _=>l.length - (intOf i).toNat)
  case atStart=>exact ⟨0,Nat.zero_le _,rfl,Cop.nil,Below.refl _ _⟩
  case round=>
   obtain ⟨j,hj,rfl,hI,hB⟩:=hrel
   by_cases hjl:j < l.length
   ·obtain ⟨b,off,rfl,hel⟩:=HC.o (by rintro rfl;simp at hjl)
    obtain ⟨cs,hl9,hcs,hr⟩:=hel j l[j] (List.getElem?_eq_getElem hjl)
    have HDJ:Hx (l[j]? = some l[j]):=List.getElem?_eq_getElem hjl
    have HSJ:=Aa (HS.o l[j] (List.getElem_mem hjl))
    obtain ⟨kd,va,ot,x0,x1,x2,e,vA,ags,vT,ts,vE,es,rfl,hd,g1,g2,g3,he,hA,hT,hE⟩:=hr
    rw [hd] at HDJ HSJ
    have HG:=Aa (And.intro g1 (And.intro g2 g3))
    obtain ⟨c0,c1,c2,c3,c4,c5,c6,c7,c8⟩:=rc9 hcs
    obtain ⟨c0,c1,c2,c3,c4,c5,c6,c7,c8⟩:=co9 hB c0 c1 c2 c3 c4 c5 c6 c7 c8
    replace c0:wr.cell? ⟨b,off+j*9,none⟩=_:=c0
    obtain ⟨oa,oc,rfl,-⟩:=hI.cells (by decide)
    obtain ⟨ae,ce,hxe⟩:=he.form
    injection hxe with e0 hxe
    injection hxe with e1 hxe
    injection hxe with e2 hxe
    subst e0 e1 e2
    obtain ⟨-,aA,cA,rfl,-⟩:=id hA
    obtain ⟨-,aT,cT,rfl,-⟩:=id hT
    obtain ⟨-,aE,cE,rfl,-⟩:=id hE
    have hbV:Ov wr (wr.alloc (ze #[U zd kd,U zd va,U zd ot,U zd (AI e),U zd (Bc e),O ae (AH e).length ce,O aA ags.length cA,O aT ts.length cT,O aE es.length cE] 130)):=bA _ _
    have hrV:=Ae.newA #[U zd kd,U zd va,U zd ot,U zd (AI e),U zd (Bc e),O ae (AH e).length ce,O aA ags.length cA,O aT ts.length cT,O aE es.length cE] 130 wr
    obtain ⟨V,hV⟩:=nm (wr.alloc (ze #[U zd kd,U zd va,U zd ot,U zd (AI e),U zd (Bc e),O ae (AH e).length ce,O aA ags.length cA,O aT ts.length cT,O aE es.length cE] 130))
    rw [<-hV] at hbV hrV
    have hwV:Ov w V:=hB.trans (hbV.mono hB.size)
    have HVS:Hx (V.heap.size=wr.heap.size+1):=by rw [hV];simp [Hx]
    have HSJ':=HSJ.o
    have KE:Hx (∀ W,Ov V W->_):=fun W (hW:Ov V W)=>Mt K _ e W (he.over (hwV.trans (hW.mono hwV.size))) HSJ'.1
    have KT:Hx (∀ W,Ov V W->_):=fun W (hW:Ov V W)=>IH.o _ ts W (Bf.over hT (hwV.trans (hW.mono hwV.size))) HSJ'.2.2.2.1 HSJ'.2.2.2.2.2.1
    have KL:Hx (∀ W,Ov V W->_):=fun W (hW:Ov V W)=>IH.o _ es W (Bf.over hE (hwV.trans (hW.mono hwV.size))) HSJ'.2.2.2.2.1 HSJ'.2.2.2.2.2.2
    have KA:Hx (∀ a∈ags,(Bn K a).length<=15):=HSJ'.2.2.1
    have ha15:ags.length<=15:=HSJ'.2.1
    have HI:=Aa hI
    have HB:=Aa hB
    have HBV:=Aa hbV
    have HWV:=Aa hwV
    have HA:=Aa hA
    have HRV:=Aa hrV
    obtain ⟨s0,s1,s2,s3,s4,s5,s6,s7,s8⟩:=rc9 hrV
    clear hI hB he hA hT hE hel hcs hl9 hd hxe HC HS hwV hbV hrV HSJ' g1 g2 g3
    go_wp2_with fail
    rw [<-hV]
    clear hV c0 c1 c2 c3 c4 c5 c6 c7 c8
    refine C6 (fun act2 Wn=>∃ (bx:Nat) (x18 x19 x20 x21 x22 x23 x24 x25 x26 x27 x28 x29 x30 x31 x32 x33:Value) (ax:Option Addr) (cx:Nat) (ay:Option Addr) (cy:Nat) (az:Option Addr) (cz:Nat),act2={ tmps:=#[O (some ⟨b,off,none⟩) l.length cap,undef,O none 0 0,O oa j oc,U zd (j:Int),zj (some ⟨wr.heap.size,0,none⟩),zj (some ⟨bx,0,none⟩),u7,U zd (j:Int),O (some ⟨b,off,none⟩) l.length cap,U zd (l.length:Int),zg true,u12,u13,O (some ⟨b,off,none⟩) l.length cap,U zd (j:Int),zj (some ⟨b,off+j*9,none⟩),zh #[U zd kd,U zd va,U zd ot,U zd (AI e),U zd (Bc e),O ae (AH e).length ce,O aA ags.length cA,O aT ts.length cT,O aE es.length cE],x18,x19,x20,x21,x22,x23,x24,x25,x26,x27,x28,x29,x30,x31,x32,x33,u34,u35,u36,u37,u38,u39,u40,u41,u42,u43,u44,u45,u46,u47,u48,u49,u50,u51,u52,u53,u54,u55,undef],defers:=[] }/\Ov V Wn/\V.heap.size<=bx/\Ae [U zd kd,U zd va,U zd ot,U zd (AI e),U zd (Bc e),O ax (AH e).length cx,O none 0 0,O ay ts.length cy,O az es.length cz] Wn bx/\(∀ q,Wn.frozen? ⟨bx,q,none⟩=false)/\Off V.heap.size (some bx) Wn (fun W=>RX W K [U zd (AI e),U zd (Bc e),O ax (AH e).length cx] e)/\Off V.heap.size (some bx) Wn (fun W=>Bf W K k (O ay ts.length cy) ts)/\Off V.heap.size (some bx) Wn (fun W=>Bf W K k (O az es.length cz) es)) ?_ ?_
    ·refine gS (fun Wz=>Ov V Wz) (bD _) fun hHeld=>?_
     generalize V.drew=W at hHeld ⊢
     refine kO 0 ?_
     refine kO 1 ?_
     refine kO 2 ?_
     refine kO 3 ?_
     refine kO 4 ?_
     refine kO 5 ?_
     refine kO 6 ?_
     refine kO 7 ?_
     refine kO 9 ?_
     refine kO 10 ?_
     refine kO 12 ?_
     refine kO 13 ?_
     refine rdB 8 16 rfl (fun K hK=>?_) rfl fun K hK=>?_
     ·go_simp
      obtain ⟨Wc,rfl⟩:=nm W
      refine (KE.o _ hHeld).mono ?_
      rintro e0 W ⟨ax,cx,rfl,hoff,hb⟩
      have HOX:Hx (∀ g,(g < Wc.heap.size\/W.heap.size<=g)->Off V.heap.size (some g) W _):=fun g hg=>BT hoff hHeld.size hg
      have HS8:Hx (Wc.heap.size<=W.heap.size):=hb.size
      (try replace HZ:=Aa (HZ.o.over hb))
      (try replace HOX:=Aa (fun g hg=>(HOX.o g hg).over hb))
      (try replace HOT:=Aa (fun g hg=>(HOT.o g hg).over hb))
      clear hoff
      go_simp
      refine xK hK (Ac hHeld hb) fun hHeld=>?_
      clear hK K
      refine rdB 11 16 rfl (fun K hK=>?_) rfl fun K hK=>?_
      ·go_simp
       obtain ⟨Wc,rfl⟩:=nm W
       refine (KT.o _ hHeld).mono ?_
       rintro e0 W ⟨ay,cy,rfl,hoff,hb⟩
       have HOT:Hx (∀ g,(g < Wc.heap.size\/W.heap.size<=g)->Off V.heap.size (some g) W _):=fun g hg=>BT hoff hHeld.size hg
       have HS11:Hx (Wc.heap.size<=W.heap.size):=hb.size
       (try replace HZ:=Aa (HZ.o.over hb))
       (try replace HOX:=Aa (fun g hg=>(HOX.o g hg).over hb))
       (try replace HOT:=Aa (fun g hg=>(HOT.o g hg).over hb))
       clear hoff
       go_simp
       refine xK hK (Ac hHeld hb) fun hHeld=>?_
       clear hK K
       refine rdB 14 16 rfl (fun K hK=>?_) rfl fun K hK=>?_
       ·go_simp
        obtain ⟨Wc,rfl⟩:=nm W
        refine (KL.o _ hHeld).mono ?_
        rintro e0 W ⟨az,cz,rfl,hoff,hb⟩
        have HOE:Hx (∀ g,(g < Wc.heap.size\/W.heap.size<=g)->Off V.heap.size (some g) W _):=fun g hg=>BT hoff hHeld.size hg
        have HS14:Hx (Wc.heap.size<=W.heap.size):=hb.size
        (try replace HZ:=Aa (HZ.o.over hb))
        (try replace HOX:=Aa (fun g hg=>(HOX.o g hg).over hb))
        (try replace HOT:=Aa (fun g hg=>(HOT.o g hg).over hb))
        clear hoff
        go_simp
        refine xK hK (Ac hHeld hb) fun hHeld=>?_
        clear hK K
        refine kO 15 ?_
        refine rdA 16 rfl fun K hK=>?_
        obtain ⟨Wd,rfl⟩:=nm W
        obtain ⟨W,hW2⟩:=nm (Wd.alloc (ze #[U zd 0,U zd 0,U zd 0,U zd 0,U zd 0,O none 0 0,O none 0 0,O none 0 0,O none 0 0] 130))
        have hb:Ov Wd W:=by rw [hW2];exact bA _ _
        obtain ⟨bx,hq⟩:∃ b:Nat,b=Wd.heap.size:=⟨_,rfl⟩
        have HZ:Hx (Z9 bx W):=by rw [hq,hW2];exact GW _ _
        have HS16:Hx (bx=Wd.heap.size/\W.heap.size=Wd.heap.size+1):=⟨hq,by rw [hW2];simp⟩
        have HGQ:Hx (V.heap.size<=bx):=by rw [hq];exact hHeld.size
        (try replace HOX:=Aa (fun g hg=>(HOX.o g hg).over hb))
        (try replace HOT:=Aa (fun g hg=>(HOT.o g hg).over hb))
        (try replace HOE:=Aa (fun g hg=>(HOE.o g hg).over hb))
        go_simp
        rw [<-hW2,<-hq]
        clear hW2 hq
        refine xK hK (Ac hHeld hb) fun hHeld=>?_
        clear hK K
        refine rdA 17 rfl fun K hK=>?_
        obtain ⟨d0,d1,d2,d3,d4,d5,d6,d7,d8⟩:=rc9 HZ.o.row
        have f0:=HZ.o.fz 0
        have f1:=HZ.o.fz 1
        have f2:=HZ.o.fz 2
        have f3:=HZ.o.fz 3
        have f4:=HZ.o.fz 4
        have f5:=HZ.o.fz 5
        have f6:=HZ.o.fz 6
        have f7:=HZ.o.fz 7
        have f8:=HZ.o.fz 8
        obtain ⟨W9,hW9⟩:=nm (Dt W bx (U zd kd) (U zd va) (U zd ot) (U zd (AI e)) (U zd (Bc e)) (O ax (AH e).length cx) (O none 0 0) (O ay ts.length cy) (O az es.length cz))
        have HB9:Hx (Ov V W9):=by rw [hW9];exact Bi hHeld (B0 _ _) HGQ.o (Nat.le_refl _)
        have HR9:Hx (Ae [U zd kd,U zd va,U zd ot,U zd (AI e),U zd (Bc e),O ax (AH e).length cx,O none 0 0,O ay ts.length cy,O az es.length cz] W9 bx):=by rw [hW9];exact HZ.o.fill _ _ _ _ _ _ _ _ _
        have HF9:Hx (∀ q,W9.frozen? ⟨bx,q,none⟩=false):=by rw [hW9];exact fun q=>(CV _ _ _).trans (HZ.o.fz q)
        have hg9:W.grownBy W9 (some bx):=by rw [hW9];exact B0 _ _
        have hs9:=And.intro HS8.o (And.intro HS11.o (And.intro HS14.o HS16.o))
        have HX9:=Aa (And.intro ((HOX.o bx (by omega)).grownG hg9) (And.intro ((HOT.o bx (by omega)).grownG hg9) ((HOE.o bx (by omega)).grownG hg9)))
        clear hg9 hs9
        unfold Dt at hW9
        go_simp
        rw [<-hW9]
        clear hW9 d0 d1 d2 d3 d4 d5 d6 d7 d8 f0 f1 f2 f3 f4 f5 f6 f7 f8
        refine xK hK (HB9.o) fun hHeld=>?_
        clear hK K
        refine gE ?_
        exact AG ⟨bx,_,_,_,_,_,_,_,_,_,_,_,_,_,_,_,_,ax,cx,ay,cy,az,cz,rfl,HB9.o,HGQ.o,HR9.o,HF9.o,HX9.o⟩
       ·obtain ⟨Wd,rfl⟩:=nm W
        obtain ⟨W,hW2⟩:=nm (Wd.alloc (ze #[U zd 0,U zd 0,U zd 0,U zd 0,U zd 0,O none 0 0,O none 0 0,O none 0 0,O none 0 0] 130))
        have hb:Ov Wd W:=by rw [hW2];exact bA _ _
        obtain ⟨bx,hq⟩:∃ b:Nat,b=Wd.heap.size:=⟨_,rfl⟩
        have HZ:Hx (Z9 bx W):=by rw [hq,hW2];exact GW _ _
        have HS16:Hx (bx=Wd.heap.size/\W.heap.size=Wd.heap.size+1):=⟨hq,by rw [hW2];simp⟩
        have HGQ:Hx (V.heap.size<=bx):=by rw [hq];exact hHeld.size
        (try replace HOX:=Aa (fun g hg=>(HOX.o g hg).over hb))
        (try replace HOT:=Aa (fun g hg=>(HOT.o g hg).over hb))
        (try replace HOE:=Aa (fun g hg=>(HOE.o g hg).over hb))
        go_simp
        rw [<-hW2,<-hq]
        clear hW2 hq
        refine xK hK (Ac hHeld hb) fun hHeld=>?_
        clear hK K
        refine rdA 14 rfl fun K hK=>?_
        go_simp
        obtain ⟨Wc,rfl⟩:=nm W
        refine (KL.o _ hHeld).mono ?_
        rintro e0 W ⟨az,cz,rfl,hoff,hb⟩
        have HOE:Hx (∀ g,(g < Wc.heap.size\/W.heap.size<=g)->Off V.heap.size (some g) W _):=fun g hg=>BT hoff hHeld.size hg
        have HS14:Hx (Wc.heap.size<=W.heap.size):=hb.size
        (try replace HZ:=Aa (HZ.o.over hb))
        (try replace HOX:=Aa (fun g hg=>(HOX.o g hg).over hb))
        (try replace HOT:=Aa (fun g hg=>(HOT.o g hg).over hb))
        clear hoff
        go_simp
        refine xK hK (Ac hHeld hb) fun hHeld=>?_
        clear hK K
        refine kO 15 ?_
        refine rdA 17 rfl fun K hK=>?_
        obtain ⟨d0,d1,d2,d3,d4,d5,d6,d7,d8⟩:=rc9 HZ.o.row
        have f0:=HZ.o.fz 0
        have f1:=HZ.o.fz 1
        have f2:=HZ.o.fz 2
        have f3:=HZ.o.fz 3
        have f4:=HZ.o.fz 4
        have f5:=HZ.o.fz 5
        have f6:=HZ.o.fz 6
        have f7:=HZ.o.fz 7
        have f8:=HZ.o.fz 8
        obtain ⟨W9,hW9⟩:=nm (Dt W bx (U zd kd) (U zd va) (U zd ot) (U zd (AI e)) (U zd (Bc e)) (O ax (AH e).length cx) (O none 0 0) (O ay ts.length cy) (O az es.length cz))
        have HB9:Hx (Ov V W9):=by rw [hW9];exact Bi hHeld (B0 _ _) HGQ.o (Nat.le_refl _)
        have HR9:Hx (Ae [U zd kd,U zd va,U zd ot,U zd (AI e),U zd (Bc e),O ax (AH e).length cx,O none 0 0,O ay ts.length cy,O az es.length cz] W9 bx):=by rw [hW9];exact HZ.o.fill _ _ _ _ _ _ _ _ _
        have HF9:Hx (∀ q,W9.frozen? ⟨bx,q,none⟩=false):=by rw [hW9];exact fun q=>(CV _ _ _).trans (HZ.o.fz q)
        have hg9:W.grownBy W9 (some bx):=by rw [hW9];exact B0 _ _
        have hs9:=And.intro HS8.o (And.intro HS11.o (And.intro HS14.o HS16.o))
        have HX9:=Aa (And.intro ((HOX.o bx (by omega)).grownG hg9) (And.intro ((HOT.o bx (by omega)).grownG hg9) ((HOE.o bx (by omega)).grownG hg9)))
        clear hg9 hs9
        unfold Dt at hW9
        go_simp
        rw [<-hW9]
        clear hW9 d0 d1 d2 d3 d4 d5 d6 d7 d8 f0 f1 f2 f3 f4 f5 f6 f7 f8
        refine xK hK (HB9.o) fun hHeld=>?_
        clear hK K
        refine gE ?_
        exact AG ⟨bx,_,_,_,_,_,_,_,_,_,_,_,_,_,_,_,_,ax,cx,ay,cy,az,cz,rfl,HB9.o,HGQ.o,HR9.o,HF9.o,HX9.o⟩
      ·obtain ⟨Wd,rfl⟩:=nm W
       obtain ⟨W,hW2⟩:=nm (Wd.alloc (ze #[U zd 0,U zd 0,U zd 0,U zd 0,U zd 0,O none 0 0,O none 0 0,O none 0 0,O none 0 0] 130))
       have hb:Ov Wd W:=by rw [hW2];exact bA _ _
       obtain ⟨bx,hq⟩:∃ b:Nat,b=Wd.heap.size:=⟨_,rfl⟩
       have HZ:Hx (Z9 bx W):=by rw [hq,hW2];exact GW _ _
       have HS16:Hx (bx=Wd.heap.size/\W.heap.size=Wd.heap.size+1):=⟨hq,by rw [hW2];simp⟩
       have HGQ:Hx (V.heap.size<=bx):=by rw [hq];exact hHeld.size
       (try replace HOX:=Aa (fun g hg=>(HOX.o g hg).over hb))
       (try replace HOT:=Aa (fun g hg=>(HOT.o g hg).over hb))
       (try replace HOE:=Aa (fun g hg=>(HOE.o g hg).over hb))
       go_simp
       rw [<-hW2,<-hq]
       clear hW2 hq
       refine xK hK (Ac hHeld hb) fun hHeld=>?_
       clear hK K
       refine rdA 11 rfl fun K hK=>?_
       go_simp
       obtain ⟨Wc,rfl⟩:=nm W
       refine (KT.o _ hHeld).mono ?_
       rintro e0 W ⟨ay,cy,rfl,hoff,hb⟩
       have HOT:Hx (∀ g,(g < Wc.heap.size\/W.heap.size<=g)->Off V.heap.size (some g) W _):=fun g hg=>BT hoff hHeld.size hg
       have HS11:Hx (Wc.heap.size<=W.heap.size):=hb.size
       (try replace HZ:=Aa (HZ.o.over hb))
       (try replace HOX:=Aa (fun g hg=>(HOX.o g hg).over hb))
       (try replace HOT:=Aa (fun g hg=>(HOT.o g hg).over hb))
       clear hoff
       go_simp
       refine xK hK (Ac hHeld hb) fun hHeld=>?_
       clear hK K
       refine rdA 14 rfl fun K hK=>?_
       go_simp
       obtain ⟨Wc,rfl⟩:=nm W
       refine (KL.o _ hHeld).mono ?_
       rintro e0 W ⟨az,cz,rfl,hoff,hb⟩
       have HOE:Hx (∀ g,(g < Wc.heap.size\/W.heap.size<=g)->Off V.heap.size (some g) W _):=fun g hg=>BT hoff hHeld.size hg
       have HS14:Hx (Wc.heap.size<=W.heap.size):=hb.size
       (try replace HZ:=Aa (HZ.o.over hb))
       (try replace HOX:=Aa (fun g hg=>(HOX.o g hg).over hb))
       (try replace HOT:=Aa (fun g hg=>(HOT.o g hg).over hb))
       clear hoff
       go_simp
       refine xK hK (Ac hHeld hb) fun hHeld=>?_
       clear hK K
       refine kO 15 ?_
       refine rdA 17 rfl fun K hK=>?_
       obtain ⟨d0,d1,d2,d3,d4,d5,d6,d7,d8⟩:=rc9 HZ.o.row
       have f0:=HZ.o.fz 0
       have f1:=HZ.o.fz 1
       have f2:=HZ.o.fz 2
       have f3:=HZ.o.fz 3
       have f4:=HZ.o.fz 4
       have f5:=HZ.o.fz 5
       have f6:=HZ.o.fz 6
       have f7:=HZ.o.fz 7
       have f8:=HZ.o.fz 8
       obtain ⟨W9,hW9⟩:=nm (Dt W bx (U zd kd) (U zd va) (U zd ot) (U zd (AI e)) (U zd (Bc e)) (O ax (AH e).length cx) (O none 0 0) (O ay ts.length cy) (O az es.length cz))
       have HB9:Hx (Ov V W9):=by rw [hW9];exact Bi hHeld (B0 _ _) HGQ.o (Nat.le_refl _)
       have HR9:Hx (Ae [U zd kd,U zd va,U zd ot,U zd (AI e),U zd (Bc e),O ax (AH e).length cx,O none 0 0,O ay ts.length cy,O az es.length cz] W9 bx):=by rw [hW9];exact HZ.o.fill _ _ _ _ _ _ _ _ _
       have HF9:Hx (∀ q,W9.frozen? ⟨bx,q,none⟩=false):=by rw [hW9];exact fun q=>(CV _ _ _).trans (HZ.o.fz q)
       have hg9:W.grownBy W9 (some bx):=by rw [hW9];exact B0 _ _
       have hs9:=And.intro HS8.o (And.intro HS11.o (And.intro HS14.o HS16.o))
       have HX9:=Aa (And.intro ((HOX.o bx (by omega)).grownG hg9) (And.intro ((HOT.o bx (by omega)).grownG hg9) ((HOE.o bx (by omega)).grownG hg9)))
       clear hg9 hs9
       unfold Dt at hW9
       go_simp
       rw [<-hW9]
       clear hW9 d0 d1 d2 d3 d4 d5 d6 d7 d8 f0 f1 f2 f3 f4 f5 f6 f7 f8
       refine xK hK (HB9.o) fun hHeld=>?_
       clear hK K
       refine gE ?_
       exact AG ⟨bx,_,_,_,_,_,_,_,_,_,_,_,_,_,_,_,_,ax,cx,ay,cy,az,cz,rfl,HB9.o,HGQ.o,HR9.o,HF9.o,HX9.o⟩
     ·obtain ⟨Wd,rfl⟩:=nm W
      obtain ⟨W,hW2⟩:=nm (Wd.alloc (ze #[U zd 0,U zd 0,U zd 0,U zd 0,U zd 0,O none 0 0,O none 0 0,O none 0 0,O none 0 0] 130))
      have hb:Ov Wd W:=by rw [hW2];exact bA _ _
      obtain ⟨bx,hq⟩:∃ b:Nat,b=Wd.heap.size:=⟨_,rfl⟩
      have HZ:Hx (Z9 bx W):=by rw [hq,hW2];exact GW _ _
      have HS16:Hx (bx=Wd.heap.size/\W.heap.size=Wd.heap.size+1):=⟨hq,by rw [hW2];simp⟩
      have HGQ:Hx (V.heap.size<=bx):=by rw [hq];exact hHeld.size
      (try replace HOX:=Aa (fun g hg=>(HOX.o g hg).over hb))
      (try replace HOT:=Aa (fun g hg=>(HOT.o g hg).over hb))
      (try replace HOE:=Aa (fun g hg=>(HOE.o g hg).over hb))
      go_simp
      rw [<-hW2,<-hq]
      clear hW2 hq
      refine xK hK (Ac hHeld hb) fun hHeld=>?_
      clear hK K
      refine rdA 8 rfl fun K hK=>?_
      go_simp
      obtain ⟨Wc,rfl⟩:=nm W
      refine (KE.o _ hHeld).mono ?_
      rintro e0 W ⟨ax,cx,rfl,hoff,hb⟩
      have HOX:Hx (∀ g,(g < Wc.heap.size\/W.heap.size<=g)->Off V.heap.size (some g) W _):=fun g hg=>BT hoff hHeld.size hg
      have HS8:Hx (Wc.heap.size<=W.heap.size):=hb.size
      (try replace HZ:=Aa (HZ.o.over hb))
      (try replace HOX:=Aa (fun g hg=>(HOX.o g hg).over hb))
      (try replace HOT:=Aa (fun g hg=>(HOT.o g hg).over hb))
      clear hoff
      go_simp
      refine xK hK (Ac hHeld hb) fun hHeld=>?_
      clear hK K
      refine rdA 11 rfl fun K hK=>?_
      go_simp
      obtain ⟨Wc,rfl⟩:=nm W
      refine (KT.o _ hHeld).mono ?_
      rintro e0 W ⟨ay,cy,rfl,hoff,hb⟩
      have HOT:Hx (∀ g,(g < Wc.heap.size\/W.heap.size<=g)->Off V.heap.size (some g) W _):=fun g hg=>BT hoff hHeld.size hg
      have HS11:Hx (Wc.heap.size<=W.heap.size):=hb.size
      (try replace HZ:=Aa (HZ.o.over hb))
      (try replace HOX:=Aa (fun g hg=>(HOX.o g hg).over hb))
      (try replace HOT:=Aa (fun g hg=>(HOT.o g hg).over hb))
      clear hoff
      go_simp
      refine xK hK (Ac hHeld hb) fun hHeld=>?_
      clear hK K
      refine rdA 14 rfl fun K hK=>?_
      go_simp
      obtain ⟨Wc,rfl⟩:=nm W
      refine (KL.o _ hHeld).mono ?_
      rintro e0 W ⟨az,cz,rfl,hoff,hb⟩
      have HOE:Hx (∀ g,(g < Wc.heap.size\/W.heap.size<=g)->Off V.heap.size (some g) W _):=fun g hg=>BT hoff hHeld.size hg
      have HS14:Hx (Wc.heap.size<=W.heap.size):=hb.size
      (try replace HZ:=Aa (HZ.o.over hb))
      (try replace HOX:=Aa (fun g hg=>(HOX.o g hg).over hb))
      (try replace HOT:=Aa (fun g hg=>(HOT.o g hg).over hb))
      clear hoff
      go_simp
      refine xK hK (Ac hHeld hb) fun hHeld=>?_
      clear hK K
      refine kO 15 ?_
      refine rdA 17 rfl fun K hK=>?_
      obtain ⟨d0,d1,d2,d3,d4,d5,d6,d7,d8⟩:=rc9 HZ.o.row
      have f0:=HZ.o.fz 0
      have f1:=HZ.o.fz 1
      have f2:=HZ.o.fz 2
      have f3:=HZ.o.fz 3
      have f4:=HZ.o.fz 4
      have f5:=HZ.o.fz 5
      have f6:=HZ.o.fz 6
      have f7:=HZ.o.fz 7
      have f8:=HZ.o.fz 8
      obtain ⟨W9,hW9⟩:=nm (Dt W bx (U zd kd) (U zd va) (U zd ot) (U zd (AI e)) (U zd (Bc e)) (O ax (AH e).length cx) (O none 0 0) (O ay ts.length cy) (O az es.length cz))
      have HB9:Hx (Ov V W9):=by rw [hW9];exact Bi hHeld (B0 _ _) HGQ.o (Nat.le_refl _)
      have HR9:Hx (Ae [U zd kd,U zd va,U zd ot,U zd (AI e),U zd (Bc e),O ax (AH e).length cx,O none 0 0,O ay ts.length cy,O az es.length cz] W9 bx):=by rw [hW9];exact HZ.o.fill _ _ _ _ _ _ _ _ _
      have HF9:Hx (∀ q,W9.frozen? ⟨bx,q,none⟩=false):=by rw [hW9];exact fun q=>(CV _ _ _).trans (HZ.o.fz q)
      have hg9:W.grownBy W9 (some bx):=by rw [hW9];exact B0 _ _
      have hs9:=And.intro HS8.o (And.intro HS11.o (And.intro HS14.o HS16.o))
      have HX9:=Aa (And.intro ((HOX.o bx (by omega)).grownG hg9) (And.intro ((HOT.o bx (by omega)).grownG hg9) ((HOE.o bx (by omega)).grownG hg9)))
      clear hg9 hs9
      unfold Dt at hW9
      go_simp
      rw [<-hW9]
      clear hW9 d0 d1 d2 d3 d4 d5 d6 d7 d8 f0 f1 f2 f3 f4 f5 f6 f7 f8
      refine xK hK (HB9.o) fun hHeld=>?_
      clear hK K
      refine gE ?_
      exact AG ⟨bx,_,_,_,_,_,_,_,_,_,_,_,_,_,_,_,_,ax,cx,ay,cy,az,cz,rfl,HB9.o,HGQ.o,HR9.o,HF9.o,HX9.o⟩
    ·rintro act2 Wn ⟨bx,x18,x19,x20,x21,x22,x23,x24,x25,x26,x27,x28,x29,x30,x31,x32,x33,ax,cx,ay,cy,az,cz,rfl,hVn,hGQ,hR,hF,hX,hT,hL⟩
     have HBX:Hx (bx < Wn.heap.size):=bL (hR 0 _ rfl)
     have HVn:Hx (V.heap.size<=Wn.heap.size):=hVn.size
     have HGQ:=Aa hGQ
     have HOFFS:=Aa (And.intro hX (And.intro hT hL))
     have HBn:=Aa hVn
     have HST:Hx (CpS Wn bx (U zd kd) (U zd va) (U zd ot) (U zd (AI e)) (U zd (Bc e)) (O ax (AH e).length cx) (O ay ts.length cy) (O az es.length cz) K ags 0 (O none 0 0) Wn):=⟨⟨rfl,rfl,rfl,Nat.le_refl _,fun _ _ _=>rfl⟩,hR,hF,Cop.nil⟩
     clear hVn hGQ hR hF hX hT hL KE KT KL s0 s1 s2 s3 s4 s5 s6 s7 s8
     obtain ⟨bs,hbs⟩:=nm wr.heap.size
     rw [<-hbs] at HVS HRV ⊢
     have HBS:=Aa hbs
     clear hbs
     go_wp2_with fail
     go_loopw [7] (fun i wi=>∃ (jj:Nat) (v:Value),jj<=ags.length/\i=U zd jj/\CpS Wn bx (U zd kd) (U zd va) (U zd ot) (U zd (AI e)) (U zd (Bc e)) (O ax (AH e).length cx) (O ay ts.length cy) (O az es.length cz) K ags jj v wi) (fun i _=>ags.length - (intOf i).toNat)
     case atStart=>exact ⟨0,O none 0 0,Nat.zero_le _,rfl,HST.o⟩
     case round=>
      obtain ⟨wi,rfl⟩:=nm wr
      obtain ⟨jj,v,hjj,rfl,hI⟩:=hrel
      have hVi:Below V.heap.size V wi:=Bi HBn.o hI.grown HGQ.o (Nat.le_refl _)
      have q6:CE wi bs 6 (O aA ags.length cA):=(hVi.cell (p:=⟨bs,6,none⟩) (by have:=HVS.o;show bs < _;omega)).trans (HRV.o 6 _ rfl)
      have HVI:=Aa hVi
      by_cases hjl2:jj < ags.length
      ·obtain ⟨-,ao3,cap3,hA3,hel3⟩:=HA.o
       injection hA3 with hA4 hA5 hA6
       obtain ⟨b2,off2,hb2,hel⟩:=hel3 (by rintro rfl;simp at hjl2)
       obtain ⟨cs,hl3,hcs,hr⟩:=hel jj ags[jj] (List.getElem?_eq_getElem hjl2)
       have h15:=KA.o _ (List.getElem_mem hjl2)
       have HDJ2:Hx (ags[jj]? = some ags[jj]):=List.getElem?_eq_getElem hjl2
       obtain ⟨ao2,cap2,hcse⟩:=hr.form
       obtain ⟨dj,hdj⟩:=nm (ags[jj])
       rw [<-hdj] at hr hcse h15 HDJ2
       have hwV:=HWV.o
       have HCALL:Hx (∀ W,Below V.heap.size wi W->_):=fun W (hW:Below V.heap.size wi W)=>Mt K _ dj W (hr.over (hwV.trans ((HVI.o.trans hW).mono hwV.size))) h15
       obtain ⟨kj,hkj⟩:=nm (AI dj)
       obtain ⟨nj,hnj⟩:=nm (Bc dj)
       obtain ⟨lj,hlj⟩:=nm ((AH dj).length)
       rw [<-hkj,<-hnj,<-hlj] at hcse HCALL
       subst hcse
       have haA:aA=some ⟨b2,off2,none⟩:=hA4.trans hb2
       subst haA
       have hbw:b2 < V.heap.size:=Nat.lt_of_lt_of_le (bL (hcs 0 _ rfl)) hwV.size
       have hwi:∀ {a:Addr} {u:Value},w.cell? a=some u->wi.cell? a=some u:=fun h=>Ab (hwV.trans (HVI.o.mono hwV.size)) _ _ h
       have q0:=hwi (hcs 0 _ rfl)
       have q1:=hwi (hcs 1 _ rfl)
       have q2:=hwi (hcs 2 _ rfl)
       have hws:bs < V.heap.size:=by have:=HVS.o;omega
       have HSS:Hx (∀ W,Below V.heap.size wi W->((fun Wz=>CE Wz bs 6 (O (some ⟨b2,off2,none⟩) ags.length cA)/\CE Wz b2 (off2+jj*3) (U zd kj)/\CE Wz b2 (off2+jj*3+1) (U zd nj)/\CE Wz b2 (off2+jj*3+2) (O ao2 lj cap2))) W):=fun W hW=>⟨(hW.cell (p:=⟨bs,6,none⟩) hws).trans q6,(hW.cell (p:=⟨b2,off2+jj*3+0,none⟩) hbw).trans q0,(hW.cell (p:=⟨b2,off2+jj*3+1,none⟩) hbw).trans q1,(hW.cell (p:=⟨b2,off2+jj*3+2,none⟩) hbw).trans q2⟩
       obtain ⟨va2',vc2',rfl,-⟩:=hI.cop.cells (by decide)
       have HD:Hx (Ov wi wi.drew):=bD wi
       have HIc:=Aa (hI.over HD.o)
       have HBc:=Aa (HD.o.mono (Nat.le_trans HVn.o hI.sz))
       clear hkj hnj hlj hr hcs hel hel3 hl3 hdj q0 q1 q2 hI h15 hbw hwi hws hVi hA4 hA5 hA6 hb2 hwV HRV HA KA HI IH HOFFS HST HDJ HSJ HG
       go_wp2_with fail
       refine gS (fun Wz=>CE Wz bs 6 (O (some ⟨b2,off2,none⟩) ags.length cA)/\CE Wz b2 (off2+jj*3) (U zd kj)/\CE Wz b2 (off2+jj*3+1) (U zd nj)/\CE Wz b2 (off2+jj*3+2) (O ao2 lj cap2)) (HSS.o _ HBc.o) fun hHeld=>?_
       generalize wi.drew=W at hHeld HD HIc HBc ⊢
       refine kT 0 ?_
       refine kT 2 ?_
       refine kT 3 ?_
       refine kT 4 ?_
       refine kT 5 ?_
       refine kT 6 ?_
       refine rdB 1 7 rfl (fun K hK=>?_) rfl fun K hK=>?_
       ·have c2:=HIc.o.out 6 _ rfl
        go_simp
        clear c2
        refine xK hK (HSS.o _ HBc.o) fun hHeld=>?_
        clear hK K
        refine rdA 7 rfl fun K hK=>?_
        have HR7:=Aa HIc.o.rowlt
        have HZ7:=Aa HIc.o.sz
        go_simp
        refine (HCALL.o _ HBc.o).mono ?_
        rintro e0 W1 ⟨a3,c3,rfl,hoff,hb1⟩
        have HOFF:=Aa hoff
        replace HBc:=Aa (HBc.o.trans (hb1.mono (Nat.le_trans HVn.o HZ7.o)))
        replace HIc:=Aa (HIc.o.over hb1)
        clear hoff hb1
        refine xK hK (HSS.o _ HBc.o) fun hHeld=>?_
        clear hK K
        refine rdA 8 rfl fun K hK=>?_
        obtain ⟨W2,hW2⟩:=nm (W1.alloc (ze #[U zd kj,U zd nj,O a3 lj c3] 94))
        have hb2:Ov W1 W2:=by rw [hW2];exact bA _ _
        have HN2:Hx (Ae [U zd kj,U zd nj,O a3 lj c3] W2 W1.heap.size):=by rw [hW2];exact Ae.new [U zd kj,U zd nj,O a3 lj c3] 94 W1
        replace HOFF:=Aa (HOFF.o.over hb2)
        replace HBc:=Aa (HBc.o.trans (hb2.mono (Nat.le_trans HVn.o HIc.o.sz)))
        replace HIc:=Aa (HIc.o.over hb2)
        go_simp
        rw [<-hW2]
        clear hW2 hb2
        refine xK hK (HSS.o _ HBc.o) fun hHeld=>?_
        clear hK K
        refine rdA 9 rfl fun K hK=>?_
        obtain ⟨xs,hown,hel⟩:=HIc.o.cop
        obtain ⟨v2,W3,hrun,hown3,hgr3,-,hat⟩:=run_append_own_at (P:=Tryz.prog) (w:=W2) Wn.heap.size 92 92 94 i1 (zh #[U zd 0,U zd 0,O none 0 0]) 3 40 Tryz.underlying92 hi1 hy0 hy1 hy2 rfl (by decide) _ _ _ hown ⟨W1.heap.size,0,none⟩ 1 1 [U zd kj,U zd nj,O a3 lj c3] rfl (fun jj u hu=>by rw [Addr.add_lit,Nat.zero_add];exact HN2.o jj u hu) (by simp [Value.oneCell']) (by unfold maxLen;omega) (by omega) HIc.o.sz
        obtain ⟨va2,vn2,vc2,rfl⟩:=Ak hown3
        have HF:=Aa (HIc.o.add HBX.o (cs:=[U zd kj,U zd nj,O a3 lj c3]) hown hel rfl (HOFF.o.imp fun W hW d hd=>by rw [HDJ2.o] at hd;injection hd with hd;rw [<-hd];exact hW) HZ7.o HR7.o hown3 hgr3 hat)
        replace HBc:=Aa (HBc.o.trans (BA hown hgr3 (m:=V.heap.size) HVn.o HIc.o.sz))
        have d2:CE W3 bx 6 (O va2' jj vc2'):=(World.cell?_of_block (a:=⟨bx,6,none⟩) (hgr3.block bx (Nat.lt_of_lt_of_le HBX.o HIc.o.sz) (fun e=>by have:=(An hown e.symm).1;have:=HBX.o;omega))).trans (HIc.o.out 6 _ rfl)
        have f2:W3.frozen? ⟨bx,6,none⟩=false:=(World.frozen?_of_block (a:=⟨bx,6,none⟩) (hgr3.block bx (Nat.lt_of_lt_of_le HBX.o HIc.o.sz) (fun e=>by have:=(An hown e.symm).1;have:=HBX.o;omega))).trans (HIc.o.fz _)
        refine Ao rfl _ _ _ rfl _ _ _ _ rfl rfl hrun ?_
        clear hrun hown hel hown3 hgr3 hat
        refine xK hK (HSS.o _ HBc.o) fun hHeld=>?_
        clear hK K
        refine kT 10 ?_
        refine rdA 11 rfl fun K hK=>?_
        replace HBc:Hx (Below V.heap.size wi (W3.setCell ⟨bx,6,none⟩ (O va2 vn2 vc2))):=HBc.o.setCell HGQ.o _
        go_simp
        refine xK hK (HSS.o _ HBc.o) fun hHeld=>?_
        clear hK K
        refine gE ?_
        clear HSS HCALL HDJ2
        go_wp2_with fail
        exact ⟨⟨jj+1,_,by omega,by go_num,HF.o⟩,by simp [intOf];omega⟩
       ·have HR7:=Aa HIc.o.rowlt
        have HZ7:=Aa HIc.o.sz
        go_simp
        refine (HCALL.o _ HBc.o).mono ?_
        rintro e0 W1 ⟨a3,c3,rfl,hoff,hb1⟩
        have HOFF:=Aa hoff
        replace HBc:=Aa (HBc.o.trans (hb1.mono (Nat.le_trans HVn.o HZ7.o)))
        replace HIc:=Aa (HIc.o.over hb1)
        clear hoff hb1
        refine xK hK (HSS.o _ HBc.o) fun hHeld=>?_
        clear hK K
        refine rdB 1 8 rfl (fun K hK=>?_) rfl fun K hK=>?_
        ·have c2:=HIc.o.out 6 _ rfl
         go_simp
         clear c2
         refine xK hK (HSS.o _ HBc.o) fun hHeld=>?_
         clear hK K
         refine rdA 8 rfl fun K hK=>?_
         obtain ⟨W2,hW2⟩:=nm (W1.alloc (ze #[U zd kj,U zd nj,O a3 lj c3] 94))
         have hb2:Ov W1 W2:=by rw [hW2];exact bA _ _
         have HN2:Hx (Ae [U zd kj,U zd nj,O a3 lj c3] W2 W1.heap.size):=by rw [hW2];exact Ae.new [U zd kj,U zd nj,O a3 lj c3] 94 W1
         replace HOFF:=Aa (HOFF.o.over hb2)
         replace HBc:=Aa (HBc.o.trans (hb2.mono (Nat.le_trans HVn.o HIc.o.sz)))
         replace HIc:=Aa (HIc.o.over hb2)
         go_simp
         rw [<-hW2]
         clear hW2 hb2
         refine xK hK (HSS.o _ HBc.o) fun hHeld=>?_
         clear hK K
         refine rdA 9 rfl fun K hK=>?_
         obtain ⟨xs,hown,hel⟩:=HIc.o.cop
         obtain ⟨v2,W3,hrun,hown3,hgr3,-,hat⟩:=run_append_own_at (P:=Tryz.prog) (w:=W2) Wn.heap.size 92 92 94 i1 (zh #[U zd 0,U zd 0,O none 0 0]) 3 40 Tryz.underlying92 hi1 hy0 hy1 hy2 rfl (by decide) _ _ _ hown ⟨W1.heap.size,0,none⟩ 1 1 [U zd kj,U zd nj,O a3 lj c3] rfl (fun jj u hu=>by rw [Addr.add_lit,Nat.zero_add];exact HN2.o jj u hu) (by simp [Value.oneCell']) (by unfold maxLen;omega) (by omega) HIc.o.sz
         obtain ⟨va2,vn2,vc2,rfl⟩:=Ak hown3
         have HF:=Aa (HIc.o.add HBX.o (cs:=[U zd kj,U zd nj,O a3 lj c3]) hown hel rfl (HOFF.o.imp fun W hW d hd=>by rw [HDJ2.o] at hd;injection hd with hd;rw [<-hd];exact hW) HZ7.o HR7.o hown3 hgr3 hat)
         replace HBc:=Aa (HBc.o.trans (BA hown hgr3 (m:=V.heap.size) HVn.o HIc.o.sz))
         have d2:CE W3 bx 6 (O va2' jj vc2'):=(World.cell?_of_block (a:=⟨bx,6,none⟩) (hgr3.block bx (Nat.lt_of_lt_of_le HBX.o HIc.o.sz) (fun e=>by have:=(An hown e.symm).1;have:=HBX.o;omega))).trans (HIc.o.out 6 _ rfl)
         have f2:W3.frozen? ⟨bx,6,none⟩=false:=(World.frozen?_of_block (a:=⟨bx,6,none⟩) (hgr3.block bx (Nat.lt_of_lt_of_le HBX.o HIc.o.sz) (fun e=>by have:=(An hown e.symm).1;have:=HBX.o;omega))).trans (HIc.o.fz _)
         refine Ao rfl _ _ _ rfl _ _ _ _ rfl rfl hrun ?_
         clear hrun hown hel hown3 hgr3 hat
         refine xK hK (HSS.o _ HBc.o) fun hHeld=>?_
         clear hK K
         refine kT 10 ?_
         refine rdA 11 rfl fun K hK=>?_
         replace HBc:Hx (Below V.heap.size wi (W3.setCell ⟨bx,6,none⟩ (O va2 vn2 vc2))):=HBc.o.setCell HGQ.o _
         go_simp
         refine xK hK (HSS.o _ HBc.o) fun hHeld=>?_
         clear hK K
         refine gE ?_
         clear HSS HCALL HDJ2
         go_wp2_with fail
         exact ⟨⟨jj+1,_,by omega,by go_num,HF.o⟩,by simp [intOf];omega⟩
        ·obtain ⟨W2,hW2⟩:=nm (W1.alloc (ze #[U zd kj,U zd nj,O a3 lj c3] 94))
         have hb2:Ov W1 W2:=by rw [hW2];exact bA _ _
         have HN2:Hx (Ae [U zd kj,U zd nj,O a3 lj c3] W2 W1.heap.size):=by rw [hW2];exact Ae.new [U zd kj,U zd nj,O a3 lj c3] 94 W1
         replace HOFF:=Aa (HOFF.o.over hb2)
         replace HBc:=Aa (HBc.o.trans (hb2.mono (Nat.le_trans HVn.o HIc.o.sz)))
         replace HIc:=Aa (HIc.o.over hb2)
         go_simp
         rw [<-hW2]
         clear hW2 hb2
         refine xK hK (HSS.o _ HBc.o) fun hHeld=>?_
         clear hK K
         refine rdA 1 rfl fun K hK=>?_
         have c2:=HIc.o.out 6 _ rfl
         go_simp
         clear c2
         refine xK hK (HSS.o _ HBc.o) fun hHeld=>?_
         clear hK K
         refine rdA 9 rfl fun K hK=>?_
         obtain ⟨xs,hown,hel⟩:=HIc.o.cop
         obtain ⟨v2,W3,hrun,hown3,hgr3,-,hat⟩:=run_append_own_at (P:=Tryz.prog) (w:=W2) Wn.heap.size 92 92 94 i1 (zh #[U zd 0,U zd 0,O none 0 0]) 3 40 Tryz.underlying92 hi1 hy0 hy1 hy2 rfl (by decide) _ _ _ hown ⟨W1.heap.size,0,none⟩ 1 1 [U zd kj,U zd nj,O a3 lj c3] rfl (fun jj u hu=>by rw [Addr.add_lit,Nat.zero_add];exact HN2.o jj u hu) (by simp [Value.oneCell']) (by unfold maxLen;omega) (by omega) HIc.o.sz
         obtain ⟨va2,vn2,vc2,rfl⟩:=Ak hown3
         have HF:=Aa (HIc.o.add HBX.o (cs:=[U zd kj,U zd nj,O a3 lj c3]) hown hel rfl (HOFF.o.imp fun W hW d hd=>by rw [HDJ2.o] at hd;injection hd with hd;rw [<-hd];exact hW) HZ7.o HR7.o hown3 hgr3 hat)
         replace HBc:=Aa (HBc.o.trans (BA hown hgr3 (m:=V.heap.size) HVn.o HIc.o.sz))
         have d2:CE W3 bx 6 (O va2' jj vc2'):=(World.cell?_of_block (a:=⟨bx,6,none⟩) (hgr3.block bx (Nat.lt_of_lt_of_le HBX.o HIc.o.sz) (fun e=>by have:=(An hown e.symm).1;have:=HBX.o;omega))).trans (HIc.o.out 6 _ rfl)
         have f2:W3.frozen? ⟨bx,6,none⟩=false:=(World.frozen?_of_block (a:=⟨bx,6,none⟩) (hgr3.block bx (Nat.lt_of_lt_of_le HBX.o HIc.o.sz) (fun e=>by have:=(An hown e.symm).1;have:=HBX.o;omega))).trans (HIc.o.fz _)
         refine Ao rfl _ _ _ rfl _ _ _ _ rfl rfl hrun ?_
         clear hrun hown hel hown3 hgr3 hat
         refine xK hK (HSS.o _ HBc.o) fun hHeld=>?_
         clear hK K
         refine kT 10 ?_
         refine rdA 11 rfl fun K hK=>?_
         replace HBc:Hx (Below V.heap.size wi (W3.setCell ⟨bx,6,none⟩ (O va2 vn2 vc2))):=HBc.o.setCell HGQ.o _
         go_simp
         refine xK hK (HSS.o _ HBc.o) fun hHeld=>?_
         clear hK K
         refine gE ?_
         clear HSS HCALL HDJ2
         go_wp2_with fail
         exact ⟨⟨jj+1,_,by omega,by go_num,HF.o⟩,by simp [intOf];omega⟩
      ·obtain rfl:jj=ags.length:=by omega
       obtain ⟨va2,vc2,rfl,hoff⟩:=hI.cop.cells (by decide)
       obtain ⟨o0,o1,o2,o3,o4,o5,o6,o7,o8⟩:=rc9 hI.out
       have hBi:=HBV.o.trans (hVi.mono HBV.o.size)
       have HWI:=Aa (HWV.o.trans (hVi.mono HWV.o.size))
       have HLT:Hx (∀ g,(Value.slice oa j oc).ownBlock=some g->g < V.heap.size):=fun g hg=>by
        obtain ⟨xs,ho,-⟩:=HI.o
        have h1:=(An ho hg).2
        have h2:=HBV.o.size
        omega
       have hnew:Off V.heap.size none wi (fun W=>∀ d,l[j]? = some d->RS W K (k+1) [U zd kd,U zd va,U zd ot,U zd (AI e),U zd (Bc e),O ax (AH e).length cx,O va2 ags.length vc2,O ay ts.length cy,O az es.length cz] d):=fun W hW d hd=>by
        rw [HDJ.o] at hd
        injection hd with hd
        rw [<-hd]
        have hn:∀ q,V.heap.size<=q->q < Wn.heap.size->some q≠some bx->W.heap[q]? = Wn.heap[q]?:=fun q h1 h2 h3=>(hW q h1 (Nat.lt_of_lt_of_le h2 hI.sz) (by simp)).trans (hI.grown.block q h2 h3)
        refine ⟨kd,va,ot,_,_,_,e,_,ags,_,ts,_,es,rfl,rfl,HG.o.1,HG.o.2.1,HG.o.2.2,HOFFS.o.1 W hn,?_,HOFFS.o.2.1 W hn,HOFFS.o.2.2 W hn⟩
        have hc:=hoff W (fun q h1 h2 _=>hW q (Nat.le_trans HVn.o h1) h2 (by simp))
        refine ⟨by unfold maxLen;omega,va2,vc2,rfl,fun hne=>?_⟩
        obtain ⟨b,hb,hel⟩:=hc (by intro h0;exact hne (List.length_eq_zero_iff.1 h0))
        refine ⟨b,0,hb,fun i d hd=>?_⟩
        obtain ⟨cs,h1,h2,h3⟩:=hel i (List.getElem?_eq_some_iff.1 hd).1
        exact ⟨cs,h1,fun q u hu=>by rw [Nat.zero_add];exact h2 q u hu,h3 d hd⟩
       have hba:=bA wi (ze #[U zd kd,U zd va,U zd ot,U zd (AI e),U zd (Bc e),O ax (AH e).length cx,O va2 ags.length vc2,O ay ts.length cy,O az es.length cz] 130)
       have hIa:=(HI.o.over hBi).over hba
       obtain ⟨xs,hown,hel⟩:=hIa
       have HNEW:=Aa (hnew.over hba)
       have HEL:=Aa hel
       have HNM:=Aa (Ae.newA #[U zd kd,U zd va,U zd ot,U zd (AI e),U zd (Bc e),O ax (AH e).length cx,O va2 ags.length vc2,O ay ts.length cy,O az es.length cz] 130 wi)
       have hsM:w.heap.size<=(wi.alloc (ze #[U zd kd,U zd va,U zd ot,U zd (AI e),U zd (Bc e),O ax (AH e).length cx,O va2 ags.length vc2,O ay ts.length cy,O az es.length cz] 130)).heap.size:=Nat.le_trans HWI.o.size hba.size
       have HBA:=Aa (HWI.o.trans (hba.mono HWI.o.size))
       have HWVS:Hx (w.heap.size<=V.heap.size):=HWV.o.size
       clear hnew hoff hba hel hBi hVi hI HI HB HBV HWV HOFFS HBn HST HG HDJ HSJ HRV HA KA IH HVI HWI HBS HVS HGQ HBX HVn
       go_wp2_with (at_builtin;refine wpList_append_own_at _ rfl _ _ 29 rfl w.heap.size 130 i0 (zh #[U zd 0,U zd 0,U zd 0,U zd 0,U zd 0,O none 0 0,O none 0 0,O none 0 0,O none 0 0]) 9 136 Tryz.underlying29 hi hz0 hz1 hz2 rfl (by decide) _ _ _ rfl hown ⟨wi.heap.size,0,none⟩ 1 1 [U zd kd,U zd va,U zd ot,U zd (AI e),U zd (Bc e),O ax (AH e).length cx,O va2 ags.length vc2,O ay ts.length cy,O az es.length cz] rfl rfl (fun jj uu hu=>by rw [Addr.add_lit,Nat.zero_add];exact HNM.o jj uu hu) (by simp [Value.oneCell']) (by unfold maxLen;omega) (by omega) hsM ?_)
       intro mv2 w5 hown5 hgr5 _ hat5
       have HF:=Aa (Cop.add hown HEL.o rfl HNEW.o HWVS.o HLT.o hown5 hgr5 (by simpa using hat5))
       have HBF:=Aa (HBA.o.trans (Au hown hgr5 hsM))
       clear hown5 hgr5 hat5 hown HEL HNEW HLT HNM HBA o0 o1 o2 o3 o4 o5 o6 o7 o8
       go_wp2_with fail
       exact ⟨⟨j+1,by omega,by go_num,HF.o,HBF.o⟩,by simp [intOf];omega⟩
   ·obtain rfl:j=l.length:=by omega
    obtain ⟨va,vc,rfl,hoff⟩:=hI.cells (by decide)
    have HOFF:=Aa hoff
    have HB:=Aa hB
    clear hI hoff HC HS IH hB
    go_wp2_with fail
    go_ret
    refine ⟨va,vc,rfl,HOFF.o.imp fun W hW=>⟨by unfold maxLen;omega,va,vc,rfl,fun hne=>?_⟩,HB.o⟩
    obtain ⟨b,hb,hel⟩:=hW (by intro h0;exact hne (List.length_eq_zero_iff.1 h0))
    refine ⟨b,0,hb,fun i d hd=>?_⟩
    obtain ⟨cs,h1,h2,h3⟩:=hel i (List.getElem?_eq_some_iff.1 hd).1
    exact ⟨cs,h1,fun q u hu=>by rw [Nat.zero_add];exact h2 q u hu,h3 d hd⟩
end Go.Proofs.YtfffpjkcfnekaaaGreat.Ex
