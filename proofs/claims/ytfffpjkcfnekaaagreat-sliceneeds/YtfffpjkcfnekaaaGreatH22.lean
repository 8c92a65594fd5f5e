/- What package slice answers first. -/
import Derived.Maps.AppendAt
import Derived.Test.YtfffpjkcfnekaaaGreatH21
set_option linter.unusedVariables false
set_option maxHeartbeats 8000000
set_option maxRecDepth 100000
namespace Go.Proofs.YtfffpjkcfnekaaaGreat.Ex
open Go.RowKit
open Go.Value renaming slice -> O, int -> zd, bool -> ze, agg -> zg, pointer -> zi, tuple -> zj
open Go.IntKind renaming i64 -> U
open Go.Obj renaming cells -> zf
open Go.Ending renaming returned -> zh
theorem Im (K kf:Nat) (m:Int) (ga gn gc sa sn sc ya yn yc oa on oc va vn vc fa fn fc ba bn bd gs sp ls ms vs fs l) (ch:Int) (w:World) (h:Bf K kf m ga gn gc sa sn sc ya yn yc oa on oc va vn vc fa fn fc ba bn bd gs sp ls ms vs fs l w) :
  Calls Tryz.prog 82 #[zg #[zd U m,O ga gn gc,O sa sn sc,O ya yn yc,O oa on oc,O va vn vc,O fa fn fc,O ba bn bd],zd U ch] w fun e w'=>∃ why:Int,e=zh (zd U why)/\(why=0 ↔ Ey.xP K kf m vn yn on sn gs sp ls ms vs fs l/\0<=ch/\ch < on)/\Ov w w':=by
 have hb1:Ov w (w.alloc (zf #[zd U m,O ga gn gc,O sa sn sc,O ya yn yc,O oa on oc,O va vn vc,O fa fn fc,O ba bn bd] 31)):=bA w _
 obtain ⟨V,hV⟩:=nm (w.alloc (zf #[zd U m,O ga gn gc,O sa sn sc,O ya yn yc,O oa on oc,O va vn vc,O fa fn fc,O ba bn bd] 31))
 have hrV:Ad [zd U m,O ga gn gc,O sa sn sc,O ya yn yc,O oa on oc,O va vn vc,O fa fn fc,O ba bn bd] V w.heap.size:=by rw [hV];exact Ay w [zd U m,O ga gn gc,O sa sn sc,O ya yn yc,O oa on oc,O va vn vc,O fa fn fc,O ba bn bd] 31
 rw [<-hV] at hb1
 have K1:=Aa (Ey.scopeCheck_any K kf m ga gn gc sa sn sc ya yn yc oa on oc va vn vc fa fn fc ba bn bd gs sp ls ms vs fs l V (h.over hb1))
 obtain ⟨c0,c1,c2,c3,c4,c5,c6,c7⟩:=rc8 hrV
 have HB1:=Aa hb1
 have HRV:=Aa hrV
 have hon:on<=9223372036854775807:=by obtain ⟨hm,ao,cap,he,-⟩:=h.outs;injection he with _ e2;rw [e2];exact hm
 clear h hb1 hrV
 go_enter Tryz.func82,Tryz.ntmps82
 go_wp2_with fail
 rw [<-hV]
 clear hV
 refine K1.o.mono ?_
 intro e W1 h1
 obtain ⟨why,rfl,hwhy,hb2⟩:∃ why:Int,e=zh (zd U why)/\(why=0 ↔ Ey.xP K kf m vn yn on sn gs sp ls ms vs fs l)/\Ov V W1:=by obtain ⟨why,h2,h3,h4⟩:=h1;exact ⟨why,by first | exact h2 | exact h3,by first | exact h3 | exact h2,h4⟩
 have hB:Ov w W1:=HB1.o.trans (hb2.mono HB1.o.size)
 obtain ⟨d0,d1,d2,d3,d4,d5,d6,d7⟩:=rc8 (HRV.o.over hb2)
 clear c0 c1 c2 c3 c4 c5 c6 c7 h1 hb2 K1
 by_cases z:why=0
 rotate_left
 ·have zb:(why == 0)=false:=by simpa using z
  have HW:Hx (why=0 ↔ Ey.xP K kf m vn yn on sn gs sp ls ms vs fs l/\0<=ch/\ch < on):=⟨fun h=>absurd h z,fun h=>absurd (hwhy.2 h.1) z⟩
  have HB:=Aa hB
  clear hwhy hB z
  go_wp2_with fail
  go_ret
  exact ⟨why,rfl,HW.o,HB.o⟩
 have HX:=Aa (hwhy.1 z)
 have HB:=Aa hB
 subst z
 clear hwhy hB
 by_cases h0:ch < 0
 ·have q0:decide (ch < 0)=true:=by simpa using h0
  go_wp2_with fail
  go_ret
  exact ⟨5,rfl,⟨fun h=>absurd h (by decide),fun h=>absurd h.2.1 (by omega)⟩,HB.o⟩
 have q0:decide (ch < 0)=false:=by simpa using h0
 by_cases h1:ch < on
 ·have q1:decide ((on:Int)<=ch)=false:=by simpa using h1
  have HC:Hx (0<=ch/\ch < on):=⟨by omega,h1⟩
  clear h0 h1
  go_wp2_with fail
  go_ret
  exact ⟨0,rfl,⟨fun _=>⟨HX.o,HC.o⟩,fun _=>rfl⟩,HB.o⟩
 ·have q1:decide ((on:Int)<=ch)=true:=by simp;omega
  have HC:Hx (¬ ch < on):=h1
  clear h0 h1
  go_wp2_with fail
  go_ret
  exact ⟨5,rfl,⟨fun h=>absurd h (by decide),fun h=>absurd h.2.2 (by have h9:=HC.o;omega)⟩,HB.o⟩
theorem B4 {ops:Array Oper} {o:Oper} {a:Act} {W:World} {K:Act->World->Prop} {Q:Exit->Act->World->Prop} {E:Prop} (hg:o.guard=none) (s x:Operand) (t:TypeId) (hop:o.op=Op.call { callee:=Callee.builtin Builtin.append,args:=#[s,x],argTypes:=#[t,t] }) (v u v':Value) (W':World) (hs:a.eval s=v) (hx:a.eval x=u)
  (hr:(Builtin.append_ #[t,t] o.type #[v,u]).run Tryz.prog W=.ok v' W') (h:K (a.put o.dst v') W'):if Region.wanted o (yielded ops a.tmps)=true then Oper.wp Tryz.prog o a W K Q else E:=by
 have hw:Region.wanted o (yielded ops a.tmps)=true:=by simp [Region.wanted,hg]
 rw [if_pos hw]
 unfold Oper.wp execOp
 simp only [hop,resolve,invoke,builtin,Sem.run_bind,Sem.run_pure,Result.andThen_ok,List.map_toArray,List.map_cons,List.map_nil,hs,hx,hr]
 exact h
theorem EI {cs:List Value} {w:World} {b j:Nat} {v:Value} (h:Ad cs w b) (hj:j < cs.length):Ad (cs.set j v) (w.setCell ⟨b,j,none⟩ v) b:=by
 intro i u hu
 by_cases hij:j=i
 ·subst hij
  rw [List.getElem?_set_self hj] at hu
  injection hu with hu
  subst hu
  exact World.cell?_setCell_same _ _ _ (h j _ (List.getElem?_eq_getElem hj))
 ·rw [List.getElem?_set_ne hij] at hu
  rw [World.cell?_setCell_other _ _ _ _ (by intro e;injection e with e1 e2;exact hij e2)]
  exact h i u hu
theorem Ct {w:World} {b i k:Nat} (h:b≠k) (u:Value):(w.setCell ⟨b,i,none⟩ u).heap[k]? = w.heap[k]?:=by
 simp [World.setCell,Array.getElem?_modify,h]
theorem DL {w:World} {b j:Nat} {u:Value}:w.grownBy (w.setCell ⟨b,j,none⟩ u) (some b):=
 ⟨rfl,rfl,rfl,by simp [World.setCell],fun k hk hne=>Ct (fun e=>hne (by rw [e])) u⟩
theorem CF {w w':World} {v:Value} {B:Nat} (h:w.grownBy w' v.ownBlock) (hv:∀ g,v.ownBlock=some g->B<=g) (hB:B<=w.heap.size):Below B w w':=
 ⟨h.os,h.tape,h.output,h.size,fun k hk=>h.block k (by omega) (fun e=>by have:=hv k e.symm;omega)⟩
theorem CM {W:World} {B e s n:Nat} {v:Value} {xs:List Value} (h:W.ownsRow B e s v n xs):∀ g,v.ownBlock=some g->B<=g/\g < W.heap.size:=by
 intro g hg
 rcases h.2 with ⟨h,-⟩ | ⟨g',cap,cur,h,hb,hh,-⟩
 ·rw [h] at hg;cases hg
 ·rw [h] at hg
  simp [Value.ownBlock] at hg
  subst hg
  exact ⟨hb,(Array.getElem?_eq_some_iff.1 hh).1⟩
section
variable {α:Type}
def Fh (p:α->Bool) (l:List α):Int:=match l.findIdx? p with | some i=>i | none=>-1
theorem Ie {p:α->Bool} {l:List α} {k:Nat} (hk:k < l.length) (h:(l.take k).all (fun g=>!p g)=true) (hp:p l[k]=true):Fh p l=k:=by
 have:l.findIdx? p=some k:=by
  rw [List.findIdx?_eq_some_iff_getElem]
  refine ⟨hk,hp,fun j hj=>?_⟩
  have:=List.all_eq_true.1 h l[j] (List.mem_take_iff_getElem.2 ⟨j,by omega,rfl⟩)
  simpa using this
 simp [Fh,this]
theorem FB {p:α->Bool} {l:List α} (h:l.all (fun g=>!p g)=true):Fh p l=-1:=by
 have:l.findIdx? p=none:=by
  rw [List.findIdx?_eq_none_iff]
  intro x hx
  have:=List.all_eq_true.1 h x hx
  simpa using this
 simp [Fh,this]
theorem GF (p:α->Bool) (l:List α):decide (0<=Fh p l)=l.any p:=by
 unfold Fh
 cases h:l.findIdx? p with
 | none=>
  have:l.any p=false:=by rw [List.any_eq_false];intro x hx;have:=(List.findIdx?_eq_none_iff.1 h) x hx;simpa using this
  rw [this];rfl
 | some i=>
  obtain ⟨hi,hp,_⟩:=List.findIdx?_eq_some_iff_getElem.1 h
  have:l.any p=true:=List.any_eq_true.2 ⟨_,List.getElem_mem hi,hp⟩
  rw [this];simp
end
theorem Lh (F:FuncId) (cap:List Value) (p:Int->Bool) (v:Value) (l) (w:World) (hv:Aq w v l) (hn:l.length<=6)
  (hF:Hx (∀ (i:Nat) (h:i < l.length) (w1:World),Ov w w1->Calls Tryz.prog F (zd U l[i]::cap).toArray w1 fun e w2=>e=zh (ze (p l[i]))/\Ov w1 w2))
  (hC:∀ (args:Array Value) (w:World),(callFunc F args).run Tryz.prog w=.ok (.enter F args) w) :
  Calls Tryz.prog 190 #[v,.func (.func F) #[] cap.toArray] w fun e w'=>e=zh (zd U (Fh p l))/\Ov w w':=by
 obtain ⟨ao,cp,rfl,hcc⟩:=hv
 go_enter Tryz.func190,Tryz.ntmps190
 go_wp2_with fail
 go_loopw [8] (fun i wr=>∃ k:Nat,k<=l.length/\i=zd U k/\(l.take k).all (fun g=>!p g)=true/\Ov w wr) (fun i _=>l.length - (intOf i).toNat)
 case atStart=>exact ⟨0,Nat.zero_le _,rfl,rfl,Below.refl _ w⟩
 case round=>
  obtain ⟨k,hk,rfl,hall,hbel⟩:=hrel
  by_cases hkl:k < l.length
  ·obtain ⟨b,off,rfl,hcl⟩:=hcc (by rintro rfl;simp at hkl)
   have q0:=hcl k hkl
   have hlt:=bL q0
   rw [<-(AI hbel).1 _ _ hlt] at q0
   have hcall:=hF.o k hkl
   have hat:=fun (hp:p l[k]=true)=>Ie hkl hall hp
   have htk:p l[k]=false->(l.take (k+1)).all (fun g=>!p g)=true:=fun hp=>by
    rw [List.take_succ_eq_append_getElem hkl,List.all_append,hall]
    simp [hp]
   obtain ⟨r,hr⟩:=nm (p l[k])
   rw [<-hr] at hcall hat htk
   obtain ⟨g0,hg0⟩:=nm (l[k])
   rw [<-hg0] at q0 hcall
   clear hg0
   have HC:=Aa hcall
   have HA:=Aa hat
   have HT:=Aa htk
   clear hr hcall hat htk hcl hcc hF
   cases r with
   | true=>
    go_wp2_with fail
    refine (HC.o _ hbel).mono ?_
    rintro e w2 ⟨rfl,hb2⟩
    have hbel2:Ov w w2:=hbel.trans (hb2.mono hbel.size)
    go_wp2_with fail
    go_ret
    exact ⟨by rw [HA.o (by first | rfl | trivial)];rfl,hbel2⟩
   | false=>
    go_wp2_with fail
    refine (HC.o _ hbel).mono ?_
    rintro e w2 ⟨rfl,hb2⟩
    have hbel2:Ov w w2:=hbel.trans (hb2.mono hbel.size)
    go_wp2_with fail
    exact ⟨⟨k+1,by omega,by go_num,HT.o (by first | rfl | trivial),hbel2⟩,by simp [intOf];omega⟩
  ·have hke:k=l.length:=by omega
   rw [hke,List.take_length] at hall
   have hx:=FB hall
   clear hall hcc hF
   go_wp2_with fail
   go_ret
   exact ⟨by rw [hx];rfl,hbel⟩
theorem Hh (F:FuncId) (cap:List Value) (p:Int->Bool) (v:Value) (l) (w:World) (hv:Aq w v l) (hn:l.length<=6)
  (hF:Hx (∀ (i:Nat) (h:i < l.length) (w1:World),Ov w w1->Calls Tryz.prog F (zd U l[i]::cap).toArray w1 fun e w2=>e=zh (ze (p l[i]))/\Ov w1 w2))
  (hC:∀ (args:Array Value) (w:World),(callFunc F args).run Tryz.prog w=.ok (.enter F args) w) :
  Calls Tryz.prog 124 #[v,.func (.func F) #[] cap.toArray] w fun e w'=>e=zh (ze (l.any p))/\Ov w w':=by
 have hI:=Lh F cap p v l w hv hn hF hC
 have hx:=GF p l
 obtain ⟨r,hr⟩:=nm (Fh p l)
 rw [<-hr] at hI hx
 rw [<-hx]
 have HI:=Aa hI
 clear hI hx hr hv hC hF
 go_enter Tryz.func124,Tryz.ntmps124
 go_wp2_with fail
 refine (HI.o).mono ?_
 rintro e w1 ⟨rfl,hb1⟩
 go_wp2_with fail
 go_ret
 exact ⟨by simp,hb1⟩
theorem Bd {w:World} {b i k:Nat} (h:b≠k) (u:Value):(w.setCell ⟨b,i,none⟩ u).heap[k]? = w.heap[k]?:=by
 simp [World.setCell,Array.getElem?_modify,h]
theorem AC {w:World} {a b:Addr} {v:Value}:(w.setCell a v).frozen? b=w.frozen? b:=by simp [go_sem]
theorem Ao {W:World} {b j b' j':Nat} {u v:Value} (h:W.cell? ⟨b',j',none⟩=some u) (hne:¬ (b=b'/\j=j')):(W.setCell ⟨b,j,none⟩ v).cell? ⟨b',j',none⟩=some u:=by
 rw [World.cell?_setCell_other _ _ _ _ (by intro e;injection e with e1 e2;exact hne ⟨e1,e2⟩)]
 exact h
theorem EQ (bn bl n c i:Nat) (x m:Bool) (W:World) (hi:i < n) (hn:n<=1000) (hc:W.cell? ⟨bl,i,none⟩=some (ze x)) (hf:W.frozen? ⟨bl,i,none⟩=false) (hm:W.cell? ⟨bn,14,none⟩=some (ze m)) (hmf:W.frozen? ⟨bn,14,none⟩=false) (hne:bl≠bn) :
  Calls Tryz.prog 197 #[zi (some ⟨bn,0,none⟩),O (some ⟨bl,0,none⟩) n c,zd U (i:Int)] W fun e W'=>e=zh (zj #[])/\W'=if x=true then W else (W.setCell ⟨bl,i,none⟩ (ze true)).setCell ⟨bn,14,none⟩ (ze true):=by
 have hi1:(i:Int) < (n:Int):=by omega
 have hi2:(0:Int)<=(i:Int):=by omega
 have c2:=Ao (b:=bl) (j:=i) (v:=ze true) hm (fun h=>hne h.1)
 have f2:(W.setCell ⟨bl,i,none⟩ (ze true)).frozen? ⟨bn,14,none⟩=false:=AC.trans hmf
 cases x with
 | true=>
  go_enter Tryz.func197,Tryz.ntmps197
  go_wp2_with fail
  go_end0
  exact ⟨rfl,rfl⟩
 | false=>
  go_enter Tryz.func197,Tryz.ntmps197
  go_wp2_with fail
  go_end0
  exact ⟨rfl,rfl⟩
def MM (W:World) (b off n:Nat) (l:List Bool):Prop:=l.length=n/\∀ i (h:i < l.length),W.cell? ⟨b,off+i,none⟩=some (ze l[i])
theorem Mx (ao:Option Addr) (c:Nat) (l:List Bool) (w:World) (hn:l.length<=1000) (hv:l≠[]->∃ b off,ao=some ⟨b,off,none⟩/\MM w b off l.length l) :
  Calls Tryz.prog 248 #[O ao l.length c,ze true] w fun e w'=>e=zh (zd U (Fh id l))/\Ov w w':=by
 have HV:=Aa hv
 clear hv
 go_enter Tryz.func248,Tryz.ntmps248
 go_wp2_with fail
 go_loopw [8] (fun i wr=>∃ k:Nat,k<=l.length/\i=zd U k/\(l.take k).all (fun g=>!id g)=true/\wr=w) (fun i _=>l.length - (intOf i).toNat)
 case atStart=>exact ⟨0,Nat.zero_le _,rfl,rfl,rfl⟩
 case round=>
  obtain ⟨k,hk,rfl,hall,rfl⟩:=hrel
  by_cases hkl:k < l.length
  ·obtain ⟨b,off,rfl,-,hcl⟩:=HV.o (by rintro rfl;simp at hkl)
   have q0:=hcl k hkl
   have hat:=Aa fun (hp:l[k]=true)=>Ie (p:=id) hkl hall hp
   have htk:=Aa fun (hp:l[k]=false)=>(show (l.take (k+1)).all (fun g=>!id g)=true by
    rw [List.take_succ_eq_append_getElem hkl,List.all_append,hall]
    simp [hp])
   obtain ⟨r,hr⟩:=nm (l[k])
   rw [<-hr] at q0 hat htk
   clear hr hcl
   cases r with
   | true=>
    go_wp2_with fail
    go_ret
    exact ⟨by rw [hat.o (by first | rfl | trivial)];rfl,Below.refl _ _⟩
   | false=>
    go_wp2_with fail
    exact ⟨⟨k+1,by omega,by go_num,htk.o (by first | rfl | trivial),(by first | rfl | trivial)⟩,by simp [intOf];omega⟩
  ·have hke:k=l.length:=by omega
   rw [hke,List.take_length] at hall
   have hx:=FB hall
   clear hall HV
   go_wp2_with fail
   go_ret
   exact ⟨by rw [hx];rfl,Below.refl _ _⟩
theorem Jb (ao:Option Addr) (c:Nat) (l:List Bool) (w:World) (hn:l.length<=1000) (hv:l≠[]->∃ b off,ao=some ⟨b,off,none⟩/\MM w b off l.length l) :
  Calls Tryz.prog 246 #[O ao l.length c,ze true] w fun e w'=>e=zh (ze (l.any id))/\Ov w w':=by
 have hI:=Mx ao c l w hn hv
 have hx:=GF id l
 obtain ⟨r,hr⟩:=nm (Fh id l)
 rw [<-hr] at hI hx
 rw [<-hx]
 have HI:=Aa hI
 clear hI hx hr hv hn
 go_enter Tryz.func246,Tryz.ntmps246
 go_wp2_with fail
 refine HI.o.mono ?_
 rintro e w2 ⟨rfl,hb2⟩
 go_wp2_with fail
 go_ret
 exact ⟨by go_num,hb2⟩
structure NI (w0:World) (pc:List Value) (ch:Int) (cv fv:Value) (bn bv bi bs:Nat) (st:NS) (W:World):Prop where
 below:Ov w0 W
 row:Ad (pc++[zd U ch,cv,fv,O (some ⟨bv,0,none⟩) st.vs.length st.vs.length,O (some ⟨bi,0,none⟩) st.cs.length st.cs.length,O (some ⟨bs,0,none⟩) st.nd.length st.nd.length,ze st.mo]) W bn
 len:pc.length=8
 vs:Ad (st.vs.map Value.bool) W bv
 cs:Ad (st.cs.map Value.bool) W bi
 nd:Ad (st.nd.map Value.bool) W bs
 fz:∀ b,b=bn\/b=bv\/b=bi\/b=bs->w0.heap.size<=b/\b < W.heap.size/\∀ j,W.frozen? ⟨b,j,none⟩=false
 ne:bn≠bv/\bn≠bi/\bn≠bs/\bv≠bi/\bv≠bs/\bi≠bs
def XN (bn bv bi bs:Nat) (_:World) (k:Nat):Prop:=k=bn\/k=bv\/k=bi\/k=bs
theorem Db (bn bv bi bs:Nat):XOk (XN bn bv bi bs):=⟨fun _ _ _ _ h=>h⟩
section
variable {w0:World} {pc:List Value} {ch:Int} {cv fv:Value} {bn bv bi bs:Nat} {st:NS} {W W':World}
theorem NI.over (h:NI w0 pc ch cv fv bn bv bi bs st W) (hb:Ov W W'):NI w0 pc ch cv fv bn bv bi bs st W':=
 ⟨h.below.trans (hb.mono h.below.size),h.row.over hb,h.len,h.vs.over hb,h.cs.over hb,h.nd.over hb,fun b hh=>⟨(h.fz b hh).1,Nat.lt_of_lt_of_le (h.fz b hh).2.1 hb.size,fun j=>((AI hb).2 _ _ (h.fz b hh).2.1).trans ((h.fz b hh).2.2 j)⟩,h.ne⟩
theorem NI.cells (h:NI w0 pc ch cv fv bn bv bi bs st W):CE W bn 8 (zd U ch)/\CE W bn 9 cv/\CE W bn 10 fv/\CE W bn 11 (O (some ⟨bv,0,none⟩) st.vs.length st.vs.length)/\CE W bn 12 (O (some ⟨bi,0,none⟩) st.cs.length st.cs.length)/\CE W bn 13 (O (some ⟨bs,0,none⟩) st.nd.length st.nd.length)/\CE W bn 14 (ze st.mo):=by
 have k:∀ j u,[Value.int U ch,cv,fv,O (some ⟨bv,0,none⟩) st.vs.length st.vs.length,O (some ⟨bi,0,none⟩) st.cs.length st.cs.length,O (some ⟨bs,0,none⟩) st.nd.length st.nd.length,ze st.mo][j]? = some u->W.cell? ⟨bn,8+j,none⟩=some u:=fun j u hu=>h.row (8+j) u (by rw [List.getElem?_append_right (by rw [h.len];omega),h.len,Nat.add_sub_cancel_left];exact hu)
 exact ⟨k 0 _ rfl,k 1 _ rfl,k 2 _ rfl,k 3 _ rfl,k 4 _ rfl,k 5 _ rfl,k 6 _ rfl⟩
theorem NI.prog (h:NI w0 pc ch cv fv bn bv bi bs st W):Ad pc W bn:=fun j u hu=>h.row j u (by rw [List.getElem?_append_left (List.getElem?_eq_some_iff.1 hu).1];exact hu)
theorem BW {l:List Bool} {b i:Nat} (h:Ad (l.map Value.bool) W b) (hi:i < l.length):W.cell? ⟨b,i,none⟩=some (ze (l.getD i false)):=by
 refine h i _ ?_
 rw [List.getElem?_map,List.getElem?_eq_getElem hi,List.getD_eq_getElem?_getD,List.getElem?_eq_getElem hi]
 rfl
theorem A0 {cs:List Value} {b k:Nat} (h:Ad cs W b) (hk:W'.heap[b]? = W.heap[b]?):Ad cs W' b:=fun j u hu=>(World.cell?_of_block (a:=⟨b,j,none⟩) hk).trans (h j u hu)
theorem ES (l:List Bool) (i:Nat):(l.set i true).map Value.bool=(l.map Value.bool).set i (ze true):=by rw [List.map_set]
theorem NI.more (h:NI w0 pc ch cv fv bn bv bi bs st W) (m:Bool):NI w0 pc ch cv fv bn bv bi bs { st with mo:=m } (W.setCell ⟨bn,14,none⟩ (ze m))/\FrW (XN bn bv bi bs) W (W.setCell ⟨bn,14,none⟩ (ze m)):=by
 have ho:∀ k,bn≠k->(W.setCell ⟨bn,14,none⟩ (ze m)).heap[k]? = W.heap[k]?:=fun k hk=>Bd hk _
 have hs:(W.setCell ⟨bn,14,none⟩ (ze m)).heap.size=W.heap.size:=by simp [World.setCell]
 refine ⟨⟨h.below.setCell (h.fz bn (Or.inl rfl)).1 _,?_,h.len,A0 (k:=0) h.vs (ho _ h.ne.1),A0 (k:=0) h.cs (ho _ h.ne.2.1),A0 (k:=0) h.nd (ho _ h.ne.2.2.1),fun b hh=>⟨(h.fz b hh).1,by rw [hs];exact (h.fz b hh).2.1,fun j=>AC.trans ((h.fz b hh).2.2 j)⟩,h.ne⟩,⟨rfl,rfl,rfl,by rw [hs];exact Nat.le_refl _,fun k hk hx=>ho k (fun e=>hx (Or.inl e.symm)),fun k hk hx=>hx⟩⟩
 have:=h.row.set (j:=14) (v:=ze m) (by simp [h.len])
 rw [List.set_append,if_neg (by rw [h.len];omega),h.len] at this
 exact this
theorem NI.addV (h:NI w0 pc ch cv fv bn bv bi bs st W) {i:Nat} (hi:i < st.vs.length):NI w0 pc ch cv fv bn bv bi bs { st with vs:=st.vs.set i true } (W.setCell ⟨bv,i,none⟩ (ze true))/\FrW (XN bn bv bi bs) W (W.setCell ⟨bv,i,none⟩ (ze true)):=by
 have ho:∀ k,bv≠k->(W.setCell ⟨bv,i,none⟩ (ze true)).heap[k]? = W.heap[k]?:=fun k hk=>Bd hk _
 have hs:(W.setCell ⟨bv,i,none⟩ (ze true)).heap.size=W.heap.size:=by simp [World.setCell]
 have hrow:Ad ((st.vs.set i true).map Value.bool) (W.setCell ⟨bv,i,none⟩ (ze true)) bv:=by
  rw [ES]
  exact h.vs.set (by rw [List.length_map];exact hi)
 have hn:=A0 (k:=0) h.row (ho _ h.ne.1.symm)
 refine ⟨⟨h.below.setCell (h.fz bv (Or.inr (Or.inl rfl))).1 _,by simpa using hn,h.len,hrow,A0 (k:=0) h.cs (ho _ h.ne.2.2.2.1),A0 (k:=0) h.nd (ho _ h.ne.2.2.2.2.1),fun b hh=>⟨(h.fz b hh).1,by rw [hs];exact (h.fz b hh).2.1,fun j=>AC.trans ((h.fz b hh).2.2 j)⟩,h.ne⟩,⟨rfl,rfl,rfl,by rw [hs];exact Nat.le_refl _,fun k hk hx=>ho k (fun e=>hx (by rw [<-e];exact (Or.inr (Or.inl rfl)))),fun k hk hx=>hx⟩⟩
theorem NI.addC (h:NI w0 pc ch cv fv bn bv bi bs st W) {i:Nat} (hi:i < st.cs.length):NI w0 pc ch cv fv bn bv bi bs { st with cs:=st.cs.set i true } (W.setCell ⟨bi,i,none⟩ (ze true))/\FrW (XN bn bv bi bs) W (W.setCell ⟨bi,i,none⟩ (ze true)):=by
 have ho:∀ k,bi≠k->(W.setCell ⟨bi,i,none⟩ (ze true)).heap[k]? = W.heap[k]?:=fun k hk=>Bd hk _
 have hs:(W.setCell ⟨bi,i,none⟩ (ze true)).heap.size=W.heap.size:=by simp [World.setCell]
 have hrow:Ad ((st.cs.set i true).map Value.bool) (W.setCell ⟨bi,i,none⟩ (ze true)) bi:=by
  rw [ES]
  exact h.cs.set (by rw [List.length_map];exact hi)
 have hn:=A0 (k:=0) h.row (ho _ h.ne.2.1.symm)
 refine ⟨⟨h.below.setCell (h.fz bi (Or.inr (Or.inr (Or.inl rfl)))).1 _,by simpa using hn,h.len,A0 (k:=0) h.vs (ho _ h.ne.2.2.2.1.symm),hrow,A0 (k:=0) h.nd (ho _ h.ne.2.2.2.2.2),fun b hh=>⟨(h.fz b hh).1,by rw [hs];exact (h.fz b hh).2.1,fun j=>AC.trans ((h.fz b hh).2.2 j)⟩,h.ne⟩,⟨rfl,rfl,rfl,by rw [hs];exact Nat.le_refl _,fun k hk hx=>ho k (fun e=>hx (by rw [<-e];exact (Or.inr (Or.inr (Or.inl rfl))))),fun k hk hx=>hx⟩⟩
theorem NI.addN (h:NI w0 pc ch cv fv bn bv bi bs st W) {i:Nat} (hi:i < st.nd.length):NI w0 pc ch cv fv bn bv bi bs { st with nd:=st.nd.set i true } (W.setCell ⟨bs,i,none⟩ (ze true))/\FrW (XN bn bv bi bs) W (W.setCell ⟨bs,i,none⟩ (ze true)):=by
 have ho:∀ k,bs≠k->(W.setCell ⟨bs,i,none⟩ (ze true)).heap[k]? = W.heap[k]?:=fun k hk=>Bd hk _
 have hs:(W.setCell ⟨bs,i,none⟩ (ze true)).heap.size=W.heap.size:=by simp [World.setCell]
 have hrow:Ad ((st.nd.set i true).map Value.bool) (W.setCell ⟨bs,i,none⟩ (ze true)) bs:=by
  rw [ES]
  exact h.nd.set (by rw [List.length_map];exact hi)
 have hn:=A0 (k:=0) h.row (ho _ h.ne.2.2.1.symm)
 refine ⟨⟨h.below.setCell (h.fz bs (Or.inr (Or.inr (Or.inr rfl)))).1 _,by simpa using hn,h.len,A0 (k:=0) h.vs (ho _ h.ne.2.2.2.2.1.symm),A0 (k:=0) h.cs (ho _ h.ne.2.2.2.2.2.symm),hrow,fun b hh=>⟨(h.fz b hh).1,by rw [hs];exact (h.fz b hh).2.1,fun j=>AC.trans ((h.fz b hh).2.2 j)⟩,h.ne⟩,⟨rfl,rfl,rfl,by rw [hs];exact Nat.le_refl _,fun k hk hx=>ho k (fun e=>hx (by rw [<-e];exact (Or.inr (Or.inr (Or.inr rfl))))),fun k hk hx=>hx⟩⟩
theorem Ld (h:NI w0 pc ch cv fv bn bv bi bs st W) (i:Nat) (hi:i < st.vs.length) (hl:st.vs.length<=1000) :
  Calls Tryz.prog 197 #[zi (some ⟨bn,0,none⟩),O (some ⟨bv,0,none⟩) st.vs.length st.vs.length,zd U (i:Int)] W fun e W'=>e=zh (zj #[])/\NI w0 pc ch cv fv bn bv bi bs (st.needV (i:Int)) W'/\FrW (XN bn bv bi bs) W W'/\KeepsOthers W W'/\Below w0.heap.size W W':=by
 refine (EQ bn bv _ _ i (st.vs.getD i false) st.mo W hi hl (BW h.vs hi) ((h.fz bv (Or.inr (Or.inl rfl))).2.2 i) h.cells.2.2.2.2.2.2 ((h.fz bn (Or.inl rfl)).2.2 14) h.ne.1.symm).mono ?_
 rintro e W' ⟨rfl,rfl⟩
 refine ⟨rfl,?_⟩
 unfold NS.needV
 rw [show ((i:Int)).toNat=i from rfl]
 cases hx:st.vs.getD i false with
 | true=>rw [if_pos rfl,if_pos rfl];exact ⟨h,FrW.refl _,KeepsOthers.refl _,Below.refl _ _⟩
 | false=>
  rw [if_neg (by decide),if_neg (by decide)]
  have h1:=h.addV hi
  have h2:=h1.1.more true
  exact ⟨h2.1,h1.2.trans h2.2,(KeepsOthers.setCell _ _ _).trans (KeepsOthers.setCell _ _ _),((Below.refl _ _).setCell (h.fz bv (Or.inr (Or.inl rfl))).1 _).setCell (h.fz bn (Or.inl rfl)).1 _⟩
theorem Lf (h:NI w0 pc ch cv fv bn bv bi bs st W) (i:Nat) (hi:i < st.cs.length) (hl:st.cs.length<=1000) :
  Calls Tryz.prog 197 #[zi (some ⟨bn,0,none⟩),O (some ⟨bi,0,none⟩) st.cs.length st.cs.length,zd U (i:Int)] W fun e W'=>e=zh (zj #[])/\NI w0 pc ch cv fv bn bv bi bs (st.needC (i:Int)) W'/\FrW (XN bn bv bi bs) W W':=by
 refine (EQ bn bi _ _ i (st.cs.getD i false) st.mo W hi hl (BW h.cs hi) ((h.fz bi (Or.inr (Or.inr (Or.inl rfl)))).2.2 i) h.cells.2.2.2.2.2.2 ((h.fz bn (Or.inl rfl)).2.2 14) h.ne.2.1.symm).mono ?_
 rintro e W' ⟨rfl,rfl⟩
 refine ⟨rfl,?_⟩
 unfold NS.needC
 rw [show ((i:Int)).toNat=i from rfl]
 cases hx:st.cs.getD i false with
 | true=>rw [if_pos rfl,if_pos rfl];exact ⟨h,FrW.refl _⟩
 | false=>
  rw [if_neg (by decide),if_neg (by decide)]
  have h1:=h.addC hi
  have h2:=h1.1.more true
  exact ⟨h2.1,h1.2.trans h2.2⟩
theorem Le (h:NI w0 pc ch cv fv bn bv bi bs st W) (i:Nat) (hi:i < st.nd.length) (hl:st.nd.length<=1000) :
  Calls Tryz.prog 197 #[zi (some ⟨bn,0,none⟩),O (some ⟨bs,0,none⟩) st.nd.length st.nd.length,zd U (i:Int)] W fun e W'=>e=zh (zj #[])/\NI w0 pc ch cv fv bn bv bi bs (st.needN i) W'/\FrW (XN bn bv bi bs) W W':=by
 refine (EQ bn bs _ _ i (st.nd.getD i false) st.mo W hi hl (BW h.nd hi) ((h.fz bs (Or.inr (Or.inr (Or.inr rfl)))).2.2 i) h.cells.2.2.2.2.2.2 ((h.fz bn (Or.inl rfl)).2.2 14) h.ne.2.2.1.symm).mono ?_
 rintro e W' ⟨rfl,rfl⟩
 refine ⟨rfl,?_⟩
 unfold NS.needN
 skip
 cases hx:st.nd.getD i false with
 | true=>rw [if_pos rfl,if_pos rfl];exact ⟨h,FrW.refl _⟩
 | false=>
  rw [if_neg (by decide),if_neg (by decide)]
  have h1:=h.addN hi
  have h2:=h1.1.more true
  exact ⟨h2.1,h1.2.trans h2.2⟩
end
end Go.Proofs.YtfffpjkcfnekaaaGreat.Ex
