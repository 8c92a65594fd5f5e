/- Rows in memory. -/
import Derived.Maps.AppendAt
import Derived.Test.YtfffpjkcfnekaaaGreatH15
import Derived.Test.YtfffpjkcfnekaaaGreatH11
set_option linter.unusedVariables false
set_option maxHeartbeats 8000000
set_option maxRecDepth 100000
namespace Go.Proofs.YtfffpjkcfnekaaaGreat.Ex
open Go.RowKit
open Go.Value renaming slice -> O, int -> zd, bool -> ze, agg -> zg, pointer -> zi, tuple -> zj
open Go.IntKind renaming i64 -> U
open Go.Obj renaming cells -> zf
open Go.Ending renaming returned -> zh
theorem MF (args:Array Value) (w:World):(callFunc 178 args).run Tryz.prog w=.ok (.enter 178 args) w:=by simp [go_sem]
theorem ME (args:Array Value) (w:World):(callFunc 179 args).run Tryz.prog w=.ok (.enter 179 args) w:=by simp [go_sem]
theorem Ad.set {cs:List Value} {w:World} {b j:Nat} {v:Value} (h:Ad cs w b) (hj:j < cs.length):Ad (cs.set j v) (w.setCell ⟨b,j,none⟩ v) b:=by
 have hc:=h j _ (List.getElem?_eq_getElem hj)
 have hb:=bL hc
 intro k u hu
 by_cases hk:k=j
 ·subst hk
  rw [List.getElem?_set_self hj] at hu
  simp at hu
  subst hu
  simp [go_sem,hc]
 ·rw [List.getElem?_set_ne (by omega)] at hu
  have:=h k u hu
  simp [go_sem,this]
theorem Ad.other {cs:List Value} {w:World} {b b' j:Nat} {v:Value} (h:Ad cs w b) (hb:b≠b'):Ad cs (w.setCell ⟨b',j,none⟩ v) b:=fun k u hu=>by
 have:=h k u hu
 simp [go_sem,this]
theorem Ad.drew {cs:List Value} {w:World} {b:Nat} (h:Ad cs w b):Ad cs w.drew b:=fun k u hu=>h k u hu
theorem J2 {w w0 w1:World} {a0 a1 a2 a3 a4 a5 a6 a7:Addr} {v0 v1 v2 v3 v4 v5 v6 v7:Value}
  (h:w0.cell? a0=some v0/\w0.cell? a1=some v1/\w0.cell? a2=some v2/\w0.cell? a3=some v3/\w0.cell? a4=some v4/\w0.cell? a5=some v5/\w0.cell? a6=some v6/\w0.cell? a7=some v7/\Ov w w0) (hb:Ov w0 w1) :
  w1.cell? a0=some v0/\w1.cell? a1=some v1/\w1.cell? a2=some v2/\w1.cell? a3=some v3/\w1.cell? a4=some v4/\w1.cell? a5=some v5/\w1.cell? a6=some v6/\w1.cell? a7=some v7/\Ov w w1:=by
 obtain ⟨h0,h1,h2,h3,h4,h5,h6,h7,hB⟩:=h
 exact ⟨Ab hb _ _ h0,Ab hb _ _ h1,Ab hb _ _ h2,Ab hb _ _ h3,Ab hb _ _ h4,Ab hb _ _ h5,Ab hb _ _ h6,Ab hb _ _ h7,hB.trans (hb.mono hB.size)⟩
theorem Bb {w w':World} {r b j:Nat} {u:Value} (hg:w.grownBy w' (some r)) (h:w.cell? ⟨b,j,none⟩=some u) (hne:b≠r):w'.cell? ⟨b,j,none⟩=some u:=by
 have hb:=bL h
 rw [World.cell?_of_block (w:=w) (hg.block b hb (fun e=>hne (Option.some.inj e)))]
 exact h
theorem Cr {w:World} {r n j:Nat} {u:Value}:w.grownBy ((w.drewN n).setCell ⟨r,j,none⟩ u) (some r):=by
 have h:=Below.heap_setCell (w.drewN n) ⟨r,j,none⟩ u
 refine ⟨rfl,rfl,rfl,by simp [World.setCell],fun k hk hne=>?_⟩
 rw [h k (fun e=>hne (by rw [e]))]
 rfl
theorem EY {w w0 w1:World} {a0 a1 a2 a3:Addr} {v0 v1 v2 v3:Value}
  (h:w0.cell? a0=some v0/\w0.cell? a1=some v1/\w0.cell? a2=some v2/\w0.cell? a3=some v3/\Ov w w0) (hb:Ov w0 w1) :
  w1.cell? a0=some v0/\w1.cell? a1=some v1/\w1.cell? a2=some v2/\w1.cell? a3=some v3/\Ov w w1:=by
 obtain ⟨h0,h1,h2,h3,hB⟩:=h
 exact ⟨Ab hb _ _ h0,Ab hb _ _ h1,Ab hb _ _ h2,Ab hb _ _ h3,hB.trans (hb.mono hB.size)⟩
theorem Tryz.infoE:(Tryz.prog.info? 136).map (fun i=>(i.zero,i.size,i.bytes))=some (some (zg #[zd U 0,zd U 0,zd U 0,zd U 0]),4,32):=by kernel_rfl
theorem Ad.newA (cs:Array Value) (t:Nat) (w:World):Ad cs.toList (w.alloc (.cells cs t)) w.heap.size:=fun j u hu=>by
 rw [Lib.cell_of_heap (heap_alloc_new w _)]
 simpa using hu
theorem JV {w w':World} {r a b j k l:Nat} {x y z:Value} (h:w.cell? ⟨a,j,none⟩=some x/\w.cell? ⟨b,k,none⟩=some y/\w.cell? ⟨b,l,none⟩=some z) (hg:w.grownBy w' (some r)) (ha:a≠r) (hb:b≠r) :
  w'.cell? ⟨a,j,none⟩=some x/\w'.cell? ⟨b,k,none⟩=some y/\w'.cell? ⟨b,l,none⟩=some z:=⟨Bb hg h.1 ha,Bb hg h.2.1 hb,Bb hg h.2.2 hb⟩
theorem Mw {w w':World} {b j k l m:Nat} {x y z u:Value} (h:w.cell? ⟨b,j,none⟩=some x/\w.cell? ⟨b,k,none⟩=some y/\w.cell? ⟨b,l,none⟩=some z/\w.cell? ⟨b,m,none⟩=some u) (hg:Ov w w') :
  w'.cell? ⟨b,j,none⟩=some x/\w'.cell? ⟨b,k,none⟩=some y/\w'.cell? ⟨b,l,none⟩=some z/\w'.cell? ⟨b,m,none⟩=some u:=⟨Ab hg _ _ h.1,Ab hg _ _ h.2.1,Ab hg _ _ h.2.2.1,Ab hg _ _ h.2.2.2⟩
def Bm (w:World) (v:Value) (ls:List (List Int)):Prop:=
 ls.length<=maxLen/\∃ ao cap,v=O ao ls.length cap/\(ls≠[]->∃ b off,ao=some ⟨b,off,none⟩/\∀ i (h:i < ls.length),∃ u,w.cell? ⟨b,off+i,none⟩=some u/\Aq w u ls[i]/\ls[i].length<=9223372036854775807)
theorem Bm.over {w w':World} {v:Value} {ls:List (List Int)} (h:Bm w v ls) (hb:Ov w w'):Bm w' v ls:=by
 obtain ⟨hm,ao,cap,hv,hc⟩:=h
 refine ⟨hm,ao,cap,hv,fun hne=>?_⟩
 obtain ⟨b,off,hao,hel⟩:=hc hne
 refine ⟨b,off,hao,fun i hi=>?_⟩
 obtain ⟨u,h0,h1,h2⟩:=hel i hi
 exact ⟨u,Ab hb _ _ h0,h1.over hb,h2⟩
theorem Hc (a n c) (w:World):Calls Tryz.prog 178 #[O a n c] w fun e w'=>e=zh (ze (decide (100 < n)))/\w'=w:=by
 by_cases h:100 < n
 ·go_enter Tryz.func178,Tryz.ntmps178
  go_wp2_with fail
  go_ret
  exact ⟨by simp;omega,rfl⟩
 ·go_enter Tryz.func178,Tryz.ntmps178
  go_wp2_with fail
  go_ret
  exact ⟨by simp;omega,rfl⟩
theorem Fi (l) (v:Value) (w:World) (h:Aq w v l) (hl:l.length<=9223372036854775807):Calls Tryz.prog 179 #[v] w fun e w'=>e=zh (ze (!l.all Cs))/\w'=w:=by
 have K:=Aa (CV l _ w h hl)
 obtain ⟨a,c,rfl,-⟩:=h
 go_enter Tryz.func179,Tryz.ntmps179
 go_wp2_with fail
 refine (K.o).mono ?_
 rintro e w1 ⟨rfl,rfl⟩
 go_wp2_with fail
 go_ret
 exact ⟨rfl,rfl⟩
theorem EX (F:FuncId) (p:List Int->Bool) (ls) (v:Value) (w:World) (h:Bm w v ls)
  (hF:Hx (∀ (l:List Int) (u:Value),Aq w u l->l.length<=9223372036854775807->Calls Tryz.prog F #[u] w fun e w'=>e=zh (ze (p l))/\w'=w)) (hC:∀ (args:Array Value) (w:World),(callFunc F args).run Tryz.prog w=.ok (.enter F args) w) :
  Calls Tryz.prog 221 #[v,.func (.func F) #[] #[]] w fun e w'=>∃ r:Int,e=zh (zd U r)/\decide (0<=r)=ls.any p/\w'=w:=by
 obtain ⟨hm,ao,cap,rfl,hcc⟩:=h
 have hm2:ls.length<=9223372036854775807:=hm
 have HCC:=Aa hcc
 clear hcc hm
 go_enter Tryz.func221,Tryz.ntmps221
 go_wp2_with fail
 go_loopw [8] (fun i wr=>∃ k:Nat,k<=ls.length/\i=zd U k/\(ls.take k).any p=false/\wr=w) (fun i _=>ls.length - (intOf i).toNat)
 case atStart=>exact ⟨0,Nat.zero_le _,rfl,rfl,rfl⟩
 case round=>
  obtain ⟨k,hk,rfl,hall,rfl⟩:=hrel
  have HA:=Aa hall
  clear hall
  by_cases hkl:k < ls.length
  ·obtain ⟨b,off,rfl,hcl⟩:=HCC.o (by rintro rfl;simp at hkl)
   obtain ⟨u,q0,hu,hul⟩:=hcl k hkl
   have hst:p ls[k]=true->ls.any p=true:=fun h=>by rw [List.any_eq_true];exact ⟨ls[k],List.getElem_mem hkl,h⟩
   have hnx:p ls[k]=false->(ls.take (k+1)).any p=false:=fun h=>by rw [List.take_succ_eq_append_getElem hkl,List.any_append,HA.o];simp [h]
   have hcall:=hF.o ls[k] u hu hul
   obtain ⟨r,hr⟩:=nm (p ls[k])
   rw [<-hr] at hcall hst hnx
   have HCALL:=Aa hcall
   have HST:=Aa hst
   have HNX:=Aa hnx
   obtain ⟨a2,c2,rfl,-⟩:=hu
   clear hcall hst hnx hr hcl HA hF
   cases r with
   | false=>
    go_wp2_with fail
    refine (HCALL.o).mono ?_
    rintro e w2 ⟨rfl,rfl⟩
    go_wp2_with fail
    exact ⟨⟨k+1,by omega,by go_num,HNX.o (by first | rfl | trivial),by first | rfl | trivial⟩,by simp [intOf];omega⟩
   | true=>
    go_wp2_with fail
    refine (HCALL.o).mono ?_
    rintro e w2 ⟨rfl,rfl⟩
    go_wp2_with fail
    go_ret
    refine ⟨(k:Int),by first | rfl | trivial,?_,by first | rfl | trivial⟩
    rw [HST.o (by first | rfl | trivial)]
    simp
  ·have ha:=HA.o
   rw [List.take_of_length_le (by omega)] at ha
   have HD:=Aa ha
   clear ha HA hF
   go_wp2_with fail
   go_ret
   refine ⟨-1,by first | rfl | trivial,?_,by first | rfl | trivial⟩
   rw [HD.o]
   rfl
theorem CJ (F:FuncId) (p:List Int->Bool) (ls) (v:Value) (w:World) (h:Bm w v ls)
  (hF:Hx (∀ (l:List Int) (u:Value),Aq w u l->l.length<=9223372036854775807->Calls Tryz.prog F #[u] w fun e w'=>e=zh (ze (p l))/\w'=w)) (hC:∀ (args:Array Value) (w:World),(callFunc F args).run Tryz.prog w=.ok (.enter F args) w) :
  Calls Tryz.prog 180 #[v,.func (.func F) #[] #[]] w fun e w'=>e=zh (ze (ls.any p))/\w'=w:=by
 have K:=Aa (EX F p ls v w h hF hC)
 obtain ⟨hm,ao,cap,rfl,hcc⟩:=h
 obtain ⟨q,hq⟩:=nm (ls.any p)
 rw [<-hq] at K ⊢
 clear hcc hq hF
 go_enter Tryz.func180,Tryz.ntmps180
 go_wp2_with fail
 refine (K.o).mono ?_
 rintro e w1 ⟨r,rfl,hr,rfl⟩
 have HR:=Aa hr
 clear hr
 go_wp2_with fail
 go_ret
 exact ⟨by rw [<-HR.o];simp,rfl⟩
structure okR (K kf:Nat) (m:Int) (vn yn on sn:Nat) (gs:List (Int × Int)) (sp:List Int) (ls ms:List Lab) (vs:List (Bool × Lab)) (fs:List FnD) (l:List D) (ins:List (List Int)) (fuel:Int):Prop where
 prog:Ey.xP K kf m vn yn on sn gs sp ls ms vs fs l
 many:ins.length=yn
 long:∀ x∈ins,x.length<=100
 num:∀ x∈ins,∀ y∈x,I32 y
 f0:0<=fuel
 f1:fuel<=2000
def eRz (z:Int) (yn:Nat) (ins:List (List Int)) (fuel:Int):Int:=
 if z=0 then if ins.length=yn then if ins.any (fun l=>decide (100 < l.length))=true then 2 else if ins.any (fun l=>!l.all Cs)=true then 3 else if fuel < 0\/2000 < fuel then 3 else 0 else 1 else z
def eR [dc:∀ p:Prop,Decidable p] (K kf:Nat) (m:Int) (vn yn on sn:Nat) (gs:List (Int × Int)) (sp:List Int) (ls ms:List Lab) (vs:List (Bool × Lab)) (fs:List FnD) (l:List D) (ins:List (List Int)) (fuel:Int):Int:=eRz (Ez.eP K kf m vn yn on sn gs sp ls ms vs fs l) yn ins fuel
open Classical in
structure MK (why:Int) (K kf:Nat) (m:Int) (vn yn on sn:Nat) (gs:List (Int × Int)) (sp:List Int) (ls ms:List Lab) (vs:List (Bool × Lab)) (fs:List FnD) (l:List D) (ins:List (List Int)) (fuel:Int):Prop where
 mp:why=0->okR K kf m vn yn on sn gs sp ls ms vs fs l ins fuel
 mpr:okR K kf m vn yn on sn gs sp ls ms vs fs l ins fuel->why=0
 eq:why=eR K kf m vn yn on sn gs sp ls ms vs fs l ins fuel
open Classical in
theorem FF (K kf:Nat) (m:Int) (ga gn gc sa sn sc ya yn yc oa on oc va vn vc fa fn fc ba bn bc) (xa xn xc) (ins) (fuel:Int) (gs sp ls ms vs fs l) (w:World) (h:Bf K kf m ga gn gc sa sn sc ya yn yc oa on oc va vn vc fa fn fc ba bn bc gs sp ls ms vs fs l w) (hx:Bm w (O xa xn xc) ins) :
  Calls Tryz.prog 117 #[zg #[zd U m,O ga gn gc,O sa sn sc,O ya yn yc,O oa on oc,O va vn vc,O fa fn fc,O ba bn bc],O xa xn xc,zd U fuel] w fun e w'=>∃ why:Int,e=zh (zd U why)/\MK why K kf m vn yn on sn gs sp ls ms vs fs l ins fuel/\Ov w w':=by
 have hmf:∀ (fn:Fn) (first cap:Array Value) (w:World),(Instr.makeFunc fn first cap).run Tryz.prog w=.ok (.func fn first cap) w:=fun _ _ _ _=>rfl
 have hbel:Ov w (w.alloc (zf #[zd U m,O ga gn gc,O sa sn sc,O ya yn yc,O oa on oc,O va vn vc,O fa fn fc,O ba bn bc] 31)):=bA w _
 have K1:=Aa (Ez.scopeCheck_any K kf m ga gn gc sa sn sc ya yn yc oa on oc va vn vc fa fn fc ba bn bc gs sp ls ms vs fs l _ (h.over hbel))
 have HX:=Aa (hx.over hbel)
 have hxn:xn=ins.length:=by obtain ⟨-,a,c,he,-⟩:=hx;injection he
 have hxl:xn<=9223372036854775807:=by rw [hxn];exact hx.1
 have hyl:yn<=9223372036854775807:=by obtain ⟨hm,a,c,he,-⟩:=h.ins;injection he with e1 e2 e3;rw [e2];exact hm
 have HXN:=Aa hxn
 have K2:=Aa fun W (hw:Bm W (O xa xn xc) ins)=>CJ 178 (fun l=>decide (100 < l.length)) ins (O xa xn xc) W hw (Aa fun l u hu _=>by
  obtain ⟨a,c,rfl,-⟩:=hu
  exact Hc a l.length c W) MF
 have K3:=Aa fun W (hw:Bm W (O xa xn xc) ins)=>CJ 179 (fun l=>!l.all Cs) ins (O xa xn xc) W hw (Aa fun l u hu hl=>Fi l u W hu hl) ME
 obtain ⟨q2,hq2⟩:=nm (ins.any (fun l=>decide (100 < l.length)))
 obtain ⟨q3,hq3⟩:=nm (ins.any (fun l=>!l.all Cs))
 rw [<-hq2] at K2
 rw [<-hq3] at K3
 have HQ2:=Aa hq2
 have HQ3:=Aa hq3
 have c3:(w.alloc (zf #[zd U m,O ga gn gc,O sa sn sc,O ya yn yc,O oa on oc,O va vn vc,O fa fn fc,O ba bn bc] 31)).cell? ⟨w.heap.size,3,none⟩=some (O ya yn yc):=by simp [go_sem]
 clear h hx hxn hq2 hq3
 go_enter Tryz.func117,Tryz.ntmps117
 go_wp2_with fail
 refine (K1.o).mono ?_
 rintro e w1 ⟨rfl,hb1⟩
 have hok:=Ez.eP_iff K kf m vn yn on sn gs sp ls ms vs fs l
 obtain ⟨E,hE⟩:=nm (Ez.eP K kf m vn yn on sn gs sp ls ms vs fs l)
 rw [<-hE] at hok ⊢
 have HE:=Aa hE
 clear hE
 have d3:=Ab hb1 _ _ c3
 have HX1:=Aa (HX.o.over hb1)
 have hB1:=hbel.trans (hb1.mono hbel.size)
 have HOK:=Aa hok
 clear hbel hb1 K1 HX c3 hok
 by_cases hw:E=0
 rotate_left
 ·have hwb:(E == 0)=false:=by simpa using hw
  go_wp2_with fail
  go_ret
  exact ⟨E,rfl,⟨fun h=>absurd h hw,fun h=>absurd (HOK.o.2 h.prog) hw,by unfold eR eRz;rw [<-HE.o,if_neg hw]⟩,hB1⟩
 subst hw
 by_cases hxy:xn=yn
 rotate_left
 ·have hb:((xn:Int) == (yn:Int))=false:=by simp;omega
  go_wp2_with fail
  go_ret
  exact ⟨1,rfl,⟨fun h=>absurd h (by decide),fun h=>absurd (HXN.o.trans h.many) hxy,by unfold eR eRz;rw [<-HE.o,if_pos rfl,if_neg (fun h=>hxy (HXN.o.trans h))]⟩,hB1⟩
 have hb:((xn:Int) == (yn:Int))=true:=by simp;omega
 have HXY:=Aa hxy
 clear hxy
 go_wp2_with fail
 refine (K2.o _ HX1.o).mono ?_
 rintro e w2 ⟨rfl,rfl⟩
 cases q2 with
 | true=>
  go_wp2_with fail
  go_ret
  refine ⟨2,rfl,⟨fun h=>absurd h (by decide),fun h=>?_,by unfold eR eRz;rw [<-HE.o,if_pos rfl,if_pos (HXN.o.symm.trans HXY.o),if_pos HQ2.o.symm]⟩,hB1⟩
  obtain ⟨x,hx,hl⟩:=List.any_eq_true.1 HQ2.o.symm
  exact absurd (h.long x hx) (by simpa using hl)
 | false=>
 go_wp2_with fail
 refine (K3.o _ HX1.o).mono ?_
 rintro e w3 ⟨rfl,rfl⟩
 cases q3 with
 | true=>
  go_wp2_with fail
  go_ret
  refine ⟨3,rfl,⟨fun h=>absurd h (by decide),fun h=>?_,by unfold eR eRz;rw [<-HE.o,if_pos rfl,if_pos (HXN.o.symm.trans HXY.o),if_neg (by rw [<-HQ2.o];decide),if_pos HQ3.o.symm]⟩,hB1⟩
  obtain ⟨x,hx,hl⟩:=List.any_eq_true.1 HQ3.o.symm
  have ha:x.all Cs=true:=List.all_eq_true.2 fun y hy=>by simpa [Cs,I32] using h.num x hx y hy
  simp [ha] at hl
 | false=>
 by_cases hf0:fuel < 0
 ·go_wp2_with fail
  go_ret
  exact ⟨3,rfl,⟨fun h=>absurd h (by decide),fun h=>by have:=h.f0;omega,by unfold eR eRz;rw [<-HE.o,if_pos rfl,if_pos (HXN.o.symm.trans HXY.o),if_neg (by rw [<-HQ2.o];decide),if_neg (by rw [<-HQ3.o];decide),if_pos (Or.inl hf0)]⟩,hB1⟩
 by_cases hf1:2000 < fuel
 ·go_wp2_with fail
  go_ret
  exact ⟨3,rfl,⟨fun h=>absurd h (by decide),fun h=>by have:=h.f1;omega,by unfold eR eRz;rw [<-HE.o,if_pos rfl,if_pos (HXN.o.symm.trans HXY.o),if_neg (by rw [<-HQ2.o];decide),if_neg (by rw [<-HQ3.o];decide),if_pos (Or.inr hf1)]⟩,hB1⟩
 go_wp2_with fail
 go_ret
 refine ⟨0,rfl,⟨fun _=>⟨HOK.o.1 (by first | rfl | trivial),by rw [<-HXN.o];exact HXY.o,fun x hx=>?_,fun x hx y hy=>?_,by omega,by omega⟩,fun _=>rfl,by unfold eR eRz;rw [<-HE.o,if_pos rfl,if_pos (HXN.o.symm.trans HXY.o),if_neg (by rw [<-HQ2.o];decide),if_neg (by rw [<-HQ3.o];decide),if_neg (by omega)]⟩,hB1⟩
 ·have:=List.any_eq_false.1 HQ2.o.symm x hx
  simpa using this
 ·have:=List.any_eq_false.1 HQ3.o.symm x hx
  simp only [Bool.not_eq_true,Bool.not_eq_false'] at this
  have:=List.all_eq_true.1 this y hy
  simpa [Cs,I32] using this
end Go.Proofs.YtfffpjkcfnekaaaGreat.Ex
namespace Go.Proofs.YtfffpjkcfnekaaaGreat.Ex
open Go.RowKit
open Go.Value renaming slice -> O, int -> zd, bool -> ze, agg -> zg, pointer -> zi, tuple -> zj
open Go.IntKind renaming i64 -> U
open Go.Obj renaming cells -> zf
open Go.Ending renaming returned -> zh
open Go.ChangeShapes Go.WideShapes Go.ChangeAt
section
variable {H:Type} {enc:TypeId × Value->H} {W:World}
theorem Gm {fuel:Nat} {v:Value} {x:DataW H × List MemPlace} (h:DataW.trod enc Tryz.prog W 0 (fun _=>true) true fuel 52 [v]=some x):∃ l:List (List Int),Bm W v l/\LAt 1 (fun cs x=>∃ u,cs=[u]/\LAt 1 (fun cs x=>cs=[zd U x]) W u x) W v l:=by
 obtain ⟨l,hl⟩:=Bz Tryz.underlying52 Tryz.cells25 (by omega) h [] (fun cs (x:List Int)=>∃ u,cs=[u]/\LAt 1 (fun cs x=>cs=[zd U x]) W u x) fun m cs y _ hy=>by
  have hlen:cs.length=1:=by
   rcases DataW.trod_slice Tryz.underlying25 hy with ⟨hcs,-⟩ | ⟨ad,len,cap,elems,rest,m,rfl,hcs,-⟩
   ·rw [hcs];rfl
   ·rw [hcs];rfl
  match cs,hlen with
  | [u],_=>
   obtain ⟨l,hl⟩:=C3 hy
   exact ⟨l,u,rfl,hl⟩
 refine ⟨l,?_,hl⟩
 obtain ⟨hm,ao,cap,hv,-,-,-,hc⟩:=hl
 refine ⟨hm,ao,cap,hv,fun hne=>?_⟩
 obtain ⟨b,off,hb,hel⟩:=hc hne
 refine ⟨b,off,hb,fun i hi=>?_⟩
 obtain ⟨cs,-,hcs,u,rfl,hu⟩:=hel i l[i] (List.getElem?_eq_getElem hi)
 refine ⟨u,by have:=hcs 0 _ rfl;simpa using this,FV hu,?_⟩
 have:=hu.1
 unfold maxLen at this
 omega
theorem open_lists {r:Go.Reach} {b0:Nat} {v:Value} {d:DataW H} {p:List MemPlace} (hv:Value.okWide Tryz.prog W r b0 52 v) (h:DataW.Trod enc Tryz.prog W 0 (fun _=>true) true 52 v d p) :
  ∃ (a:Option Addr) (n c:Nat) (l:List (List Int)),v=O a n c/\Bm W (O a n c) l/\LAt 1 (fun cs x=>∃ u,cs=[u]/\LAt 1 (fun cs x=>cs=[zd U x]) W u x) W (O a n c) l:=by
 obtain ⟨a,n,c,rfl⟩:=okWide_slice Tryz.underlying52 hv
 obtain ⟨fuel,hf⟩:=h
 have hf2:DataW.trod enc Tryz.prog W 0 (fun _=>true) true fuel 52 [O a n c]=some (d,p):=by simpa [Value.cells] using hf
 obtain ⟨l,h1,h2⟩:=Gm hf2
 exact ⟨a,n,c,l,rfl,h1,h2⟩
end
end Go.Proofs.YtfffpjkcfnekaaaGreat.Ex
namespace Go.Proofs.YtfffpjkcfnekaaaGreat.Ex
open Go.RowKit
open Go.Value renaming slice -> O, int -> zd, bool -> ze, agg -> zg, pointer -> zi, tuple -> zj
open Go.IntKind renaming i64 -> U
open Go.Obj renaming cells -> zf
open Go.Ending renaming returned -> zh
abbrev Ev4:=Int × Int × Int × Int
structure WSt where
 vs:List Lev
 ps:List Lev
abbrev Ob:=Nat->Int->Nat->D->WSt->Bool × WSt
def AF:Ob:=fun _ _ _ _ s=>(true,s)
structure RSt where
 ev:List Ev4
 vars:List Int
 taken:List Int
 steps:Nat
 en:Int
 sp:Int
 o:WSt
def RSt.step (st:RSt):RSt:={ st with steps:=st.steps+1 }
def RSt.out (st:RSt):RSt:={ st with en:=2 }
def RSt.setv (st:RSt) (v x:Int):RSt:={ st with vars:=st.vars.set v.toNat x }
def RSt.tell (st:RSt) (e:Ev4):RSt:={ st with ev:=st.ev++[e] }
def RSt.took (st:RSt) (c:Int):RSt:={ st with taken:=st.taken.set c.toNat (st.taken.getD c.toNat 0+1) }
def RSt.held (st:RSt) (o:WSt):RSt:={ st with o:=o }
def RSt.stop (st:RSt) (a:Int) (o:WSt):RSt:={ st with o:=o,en:=3,sp:=a }
def Cz (ins:List (List Int)) (st:RSt) (c:Int):Int:=(ins.getD c.toNat []).getD (st.taken.getD c.toNat 0).toNat 0
def A6 (vs:List Int) (l:List (Int × Int)):List Int:=l.foldl (fun vs q=>vs.set q.1.toNat q.2) vs
def AU (r:Bool × RSt) (f:RSt->Bool × RSt):Bool × RSt:=if r.1=true then f r.2 else r
def Bo (ob:Ob) (kind:Nat) (a:Int) (dp:Nat) (d:D) (st:RSt):Bool × RSt:=
 if (ob kind a dp d st.o).1=true then (true,st.held (ob kind a dp d st.o).2) else (false,st.stop a (ob kind a dp d st.o).2)
def CC (K:Nat) (ins:List (List Int)) (d:D) (a:Int) (st:RSt):RSt:=
 if Ae d=1 then st.setv (Av d) (Aw st.vars K (Ai d))
 else if Ae d=3 then (st.took (Ac d)).setv (Av d) (Cz ins st (Ac d))
 else if Ae d=4 then st.tell (1,a,Ac d,Aw st.vars K (Ai d))
 else if Ae d=5 then (st.setv (Av d) (Aw st.vars K (Ai d))).tell (2,a,Av d,Aw st.vars K (Ai d))
 else if Ae d=6 then (st.setv (Av d) (Aw st.vars K (Ai d))).tell (3,a,Av d,Aw st.vars K (Ai d))
 else st
def RSt.args (K:Nat) (fs:List FnD) (d:D) (st:RSt):RSt:={ st with vars:=A6 st.vars ((AQ fs (Ac d)).ps.zip ((Ah d).map (Aw st.vars K))) }
def rn (K kf:Nat) (fs:List FnD) (F:Nat) (ins:List (List Int)) (ob:Ob):Nat->Nat->Nat->List D->Int->Nat->RSt->Bool × RSt
 | 0,_,_,_,_,_,st=>(false,st)
 | g+1,0,k,l,a,dp,st=>
  match l with
  | []=>(true,st)
  | d::r=>if st.steps=F then (false,st.out) else AU (Bo ob 1 a dp d st.step) (fun st1=>AU (rn K kf fs F ins ob g 1 k [d] a dp st1) (fun st'=>rn K kf fs F ins ob g 0 k r (a+Bi k d) dp st'))
 | g+1,1,k,l,a,dp,st=>
  match l with
  | []=>(true,st)
  | d::_=>
   if Ae d=2 then AU (rn K kf fs F ins ob g 0 kf (AQ fs (Ac d)).body (An kf (fs.take (Ac d).toNat)) dp (st.args K fs d)) (fun st1=>AU (Bo ob 3 a dp d st1) (fun st'=>(true,st'.setv (Av d) (Aw st'.vars K (AQ fs (Ac d)).res))))
   else if Ae d=7 then (if Aw st.vars K (Ai d)=0 then rn K kf fs F ins ob g 0 (k - 1) (Al d) (a+1+Aj (k - 1) (Af d)) (dp+1) st else rn K kf fs F ins ob g 0 (k - 1) (Af d) (a+1) (dp+1) st)
   else if Ae d=8 then rn K kf fs F ins ob g 2 k [d] a dp st
   else (true,CC K ins d a st)
 | g+1,_+2,k,l,a,dp,st=>
  match l with
  | []=>(true,st)
  | d::_=>if Aw st.vars K (Ai d)=0 then (true,st) else AU (rn K kf fs F ins ob g 0 (k - 1) (Af d) (a+1) (dp+1) st) (fun st'=>if st'.steps=F then (false,st'.out) else AU (Bo ob 2 a dp d st'.step) (fun st1=>rn K kf fs F ins ob g 2 k [d] a dp st1))
structure Gr (st st':RSt):Prop where
 ev:st.ev <+: st'.ev
 steps:st.steps<=st'.steps
 len:st'.taken.length=st.taken.length
 taken:∀ c,st.taken.getD c 0<=st'.taken.getD c 0
theorem Gr.refl (st:RSt):Gr st st:=⟨List.prefix_rfl,Nat.le_refl _,rfl,fun _=>Int.le_refl _⟩
theorem Gr.trans {a b c:RSt} (h:Gr a b) (k:Gr b c):Gr a c:=⟨h.ev.trans k.ev,Nat.le_trans h.steps k.steps,k.len.trans h.len,fun x=>Int.le_trans (h.taken x) (k.taken x)⟩
theorem Gr.step (st:RSt):Gr st st.step:=⟨List.prefix_rfl,Nat.le_succ _,rfl,fun _=>Int.le_refl _⟩
theorem Gr.setv (st:RSt) (v x:Int):Gr st (st.setv v x):=⟨List.prefix_rfl,Nat.le_refl _,rfl,fun _=>Int.le_refl _⟩
theorem Gr.tell (st:RSt) (e:Ev4):Gr st (st.tell e):=⟨List.prefix_append _ _,Nat.le_refl _,rfl,fun _=>Int.le_refl _⟩
theorem Gr.args (K:Nat) (fs d) (st:RSt):Gr st (st.args K fs d):=⟨List.prefix_rfl,Nat.le_refl _,rfl,fun _=>Int.le_refl _⟩
theorem BS {l:List Int} {i j:Nat} {x:Int}:(l.set i x).getD j 0=if i=j/\i < l.length then x else l.getD j 0:=by
 rw [List.getD_eq_getElem?_getD,List.getD_eq_getElem?_getD,List.getElem?_set]
 by_cases h:i=j
 ·subst h
  by_cases h2:i < l.length
  ·simp [h2]
  ·simp [h2]
 ·simp [h]
theorem Gr.took (st:RSt) (c:Int):Gr st (st.took c):=⟨List.prefix_rfl,Nat.le_refl _,by simp [RSt.took],fun x=>by
 simp only [RSt.took,BS]
 split
 ·rename_i h
  rw [<-h.1]
  omega
 ·exact Int.le_refl _⟩
theorem Gr.one (K:Nat) (ins d) (a:Int) (st:RSt):Gr st (CC K ins d a st):=by
 unfold CC
 split
 ·exact Gr.setv _ _ _
 ·split
  ·exact (Gr.took _ _).trans (Gr.setv _ _ _)
  ·split
   ·exact Gr.tell _ _
   ·split
    ·exact (Gr.setv _ _ _).trans (Gr.tell _ _)
    ·split
     ·exact (Gr.setv _ _ _).trans (Gr.tell _ _)
     ·exact Gr.refl _
theorem Gr.out (st:RSt):Gr st st.out:=⟨List.prefix_rfl,Nat.le_refl _,rfl,fun _=>Int.le_refl _⟩
theorem Gr.pass (ob:Ob) (kind:Nat) (a:Int) (dp:Nat) (d) (st:RSt):Gr st (Bo ob kind a dp d st).2:=by
 unfold Bo
 split
 ·exact ⟨List.prefix_rfl,Nat.le_refl _,rfl,fun _=>Int.le_refl _⟩
 ·exact ⟨List.prefix_rfl,Nat.le_refl _,rfl,fun _=>Int.le_refl _⟩
theorem C2 (ob:Ob) (kind:Nat) (a:Int) (dp:Nat) (d) (st:RSt):(Bo ob kind a dp d st).2.steps=st.steps:=by
 unfold Bo
 split <;> rfl
theorem BI {st:RSt} {r:Bool × RSt} {f:RSt->Bool × RSt} (h:Gr st r.2) (hf:∀ st',Gr st' (f st').2):Gr st (AU r f).2:=by
 unfold AU
 split
 ·exact h.trans (hf _)
 ·exact h
theorem B5 (K kf:Nat) (fs) (F:Nat) (ins) (ob:Ob):∀ (g m k:Nat) (l:List D) (a:Int) (dp:Nat) (st:RSt),Gr st (rn K kf fs F ins ob g m k l a dp st).2:=by
 intro g
 induction g with
 | zero=>intro m k l a dp st;exact Gr.refl _
 | succ g ih=>
  intro m k l a dp st
  match m,l with
  | 0,[]=>exact Gr.refl _
  | 0,d::r=>
   simp only [rn]
   split
   ·exact Gr.out _
   ·exact BI ((Gr.step st).trans (Gr.pass _ _ _ _ _ _)) (fun st1=>BI (ih _ _ _ _ _ _) (fun st'=>ih _ _ _ _ _ _))
  | 1,[]=>exact Gr.refl _
  | 1,d::r=>
   simp only [rn]
   split
   ·exact BI ((Gr.args K fs d st).trans (ih _ _ _ _ _ _)) (fun st1=>BI (Gr.pass _ _ _ _ _ _) (fun st'=>Gr.setv _ _ _))
   ·split
    ·split
     ·exact ih _ _ _ _ _ _
     ·exact ih _ _ _ _ _ _
    ·split
     ·exact ih _ _ _ _ _ _
     ·exact Gr.one _ _ _ _ _
  | m+2,[]=>exact Gr.refl _
  | m+2,d::r=>
   simp only [rn]
   split
   ·exact Gr.refl _
   ·refine BI (ih _ _ _ _ _ _) (fun st'=>?_)
    split
    ·exact Gr.out _
    ·exact BI ((Gr.step st').trans (Gr.pass _ _ _ _ _ _)) (fun st1=>ih _ _ _ _ _ _)
def D5 (F:Nat) (a b:Bool × RSt):Prop:=a.2.steps<=F/\((a.1=true/\b=a)\/(a.1=false/\a.2.steps=F/\a.2.en=2/\a.2.ev <+: b.2.ev))
theorem D5.same {F:Nat} {st:RSt} (h:st.steps<=F):D5 F (true,st) (true,st):=⟨h,Or.inl ⟨rfl,rfl⟩⟩
theorem Cm {F:Nat} {a b:Bool × RSt} {f f':RSt->Bool × RSt} (h:D5 F a b) (hf:a.1=true->a.2.steps<=F->D5 F (f a.2) (f' a.2)) (hg:∀ st',Gr st' (f' st').2):D5 F (AU a f) (AU b f'):=by
 obtain ⟨hs,⟨h1,rfl⟩ | ⟨h1,h2,h4,h3⟩⟩:=h
 ·unfold AU
  rw [if_pos h1,if_pos h1]
  exact hf h1 hs
 ·have ha:AU a f=a:=by unfold AU;rw [if_neg (by simp [h1])]
  rw [ha]
  refine ⟨hs,Or.inr ⟨h1,h2,h4,?_⟩⟩
  unfold AU
  split
  ·exact h3.trans (hg _).ev
  ·exact h3
theorem D9 {F:Nat} {ob:Ob} (ho:∀ k a dp d s,(ob k a dp d s).1=true) (kind:Nat) (a:Int) (dp:Nat) (d) {st:RSt} (h:st.steps<=F):D5 F (Bo ob kind a dp d st) (Bo ob kind a dp d st):=by
 unfold Bo
 rw [if_pos (ho _ _ _ _ _)]
 exact D5.same h
def Cc:Nat->Nat
 | 0=>1
 | 1=>3
 | _=>2
theorem HY (K kf:Nat) (fs) (F F':Nat) (ins) (ob:Ob) (ho:∀ k a dp d s,(ob k a dp d s).1=true) (hF:F<=F'):∀ (g m k:Nat) (l:List D) (a:Int) (dp:Nat) (st:RSt),st.steps<=F->3*(F' - st.steps)+Cc m<=g ->
  D5 F (rn K kf fs F ins ob g m k l a dp st) (rn K kf fs F' ins ob g m k l a dp st):=by
 intro g
 induction g with
 | zero=>intro m k l a dp st _ h;exfalso;match m,h with
  | 0,h=>simp [Cc] at h
  | 1,h=>simp [Cc] at h
  | m+2,h=>simp [Cc] at h
 | succ g ih=>
  intro m k l a dp st hs h
  match m,l with
  | 0,[]=>exact D5.same hs
  | 0,d::r=>
   simp only [Cc] at h
   by_cases h0:st.steps=F
   ·have e:rn K kf fs F ins ob (g+1) 0 k (d::r) a dp st=(false,st.out):=by simp only [rn];rw [if_pos h0]
    rw [e]
    refine ⟨hs,Or.inr ⟨rfl,h0,rfl,?_⟩⟩
    show st.ev <+: _
    exact (B5 K kf fs F' ins ob _ _ _ _ _ _ _).ev
   ·have h1:¬ st.steps=F':=by omega
    simp only [rn]
    rw [if_neg h0,if_neg h1]
    have hst:st.step.steps=st.steps+1:=rfl
    refine Cm (D9 ho _ _ _ _ (by rw [hst];omega)) (fun _ hs1=>?_) (fun st1=>BI (B5 K kf fs F' ins ob _ _ _ _ _ _ _) (fun st'=>B5 K kf fs F' ins ob _ _ _ _ _ _ _))
    have hp:=C2 ob 1 a dp d st.step
    rw [hst] at hp
    generalize (Bo ob 1 a dp d st.step).2=st1 at hs1 hp ⊢
    refine Cm (ih _ _ _ _ _ _ hs1 (by rw [hp];simp only [Cc];omega)) (fun _ hs2=>?_) (fun st'=>B5 K kf fs F' ins ob _ _ _ _ _ _ _)
    have hg:=(B5 K kf fs F ins ob g 1 k [d] a dp st1).steps
    rw [hp] at hg
    exact ih _ _ _ _ _ _ hs2 (by simp only [Cc];omega)
  | 1,[]=>exact D5.same hs
  | 1,d::r=>
   simp only [Cc] at h
   simp only [rn]
   split
   ·refine Cm (ih _ _ _ _ _ _ hs (by show 3*(F' - st.steps)+Cc 0<=g;simp only [Cc];omega)) (fun _ hs2=>?_) (fun st1=>BI (Gr.pass _ _ _ _ _ _) (fun st'=>Gr.setv _ _ _))
    exact Cm (D9 ho _ _ _ _ hs2) (fun _ hs3=>D5.same hs3) (fun st'=>Gr.setv _ _ _)
   ·split
    ·split
     ·exact ih _ _ _ _ _ _ hs (by simp only [Cc];omega)
     ·exact ih _ _ _ _ _ _ hs (by simp only [Cc];omega)
    ·split
     ·exact ih _ _ _ _ _ _ hs (by simp only [Cc];omega)
     ·refine D5.same ?_
      have:(CC K ins d a st).steps=st.steps:=by
       unfold CC
       split
       ·rfl
       ·split
        ·rfl
        ·split
         ·rfl
         ·split
          ·rfl
          ·split <;> rfl
      rw [this];exact hs
  | m+2,[]=>exact D5.same hs
  | m+2,d::r=>
   simp only [Cc] at h
   simp only [rn]
   split
   ·exact D5.same hs
   ·refine Cm (ih _ _ _ _ _ _ hs (by simp only [Cc];omega)) (fun _ hs2=>?_) (fun st'=>?_)
    ·have hg:=(B5 K kf fs F ins ob g 0 (k - 1) (Af d) (a+1) (dp+1) st).steps
     generalize (rn K kf fs F ins ob g 0 (k - 1) (Af d) (a+1) (dp+1) st).2=st2 at hs2 hg ⊢
     by_cases h0:st2.steps=F
     ·rw [if_pos h0]
      refine ⟨hs2,Or.inr ⟨rfl,h0,rfl,?_⟩⟩
      split
      ·exact List.prefix_rfl
      ·exact (BI ((Gr.step st2).trans (Gr.pass ob 2 a dp d _)) (fun st1=>B5 K kf fs F' ins ob _ _ _ _ _ _ _)).ev
     ·rw [if_neg h0,if_neg (by omega)]
      have hst:st2.step.steps=st2.steps+1:=rfl
      refine Cm (D9 ho _ _ _ _ (by rw [hst];omega)) (fun _ hs1=>?_) (fun st1=>B5 K kf fs F' ins ob _ _ _ _ _ _ _)
      have hp:=C2 ob 2 a dp d st2.step
      rw [hst] at hp
      exact ih _ _ _ _ _ _ hs1 (by rw [hp];simp only [Cc];omega)
    ·split
     ·exact Gr.out _
     ·exact BI ((Gr.step st').trans (Gr.pass _ _ _ _ _ _)) (fun st1=>B5 K kf fs F' ins ob _ _ _ _ _ _ _)
def goG {α:Type} (one:D->Nat->List α) (cnt:D->Nat):List D->Nat->List α
 | [],_=>[]
 | d::r,a=>one d a++goG one cnt r (a+cnt d)
def Fe:Nat->D->Nat->List (Nat × D × Nat)
 | 0,_,_=>[]
 | k+1,d,a=>(a,d,a+Bi (k+1) d)::(goG (Fe k) (Bi k) (Af d) (a+1)++goG (Fe k) (Bi k) (Al d) (a+1+Aj k (Af d)))
def Bu (k:Nat) (l:List D) (a:Nat):List (Nat × D × Nat):=goG (Fe k) (Bi k) l a
def Eu (nd:List Bool):Nat->D->Nat->List D
 | 0,_,_=>[]
 | k+1,d,a=>if nd.getD a false=true then [sD (Ae d) (Av d) (Ac d) (Ai d) (Ah d) (goG (Eu nd k) (Bi k) (Af d) (a+1)) (goG (Eu nd k) (Bi k) (Al d) (a+1+Aj k (Af d)))] else []
def A5 (nd:List Bool) (k:Nat) (l:List D) (a:Nat):List D:=goG (Eu nd k) (Bi k) l a
def BL (nd:List Bool) (kf:Nat) (fs:List FnD):List FnD:=fs.mapIdx (fun i f=>⟨f.ps,A5 nd kf f.body (An kf (fs.take i)),f.res⟩)
def dpS:Nat->D->Prop
 | 0,_=>False
 | k+1,d=>(∀ x∈Af d,dpS k x)/\∀ x∈Al d,dpS k x
def Bg (ch:Int) (ev:List Ev4):List Int:=ev.filterMap (fun e=>if e.1=1/\e.2.2.1=ch then some e.2.2.2 else none)
theorem Gv (k:Nat) (a:Nat):Bu k [] a=[]:=rfl
theorem A2 (k:Nat) (d:D) (r:List D) (a:Nat):Bu k (d::r) a=Fe k d a++Bu k r (a+Bi k d):=rfl
theorem CR (k:Nat) (d:D) (a:Nat):Bu k [d] a=Fe k d a:=by
 rw [A2,Gv,List.append_nil]
theorem GL (nd) (k:Nat) (a:Nat):A5 nd k [] a=[]:=rfl
theorem B8 (nd) (k:Nat) (d:D) (r:List D) (a:Nat):A5 nd k (d::r) a=Eu nd k d a++A5 nd k r (a+Bi k d):=rfl
theorem A3 (k:Nat) (d:D) (a:Nat):Fe (k+1) d a=(a,d,a+Bi (k+1) d)::(Bu k (Af d) (a+1)++Bu k (Al d) (a+1+Aj k (Af d))):=rfl
theorem A8 (k:Nat) (d:D):Bi (k+1) d=1+Aj k (Af d)+Aj k (Al d):=rfl
theorem BA (k:Nat) (d:D) (r:List D):Aj k (d::r)=Bi k d+Aj k r:=by
 unfold Aj;rw [List.map_cons,List.sum_cons]
theorem C4:∀ (k:Nat) (l:List D) (a:Nat) (x) ,x∈Bu k l a->a<=x.1/\x.1 < a+Aj k l
 | k,[],a,x,h=>by cases h
 | 0,d::r,a,x,h=>by
  rw [A2] at h
  have:=C4 0 r _ x h
  rw [BA]
  omega
 | k+1,d::r,a,x,h=>by
  rw [A2,List.mem_append,A3,List.mem_cons,List.mem_append] at h
  rw [BA,A8]
  rcases h with (rfl | h | h) | h
  ·dsimp only;omega
  ·have:=C4 k _ _ x h;omega
  ·have:=C4 k _ _ x h;omega
  ·have:=C4 (k+1) r _ x h;rw [A8] at this;omega
section
variable (nd nv ni:List Bool) (ch:Int) (K kf:Nat) (fs:List FnD)
structure Cl (x:Nat × D × Nat):Prop where
 put:Ae x.2.1=4->Ac x.2.1=ch->nd.getD x.1 false=true
 set:Ae x.2.1=1\/Ae x.2.1=5\/Ae x.2.1=6->nv.getD (Av x.2.1).toNat false=true->nd.getD x.1 false=true
 get:Ae x.2.1=3->nv.getD (Av x.2.1).toNat false=true\/ni.getD (Ac x.2.1).toNat false=true->nd.getD x.1 false=true
 call:Ae x.2.1=2->nv.getD (Av x.2.1).toNat false=true\/(∃ p∈(AQ fs (Ac x.2.1)).ps,nv.getD p.toNat false=true)\/(∃ i,An kf (fs.take (Ac x.2.1).toNat)<=i/\i < An kf (fs.take ((Ac x.2.1).toNat+1))/\nd.getD i false=true)->nd.getD x.1 false=true
 inn:Ae x.2.1=7\/Ae x.2.1=8->(∃ i,x.1+1<=i/\i < x.2.2/\nd.getD i false=true)->nd.getD x.1 false=true
 vars:nd.getD x.1 false=true->∀ v∈AR K (Ai x.2.1),nv.getD v.toNat false=true
 chan:nd.getD x.1 false=true->Ae x.2.1=3->ni.getD (Ac x.2.1).toNat false=true
 args:nd.getD x.1 false=true->Ae x.2.1=2->∀ q∈(AQ fs (Ac x.2.1)).ps.zip (Ah x.2.1),nv.getD q.1.toNat false=true->∀ v∈AR K q.2,nv.getD v.toNat false=true
 flat:Ae x.2.1≠7->Ae x.2.1≠8->Af x.2.1=[]/\Al x.2.1=[]
 res:nd.getD x.1 false=true->Ae x.2.1=2->nv.getD (Av x.2.1).toNat false=true->∀ v∈AR K (AQ fs (Ac x.2.1)).res,nv.getD v.toNat false=true
structure ClF:Prop where
 dp:∀ i (h:i < fs.length),∀ x∈fs[i].body,dpS kf x
 cl:∀ i (h:i < fs.length),∀ x∈Bu kf fs[i].body (An kf (fs.take i)),Cl nd nv ni ch K kf fs x
structure Qt (s s':RSt):Prop where
 va:∀ i,nv.getD i false=true->s'.vars.getD i 0=s.vars.getD i 0
 tk:∀ i,ni.getD i false=true->s'.taken.getD i 0=s.taken.getD i 0
 pu:Bg ch s'.ev=Bg ch s.ev
 vl:s'.vars.length=s.vars.length
 tl:s'.taken.length=s.taken.length
end
section
variable {nd nv ni:List Bool} {ch:Int} {K kf:Nat} {fs:List FnD}
theorem Qt.refl (s:RSt):Qt nv ni ch s s:=⟨fun _ _=>rfl,fun _ _=>rfl,rfl,rfl,rfl⟩
theorem Qt.trans {a b c:RSt} (h:Qt nv ni ch a b) (k:Qt nv ni ch b c):Qt nv ni ch a c:=
 ⟨fun i hi=>(k.va i hi).trans (h.va i hi),fun i hi=>(k.tk i hi).trans (h.tk i hi),k.pu.trans h.pu,k.vl.trans h.vl,k.tl.trans h.tl⟩
theorem Qt.setv (s:RSt) (v x:Int) (h:nv.getD v.toNat false=false):Qt nv ni ch s (s.setv v x):=by
 refine ⟨fun i hi=>?_,fun _ _=>rfl,rfl,by simp [RSt.setv],rfl⟩
 show (s.vars.set v.toNat x).getD i 0=_
 rw [BS]
 split
 ·rename_i hh;rw [<-hh.1,h] at hi;cases hi
 ·rfl
theorem Qt.took (s:RSt) (c:Int) (h:ni.getD c.toNat false=false):Qt nv ni ch s (s.took c):=by
 refine ⟨fun _ _=>rfl,fun i hi=>?_,rfl,rfl,by simp [RSt.took]⟩
 show (s.taken.set c.toNat _).getD i 0=_
 rw [BS]
 split
 ·rename_i hh;rw [<-hh.1,h] at hi;cases hi
 ·rfl
theorem Dc (ch:Int) (a b:List Ev4):Bg ch (a++b)=Bg ch a++Bg ch b:=by
 unfold Bg;rw [List.filterMap_append]
theorem Gj {ch:Int} {a b:List Ev4} (h:a <+: b):Bg ch a <+: Bg ch b:=by
 obtain ⟨c,rfl⟩:=h
 rw [Dc]
 exact List.prefix_append _ _
theorem K8 {ch:Int} {e:Ev4} (h:¬ (e.1=1/\e.2.2.1=ch)):Bg ch [e]=[]:=by
 unfold Bg
 simp [h]
theorem Qt.tell (s:RSt) (e:Ev4) (h:¬ (e.1=1/\e.2.2.1=ch)):Qt nv ni ch s (s.tell e):=by
 refine ⟨fun _ _=>rfl,fun _ _=>rfl,?_,rfl,rfl⟩
 show Bg ch (s.ev++[e])=_
 rw [Dc,K8 h,List.append_nil]
theorem Qt.step (s:RSt):Qt nv ni ch s s.step:=⟨fun _ _=>rfl,fun _ _=>rfl,rfl,rfl,rfl⟩
theorem Qt.out (s:RSt):Qt nv ni ch s s.out:=⟨fun _ _=>rfl,fun _ _=>rfl,rfl,rfl,rfl⟩
theorem DV (k:Nat) (a:Int) (dp:Nat) (d:D) (st:RSt):Bo AF k a dp d st=(true,st):=rfl
theorem F3 (st:RSt) (f):AU (true,st) f=f st:=rfl
theorem E5 {s:RSt} {r:Bool × RSt} {f:RSt->Bool × RSt} (h:Qt nv ni ch s r.2) (hf:∀ t,Qt nv ni ch t (f t).2):Qt nv ni ch s (AU r f).2:=by
 unfold AU
 split
 ·exact h.trans (hf _)
 ·exact h
theorem C0:∀ (l:List (Int × Int)) (vs:List Int),(A6 vs l).length=vs.length
 | [],vs=>rfl
 | q::l,vs=>by
  show (A6 (vs.set _ _) l).length=_
  rw [C0 l];simp
theorem EG:∀ (l:List (Int × Int)) (vs:List Int) (i:Nat),(∀ q∈l,q.1.toNat≠i)->(A6 vs l).getD i 0=vs.getD i 0
 | [],vs,i,_=>rfl
 | q::l,vs,i,h=>by
  show (A6 (vs.set _ _) l).getD i 0=_
  rw [EG l _ i (fun x hx=>h x (List.mem_cons_of_mem _ hx)),BS,if_neg]
  exact fun hh=>h q (List.mem_cons_self ..) hh.1
theorem Jv (HF:ClF nd nv ni ch K kf fs) (F:Nat) (ins):∀ (g m k:Nat) (l:List D) (a:Nat) (dp:Nat) (s:RSt),(∀ x∈l,dpS k x)->(∀ x∈Bu k l a,Cl nd nv ni ch K kf fs x/\nd.getD x.1 false=false) ->
  Qt nv ni ch s (rn K kf fs F ins AF g m k l a dp s).2:=by
 intro g
 induction g with
 | zero=>intro m k l a dp s _ _;exact Qt.refl _
 | succ g ih=>
  intro m k l a dp s hd hc
  match l with
  | []=>
   match m with
   | 0=>exact Qt.refl _
   | 1=>exact Qt.refl _
   | m+2=>exact Qt.refl _
  | d::r=>
   obtain ⟨k,rfl⟩:∃ k',k=k' + 1:=by
    cases k with
    | zero=>exact (hd d (List.mem_cons_self ..)).elim
    | succ k=>exact ⟨k,rfl⟩
   have hd1:=hd d (List.mem_cons_self ..)
   have hc1:∀ x∈Bu (k+1) [d] a,Cl nd nv ni ch K kf fs x/\nd.getD x.1 false=false:=fun x hx=>hc x (by rw [A2,List.mem_append];rw [CR] at hx;exact Or.inl hx)
   have hd0:∀ x∈[d],dpS (k+1) x:=fun x hx=>by rw [List.mem_singleton.1 hx];exact hd1
   have hcT:∀ x∈Bu k (Af d) (a+1),Cl nd nv ni ch K kf fs x/\nd.getD x.1 false=false:=fun x hx=>hc1 x (by rw [CR,A3,List.mem_cons,List.mem_append];exact Or.inr (Or.inl hx))
   have hcE:∀ x∈Bu k (Al d) (a+1+Aj k (Af d)),Cl nd nv ni ch K kf fs x/\nd.getD x.1 false=false:=fun x hx=>hc1 x (by rw [CR,A3,List.mem_cons,List.mem_append];exact Or.inr (Or.inr hx))
   obtain ⟨hC,hN⟩:=hc1 (a,d,a+Bi (k+1) d) (by rw [CR,A3];exact List.mem_cons_self ..)
   have no:∀ {P:Prop},(P->nd.getD a false=true)->¬ P:=fun h hp=>by rw [h hp] at hN;cases hN
   match m with
   | 0=>
    simp only [rn]
    split
    ·exact Qt.out _
    ·rw [DV,F3]
     refine E5 ((Qt.step s).trans (ih 1 _ _ _ _ _ hd0 hc1)) (fun t=>?_)
     have e:(a:Int)+(Bi (k+1) d:Nat)=((a+Bi (k+1) d:Nat):Int):=by omega
     rw [e]
     exact ih 0 _ _ _ _ _ (fun x hx=>hd x (List.mem_cons_of_mem _ hx)) (fun x hx=>hc x (by rw [A2,List.mem_append];exact Or.inr hx))
   | 1=>
    simp only [rn]
    split
    ·rename_i h2
     have n1:=no (hC.call h2)
     have hv:nv.getD (Av d).toNat false=false:=by
      cases h:nv.getD (Av d).toNat false with
      | false=>rfl
      | true=>exact absurd (Or.inl h) n1
     have hp:∀ p∈(AQ fs (Ac d)).ps,nv.getD p.toNat false=false:=fun p hp=>by
      cases h:nv.getD p.toNat false with
      | false=>rfl
      | true=>exact absurd (Or.inr (Or.inl ⟨p,hp,h⟩)) n1
     have hA:Qt nv ni ch s (s.args K fs d):=by
      refine ⟨fun i hi=>?_,fun _ _=>rfl,rfl,C0 _ _,rfl⟩
      refine EG _ _ _ (fun q hq he=>?_)
      have:=hp q.1 (List.of_mem_zip (a:=q.1) (b:=q.2) hq).1
      rw [he,hi] at this
      cases this
     refine E5 (hA.trans ?_) (fun t=>?_)
     ·by_cases ho:(Ac d).toNat < fs.length
      ·have hb:AQ fs (Ac d)=fs[(Ac d).toNat]:=by unfold AQ;rw [List.getD_eq_getElem?_getD,List.getElem?_eq_getElem ho];rfl
       rw [hb]
       refine ih 0 _ _ _ _ _ (HF.dp _ ho) (fun x hx=>⟨HF.cl _ ho x hx,?_⟩)
       have hin:=C4 _ _ _ x hx
       cases h:nd.getD x.1 false with
       | false=>rfl
       | true=>
        refine absurd (Or.inr (Or.inr ⟨x.1,hin.1,?_,h⟩)) n1
        have:An kf (fs.take ((Ac d).toNat+1))=An kf (fs.take (Ac d).toNat)+Aj kf fs[(Ac d).toNat].body:=by
         unfold An
         rw [List.take_succ_eq_append_getElem ho,List.map_append,List.sum_append]
         simp
        show x.1 < An kf (fs.take ((Ac d).toNat+1))
        omega
      ·have hb:(AQ fs (Ac d)).body=[]:=by unfold AQ;rw [List.getD_eq_getElem?_getD,List.getElem?_eq_none (by omega)];rfl
       rw [hb]
       exact ih 0 _ _ _ _ _ (fun x hx=>by cases hx) (fun x hx=>by cases hx)
     ·rw [DV]
      exact Qt.setv _ _ _ hv
    ·split
     ·split
      ·have e:(a:Int)+1+(Aj (k+1 - 1) (Af d):Nat)=((a+1+Aj k (Af d):Nat):Int):=by rw [Nat.add_sub_cancel];omega
       rw [e]
       exact ih 0 _ _ _ _ _ hd1.2 hcE
      ·exact ih 0 _ _ (a+1) _ _ hd1.1 hcT
     ·split
      ·exact ih 2 _ _ _ _ _ hd0 hc1
      ·rename_i h2 h7 h8
       have hs:Ae d=1\/Ae d=5\/Ae d=6->nv.getD (Av d).toNat false=false:=fun h=>by
        cases hh:nv.getD (Av d).toNat false with
        | false=>rfl
        | true=>exact absurd hh (no (hC.set h))
       unfold CC
       split
       ·exact Qt.setv _ _ _ (hs (by omega))
       ·split
        ·rename_i h3
         have n3:=no (hC.get h3)
         refine (Qt.took _ _ ?_).trans (Qt.setv _ _ _ ?_)
         ·cases hh:ni.getD (Ac d).toNat false with
          | false=>rfl
          | true=>exact absurd (Or.inr hh) n3
         ·cases hh:nv.getD (Av d).toNat false with
          | false=>rfl
          | true=>exact absurd (Or.inl hh) n3
        ·split
         ·rename_i h4
          exact Qt.tell _ _ (fun hh=>no (hC.put h4) hh.2)
         ·split
          ·exact (Qt.setv _ _ _ (hs (by omega))).trans (Qt.tell _ _ (fun hh=>by have:=hh.1;dsimp only at this;omega))
          ·split
           ·exact (Qt.setv _ _ _ (hs (by omega))).trans (Qt.tell _ _ (fun hh=>by have:=hh.1;dsimp only at this;omega))
           ·exact Qt.refl _
   | m+2=>
    simp only [rn]
    split
    ·exact Qt.refl _
    ·refine E5 (ih 0 k (Af d) (a+1) _ _ hd1.1 hcT) (fun t=>?_)
     split
     ·exact Qt.out _
     ·rw [DV]
      exact (Qt.step t).trans (ih 2 _ _ _ _ _ hd0 hc1)
end
end Go.Proofs.YtfffpjkcfnekaaaGreat.Ex
