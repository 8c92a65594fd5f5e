/- One who judges: does a level flow to that of a variable? -/
import Derived.Test.YtfffpjkcfnekaaaGreatF27
set_option linter.unusedVariables false
set_option maxHeartbeats 8000000
set_option maxRecDepth 100000
namespace Go.Proofs.YtfffpjkcfnekaaaGreat.Ex
open Go.RowKit
open Go.Value renaming slice -> O, int -> U, bool -> zg, agg -> zh, pointer -> zj, tuple -> zm
open Go.IntKind renaming i64 -> zd
open Go.Obj renaming cells -> ze
open Go.Ending renaming returned -> zk
structure JSt (c:WC) (w0:World) (gs:List (Int × Int)) (Ls Fs:List Lev):Prop where
 n1:1<=c.n
 n6:c.n<=6
 gr:Az w0 (O c.ga c.gn c.gc) gs
 chk:AU c.n gs=0
 levs:Bg w0 (O c.la c.ln c.lc) Ls
 lens:∀ x∈Ls,x.len c.n
 flevs:Bg w0 (O c.ka c.kn c.kc) Fs
 flens:∀ x∈Fs,x.len c.n
 l16:Ls.length<=16
theorem Ga (c:WC) (gs) (v u:Value) (l k) (w:World) (hg:Az w (O c.ga c.gn c.gc) gs) (hE:AU c.n gs=0) (hl:AQ w v l) (hll:l.len c.n) (hk:AQ w u k) (hkl:k.len c.n) :
  Calls Tryz.prog 57 #[c.v,v,u] w fun e w'=>e=zk (zg (Ay l k c.n))/\Ov w w':=by
 obtain ⟨x,y,rfl,-⟩:=id hl
 obtain ⟨x',y',rfl,-⟩:=id hk
 exact Jp (c.n:Int) c.ga c.gn c.gc c.sa c.sn c.sc c.ya c.yn c.yc c.oa c.on c.oc c.va c.vn c.vc c.fa c.fn c.fc c.ba c.bn c.bc c.la c.ln c.lc c.ka c.kn c.kc gs x y x' y' l k w hg hl hk (Di hE hll hkl)
theorem Pw (c:WC) (gs) (v u:Value) (l k) (w:World) (hg:Az w (O c.ga c.gn c.gc) gs) (hE:AU c.n gs=0) (hl:AQ w v l) (hll:l.len c.n) (hk:AQ w u k) (hkl:k.len c.n) :
  Calls Tryz.prog 58 #[c.v,v,u] w fun e w'=>∃ vj,e=zk vj/\Be w w' vj (Bs l k c.n)/\Ov w w':=by
 obtain ⟨x,y,rfl,-⟩:=id hl
 obtain ⟨x',y',rfl,-⟩:=id hk
 exact J3 (c.n:Int) c.ga c.gn c.gc c.sa c.sn c.sc c.ya c.yn c.yc c.oa c.on c.oc c.va c.vn c.vc c.fa c.fn c.fc c.ba c.bn c.bc c.la c.ln c.lc c.ka c.kn c.kc gs x y x' y' l k w hg hl hk (Di hE hll hkl)
theorem Mb (c:WC) (gs) (pr pw:Value) (b:Lab) (w:World) (hg:Az w (O c.ga c.gn c.gc) gs) (hl:AC w pr b.r) (hk:AC w pw b.w) (h2:Bo c.n gs b=0) :
  Calls Tryz.prog 114 #[c.v,zh #[pr,pw]] w fun e w'=>∃ vj,e=zk vj/\Be w w' vj (AA (AD gs) c.n b)/\Ov w w':=
 Hd (c.n:Int) c.ga c.gn c.gc c.sa c.sn c.sc c.ya c.yn c.yc c.oa c.on c.oc c.va c.vn c.vc c.fa c.fn c.fc c.ba c.bn c.bc c.la c.ln c.lc c.ka c.kn c.kc gs pr pw b w hg hl hk h2
theorem C8 {w0:World} {ao:Option Addr} {an ac:Nat} {Ls:List Lev} {i:Nat} (h:Bg w0 (O ao an ac) Ls) (hi:i < Ls.length):∃ b o a1 a2 a3 a4 a5 a6,ao=some ⟨b,o,none⟩/\an=Ls.length/\w0.cell? ⟨b,o+i*2,none⟩=some (O a1 a2 a3)/\w0.cell? ⟨b,o+i*2+1,none⟩=some (O a4 a5 a6)/\AQ w0 (zh #[O a1 a2 a3,O a4 a5 a6]) Ls[i]:=by
 obtain ⟨ao',cap,hv,hel⟩:=h
 injection hv with e1 e2 e3
 obtain ⟨b,o,hao,hel⟩:=hel (by rintro rfl;simp at hi)
 obtain ⟨rv,wv,c0,c1,hl⟩:=hel i hi
 obtain ⟨a1,a2,a3,a4,a5,a6,rfl,rfl⟩:=AP hl
 exact ⟨b,o,a1,a2,a3,a4,a5,a6,e1.trans hao,e2,c0,c1,hl⟩
abbrev Lz (bj:Nat) (c:WC) (bl ol:Nat) (W:World) (p1:Option Addr) (q1 r1:Nat) (p2:Option Addr) (q2 r2 i:Nat) (a1:Option Addr) (a2 a3:Nat) (a4:Option Addr) (a5 a6:Nat) (Wz:World):Prop:=Wz.cell? ⟨bj,0,none⟩=some (U zd (c.n:Int))/\CE Wz bj 1 (O c.ga c.gn c.gc)/\CE Wz bj 2 (O c.sa c.sn c.sc)/\CE Wz bj 3 (O c.ya c.yn c.yc)/\CE Wz bj 4 (O c.oa c.on c.oc)/\CE Wz bj 5 (O c.va c.vn c.vc)/\CE Wz bj 6 (O c.fa c.fn c.fc)/\CE Wz bj 7 (O c.ba c.bn c.bc)/\CE Wz bj 8 (O (some ⟨bl,ol,none⟩) c.ln c.lc)/\CE Wz bj 9 (O c.ka c.kn c.kc)/\CE Wz W.heap.size 0 (O p1 q1 r1)/\CE Wz W.heap.size 1 (O p2 q2 r2)/\CE Wz bl (ol+i*2) (O a1 a2 a3)/\CE Wz bl (ol+i*2+1) (O a4 a5 a6)
theorem EF (c) (w0:World) (bj:Nat) (av:Value) (fl) (fv:Value) (gs Ls Fs) (J:JSt c w0 gs Ls Fs) (v:Value) (l) (i:Nat) (W:World) (h:AW c.cs w0 bj av fl fv W) (hl:AQ W v l) (hll:l.len c.n) (hi:i < Ls.length) :
  Calls Tryz.prog 150 #[zj (some ⟨bj,0,none⟩),v,U zd (i:Int)] W fun e W'=>e=zk (zg (Ay l Ls[i] c.n))/\Ov W W':=by
 obtain ⟨bl,ol,a1,a2,a3,a4,a5,a6,hla,hln,k0,k1,hk⟩:=C8 J.levs hi
 obtain ⟨p1,q1,r1,p2,q2,r2,rfl⟩:∃ p1 q1 r1 p2 q2 r2,v=zh #[O p1 q1 r1,O p2 q2 r2]:=by
  obtain ⟨x,y,rfl,-⟩:=id hl
  obtain ⟨p1,q1,r1,p2,q2,r2,rfl,rfl⟩:=AP hl
  exact ⟨_,_,_,_,_,_,rfl⟩
 have hb1:Ov W (W.alloc (ze #[O p1 q1 r1,O p2 q2 r2] 50)):=bA W _
 have hJ1:=h.over hb1
 have rowB:=Ae.new [O p1 q1 r1,O p2 q2 r2] 50 W
 have hB1:=hJ1.below
 have hcv:c.v=zh #[U zd (c.n:Int),O c.ga c.gn c.gc,O c.sa c.sn c.sc,O c.ya c.yn c.yc,O c.oa c.on c.oc,O c.va c.vn c.vc,O c.fa c.fn c.fc,O c.ba c.bn c.bc,O (some ⟨bl,ol,none⟩) c.ln c.lc,O c.ka c.kn c.kc]:=by show Value.agg #[U zd (c.n:Int),O c.ga c.gn c.gc,O c.sa c.sn c.sc,O c.ya c.yn c.yc,O c.oa c.on c.oc,O c.va c.vn c.vc,O c.fa c.fn c.fc,O c.ba c.bn c.bc,O c.la c.ln c.lc,O c.ka c.kn c.kc]=_;rw [hla]
 have KF:Hx (∀ (W2:World),Ov (W.alloc (ze #[O p1 q1 r1,O p2 q2 r2] 50)) W2->Calls Tryz.prog 57 #[zh #[U zd (c.n:Int),O c.ga c.gn c.gc,O c.sa c.sn c.sc,O c.ya c.yn c.yc,O c.oa c.on c.oc,O c.va c.vn c.vc,O c.fa c.fn c.fc,O c.ba c.bn c.bc,O (some ⟨bl,ol,none⟩) c.ln c.lc,O c.ka c.kn c.kc],zh #[O p1 q1 r1,O p2 q2 r2],zh #[O a1 a2 a3,O a4 a5 a6]] W2 fun e w'=>e=zk (zg (Ay l Ls[i] c.n))/\Ov W2 w'):=fun W2 hb2=>by
  have:=Ga c gs _ _ l Ls[i] W2 (Af J.gr (hB1.trans (hb2.mono hB1.size))) J.chk (Ag (Ag hl hb1) hb2) hll (Ag hk (hB1.trans (hb2.mono hB1.size))) (J.lens _ (List.getElem_mem hi))
  rw [hcv] at this
  exact this
 have hS0:Lz bj c bl ol W p1 q1 r1 p2 q2 r2 i a1 a2 a3 a4 a5 a6 (W.alloc (ze #[O p1 q1 r1,O p2 q2 r2] 50)):=⟨hJ1.cw 0 _ rfl,hJ1.cw 1 _ rfl,hJ1.cw 2 _ rfl,hJ1.cw 3 _ rfl,hJ1.cw 4 _ rfl,hJ1.cw 5 _ rfl,hJ1.cw 6 _ rfl,hJ1.cw 7 _ rfl,by rw [<-hla];exact hJ1.cw 8 _ rfl,hJ1.cw 9 _ rfl,rowB 0 _ rfl,rowB 1 _ rfl,Ab hB1 _ _ k0,Ab hB1 _ _ k1⟩
 have HS:Hx (∀ W2,Ov (W.alloc (ze #[O p1 q1 r1,O p2 q2 r2] 50)) W2->Lz bj c bl ol W p1 q1 r1 p2 q2 r2 i a1 a2 a3 a4 a5 a6 W2):=fun W2 hb2=>by
  obtain ⟨s0,s1,s2,s3,s4,s5,s6,s7,s8,s9,s10,s11,s12,s13⟩:=hS0
  exact ⟨Ab hb2 _ _ s0,Ab hb2 _ _ s1,Ab hb2 _ _ s2,Ab hb2 _ _ s3,Ab hb2 _ _ s4,Ab hb2 _ _ s5,Ab hb2 _ _ s6,Ab hb2 _ _ s7,Ab hb2 _ _ s8,Ab hb2 _ _ s9,Ab hb2 _ _ s10,Ab hb2 _ _ s11,Ab hb2 _ _ s12,Ab hb2 _ _ s13⟩
 have hi1:(i:Int) < (c.ln:Int):=by rw [hln];omega
 have hi2:c.ln<=16:=by rw [hln];exact J.l16
 obtain ⟨t0,t1,t2,t3,t4,t5,t6,t7,t8,t9,t10,t11,t12,t13⟩:=id hS0
 generalize hfb:Ay l Ls[i] c.n=fb at KF ⊢
 clear J h hJ1 hl hll rowB hB1 hk k0 k1 hfb hcv hla hln
 go_enter Tryz.func150,Tryz.ntmps150
 go_wp2_with fail
 refine gS (Lz bj c bl ol W p1 q1 r1 p2 q2 r2 i a1 a2 a3 a4 a5 a6) (hS0) fun hHeld=>?_
 refine kT 0 ?_
 refine kT 1 ?_
 refine kT 2 ?_
 refine kT 3 ?_
 refine kT 4 ?_
 refine kT 5 ?_
 refine kT 6 ?_
 refine kT 7 ?_
 refine kT 8 ?_
 refine kT 9 ?_
 refine kT 10 ?_
 refine kT 11 ?_
 refine kT 12 ?_
 refine kT 13 ?_
 refine rdA 14 rfl fun K hK=>?_
 go_simp
 refine (KF.o _ (bD _)).mono ?_
 rintro e W2 ⟨rfl,hb2⟩
 have hS2:=HS.o W2 (Ac (bD _) hb2)
 go_simp
 refine xK hK (hS2) fun hHeld=>?_
 refine rdA 15 rfl fun K hK=>?_
 go_simp
 refine xK hK (hS2) fun hHeld=>?_
 refine gE ?_
 go_wp2_with fail
 go_ret
 exact ⟨rfl,Ac hb1 (Ac (bD _) hb2)⟩
section
variable {α:Type}
def Gr (p:α->Bool) (l:List α):Int:=match l.findIdx? p with | some i=>i | none=>-1
theorem J4 {p:α->Bool} {l:List α} {k:Nat} (hk:k < l.length) (h:(l.take k).all (fun g=>!p g)=true) (hp:p l[k]=true):Gr p l=k:=by
 have:l.findIdx? p=some k:=by
  rw [List.findIdx?_eq_some_iff_getElem]
  refine ⟨hk,hp,fun j hj=>?_⟩
  have:=List.all_eq_true.1 h l[j] (List.mem_take_iff_getElem.2 ⟨j,by omega,rfl⟩)
  simpa using this
 simp [Gr,this]
theorem GK {p:α->Bool} {l:List α} (h:l.all (fun g=>!p g)=true):Gr p l=-1:=by
 have:l.findIdx? p=none:=by
  rw [List.findIdx?_eq_none_iff]
  intro x hx
  have:=List.all_eq_true.1 h x hx
  simpa using this
 simp [Gr,this]
theorem Iz (p:α->Bool) (l:List α):decide (0<=Gr p l)=l.any p:=by
 unfold Gr
 cases h:l.findIdx? p with
 | none=>
  have:l.any p=false:=by rw [List.any_eq_false];intro x hx;have:=(List.findIdx?_eq_none_iff.1 h) x hx;simpa using this
  rw [this];rfl
 | some i=>
  obtain ⟨hi,hp,_⟩:=List.findIdx?_eq_some_iff_getElem.1 h
  have:l.any p=true:=List.any_eq_true.2 ⟨_,List.getElem_mem hi,hp⟩
  rw [this];simp
end
theorem MY (F:FuncId) (cap:List Value) (p:Int->Bool) (v:Value) (l) (w:World) (hv:AM w v l) (hn:l.length<=6)
  (hF:Hx (∀ (i:Nat) (h:i < l.length) (w1:World),Ov w w1->Calls Tryz.prog F (U zd l[i]::cap).toArray w1 fun e w2=>e=zk (zg (p l[i]))/\Ov w1 w2))
  (hC:∀ (args:Array Value) (w:World),(callFunc F args).run Tryz.prog w=.ok (.enter F args) w) :
  Calls Tryz.prog 190 #[v,.func (.func F) #[] cap.toArray] w fun e w'=>e=zk (U zd (Gr p l))/\Ov w w':=by
 obtain ⟨ao,cp,rfl,hcc⟩:=hv
 go_enter Tryz.func190,Tryz.ntmps190
 go_wp2_with fail
 go_loopw [8] (fun i wr=>∃ k:Nat,k<=l.length/\i=U zd k/\(l.take k).all (fun g=>!p g)=true/\Ov w wr) (fun i _=>l.length - (intOf i).toNat)
 case atStart=>exact ⟨0,Nat.zero_le _,rfl,rfl,Below.refl _ w⟩
 case round=>
  obtain ⟨k,hk,rfl,hall,hbel⟩:=hrel
  by_cases hkl:k < l.length
  ·obtain ⟨b,off,rfl,hcl⟩:=hcc (by rintro rfl;simp at hkl)
   have q0:=hcl k hkl
   have hlt:=bL q0
   rw [<-(Al hbel).1 _ _ hlt] at q0
   have hcall:=hF.o k hkl
   have hat:=fun (hp:p l[k]=true)=>J4 hkl hall hp
   have htk:p l[k]=false->(l.take (k+1)).all (fun g=>!p g)=true:=fun hp=>by
    rw [List.take_succ_eq_append_getElem hkl,List.all_append,hall]
    simp [hp]
   obtain ⟨r,hr⟩:=nm (p l[k])
   rw [<-hr] at hcall hat htk
   obtain ⟨g0,hg0⟩:=nm (l[k])
   rw [<-hg0] at q0 hcall
   clear hg0
   have HC:=Aa hcall
   have HA:=Aa hat
   have HT:=Aa htk
   clear hr hcall hat htk hcl hcc hF
   cases r with
   | true=>
    go_wp2_with fail
    refine (HC.o _ hbel).mono ?_
    rintro e w2 ⟨rfl,hb2⟩
    have hbel2:Ov w w2:=hbel.trans (hb2.mono hbel.size)
    go_wp2_with fail
    go_ret
    exact ⟨by rw [HA.o (by first | rfl | trivial)];rfl,hbel2⟩
   | false=>
    go_wp2_with fail
    refine (HC.o _ hbel).mono ?_
    rintro e w2 ⟨rfl,hb2⟩
    have hbel2:Ov w w2:=hbel.trans (hb2.mono hbel.size)
    go_wp2_with fail
    exact ⟨⟨k+1,by omega,by go_num,HT.o (by first | rfl | trivial),hbel2⟩,by simp [intOf];omega⟩
  ·have hke:k=l.length:=by omega
   rw [hke,List.take_length] at hall
   have hx:=GK hall
   clear hall hcc hF
   go_wp2_with fail
   go_ret
   exact ⟨by rw [hx];rfl,hbel⟩
theorem Gf (F:FuncId) (cap:List Value) (p:Int->Bool) (v:Value) (l) (w:World) (hv:AM w v l) (hn:l.length<=6)
  (hF:Hx (∀ (i:Nat) (h:i < l.length) (w1:World),Ov w w1->Calls Tryz.prog F (U zd l[i]::cap).toArray w1 fun e w2=>e=zk (zg (p l[i]))/\Ov w1 w2))
  (hC:∀ (args:Array Value) (w:World),(callFunc F args).run Tryz.prog w=.ok (.enter F args) w) :
  Calls Tryz.prog 124 #[v,.func (.func F) #[] cap.toArray] w fun e w'=>e=zk (zg (l.any p))/\Ov w w':=by
 have hI:=MY F cap p v l w hv hn hF hC
 have hx:=Iz p l
 obtain ⟨r,hr⟩:=nm (Gr p l)
 rw [<-hr] at hI hx
 rw [<-hx]
 have HI:=Aa hI
 clear hI hx hr hv hC hF
 go_enter Tryz.func124,Tryz.ntmps124
 go_wp2_with fail
 refine (HI.o).mono ?_
 rintro e w1 ⟨rfl,hb1⟩
 go_wp2_with fail
 go_ret
 exact ⟨by simp,hb1⟩
theorem MX (F:FuncId) (cap:List Value) (p:Pol->Bool) (v:Value) (l:List Pol) (w:World) (hv:AC w v l) (hn:l.length<=6)
  (hF:Hx (∀ (i:Nat) (h:i < l.length) (w1:World),Ov w w1->∀ nv,AM w1 nv l[i].names->Calls Tryz.prog F (zh #[U zd l[i].owner,nv]::cap).toArray w1 fun e w2=>e=zk (zg (p l[i]))/\Ov w1 w2))
  (hC:∀ (args:Array Value) (w:World),(callFunc F args).run Tryz.prog w=.ok (.enter F args) w) :
  Calls Tryz.prog 247 #[v,.func (.func F) #[] cap.toArray] w fun e w'=>e=zk (U zd (Gr p l))/\Ov w w':=by
 obtain ⟨ao,cp,rfl,hcc⟩:=hv
 go_enter Tryz.func247,Tryz.ntmps247
 go_wp2_with fail
 go_loopw [8] (fun i wr=>∃ k:Nat,k<=l.length/\i=U zd k/\(l.take k).all (fun g=>!p g)=true/\Ov w wr) (fun i _=>l.length - (intOf i).toNat)
 case atStart=>exact ⟨0,Nat.zero_le _,rfl,rfl,Below.refl _ w⟩
 case round=>
  obtain ⟨k,hk,rfl,hall,hbel⟩:=hrel
  by_cases hkl:k < l.length
  ·obtain ⟨b,off,rfl,hcl⟩:=hcc (by rintro rfl;simp at hkl)
   obtain ⟨q0,nv,q1,hnv⟩:=hcl k hkl
   obtain ⟨q0,q1⟩:=co2 hbel q0 q1
   obtain ⟨n1,n2,hnf,-⟩:=id hnv
   subst hnf
   have hcall:=fun (w1:World) (hb:Ov w w1)=>hF.o k hkl w1 hb _ (BH hnv hb)
   have hat:=fun (hp:p l[k]=true)=>J4 hkl hall hp
   have htk:p l[k]=false->(l.take (k+1)).all (fun g=>!p g)=true:=fun hp=>by
    rw [List.take_succ_eq_append_getElem hkl,List.all_append,hall]
    simp [hp]
   obtain ⟨r,hr⟩:=nm (p l[k])
   rw [<-hr] at hcall hat htk
   obtain ⟨g0,hg0⟩:=nm (l[k].owner)
   rw [<-hg0] at q0 hcall
   clear hg0
   have HC:=Aa hcall
   have HA:=Aa hat
   have HT:=Aa htk
   clear hr hcall hat htk hcl hcc hF
   cases r with
   | true=>
    go_wp2_with fail
    refine (HC.o _ hbel).mono ?_
    rintro e w2 ⟨rfl,hb2⟩
    have hbel2:Ov w w2:=hbel.trans (hb2.mono hbel.size)
    go_wp2_with fail
    go_ret
    exact ⟨by rw [HA.o (by first | rfl | trivial)];rfl,hbel2⟩
   | false=>
    go_wp2_with fail
    refine (HC.o _ hbel).mono ?_
    rintro e w2 ⟨rfl,hb2⟩
    have hbel2:Ov w w2:=hbel.trans (hb2.mono hbel.size)
    go_wp2_with fail
    exact ⟨⟨k+1,by omega,by go_num,HT.o (by first | rfl | trivial),hbel2⟩,by simp [intOf];omega⟩
  ·have hke:k=l.length:=by omega
   rw [hke,List.take_length] at hall
   have hx:=GK hall
   clear hall hcc hF
   go_wp2_with fail
   go_ret
   exact ⟨by rw [hx];rfl,hbel⟩
theorem Jz (F:FuncId) (cap:List Value) (p:Pol->Bool) (v:Value) (l:List Pol) (w:World) (hv:AC w v l) (hn:l.length<=6)
  (hF:Hx (∀ (i:Nat) (h:i < l.length) (w1:World),Ov w w1->∀ nv,AM w1 nv l[i].names->Calls Tryz.prog F (zh #[U zd l[i].owner,nv]::cap).toArray w1 fun e w2=>e=zk (zg (p l[i]))/\Ov w1 w2))
  (hC:∀ (args:Array Value) (w:World),(callFunc F args).run Tryz.prog w=.ok (.enter F args) w) :
  Calls Tryz.prog 235 #[v,.func (.func F) #[] cap.toArray] w fun e w'=>e=zk (zg (l.any p))/\Ov w w':=by
 have hI:=MX F cap p v l w hv hn hF hC
 have hx:=Iz p l
 obtain ⟨r,hr⟩:=nm (Gr p l)
 rw [<-hr] at hI hx
 rw [<-hx]
 have HI:=Aa hI
 clear hI hx hr hv hC hF
 go_enter Tryz.func235,Tryz.ntmps235
 go_wp2_with fail
 refine (HI.o).mono ?_
 rintro e w1 ⟨rfl,hb1⟩
 go_wp2_with fail
 go_ret
 exact ⟨by simp,hb1⟩
def DT (gn:List (Nat × Nat)) (n i j:Nat):Bool:=(acts gn n i)[j]?.getD false
structure JAc (c:WC) (w0:World) (av:Value) (gn:List (Nat × Nat)) (sp:List Int):Prop where
 acts:∃ ob,av=O (some ⟨ob,0,none⟩) c.n c.n/\CL w0 ob c.n gn c.n
 speak:AM w0 (O c.sa c.sn c.sc) sp
 s6:sp.length<=6
 sIn:∀ x∈sp,0<=x/\x < (c.n:Int)
abbrev NF (bx bj bw who ob:Nat) (c:WC) (kb other:Nat) (r:Bool) (Wz:World):Prop:=Wz.cell? ⟨bx,0,none⟩=some (zj (some ⟨bj,0,none⟩))/\CE Wz bw 0 (U zd (who:Int))/\CE Wz bj 10 (O (some ⟨ob,0,none⟩) c.n c.n)/\CE Wz ob who (O (some ⟨kb,0,none⟩) c.n c.n)/\CE Wz kb other (zg r)
theorem PX (c) (w0:World) (bj:Nat) (av:Value) (fl) (fv:Value) (gn:List (Nat × Nat)) (sp) (A:JAc c w0 av gn sp) (bx bw who other:Nat) (W:World) (h:AW c.cs w0 bj av fl fv W) (n6:c.n<=6) (hx:W.cell? ⟨bx,0,none⟩=some (zj (some ⟨bj,0,none⟩))) (hw:W.cell? ⟨bw,0,none⟩=some (U zd (who:Int))) (h1:who < c.n) (h2:other < c.n) :
  Calls Tryz.prog 238 #[U zd (other:Int),zj (some ⟨bx,0,none⟩),zj (some ⟨bw,0,none⟩)] W fun e W'=>e=zk (zg (DT gn c.n who other))/\Ov W W':=by
 obtain ⟨ob,rfl,hR⟩:=A.acts
 obtain ⟨kb,-,k0,hK⟩:=hR who h1
 have k1:=(hK other (by rw [BO];exact h2)).1
 have hr:(acts gn c.n who)[other]'(by rw [BO];exact h2)=DT gn c.n who other:=by unfold DT;rw [List.getElem?_eq_getElem (by rw [BO];exact h2)];rfl
 rw [hr] at k1
 generalize DT gn c.n who other=r at k1 ⊢
 have hS0:NF bx bj bw who ob c kb other r W:=⟨hx,hw,h.c10,Ab h.below _ _ k0,Ab h.below _ _ k1⟩
 obtain ⟨s0,s1,s2,s3,s4⟩:=id hS0
 have g1:(who:Int) < (c.n:Int):=by omega
 have g2:(other:Int) < (c.n:Int):=by omega
 clear h A hR hK k0 k1 hr hx hw
 go_enter Tryz.func238,Tryz.ntmps238
 go_wp2_with fail
 refine gS (NF bx bj bw who ob c kb other r) (hS0) fun hHeld=>?_
 refine kT 0 ?_
 refine kT 1 ?_
 refine kT 2 ?_
 refine kT 3 ?_
 refine kT 4 ?_
 refine kT 5 ?_
 refine kT 6 ?_
 refine kT 7 ?_
 refine kT 8 ?_
 refine kT 9 ?_
 refine kT 10 ?_
 refine gE ?_
 go_wp2_with fail
 go_ret
 exact ⟨rfl,(bD _)⟩
theorem Li (args:Array Value) (w:World):(callFunc 238 args).run Tryz.prog w=.ok (.enter 238 args) w:=by simp [go_sem]
abbrev NE (bx bj bw other ob:Nat) (c:WC) (who kb:Nat) (r:Bool) (Wz:World):Prop:=Wz.cell? ⟨bx,0,none⟩=some (zj (some ⟨bj,0,none⟩))/\CE Wz bw 0 (U zd (other:Int))/\CE Wz bj 10 (O (some ⟨ob,0,none⟩) c.n c.n)/\CE Wz ob who (O (some ⟨kb,0,none⟩) c.n c.n)/\CE Wz kb other (zg r)
theorem Oz (c) (w0:World) (bj:Nat) (av:Value) (fl) (fv:Value) (gn:List (Nat × Nat)) (sp) (A:JAc c w0 av gn sp) (bx bw who other:Nat) (W:World) (h:AW c.cs w0 bj av fl fv W) (n6:c.n<=6) (hx:W.cell? ⟨bx,0,none⟩=some (zj (some ⟨bj,0,none⟩))) (hw:W.cell? ⟨bw,0,none⟩=some (U zd (other:Int))) (h1:who < c.n) (h2:other < c.n) :
  Calls Tryz.prog 237 #[U zd (who:Int),zj (some ⟨bx,0,none⟩),zj (some ⟨bw,0,none⟩)] W fun e W'=>e=zk (zg (DT gn c.n who other))/\Ov W W':=by
 obtain ⟨ob,rfl,hR⟩:=A.acts
 obtain ⟨kb,-,k0,hK⟩:=hR who h1
 have k1:=(hK other (by rw [BO];exact h2)).1
 have hr:(acts gn c.n who)[other]'(by rw [BO];exact h2)=DT gn c.n who other:=by unfold DT;rw [List.getElem?_eq_getElem (by rw [BO];exact h2)];rfl
 rw [hr] at k1
 generalize DT gn c.n who other=r at k1 ⊢
 have hS0:NE bx bj bw other ob c who kb r W:=⟨hx,hw,h.c10,Ab h.below _ _ k0,Ab h.below _ _ k1⟩
 obtain ⟨s0,s1,s2,s3,s4⟩:=id hS0
 have g1:(who:Int) < (c.n:Int):=by omega
 have g2:(other:Int) < (c.n:Int):=by omega
 clear h A hR hK k0 k1 hr hx hw
 go_enter Tryz.func237,Tryz.ntmps237
 go_wp2_with fail
 refine gS (NE bx bj bw other ob c who kb r) (hS0) fun hHeld=>?_
 refine kT 0 ?_
 refine kT 1 ?_
 refine kT 2 ?_
 refine kT 3 ?_
 refine kT 4 ?_
 refine kT 5 ?_
 refine kT 6 ?_
 refine kT 7 ?_
 refine kT 8 ?_
 refine kT 9 ?_
 refine kT 10 ?_
 refine kT 11 ?_
 refine gE ?_
 go_wp2_with fail
 go_ret
 exact ⟨rfl,(bD _)⟩
theorem IQ (args:Array Value) (w:World):(callFunc 237 args).run Tryz.prog w=.ok (.enter 237 args) w:=by simp [go_sem]
def IE (gn:List (Nat × Nat)) (n:Nat) (sp:List Int) (who:Nat):Bool:=sp.any fun x=>DT gn n who x.toNat
def EI (gn:List (Nat × Nat)) (n:Nat) (sp:List Int) (o:Nat):Bool:=!(sp.any fun x=>DT gn n x.toNat o)
theorem OI (c) (w0:World) (bj:Nat) (av:Value) (fl) (fv:Value) (gn:List (Nat × Nat)) (sp) (A:JAc c w0 av gn sp) (who:Nat) (W:World) (h:AW c.cs w0 bj av fl fv W) (n6:c.n<=6) (h1:who < c.n) :
  Calls Tryz.prog 206 #[zj (some ⟨bj,0,none⟩),U zd (who:Int)] W fun e W'=>e=zk (zg (IE gn c.n sp who))/\Ov W W':=by
 have hb:Ov W ((W.alloc (ze #[zj (some ⟨bj,0,none⟩)] 161)).alloc (ze #[U zd (who:Int)] 3)):=(bA W _).alloc (by simp) _
 have hJ:=h.over hb
 have e0:=Fh W [zj (some ⟨bj,0,none⟩)] 161 (ze #[U zd (who:Int)] 3) 0 _ rfl
 have e1:=FA W (ze #[zj (some ⟨bj,0,none⟩)] 161) [U zd (who:Int)] 3 0 _ rfl
 have t2:=hJ.cw 2 _ rfl
 have K:=Aa (Gf 238 [zj (some ⟨W.heap.size,0,none⟩),zj (some ⟨W.heap.size+1,0,none⟩)] (fun x=>DT gn c.n who x.toNat) (O c.sa c.sn c.sc) sp _ (BH A.speak hJ.below) A.s6
  (Aa fun i hi w1 hb1=>by
   obtain ⟨x0,x1⟩:=A.sIn _ (List.getElem_mem hi)
   have:=PX c w0 bj av fl fv gn sp A W.heap.size (W.heap.size+1) who (sp[i].toNat) w1 (hJ.over hb1) n6 (Ab hb1 _ _ e0) (Ab hb1 _ _ e1) h1 (by omega)
   rwa [Int.toNat_of_nonneg x0] at this) Li)
 have hfs:(sp.any fun x=>DT gn c.n who x.toNat)=IE gn c.n sp who:=rfl
 rw [hfs] at K
 clear hJ h A hfs
 go_enter Tryz.func206,Tryz.ntmps206
 go_wp2_with fail
 refine (K.o).mono ?_
 rintro e w1 ⟨rfl,hb1⟩
 go_wp2_with fail
 go_ret
 exact ⟨rfl,Ac hb hb1⟩
theorem Pr (c) (w0:World) (bj:Nat) (av:Value) (fl) (fv:Value) (gn:List (Nat × Nat)) (sp) (A:JAc c w0 av gn sp) (bx:Nat) (o:Nat) (na nn nc) (W:World) (h:AW c.cs w0 bj av fl fv W) (n6:c.n<=6) (hx:W.cell? ⟨bx,0,none⟩=some (zj (some ⟨bj,0,none⟩))) (h1:o < c.n) :
  Calls Tryz.prog 236 #[zh #[U zd (o:Int),O na nn nc],zj (some ⟨bx,0,none⟩)] W fun e W'=>e=zk (zg (EI gn c.n sp o))/\Ov W W':=by
 have hb:Ov W (W.alloc (ze #[U zd (o:Int),O na nn nc] 87)):=bA W _
 have hJ:=h.over hb
 have e0:=Ab hb _ _ hx
 have e1:=CU W [U zd (o:Int),O na nn nc] 87 0 _ rfl
 have t2:=hJ.cw 2 _ rfl
 have K:=Aa (Gf 237 [zj (some ⟨bx,0,none⟩),zj (some ⟨W.heap.size,0,none⟩)] (fun x=>DT gn c.n x.toNat o) (O c.sa c.sn c.sc) sp _ (BH A.speak hJ.below) A.s6
  (Aa fun i hi w1 hb1=>by
   obtain ⟨x0,x1⟩:=A.sIn _ (List.getElem_mem hi)
   have:=Oz c w0 bj av fl fv gn sp A bx W.heap.size (sp[i].toNat) o w1 (hJ.over hb1) n6 (Ab hb1 _ _ e0) (Ab hb1 _ _ e1) (by omega) h1
   rwa [Int.toNat_of_nonneg x0] at this) IQ)
 have hfs:(!(sp.any fun x=>DT gn c.n x.toNat o))=EI gn c.n sp o:=rfl
 rw [<-hfs]
 generalize (sp.any fun x=>DT gn c.n x.toNat o)=r at K ⊢
 clear hJ h A hfs hx
 go_enter Tryz.func236,Tryz.ntmps236
 go_wp2_with fail
 refine (K.o).mono ?_
 rintro e w1 ⟨rfl,hb1⟩
 go_wp2_with fail
 go_ret
 exact ⟨rfl,Ac hb hb1⟩
theorem JH (args:Array Value) (w:World):(callFunc 236 args).run Tryz.prog w=.ok (.enter 236 args) w:=by simp [go_sem]
theorem NI (c) (w0:World) (bj:Nat) (av:Value) (fl) (fv:Value) (gn:List (Nat × Nat)) (sp) (A:JAc c w0 av gn sp) (v:Value) (ps:List Pol) (W:World) (h:AW c.cs w0 bj av fl fv W) (n6:c.n<=6) (hp:AC W v ps) (hp6:ps.length<=6) (hin:∀ q∈ps,0<=q.owner/\q.owner < (c.n:Int)) :
  Calls Tryz.prog 202 #[zj (some ⟨bj,0,none⟩),v] W fun e W'=>e=zk (zg (ps.any fun q=>EI gn c.n sp q.owner.toNat))/\Ov W W':=by
 have hb:Ov W (W.alloc (ze #[zj (some ⟨bj,0,none⟩)] 161)):=bA W _
 have hJ:=h.over hb
 have e0:=CU W [zj (some ⟨bj,0,none⟩)] 161 0 _ rfl
 have K:=Aa (Jz 236 [zj (some ⟨W.heap.size,0,none⟩)] (fun q=>EI gn c.n sp q.owner.toNat) v ps _ (Ai hp hb) hp6
  (Aa fun i hi w1 hb1 nv hnv=>by
   obtain ⟨x0,x1⟩:=hin _ (List.getElem_mem hi)
   obtain ⟨n1,n2,rfl,-⟩:=hnv
   have:=Pr c w0 bj av fl fv gn sp A W.heap.size (ps[i].owner.toNat) n1 ps[i].names.length n2 w1 (hJ.over hb1) n6 (Ab hb1 _ _ e0) (by omega)
   rwa [Int.toNat_of_nonneg x0] at this) JH)
 obtain ⟨pa,pn,pc,rfl⟩:∃ a n c,v=O a n c:=by obtain ⟨a,c,e,-⟩:=hp;exact ⟨_,_,_,e⟩
 generalize (ps.any fun q=>EI gn c.n sp q.owner.toNat)=r at K ⊢
 clear hJ h A hp hin
 go_enter Tryz.func202,Tryz.ntmps202
 go_wp2_with fail
 refine (K.o).mono ?_
 rintro e w1 ⟨rfl,hb1⟩
 go_wp2_with fail
 go_ret
 exact ⟨rfl,Ac hb hb1⟩
theorem EY (c:WC) (w0:World) (bj:Nat) (av:Value) (fl) (fv:Value) (F:FuncId) (cap:List Value) (p:Nat->Bool) (W:World) (h:AW c.cs w0 bj av fl fv W) (n6:c.n<=6)
  (hF:Hx (∀ (i:Nat),i < c.n->∀ (w1:World),Ov W w1->Calls Tryz.prog F (U zd (i:Int)::cap).toArray w1 fun e w2=>e=zk (zg (p i))/\Ov w1 w2))
  (hC:∀ (args:Array Value) (w:World),(callFunc F args).run Tryz.prog w=.ok (.enter F args) w) :
  Calls Tryz.prog 203 #[zj (some ⟨bj,0,none⟩),.func (.func F) #[] cap.toArray] W fun e W'=>e=zk (zg ((List.range c.n).any p))/\Ov W W':=by
 have t0:=h.cw 0 _ rfl
 clear h
 go_enter Tryz.func203,Tryz.ntmps203
 go_wp2_with fail
 go_loopw [13] (fun i wr=>∃ k:Nat,k<=c.n/\i=U zd k/\(∀ j,j < k->p j=false)/\Ov W wr) (fun i _=>c.n - (intOf i).toNat)
 case atStart=>exact ⟨0,Nat.zero_le _,rfl,fun j hj=>absurd hj (by omega),Below.refl _ W⟩
 case round=>
  obtain ⟨k,hk,rfl,hall,hbel⟩:=hrel
  by_cases hkl:k < c.n
  ·have hcall:=hF.o k hkl
   have hat:p k=true->(List.range c.n).any p=true:=fun hp=>List.any_eq_true.2 ⟨k,List.mem_range.2 hkl,hp⟩
   have htk:p k=false->∀ j,j < k+1->p j=false:=fun hp j hj=>by
    by_cases hjk:j=k
    ·rw [hjk];exact hp
    ·exact hall j (by omega)
   generalize p k=r at hcall hat htk
   have HC:=Aa hcall
   have HA:=Aa hat
   have HT:=Aa htk
   clear hcall hat htk hF hall
   have hk2:(k:Int) < (c.n:Int):=by omega
   cases r with
   | true=>
    go_wp2_with fail
    refine (HC.o _ hbel).mono ?_
    rintro e w2 ⟨rfl,hb2⟩
    have hbel2:Ov W w2:=hbel.trans (hb2.mono hbel.size)
    go_wp2_with fail
    go_ret
    exact ⟨by rw [HA.o (by first | rfl | trivial)];rfl,hbel2⟩
   | false=>
    go_wp2_with fail
    refine (HC.o _ hbel).mono ?_
    rintro e w2 ⟨rfl,hb2⟩
    have hbel2:Ov W w2:=hbel.trans (hb2.mono hbel.size)
    go_wp2_with fail
    exact ⟨⟨k+1,by omega,by go_num,HT.o (by first | rfl | trivial),hbel2⟩,by simp [intOf];omega⟩
  ·have hx:(List.range c.n).any p=false:=by
    rw [List.any_eq_false]
    intro j hj
    rw [hall j (by have:=List.mem_range.1 hj;omega)]
    simp
   clear hall hF
   go_wp2_with fail
   go_ret
   exact ⟨by rw [hx];rfl,hbel⟩
section
variable {c:WC} {w0 W W':World} {bj:Nat} {av:Value} {fl:List (Int × Int)} {fv:Value} {gs:List (Int × Int)} {Ls Fs:List Lev}
theorem AW.xold (h:AW c.cs w0 bj av fl fv W) {k:Nat} (hk:k < w0.heap.size):¬ XJ bj W k:=fun e=>by have:=(h.xlt k e).1;omega
theorem FW {n:Nat} (h1:1<=n) (h:AW c.cs w0 bj av fl fv W) {v:Value} {l:Lev} (hl:AQ w0 v l) (hll:l.len n):AY n (XJ bj) W v l:=by
 have lt:∀ (v:Value) (l:List Bool),AN w0 v l->l.length=n->∀ a m c,v=O (some a) m c->a.block < w0.heap.size:=by
  intro v l hb hl a m c e
  obtain ⟨ao,cap,hv,hel⟩:=hb
  obtain ⟨b,off,hao,hel⟩:=hel (by rintro rfl;simp at hl;omega)
  rw [hv,hao] at e
  injection e with e1
  injection e1 with e1
  rw [<-e1]
  exact bL (hel 0 (by omega))
 obtain ⟨x,y,hv,bx,by'⟩:=id hl
 exact ⟨Ag hl h.below,hll,x,y,hv,fun a m c e=>h.xold (lt _ _ bx hll.1 a m c e),fun a m c e=>h.xold (lt _ _ by' hll.2 a m c e)⟩
theorem E8 {n:Nat} (h1:1<=n) (h:AW c.cs w0 bj av fl fv W) {v:Value} {Ls:List Lev} (hl:Bg w0 v Ls) (hll:∀ x∈Ls,x.len n):Bd n (XJ bj) W v Ls:=by
 obtain ⟨ao,cap,hv,hel⟩:=hl
 refine ⟨ao,cap,hv,fun hne=>?_⟩
 obtain ⟨b,off,hao,hel⟩:=hel hne
 refine ⟨b,off,hao,fun i hi=>?_⟩
 obtain ⟨rv,wv,c0,c1,hl⟩:=hel i hi
 exact ⟨rv,wv,Ab h.below _ _ c0,Ab h.below _ _ c1,FW h1 h hl (hll _ (List.getElem_mem hi))⟩
theorem Px (J:JSt c w0 gs Ls Fs) (fs:List FnD) (hF:Fs.length=fs.length):Eg c w0 Ls.length fs gs (fun _:List (Int × Int)=>Ls) (fun _=>Fs) (fun fl W=>∃ fv,AW c.cs w0 bj av fl fv W) (XJ bj) where
 n1:=J.n1
 n6:=J.n6
 gr:=J.gr
 chk:=J.chk
 nv16:=J.l16
 below:=fun _ _ ⟨_,h⟩=>h.below
 levs:=fun _ _ ⟨_,h⟩=>⟨E8 J.n1 h J.levs J.lens,rfl⟩
 flevs:=fun _ _ ⟨_,h⟩=>⟨E8 J.n1 h J.flevs J.flens,hF⟩
 over:=fun _ _ _ ⟨fv,h⟩ hb=>⟨fv,h.over hb⟩
 xok:=Aj bj
 xlt:=fun _ _ ⟨_,h⟩ k hk=>(h.xlt k hk).2
theorem H5 (J:JSt c w0 gs Ls Fs) (h:AW c.cs w0 bj av fl fv W) (v:Value) (l) (K:Nat) (cs:List Value) (d) (hl:AY c.n (XJ bj) W v l) (hx:RX w0 K cs d) (hv:∀ x∈AF K d,0<=x/\x < (Ls.length:Int)) :
  Calls Tryz.prog 103 #[c.v,v,.agg cs.toArray] W fun e w'=>
   (∃ p1 q1 r1 p2 q2 r2,e=zk (zh #[O p1 q1 r1,O p2 q2 r2])/\AY c.n (XJ bj) w' (zh #[O p1 q1 r1,O p2 q2 r2]) (AZ c.n Ls l (AF K d)))/\Ov W w':=
 DU c J.n1 J.n6 gs Ls (XJ bj) (Aj bj) v l K cs d W (Af J.gr h.below) J.chk (E8 J.n1 h J.levs J.lens) hl J.l16 (fun k hk=>(h.xlt k hk).2) (hx.over h.below) hv
end
structure D8 (bj s:Nat) (a:Int) (st lv:List Value) (W:World):Prop where
 j:W.cell? ⟨s,0,none⟩=some (zj (some ⟨bj,0,none⟩))
 a:W.cell? ⟨s+1,0,none⟩=some (U zd a)
 st:Ae st W (s+1+1)
 lv:Ae lv W (s+1+1+1)
 x:∀ i,s<=i->i<=s+3->¬ XJ bj W i
 lt:s+3 < W.heap.size
theorem D8.keep {bj s:Nat} {a:Int} {st lv:List Value} {W W':World} (h:D8 bj s a st lv W) (hf:FrW (XJ bj) W W'):D8 bj s a st lv W':=
 ⟨hf.cell h.j (h.x s (Nat.le_refl _) (by omega)),hf.cell h.a (h.x _ (by omega) (by omega)),hf.row h.st (h.x _ (by omega) (by omega)),hf.row h.lv (h.x _ (by omega) (by omega)),fun i h0 h1 e=>h.x i h0 h1 (hf.mov i (by have:=h.lt;omega) e),Nat.lt_of_lt_of_le h.lt hf.size⟩
theorem Da (bj:Nat) (a:Int) (st lv:List Value) (W:World) (hx:∀ k,XJ bj W k->k < W.heap.size) :
  D8 bj W.heap.size a st lv ((((W.alloc (ze #[zj (some ⟨bj,0,none⟩)] 161)).alloc (ze #[U zd a] 3)).alloc (.cells st.toArray 130)).alloc (.cells lv.toArray 50)) /\
  Ov W ((((W.alloc (ze #[zj (some ⟨bj,0,none⟩)] 161)).alloc (ze #[U zd a] 3)).alloc (.cells st.toArray 130)).alloc (.cells lv.toArray 50)):=by
 have hb:Ov W ((((W.alloc (ze #[zj (some ⟨bj,0,none⟩)] 161)).alloc (ze #[U zd a] 3)).alloc (.cells st.toArray 130)).alloc (.cells lv.toArray 50)):=(((bA W _).alloc (by simp) _).alloc (by simp <;> omega) _).alloc (by simp <;> omega) _
 refine ⟨⟨by simp [go_sem],by simp [go_sem],?_,?_,fun i h0 h1 e=>?_,by simp <;> omega⟩,hb⟩
 ·have r:=(Ae.new st 130 ((W.alloc (ze #[zj (some ⟨bj,0,none⟩)] 161)).alloc (ze #[U zd a] 3))).over (bA _ (.cells lv.toArray 50))
  simpa using r
 ·have r:=Ae.new lv 50 (((W.alloc (ze #[zj (some ⟨bj,0,none⟩)] 161)).alloc (ze #[U zd a] 3)).alloc (.cells st.toArray 130))
  simpa using r
 ·have:=hx i ((Aj bj).below _ _ hb i e)
  omega
abbrev ND (W:World) (bj:Nat) (c:WC) (vr ek en:Int) (xa:Option Addr) (xl xc:Nat) (p1:Option Addr) (q1 r1:Nat) (p2:Option Addr) (q2 r2:Nat) (Wz:World):Prop:=Wz.cell? ⟨W.heap.size,0,none⟩=some (zj (some ⟨bj,0,none⟩))/\CE Wz bj 0 (U zd (c.n:Int))/\CE Wz bj 1 (O c.ga c.gn c.gc)/\CE Wz bj 2 (O c.sa c.sn c.sc)/\CE Wz bj 3 (O c.ya c.yn c.yc)/\CE Wz bj 4 (O c.oa c.on c.oc)/\CE Wz bj 5 (O c.va c.vn c.vc)/\CE Wz bj 6 (O c.fa c.fn c.fc)/\CE Wz bj 7 (O c.ba c.bn c.bc)/\CE Wz bj 8 (O c.la c.ln c.lc)/\CE Wz bj 9 (O c.ka c.kn c.kc)/\CE Wz (W.heap.size+1+1) 1 (U zd vr)/\CE Wz (W.heap.size+1+1) 3 (U zd ek)/\CE Wz (W.heap.size+1+1) 4 (U zd en)/\CE Wz (W.heap.size+1+1) 5 (O xa xl xc)/\CE Wz (W.heap.size+1+1+1) 0 (O p1 q1 r1)/\CE Wz (W.heap.size+1+1+1) 1 (O p2 q2 r2)
theorem N7 (c) (w0:World) (bj:Nat) (av:Value) (gs Ls Fs) (J:JSt c w0 gs Ls Fs) (sp) (A:JAc c w0 av (AD gs) sp) (K ni no:Nat) (fs vs) (hvs:Br w0 (O c.va c.vn c.vc) vs) (hvn:vs.length=Ls.length) (hvc:∀ v∈vs,Bo c.n gs v.2=0) (ls) (hls:Bb w0 (O c.ya c.yn c.yc) ls) (hlc:∀ b∈ls,Bo c.n gs b=0) (hni:ls.length=ni) (hni5:ni<=5) (os) (hos:Bb w0 (O c.oa c.on c.oc) os) (hoc:∀ b∈os,Bo c.n gs b=0) (hno:os.length=no) (hno5:no<=5)
  (fl:List (Int × Int)) (hfl:fl.length<=900) (fv:Value) (W:World) (a:Int) (k:Nat) (cs:List Value) (d:D) (v:Value) (p:Lev) (funcs:Int) (h:AW c.cs w0 bj av fl fv W) (hrs:RS w0 K (k+1) cs d) (hok:CJ K Ls.length ni no funcs fs d) (hl:AY c.n (XJ bj) W v p) (hk:Am d=1) :
  Calls Tryz.prog 88 #[zj (some ⟨bj,0,none⟩),U zd a,.agg cs.toArray,v] W fun e W'=>e=zk (zm #[])/\(∃ fv',AW c.cs w0 bj av (addF a 1 fl (!Ay (AZ c.n Ls p (AF K (AV d))) (Ls.getD (AK d).toNat AE) c.n)) fv' W')/\FrW (XJ bj) W W':=by
 obtain ⟨p1,q1,r1,p2,q2,r2,rfl⟩:=hl.form
 obtain ⟨ek,en,xa,xl,xc,aa,ac,ta,tc,ea,ec,rfl,i0,i1,i2,hX,hA,hT,hE,-,-,-⟩:=hrs.form
 have hkd:sC (Am d) (AK d) (Ah d) ek en xa xl xc aa (Ap d).length ac ta (Av d).length tc ea (Ax d).length ec=sC 1 (AK d) (Ah d) ek en xa xl xc aa (Ap d).length ac ta (Av d).length tc ea (Ax d).length ec:=by rw [hk]
 rw [hkd]
 clear hkd
 have hv2:=hok.2.1 (by omega)
 obtain ⟨jv,hjv⟩:∃ j:Nat,AK d=(j:Int):=⟨(AK d).toNat,by omega⟩
 have hjl:jv < Ls.length:=by omega
 have hgd:Ls.getD (AK d).toNat AE=Ls[jv]:=by rw [hjv];simp [List.getD_eq_getElem?_getD,hjl]
 rw [hgd]
 obtain ⟨vr,hvr⟩:=nm (AK d)
 obtain ⟨ot,hot⟩:=nm (Ah d)
 obtain ⟨al,hal⟩:=nm ((Ap d).length)
 obtain ⟨tl,htl⟩:=nm ((Av d).length)
 obtain ⟨el,hel⟩:=nm ((Ax d).length)
 rw [<-hvr,<-hot,<-hal,<-htl,<-hel]
 obtain ⟨hbox,hb⟩:=Da bj a [U zd 1,U zd vr,U zd ot,U zd ek,U zd en,O xa xl xc,O aa al ac,O ta tl tc,O ea el ec] [O p1 q1 r1,O p2 q2 r2] W (fun k hk=>(h.xlt k hk).2)
 have hF1:=FrW.of_below (Aj bj) hb
 have hFD:=hF1.trans (FrW.of_below (Aj bj) (bD _))
 have HF1:=Aa hF1
 have HJ1:=Aa (h.over hb)
 have HBX1:=Aa hbox
 have HL1:=Aa (hl.keep J.n1 hF1)
 have HJD:=Aa (HJ1.o.over (bD _))
 have HBXD:=Aa (hbox.keep (FrW.of_below (Aj bj) (bD _)))
 have HLD:=Aa (hl.keep J.n1 hFD)
 have HFD:=Aa hFD
 have KW:=Aa (fun (W2:World) (h2:AW c.cs w0 bj av fl fv W2) (hl2:AY c.n (XJ bj) W2 (zh #[O p1 q1 r1,O p2 q2 r2]) p)=>H5 J h2 _ p K [U zd ek,U zd en,O xa xl xc] (AV d) hl2 hX (BD hok))
 obtain ⟨r,hr⟩:=nm (Ay (AZ c.n Ls p (AF K (AV d))) Ls[jv] c.n)
 have KR:Hx (∀ (W2:World),AW c.cs w0 bj av fl fv W2->∀ (x:Value),AY c.n (XJ bj) W2 x (AZ c.n Ls p (AF K (AV d)))->Calls Tryz.prog 150 #[zj (some ⟨bj,0,none⟩),x,U zd vr] W2 fun e W'=>e=zk (zg r)/\Ov W2 W'):=fun W2 h2 x hx=>by
  rw [hr,hvr,hjv]
  exact EF c w0 bj av fl fv gs Ls Fs J x _ jv W2 h2 hx.at_ hx.len hjl
 rw [<-hr]
 have KB:=Aa (fun (W2:World) (h2:AW c.cs w0 bj av fl fv W2) (hb2:D8 bj W.heap.size a [U zd 1,U zd vr,U zd ot,U zd ek,U zd en,O xa xl xc,O aa al ac,O ta tl tc,O ea el ec] [O p1 q1 r1,O p2 q2 r2] W2) (is:Bool)=>Ff c.cs w0 bj av fl fv a 1 is W.heap.size (W.heap.size+1) W2 h2 hb2.j hb2.a (hb2.x _ (Nat.le_refl _) (by omega)) (hb2.x _ (by omega) (by omega)) (by omega))
 have HS:Hx (∀ (W2:World) (fl2:List (Int × Int)) (fv2:Value),AW c.cs w0 bj av fl2 fv2 W2->D8 bj W.heap.size a [U zd 1,U zd vr,U zd ot,U zd ek,U zd en,O xa xl xc,O aa al ac,O ta tl tc,O ea el ec] [O p1 q1 r1,O p2 q2 r2] W2->ND W bj c vr ek en xa xl xc p1 q1 r1 p2 q2 r2 W2):=fun W2 fl2 fv2 h2 hb2=>⟨hb2.j,h2.cw 0 _ rfl,h2.cw 1 _ rfl,h2.cw 2 _ rfl,h2.cw 3 _ rfl,h2.cw 4 _ rfl,h2.cw 5 _ rfl,h2.cw 6 _ rfl,h2.cw 7 _ rfl,h2.cw 8 _ rfl,h2.cw 9 _ rfl,hb2.st 1 _ rfl,hb2.st 3 _ rfl,hb2.st 4 _ rfl,hb2.st 5 _ rfl,hb2.lv 0 _ rfl,hb2.lv 1 _ rfl⟩
 have HSD:=Aa (HS.o _ _ _ HJD.o HBXD.o)
 obtain ⟨t0,t1,t2,t3,t4,t5,t6,t7,t8,t9,t10,t11,t12,t13,t14,t15,t16⟩:=HS.o _ _ _ HJ1.o HBX1.o
 have g0:=hbox.st 0 _ rfl
 clear hr hgd hjv hv2 hvr hot hal htl hel hbox hb hF1 hFD h hl hrs hX hA hT hE hok J A hvs hvc hls hlc hos hoc hfl hk i0 i1 i2 hjl
 go_enter Tryz.func88,Tryz.ntmps88
 go_wp2_with fail
 refine gS (ND W bj c vr ek en xa xl xc p1 q1 r1 p2 q2 r2) (HSD.o) fun hHeld=>?_
 refine kT 0 ?_
 refine kT 1 ?_
 refine kT 2 ?_
 refine kT 3 ?_
 refine kT 4 ?_
 refine kT 5 ?_
 refine kT 6 ?_
 refine kT 7 ?_
 refine kT 8 ?_
 refine kT 10 ?_
 refine kT 11 ?_
 refine rdA 9 rfl fun K hK=>?_
 go_simp
 refine (KW.o _ HJD.o HLD.o).mono ?_
 rintro e W3 ⟨⟨o1,o2,o3,o4,o5,o6,rfl,hL3⟩,hb3⟩
 have HL3:=Aa hL3
 have HJ3:=Aa (HJD.o.over hb3)
 have HB3:=Aa (HBXD.o.keep (FrW.of_below (Aj bj) hb3))
 have HS3:=Aa (HS.o W3 _ _ HJ3.o HB3.o)
 have HF3:=Aa (HFD.o.trans (FrW.of_below (Aj bj) hb3))
 clear hL3 hb3
 go_simp
 refine xK hK (HS3.o) fun hHeld=>?_
 refine rdA 12 rfl fun K hK=>?_
 go_simp
 refine (KR.o _ HJ3.o _ HL3.o).mono ?_
 rintro e W4 ⟨rfl,hb4⟩
 have HJ4:=Aa (HJ3.o.over hb4)
 have HB4:=Aa (HB3.o.keep (FrW.of_below (Aj bj) hb4))
 have HS4:=Aa (HS.o W4 _ _ HJ4.o HB4.o)
 have HF4:=Aa (HF3.o.trans (FrW.of_below (Aj bj) hb4))
 clear hb4
 go_simp
 refine xK hK (HS4.o) fun hHeld=>?_
 refine kT 13 ?_
 refine rdA 14 rfl fun K hK=>?_
 go_simp
 refine (KB.o _ HJ4.o HB4.o _).mono ?_
 rintro e W5 ⟨rfl,⟨fv5,hJ5⟩,hF5⟩
 have HJ5:=Aa hJ5
 have HS5:=Aa (HS.o W5 _ _ hJ5 (HB4.o.keep hF5))
 have HF5:=Aa (HF4.o.trans hF5)
 clear hJ5 hF5
 go_simp
 refine xK hK (HS5.o) fun hHeld=>?_
 refine gE ?_
 go_end0
 exact ⟨rfl,⟨fv5,HJ5.o⟩,HF5.o⟩
theorem L8 {K nv ni no:Nat} {funcs:Int} {fs:List FnD} {d:D} (h:CJ K nv ni no funcs fs d) (hk:Am d=4):0<=Ah d/\Ah d < no:=by
 unfold CJ at h
 grind
theorem D2 (gn:List (Nat × Nat)) (n:Nat) (b:Lab):(AA gn n b).len n:=⟨A5 _ _,A5 _ _⟩
abbrev NC (W:World) (bj:Nat) (c:WC) (bo oo jo:Nat) (ek en:Int) (xa:Option Addr) (xl xc:Nat) (p1:Option Addr) (q1 r1:Nat) (p2:Option Addr) (q2 r2:Nat) (pa1:Option Addr) (pn1 pc1:Nat) (pa2:Option Addr) (pn2 pc2:Nat) (Wz:World):Prop:=Wz.cell? ⟨W.heap.size,0,none⟩=some (zj (some ⟨bj,0,none⟩))/\CE Wz bj 0 (U zd (c.n:Int))/\CE Wz bj 1 (O c.ga c.gn c.gc)/\CE Wz bj 2 (O c.sa c.sn c.sc)/\CE Wz bj 3 (O c.ya c.yn c.yc)/\CE Wz bj 4 (O (some ⟨bo,oo,none⟩) c.on c.oc)/\CE Wz bj 5 (O c.va c.vn c.vc)/\CE Wz bj 6 (O c.fa c.fn c.fc)/\CE Wz bj 7 (O c.ba c.bn c.bc)/\CE Wz bj 8 (O c.la c.ln c.lc)/\CE Wz bj 9 (O c.ka c.kn c.kc)/\CE Wz (W.heap.size+1+1) 2 (U zd (jo:Int))/\CE Wz (W.heap.size+1+1) 3 (U zd ek)/\CE Wz (W.heap.size+1+1) 4 (U zd en)/\CE Wz (W.heap.size+1+1) 5 (O xa xl xc)/\CE Wz (W.heap.size+1+1+1) 0 (O p1 q1 r1)/\CE Wz (W.heap.size+1+1+1) 1 (O p2 q2 r2)/\CE Wz bo (oo+jo*2) (O pa1 pn1 pc1)/\CE Wz bo (oo+jo*2+1) (O pa2 pn2 pc2)
theorem NY (c) (w0:World) (bj:Nat) (av:Value) (gs Ls Fs) (J:JSt c w0 gs Ls Fs) (sp) (A:JAc c w0 av (AD gs) sp) (K ni no:Nat) (fs vs) (hvs:Br w0 (O c.va c.vn c.vc) vs) (hvn:vs.length=Ls.length) (hvc:∀ v∈vs,Bo c.n gs v.2=0) (ls) (hls:Bb w0 (O c.ya c.yn c.yc) ls) (hlc:∀ b∈ls,Bo c.n gs b=0) (hni:ls.length=ni) (hni5:ni<=5) (os) (hos:Bb w0 (O c.oa c.on c.oc) os) (hoc:∀ b∈os,Bo c.n gs b=0) (hno:os.length=no) (hno5:no<=5)
  (fl:List (Int × Int)) (hfl:fl.length<=900) (fv:Value) (W:World) (a:Int) (k:Nat) (cs:List Value) (d:D) (v:Value) (p:Lev) (funcs:Int) (h:AW c.cs w0 bj av fl fv W) (hrs:RS w0 K (k+1) cs d) (hok:CJ K Ls.length ni no funcs fs d) (hl:AY c.n (XJ bj) W v p) (hk:Am d=4) :
  Calls Tryz.prog 88 #[zj (some ⟨bj,0,none⟩),U zd a,.agg cs.toArray,v] W fun e W'=>e=zk (zm #[])/\(∃ fv',AW c.cs w0 bj av (addF a 4 fl (!Ay (AZ c.n Ls p (AF K (AV d))) (AA (AD gs) c.n (os.getD (Ah d).toNat ⟨[],[]⟩)) c.n)) fv' W')/\FrW (XJ bj) W W':=by
 obtain ⟨p1,q1,r1,p2,q2,r2,rfl⟩:=hl.form
 obtain ⟨ek,en,xa,xl,xc,aa,ac,ta,tc,ea,ec,rfl,i0,i1,i2,hX,hA,hT,hE,-,-,-⟩:=hrs.form
 have hkd:sC (Am d) (AK d) (Ah d) ek en xa xl xc aa (Ap d).length ac ta (Av d).length tc ea (Ax d).length ec=sC 4 (AK d) (Ah d) ek en xa xl xc aa (Ap d).length ac ta (Av d).length tc ea (Ax d).length ec:=by rw [hk]
 rw [hkd]
 clear hkd
 have ho2:0<=Ah d/\Ah d < no:=L8 hok hk
 obtain ⟨hym,ya',yc',hye,hyc⟩:=hos
 injection hye with y1 y2 y3
 obtain ⟨jo,hjo⟩:∃ j:Nat,Ah d=(j:Int):=⟨(Ah d).toNat,by omega⟩
 have hjL:jo < os.length:=by omega
 obtain ⟨bo,oo,hyo,hyel⟩:=hyc (by intro h;rw [h] at hjL;simp at hjL)
 obtain ⟨pr,pw,l0,l1,hpr,hpw⟩:=hyel jo hjL
 obtain ⟨pa1,pn1,pc1,rfl⟩:=AO hpr
 obtain ⟨pa2,pn2,pc2,rfl⟩:=AO hpw
 have hya:c.oa=some ⟨bo,oo,none⟩:=y1.trans hyo
 have hyn:c.on=os.length:=y2
 have hgd:os.getD (Ah d).toNat ⟨[],[]⟩=os[jo]:=by rw [hjo];simp [List.getD_eq_getElem?_getD,hjL]
 rw [hgd]
 have hlk:=hoc os[jo] (List.getElem_mem hjL)
 generalize os[jo]=lb at hlk hpr hpw ⊢
 obtain ⟨vr,hvr⟩:=nm (AK d)
 obtain ⟨ot,hot⟩:=nm (Ah d)
 obtain ⟨al,hal⟩:=nm ((Ap d).length)
 obtain ⟨tl,htl⟩:=nm ((Av d).length)
 obtain ⟨el,hel⟩:=nm ((Ax d).length)
 rw [<-hvr,<-hot,<-hal,<-htl,<-hel]
 obtain ⟨hbox,hb⟩:=Da bj a [U zd 4,U zd vr,U zd ot,U zd ek,U zd en,O xa xl xc,O aa al ac,O ta tl tc,O ea el ec] [O p1 q1 r1,O p2 q2 r2] W (fun k hk=>(h.xlt k hk).2)
 have hF1:=FrW.of_below (Aj bj) hb
 have hFD:=hF1.trans (FrW.of_below (Aj bj) (bD _))
 have HF1:=Aa hF1
 have HJ1:=Aa (h.over hb)
 have HBX1:=Aa hbox
 have HL1:=Aa (hl.keep J.n1 hF1)
 have HJD:=Aa (HJ1.o.over (bD _))
 have HBXD:=Aa (hbox.keep (FrW.of_below (Aj bj) (bD _)))
 have HLD:=Aa (hl.keep J.n1 hFD)
 have HFD:=Aa hFD
 have hot2:ot=(jo:Int):=by rw [hot,hjo]
 have hcv:c.v=(zh #[U zd (c.n:Int),O c.ga c.gn c.gc,O c.sa c.sn c.sc,O c.ya c.yn c.yc,O (some ⟨bo,oo,none⟩) c.on c.oc,O c.va c.vn c.vc,O c.fa c.fn c.fc,O c.ba c.bn c.bc,O c.la c.ln c.lc,O c.ka c.kn c.kc]):=by show Value.agg #[U zd (c.n:Int),O c.ga c.gn c.gc,O c.sa c.sn c.sc,O c.ya c.yn c.yc,O c.oa c.on c.oc,O c.va c.vn c.vc,O c.fa c.fn c.fc,O c.ba c.bn c.bc,O c.la c.ln c.lc,O c.ka c.kn c.kc]=_;rw [hya]
 have KW:Hx (∀ (W2:World),AW c.cs w0 bj av fl fv W2->AY c.n (XJ bj) W2 (zh #[O p1 q1 r1,O p2 q2 r2]) p->Calls Tryz.prog 103 #[(zh #[U zd (c.n:Int),O c.ga c.gn c.gc,O c.sa c.sn c.sc,O c.ya c.yn c.yc,O (some ⟨bo,oo,none⟩) c.on c.oc,O c.va c.vn c.vc,O c.fa c.fn c.fc,O c.ba c.bn c.bc,O c.la c.ln c.lc,O c.ka c.kn c.kc]),(zh #[O p1 q1 r1,O p2 q2 r2]),zh #[U zd ek,U zd en,O xa xl xc]] W2 fun e w'=>(∃ p1 q1 r1 p2 q2 r2,e=zk (zh #[O p1 q1 r1,O p2 q2 r2])/\AY c.n (XJ bj) w' (zh #[O p1 q1 r1,O p2 q2 r2]) (AZ c.n Ls p (AF K (AV d))))/\Ov W2 w'):=fun W2 h2 hl2=>by
  have:=H5 J h2 _ p K [U zd ek,U zd en,O xa xl xc] (AV d) hl2 hX (BD hok)
  rw [hcv] at this
  exact this
 have KL:Hx (∀ (W2:World),AW c.cs w0 bj av fl fv W2->Calls Tryz.prog 114 #[(zh #[U zd (c.n:Int),O c.ga c.gn c.gc,O c.sa c.sn c.sc,O c.ya c.yn c.yc,O (some ⟨bo,oo,none⟩) c.on c.oc,O c.va c.vn c.vc,O c.fa c.fn c.fc,O c.ba c.bn c.bc,O c.la c.ln c.lc,O c.ka c.kn c.kc]),zh #[O pa1 pn1 pc1,O pa2 pn2 pc2]] W2 fun e w'=>∃ vj,e=zk vj/\Be W2 w' vj (AA (AD gs) c.n lb)/\Ov W2 w'):=fun W2 h2=>by
  have:=Mb c gs (O pa1 pn1 pc1) (O pa2 pn2 pc2) lb W2 (Af J.gr h2.below) (Ai hpr h2.below) (Ai hpw h2.below) hlk
  rw [hcv] at this
  exact this
 obtain ⟨r,hr⟩:=nm (Ay (AZ c.n Ls p (AF K (AV d))) (AA (AD gs) c.n lb) c.n)
 have KF:Hx (∀ (W2:World) (x:Value),AW c.cs w0 bj av fl fv W2->∀ (y:Value),AY c.n (XJ bj) W2 x (AZ c.n Ls p (AF K (AV d)))->AQ W2 y (AA (AD gs) c.n lb)->Calls Tryz.prog 57 #[(zh #[U zd (c.n:Int),O c.ga c.gn c.gc,O c.sa c.sn c.sc,O c.ya c.yn c.yc,O (some ⟨bo,oo,none⟩) c.on c.oc,O c.va c.vn c.vc,O c.fa c.fn c.fc,O c.ba c.bn c.bc,O c.la c.ln c.lc,O c.ka c.kn c.kc]),x,y] W2 fun e W'=>e=zk (zg r)/\Ov W2 W'):=fun W2 x h2 y hx hy=>by
  have:=Ga c gs x y _ _ W2 (Af J.gr h2.below) J.chk hx.at_ hx.len hy (D2 _ _ _)
  rw [hcv,<-hr] at this
  exact this
 rw [<-hr]
 have KB:=Aa (fun (W2:World) (h2:AW c.cs w0 bj av fl fv W2) (hb2:D8 bj W.heap.size a [U zd 4,U zd vr,U zd ot,U zd ek,U zd en,O xa xl xc,O aa al ac,O ta tl tc,O ea el ec] [O p1 q1 r1,O p2 q2 r2] W2) (is:Bool)=>Ff c.cs w0 bj av fl fv a 4 is W.heap.size (W.heap.size+1) W2 h2 hb2.j hb2.a (hb2.x _ (Nat.le_refl _) (by omega)) (hb2.x _ (by omega) (by omega)) (by omega))
 have HS:Hx (∀ (W2:World) (fl2:List (Int × Int)) (fv2:Value),AW c.cs w0 bj av fl2 fv2 W2->D8 bj W.heap.size a [U zd 4,U zd vr,U zd ot,U zd ek,U zd en,O xa xl xc,O aa al ac,O ta tl tc,O ea el ec] [O p1 q1 r1,O p2 q2 r2] W2->NC W bj c bo oo jo ek en xa xl xc p1 q1 r1 p2 q2 r2 pa1 pn1 pc1 pa2 pn2 pc2 W2):=fun W2 fl2 fv2 h2 hb2=>⟨hb2.j,h2.cw 0 _ rfl,h2.cw 1 _ rfl,h2.cw 2 _ rfl,h2.cw 3 _ rfl,by rw [<-hya];exact h2.cw 4 _ rfl,h2.cw 5 _ rfl,h2.cw 6 _ rfl,h2.cw 7 _ rfl,h2.cw 8 _ rfl,h2.cw 9 _ rfl,by rw [<-hot2];exact hb2.st 2 _ rfl,hb2.st 3 _ rfl,hb2.st 4 _ rfl,hb2.st 5 _ rfl,hb2.lv 0 _ rfl,hb2.lv 1 _ rfl,Ab h2.below _ _ l0,Ab h2.below _ _ l1⟩
 have HSD:=Aa (HS.o _ _ _ HJD.o HBXD.o)
 obtain ⟨t0,t1,t2,t3,t4,t5,t6,t7,t8,t9,t10,t11,t12,t13,t14,t15,t16,t17,t18⟩:=HS.o _ _ _ HJ1.o HBX1.o
 have g0:=hbox.st 0 _ rfl
 have gj1:(jo:Int) < (c.on:Int):=by omega
 have gj2:c.on<=5:=by omega
 clear hr hgd hot2 hjo ho2 hlk hcv hya hyn hyc hyel hyo hym y1 y2 y3 l0 l1 hpr hpw hvr hot hal htl hel hbox hb hF1 hFD h hl hrs hX hA hT hE hok J A hvs hvc hls hlc hoc hfl hk i0 i1 i2 hjL hno hni
 go_enter Tryz.func88,Tryz.ntmps88
 go_wp2_with fail
 refine gS (NC W bj c bo oo jo ek en xa xl xc p1 q1 r1 p2 q2 r2 pa1 pn1 pc1 pa2 pn2 pc2) (HSD.o) fun hHeld=>?_
 refine kT 0 ?_
 refine kT 1 ?_
 refine kT 2 ?_
 refine kT 3 ?_
 refine kT 4 ?_
 refine kT 5 ?_
 refine kT 6 ?_
 refine kT 7 ?_
 refine kT 8 ?_
 refine kT 9 ?_
 refine kT 10 ?_
 refine kT 11 ?_
 refine kT 13 ?_
 refine kT 14 ?_
 refine kT 15 ?_
 refine kT 16 ?_
 refine kT 17 ?_
 refine kT 18 ?_
 refine kT 19 ?_
 refine kT 20 ?_
 refine kT 21 ?_
 refine kT 22 ?_
 refine kT 23 ?_
 refine kT 24 ?_
 refine kT 25 ?_
 refine kT 26 ?_
 refine rdA 12 rfl fun K hK=>?_
 go_simp
 refine (KW.o _ HJD.o HLD.o).mono ?_
 rintro e W3 ⟨⟨o1,o2,o3,o4,o5,o6,rfl,hL3⟩,hb3⟩
 have HL3:=Aa hL3
 have HJ3:=Aa (HJD.o.over hb3)
 have HB3:=Aa (HBXD.o.keep (FrW.of_below (Aj bj) hb3))
 have HS3:=Aa (HS.o W3 _ _ HJ3.o HB3.o)
 have HF3:=Aa (HFD.o.trans (FrW.of_below (Aj bj) hb3))
 clear hL3 hb3
 go_simp
 refine xK hK (HS3.o) fun hHeld=>?_
 refine rdA 27 rfl fun K hK=>?_
 go_simp
 refine (KL.o _ HJ3.o).mono ?_
 rintro e W4 ⟨vj,rfl,hL4,hb4⟩
 have HV4:=Aa hL4
 have HJ4:=Aa (HJ3.o.over hb4)
 have HB4:=Aa (HB3.o.keep (FrW.of_below (Aj bj) hb4))
 have HS4:=Aa (HS.o W4 _ _ HJ4.o HB4.o)
 have HF4:=Aa (HF3.o.trans (FrW.of_below (Aj bj) hb4))
 have HL4:=Aa (HL3.o.over (Aj bj) hb4)
 clear hL4 hb4
 go_simp
 refine xK hK (HS4.o) fun hHeld=>?_
 refine rdA 28 rfl fun K hK=>?_
 go_simp
 refine (KF.o _ _ HJ4.o _ HL4.o (Aq HV4.o)).mono ?_
 rintro e W5 ⟨rfl,hb5⟩
 have HJ5:=Aa (HJ4.o.over hb5)
 have HB5:=Aa (HB4.o.keep (FrW.of_below (Aj bj) hb5))
 have HS5:=Aa (HS.o W5 _ _ HJ5.o HB5.o)
 have HF5:=Aa (HF4.o.trans (FrW.of_below (Aj bj) hb5))
 clear hb5
 go_simp
 refine xK hK (HS5.o) fun hHeld=>?_
 refine kT 29 ?_
 refine rdA 30 rfl fun K hK=>?_
 go_simp
 refine (KB.o _ HJ5.o HB5.o _).mono ?_
 rintro e W6 ⟨rfl,⟨fv6,hJ6⟩,hF6⟩
 have HJ6:=Aa hJ6
 have HS6:=Aa (HS.o W6 _ _ hJ6 (HB5.o.keep hF6))
 have HF6:=Aa (HF5.o.trans hF6)
 clear hJ6 hF6
 go_simp
 refine xK hK (HS6.o) fun hHeld=>?_
 refine gE ?_
 go_end0
 exact ⟨rfl,⟨fv6,HJ6.o⟩,HF6.o⟩
end Go.Proofs.YtfffpjkcfnekaaaGreat.Ex
