/- Checks of labels, whatever they are. -/
import Derived.Test.YtfffpjkcfnekaaaGreatH04
import Derived.Laws.AppendOwnNone
import Derived.Recover
import Derived.Defers
set_option linter.unusedVariables false
set_option maxHeartbeats 8000000
set_option maxRecDepth 100000
namespace Go.Proofs.YtfffpjkcfnekaaaGreat.Ex
open Go.RowKit
open Go.Value renaming slice -> O, int -> zd, bool -> ze, agg -> zg, pointer -> zi, tuple -> zj
open Go.IntKind renaming i64 -> U
open Go.Obj renaming cells -> zf
open Go.Ending renaming returned -> zh
def Bj (w:World):List Lab->List Value->Prop
 | [],xs=>xs=[]
 | l::r,xs=>∃ (pr pw:Value) (ys:List Value),xs=pr::pw::ys/\Az w pr l.r/\Az w pw l.w/\Bj w r ys
theorem Bj.over {w w':World} (hb:Ov w w'):∀ {l:List Lab} {xs:List Value},Bj w l xs->Bj w' l xs
 | [],_,h=>h
 | a::l,_,h=>by
  obtain ⟨pr,pw,ys,rfl,h1,h2,h3⟩:=h
  exact ⟨pr,pw,ys,rfl,Au h1 hb,Au h2 hb,h3.over hb⟩
theorem Bj.append {w:World}:∀ {l m:List Lab} {xs ys:List Value},Bj w l xs->Bj w m ys->Bj w (l++m) (xs++ys)
 | [],_,_,_,h,h'=>by have e:_=_:=h;subst e;exact h'
 | a::l,_,_,_,h,h'=>by
  obtain ⟨pr,pw,zs,rfl,h1,h2,h3⟩:=h
  exact ⟨pr,pw,zs++_,rfl,h1,h2,h3.append h'⟩
theorem Bj.length {w:World}:∀ {l:List Lab} {xs:List Value},Bj w l xs->xs.length=l.length*2
 | [],_,h=>by have e:_=_:=h;subst e;rfl
 | a::l,_,h=>by
  obtain ⟨pr,pw,zs,rfl,h1,h2,h3⟩:=h
  have:=h3.length
  simp
  omega
theorem Bj.one {w:World}:∀ {l:List Lab} {xs:List Value},Bj w l xs->∀ u∈xs,u.oneCell'=true
 | [],_,h,u,hu=>by have e:_=_:=h;subst e;cases hu
 | a::l,_,h,u,hu=>by
  obtain ⟨pr,pw,zs,rfl,h1,h2,h3⟩:=h
  obtain ⟨x,n,c,rfl⟩:=Bc h1
  obtain ⟨y,n',c',rfl⟩:=Bc h2
  simp only [List.mem_cons] at hu
  rcases hu with rfl | rfl | hu
  ·rfl
  ·rfl
  ·exact h3.one u hu
theorem Bj.at {w:World}:∀ {l:List Lab} {xs:List Value},Bj w l xs->∀ (j:Nat) (hj:j < l.length),∃ pr pw,xs[j*2]? = some pr/\xs[j*2+1]? = some pw/\Az w pr l[j].r/\Az w pw l[j].w
 | a::l,_,h,0,hj=>by
  obtain ⟨pr,pw,zs,rfl,h1,h2,h3⟩:=h
  exact ⟨pr,pw,rfl,rfl,h1,h2⟩
 | a::l,_,h,j+1,hj=>by
  obtain ⟨pr,pw,zs,rfl,h1,h2,h3⟩:=h
  obtain ⟨pr',pw',e1,e2,e3,e4⟩:=h3.at j (by simpa using hj)
  exact ⟨pr',pw',by rw [Nat.succ_mul];exact e1,by rw [Nat.succ_mul];exact e2,e3,e4⟩
theorem ET {w:World} {b off:Nat}:∀ (ls:List Lab) (o:Nat),(∀ i (h:i < ls.length),∃ (pr pw:Value),w.cell? ⟨b,o+i*2,none⟩=some pr/\w.cell? ⟨b,o+i*2+1,none⟩=some pw/\Az w pr ls[i].r/\Az w pw ls[i].w) ->
  ∃ xs,Bj w ls xs/\∀ j u,xs[j]? = some u->w.cell? ⟨b,o+j,none⟩=some u
 | [],o,_=>⟨[],rfl,fun j u hu=>by simp at hu⟩
 | l::ls,o,h=>by
  obtain ⟨pr,pw,h0,h1,h2,h3⟩:=h 0 (by simp)
  obtain ⟨xs,hx,hc⟩:=ET (w:=w) (b:=b) (off:=off) ls (o+2) (fun i hi=>by
   obtain ⟨pr',pw',e0,e1,e2,e3⟩:=h (i+1) (by simpa using hi)
   refine ⟨pr',pw',?_,?_,e2,e3⟩
   ·rw [<-e0];congr 2;omega
   ·rw [<-e1];congr 2;omega)
  refine ⟨pr::pw::xs,⟨pr,pw,xs,rfl,h2,h3,hx⟩,fun j u hu=>?_⟩
  match j,hu with
  | 0,hu=>simp at hu;subst hu;simpa using h0
  | 1,hu=>simp at hu;subst hu;simpa using h1
  | j+2,hu=>
   have:=hc j u (by simpa using hu)
   rw [<-this]
   congr 2
   omega
theorem Lv (w:World):Calls Tryz.prog 241 #[O none 0 0,zd U 0] w fun e w'=>∃ v,e=zh v/\w'.ownsRow w.heap.size 39 2 v 0 []/\Ov w w':=by
 go_enter Tryz.func241,Tryz.ntmps241
 go_wp2_with fail
 go_ret
 exact ⟨_,rfl,World.ownsRow_nil _ _ _ _,Below.refl _ _⟩
theorem Lu (w:World):Calls Tryz.prog 241 #[O none 0 0,zd U 1] w fun e w'=>∃ v,e=zh v/\w'.ownsRow w.heap.size 39 2 v 0 []/\Ov w w':=by
 go_enter Tryz.func241,Tryz.ntmps241
 go_wp2_with fail
 go_ret
 refine ⟨_,rfl,⟨rfl,Or.inr ⟨w.heap.size,grownCap w 1 0 39,_,rfl,Nat.le_refl _,heap_alloc_new w _,Nat.zero_le _,grownCap_le_maxLen _ _ _ _ (by decide),?_,rfl⟩⟩,(bA w _).drew⟩
 have:=grownCap_ge w 1 0 39
 simp [Builtin.zeroCells]
 unfold grownCap at this ⊢
 omega
theorem Lt (w:World):Calls Tryz.prog 241 #[O none 0 0,zd U 2] w fun e w'=>∃ v,e=zh v/\w'.ownsRow w.heap.size 39 2 v 0 []/\Ov w w':=by
 go_enter Tryz.func241,Tryz.ntmps241
 go_wp2_with fail
 go_ret
 refine ⟨_,rfl,⟨rfl,Or.inr ⟨w.heap.size,grownCap w 2 0 39,_,rfl,Nat.le_refl _,heap_alloc_new w _,Nat.zero_le _,grownCap_le_maxLen _ _ _ _ (by decide),?_,rfl⟩⟩,(bA w _).drew⟩
 have:=grownCap_ge w 2 0 39
 simp [Builtin.zeroCells]
 unfold grownCap at this ⊢
 omega
theorem Lr (w:World):Calls Tryz.prog 241 #[O none 0 0,zd U 3] w fun e w'=>∃ v,e=zh v/\w'.ownsRow w.heap.size 39 2 v 0 []/\Ov w w':=by
 go_enter Tryz.func241,Tryz.ntmps241
 go_wp2_with fail
 go_ret
 refine ⟨_,rfl,⟨rfl,Or.inr ⟨w.heap.size,grownCap w 3 0 39,_,rfl,Nat.le_refl _,heap_alloc_new w _,Nat.zero_le _,grownCap_le_maxLen _ _ _ _ (by decide),?_,rfl⟩⟩,(bA w _).drew⟩
 have:=grownCap_ge w 3 0 39
 simp [Builtin.zeroCells]
 unfold grownCap at this ⊢
 omega
theorem Lq (w:World):Calls Tryz.prog 241 #[O none 0 0,zd U 4] w fun e w'=>∃ v,e=zh v/\w'.ownsRow w.heap.size 39 2 v 0 []/\Ov w w':=by
 go_enter Tryz.func241,Tryz.ntmps241
 go_wp2_with fail
 go_ret
 refine ⟨_,rfl,⟨rfl,Or.inr ⟨w.heap.size,grownCap w 4 0 39,_,rfl,Nat.le_refl _,heap_alloc_new w _,Nat.zero_le _,grownCap_le_maxLen _ _ _ _ (by decide),?_,rfl⟩⟩,(bA w _).drew⟩
 have:=grownCap_ge w 4 0 39
 simp [Builtin.zeroCells]
 unfold grownCap at this ⊢
 omega
theorem Lp (w:World):Calls Tryz.prog 241 #[O none 0 0,zd U 5] w fun e w'=>∃ v,e=zh v/\w'.ownsRow w.heap.size 39 2 v 0 []/\Ov w w':=by
 go_enter Tryz.func241,Tryz.ntmps241
 go_wp2_with fail
 go_ret
 refine ⟨_,rfl,⟨rfl,Or.inr ⟨w.heap.size,grownCap w 5 0 39,_,rfl,Nat.le_refl _,heap_alloc_new w _,Nat.zero_le _,grownCap_le_maxLen _ _ _ _ (by decide),?_,rfl⟩⟩,(bA w _).drew⟩
 have:=grownCap_ge w 5 0 39
 simp [Builtin.zeroCells]
 unfold grownCap at this ⊢
 omega
theorem Lo (w:World):Calls Tryz.prog 241 #[O none 0 0,zd U 6] w fun e w'=>∃ v,e=zh v/\w'.ownsRow w.heap.size 39 2 v 0 []/\Ov w w':=by
 go_enter Tryz.func241,Tryz.ntmps241
 go_wp2_with fail
 go_ret
 refine ⟨_,rfl,⟨rfl,Or.inr ⟨w.heap.size,grownCap w 6 0 39,_,rfl,Nat.le_refl _,heap_alloc_new w _,Nat.zero_le _,grownCap_le_maxLen _ _ _ _ (by decide),?_,rfl⟩⟩,(bA w _).drew⟩
 have:=grownCap_ge w 6 0 39
 simp [Builtin.zeroCells]
 unfold grownCap at this ⊢
 omega
theorem Lm (w:World):Calls Tryz.prog 241 #[O none 0 0,zd U 7] w fun e w'=>∃ v,e=zh v/\w'.ownsRow w.heap.size 39 2 v 0 []/\Ov w w':=by
 go_enter Tryz.func241,Tryz.ntmps241
 go_wp2_with fail
 go_ret
 refine ⟨_,rfl,⟨rfl,Or.inr ⟨w.heap.size,grownCap w 7 0 39,_,rfl,Nat.le_refl _,heap_alloc_new w _,Nat.zero_le _,grownCap_le_maxLen _ _ _ _ (by decide),?_,rfl⟩⟩,(bA w _).drew⟩
 have:=grownCap_ge w 7 0 39
 simp [Builtin.zeroCells]
 unfold grownCap at this ⊢
 omega
theorem Ll (w:World):Calls Tryz.prog 241 #[O none 0 0,zd U 8] w fun e w'=>∃ v,e=zh v/\w'.ownsRow w.heap.size 39 2 v 0 []/\Ov w w':=by
 go_enter Tryz.func241,Tryz.ntmps241
 go_wp2_with fail
 go_ret
 refine ⟨_,rfl,⟨rfl,Or.inr ⟨w.heap.size,grownCap w 8 0 39,_,rfl,Nat.le_refl _,heap_alloc_new w _,Nat.zero_le _,grownCap_le_maxLen _ _ _ _ (by decide),?_,rfl⟩⟩,(bA w _).drew⟩
 have:=grownCap_ge w 8 0 39
 simp [Builtin.zeroCells]
 unfold grownCap at this ⊢
 omega
theorem Lk (w:World):Calls Tryz.prog 241 #[O none 0 0,zd U 9] w fun e w'=>∃ v,e=zh v/\w'.ownsRow w.heap.size 39 2 v 0 []/\Ov w w':=by
 go_enter Tryz.func241,Tryz.ntmps241
 go_wp2_with fail
 go_ret
 refine ⟨_,rfl,⟨rfl,Or.inr ⟨w.heap.size,grownCap w 9 0 39,_,rfl,Nat.le_refl _,heap_alloc_new w _,Nat.zero_le _,grownCap_le_maxLen _ _ _ _ (by decide),?_,rfl⟩⟩,(bA w _).drew⟩
 have:=grownCap_ge w 9 0 39
 simp [Builtin.zeroCells]
 unfold grownCap at this ⊢
 omega
theorem J4 (w:World):Calls Tryz.prog 241 #[O none 0 0,zd U 10] w fun e w'=>∃ v,e=zh v/\w'.ownsRow w.heap.size 39 2 v 0 []/\Ov w w':=by
 go_enter Tryz.func241,Tryz.ntmps241
 go_wp2_with fail
 go_ret
 refine ⟨_,rfl,⟨rfl,Or.inr ⟨w.heap.size,grownCap w 10 0 39,_,rfl,Nat.le_refl _,heap_alloc_new w _,Nat.zero_le _,grownCap_le_maxLen _ _ _ _ (by decide),?_,rfl⟩⟩,(bA w _).drew⟩
 have:=grownCap_ge w 10 0 39
 simp [Builtin.zeroCells]
 unfold grownCap at this ⊢
 omega
theorem My (n:Nat) (hn:n<=10) (w:World):Calls Tryz.prog 241 #[O none 0 0,zd U n] w fun e w'=>∃ v,e=zh v/\w'.ownsRow w.heap.size 39 2 v 0 []/\Ov w w':=by
 match n,hn with
 | 0,_=>exact Lv w
 | 1,_=>exact Lu w
 | 2,_=>exact Lt w
 | 3,_=>exact Lr w
 | 4,_=>exact Lq w
 | 5,_=>exact Lp w
 | 6,_=>exact Lo w
 | 7,_=>exact Lm w
 | 8,_=>exact Ll w
 | 9,_=>exact Lk w
 | 10,_=>exact J4 w
theorem BC.src2 {w:World} {ad:Addr} {n cap:Nat} {ls:List Lab} (h:BC w (O (some ad) n cap) ls):∃ xs,Bj w ls xs/\∀ j u,xs[j]? = some u->w.cell? (ad.add j)=some u:=by
 obtain ⟨-,ao,cap',he,hc⟩:=h
 injection he with e1 e2 e3
 rcases hl:ls with _ | ⟨a,l⟩
 ·exact ⟨[],rfl,fun j u hu=>by simp at hu⟩
 ·obtain ⟨b,off,hbo,hel⟩:=hc (by rw [hl];simp)
  rw [<-e1] at hbo
  have hbo2:=Option.some.inj hbo
  subst hbo2
  obtain ⟨xs,hx,hxc⟩:=ET (w:=w) (b:=b) (off:=off) ls off (fun i hi=>hel i hi)
  refine ⟨xs,hl ▸ hx,fun j u hu=>?_⟩
  rw [Addr.add_lit]
  exact hxc j u hu
theorem E6 (g:Nat) (ya yn yc oa on oc) (ls ms) (w:World) (hg:Ad [O ya yn yc,O oa on oc] w g) (h1:BC w (O ya yn yc) ls) (h2:BC w (O oa on oc) ms) (hy:yn<=5) (ho:on<=5) (hyc:ya=none->yc=0) (hoc:oa=none->oc=0) :
  Calls Tryz.prog 216 #[O (some ⟨g,0,none⟩) 2 2] w fun e w'=>∃ v xs,e=zh v/\w'.ownsRow w.heap.size 39 2 v (ls++ms).length xs/\Bj w' (ls++ms) xs/\Ov w w':=by
 obtain ⟨i0,hi,hz0,hz1,hz2⟩:=info_parts Tryz.infoL
 have K1:=Aa (My (yn+on) (by omega) w)
 have HG:=Aa hg
 have H1:=Aa h1
 have H2:=Aa h2
 have hyn:yn=ls.length:=by obtain ⟨-,a,c,he,-⟩:=h1;injection he
 have hon:on=ms.length:=by obtain ⟨-,a,c,he,-⟩:=h2;injection he
 have HYN:=Aa hyn
 have HON:=Aa hon
 clear hg h1 h2 hyn hon
 go_enter Tryz.func216,Tryz.ntmps216
 go_wp2_with fail
 go_loopw [3,11] (fun s i wr=>∃ j:Int,0<=j/\j<=2/\i=zd U j/\s=zd U (if j=0 then 0 else if j=1 then (yn:Int) else (yn:Int)+on)/\wr=w) (fun _ i _=>2 - (intOf i).toNat)
 case atStart=>exact ⟨0,by omega,by omega,rfl,rfl,rfl⟩
 case round=>
  obtain ⟨j,hj0,hj,rfl,rfl,hw⟩:=hrel
  have hw':=hw.symm
  subst hw'
  clear hw
  rcases (by omega:j=0\/j=1\/j=2) with rfl | rfl | rfl
  ·have q:=HG.o 0 _ rfl
   rw [if_pos rfl]
   go_wp2_with fail
   exact ⟨⟨1,by omega,by omega,by first | rfl | go_num,by first | rfl | simp,by first | rfl | trivial⟩,by simp [intOf]⟩
  ·have q:=HG.o 1 _ rfl
   rw [if_neg (by omega),if_pos rfl]
   go_wp2_with fail
   exact ⟨⟨2,by omega,by omega,by first | rfl | go_num,by first | rfl | simp,by first | rfl | trivial⟩,by simp [intOf]⟩
  ·rw [if_neg (by omega),if_neg (by omega)]
   have K1':Hx (Calls Tryz.prog 241 #[O none 0 0,zd U ((yn:Int)+on)] w fun e w'=>∃ v,e=zh v/\w'.ownsRow w.heap.size 39 2 v 0 []/\Ov w w'):=by
    have:=K1.o
    rw [Int.natCast_add] at this
    exact this
   obtain ⟨T,hT⟩:=nm ((yn:Int)+on)
   rw [<-hT] at K1' ⊢
   have hT0:0<=T:=by omega
   have hT1:T<=10:=by omega
   clear hT
   go_wp2_with fail
   refine (K1'.o).mono ?_
   rintro e w1 ⟨v,rfl,hown,hb1⟩
   clear K1 K1'
   obtain ⟨va,vn,vc,hvf⟩:∃ a n c,v=O a n c:=by
    rcases hown.2 with ⟨h,_⟩ | ⟨g,cap,cur,h,_⟩
    ·exact ⟨_,_,_,h⟩
    ·exact ⟨_,_,_,h⟩
   subst hvf
   go_wp2_with fail
   go_loopw [6,27] (fun nv i wq=>∃ (j:Int) (xs:List Value),0<=j/\j<=2/\i=zd U j/\wq.ownsRow w.heap.size 39 2 nv (if j=0 then [] else if j=1 then ls else ls++ms).length xs/\Bj w (if j=0 then [] else if j=1 then ls else ls++ms) xs/\Ov w wq) (fun _ i _=>2 - (intOf i).toNat)
   case atStart=>exact ⟨0,[],by omega,by omega,rfl,hown,rfl,hb1⟩
   case round=>
    clear hown hb1
    obtain ⟨j,xs,hj0,hj,rfl,hown,hcl,hB⟩:=hrel
    rcases (by omega:j=0\/j=1\/j=2) with rfl | rfl | rfl
    ·rw [if_pos rfl] at hown hcl
     have q:=HG.o.over hB 0 _ rfl
     have hs1:w.heap.size<=wr.heap.size:=hB.size
     cases ya with
     | none=>
      have hc0:=hyc rfl
      have hl0:ls=[]:=by
       obtain ⟨-,a0,c0,he,hcc⟩:=H1.o
       injection he with e1 e2 e3
       rcases h:ls with _ | ⟨x,r⟩
       ·rfl
       ·obtain ⟨b,off,hbo,-⟩:=hcc (by rw [h];simp)
        rw [<-e1] at hbo
        cases hbo
      have hn0:yn=0:=by rw [HYN.o,hl0];rfl
      subst hc0 hn0
      go_wp2_with (at_builtin;refine wpList_append_own_none rfl _ _ 26 rfl w.heap.size 39 i0 2 Tryz.underlying26 hi _ _ _ rfl hown rfl ?_)
      go_wp2_with fail
      refine ⟨⟨1,xs,by omega,by omega,by first | rfl | go_num,?_,?_,hB⟩,by simp [intOf]⟩
      ·rw [if_neg (by omega),if_pos rfl]
       rw [hl0]
       simpa using hown
      ·rw [if_neg (by omega),if_pos rfl]
       rw [hl0]
       simpa using hcl
     | some ad=>
      obtain ⟨ys,hys,hyc0⟩:=H1.o.src2
      have hyc2:=fun j u hu=>Ab hB _ _ (hyc0 j u hu)
      have hb0:([]:List Lab).length+yn<=10:=by simp;omega
      go_wp2_with (at_builtin;refine wpList_append_own _ rfl _ _ 26 rfl w.heap.size 39 i0 (zg #[O none 0 0,O none 0 0]) 2 48 Tryz.underlying26 hi hz0 hz1 hz2 rfl (by decide) _ _ _ rfl hown ad yn yc ys rfl (by rw [hys.length,HYN.o]) hyc2 hys.one (by unfold maxLen;omega) (by omega) hs1 ?_)
      intro v2 w3 hown2 hgr2 _
      have hbl2:=AG hown hgr2 hs1
      have HO2:=Aa hown2
      have hcl2:=(hcl.append hys)
      go_wp2_with fail
      refine ⟨⟨1,xs++ys,by omega,by omega,by first | rfl | go_num,?_,?_,hB.trans hbl2⟩,by simp [intOf]⟩
      ·rw [if_neg (by omega),if_pos rfl]
       have h3:=HO2.o
       rw [HYN.o] at h3
       simpa using h3
      ·rw [if_neg (by omega),if_pos rfl]
       simpa using hcl2
    ·rw [if_neg (by omega),if_pos rfl] at hown hcl
     have q:=HG.o.over hB 1 _ rfl
     have hs1:w.heap.size<=wr.heap.size:=hB.size
     cases oa with
     | none=>
      have hc0:=hoc rfl
      have hl0:ms=[]:=by
       obtain ⟨-,a0,c0,he,hcc⟩:=H2.o
       injection he with e1 e2 e3
       rcases h:ms with _ | ⟨x,r⟩
       ·rfl
       ·obtain ⟨b,off,hbo,-⟩:=hcc (by rw [h];simp)
        rw [<-e1] at hbo
        cases hbo
      have hn0:on=0:=by rw [HON.o,hl0];rfl
      subst hc0 hn0
      go_wp2_with (at_builtin;refine wpList_append_own_none rfl _ _ 26 rfl w.heap.size 39 i0 2 Tryz.underlying26 hi _ _ _ rfl hown rfl ?_)
      go_wp2_with fail
      refine ⟨⟨2,xs,by omega,by omega,by first | rfl | go_num,?_,?_,hB⟩,by simp [intOf]⟩
      ·rw [if_neg (by omega),if_neg (by omega)]
       rw [hl0]
       simpa using hown
      ·rw [if_neg (by omega),if_neg (by omega)]
       rw [hl0]
       simpa using hcl
     | some ad=>
      obtain ⟨ys,hys,hyc0⟩:=H2.o.src2
      have hyc2:=fun j u hu=>Ab hB _ _ (hyc0 j u hu)
      have hb0:ls.length+on<=10:=by have:=HYN.o;omega
      go_wp2_with (at_builtin;refine wpList_append_own _ rfl _ _ 26 rfl w.heap.size 39 i0 (zg #[O none 0 0,O none 0 0]) 2 48 Tryz.underlying26 hi hz0 hz1 hz2 rfl (by decide) _ _ _ rfl hown ad on oc ys rfl (by rw [hys.length,HON.o]) hyc2 hys.one (by unfold maxLen;omega) (by omega) hs1 ?_)
      intro v2 w3 hown2 hgr2 _
      have hbl2:=AG hown hgr2 hs1
      have HO2:=Aa hown2
      have hcl2:=(hcl.append hys)
      go_wp2_with fail
      refine ⟨⟨2,xs++ys,by omega,by omega,by first | rfl | go_num,?_,?_,hB.trans hbl2⟩,by simp [intOf]⟩
      ·rw [if_neg (by omega),if_neg (by omega)]
       have h3:=HO2.o
       rw [HON.o] at h3
       simpa using h3
      ·rw [if_neg (by omega),if_neg (by omega)]
       simpa using hcl2
    ·rw [if_neg (by omega),if_neg (by omega)] at hown hcl
     go_wp2_with fail
     go_ret
     exact ⟨_,xs,rfl,hown,hcl.over hB,hB⟩
theorem EN {W:World} {B e:Nat} {v:Value} {n:Nat} {xs:List Value} (h:W.ownsRow B e 2 v n xs) (hn:0 < n):∃ g cap,v=O (some ⟨g,0,none⟩) n cap/\B<=g/\g < W.heap.size/\∀ j u,xs[j]? = some u->W.cell? ((⟨g,0,none⟩:Addr).add j)=some u:=by
 rcases h.2 with ⟨_,h0⟩ | ⟨g,cap,cur,hv,hb,hg,h1,h2,h3,h4⟩
 ·omega
 ·refine ⟨g,cap,hv,hb,(Array.getElem?_eq_some_iff.1 hg).1,fun j u hu=>?_⟩
  rw [Addr.add_lit,Lib.cell_of_heap hg]
  rw [<-h4,List.getElem?_take] at hu
  split at hu
  ·simpa using hu
  ·cases hu
def C5 (m:Int) (gs:List (Int × Int)) (ls:List Lab) (vs:List (Bool × Lab)):Prop:=
 (∀ b∈ls,Co m gs b=0)/\(∀ v∈vs,Co m gs v.2=0)/\∀ v∈vs,v.1=false->v.2.r=[]/\v.2.w=[]
theorem B0 {α:Type} {P:α->Prop} {l:List α} {n:Nat} (h:n < l.length) (h1:∀ b∈l.take n,P b) (h2:P l[n]):∀ b∈l.take (n+1),P b:=fun b hb=>by
 rw [List.take_succ_eq_append_getElem h,List.mem_append,List.mem_singleton] at hb
 rcases hb with hb | rfl
 ·exact h1 b hb
 ·exact h2
theorem B3 {α:Type} {P:α->Prop} {l:List α} {n:Nat} (h:l.length<=n) (h1:∀ b∈l.take n,P b):∀ b∈l,P b:=by
 rw [List.take_of_length_le h] at h1
 exact h1
theorem DU {w:World} {a:Option Addr} {n c:Nat} {ps:List Pol} (h:Az w (O a n c) ps):n=ps.length:=by
 obtain ⟨ao,cap,he,-⟩:=h
 injection he
structure Bf (K kf:Nat) (m:Int) (ga:Option Addr) (gn gc:Nat) (sa:Option Addr) (sn sc:Nat) (ya:Option Addr) (yn yc:Nat) (oa:Option Addr) (on oc:Nat) (va:Option Addr) (vn vc:Nat) (fa:Option Addr) (fn fc:Nat) (ba:Option Addr) (bn bc:Nat) (gs:List (Int × Int)) (sp:List Int) (ls ms:List Lab) (vs:List (Bool × Lab)) (fs:List FnD) (l:List D) (w:World):Prop where
 m64:Bn m
 grants:Bk w (O ga gn gc) gs
 speak:Aq w (O sa sn sc) sp
 speakL:sp.length<=9223372036854775807
 ins:BC w (O ya yn yc) ls
 outs:BC w (O oa on oc) ms
 vars:C7 w (O va vn vc) vs
 funcs:AL w K kf (O fa fn fc) fs
 main:AD w K kf (O ba bn bc) l
 insN:ya=none->yc=0
 outsN:oa=none->oc=0
theorem Bf.over {K kf:Nat} {m:Int} {ga:Option Addr} {gn gc:Nat} {sa:Option Addr} {sn sc:Nat} {ya:Option Addr} {yn yc:Nat} {oa:Option Addr} {on oc:Nat} {va:Option Addr} {vn vc:Nat} {fa:Option Addr} {fn fc:Nat} {ba:Option Addr} {bn bc:Nat} {gs:List (Int × Int)} {sp:List Int} {ls ms:List Lab} {vs:List (Bool × Lab)} {fs:List FnD} {l:List D} {w w':World} (h:Bf K kf m ga gn gc sa sn sc ya yn yc oa on oc va vn vc fa fn fc ba bn bc gs sp ls ms vs fs l w) (hb:Ov w w'):Bf K kf m ga gn gc sa sn sc ya yn yc oa on oc va vn vc fa fn fc ba bn bc gs sp ls ms vs fs l w':=
 ⟨h.m64,Bq h.grants hb,h.speak.over hb,h.speakL,h.ins.over hb,h.outs.over hb,h.vars.over hb,h.funcs.over hb,h.main.over hb,h.insN,h.outsN⟩
structure okP (K kf:Nat) (m:Int) (vn yn on:Nat) (gs:List (Int × Int)) (sp:List Int) (ls ms:List Lab) (vs:List (Bool × Lab)) (fs:List FnD) (l:List D):Prop where
 chk:AX m gs=0
 speak:∀ x∈sp,0<=x/\x < m
 labs:C5 m gs (ls++ms) vs
 outs:on<=5
 vars:vn<=16
 ins:yn<=5
 funcs:fs.length<=5
 many:An kf fs+Aj kf l<=50
 body:∀ i (h:i < fs.length),okF K vn yn on (i:Int) fs kf fs[i]
 main:∀ s∈l,okS K vn yn on (fs.length:Int) fs kf s
theorem LK (v:Value) (w:World):(Instr.typeAssert (.iface 230 v) 20 230 false).run Tryz.prog w=.ok v w:=by
 simp [Instr.typeAssert,run_underlying Tryz.underlying230,go_sem,Result.andThen]
theorem E9 (B:Nat) (x y a e:Int) (older:List PanicEntry) (w:World) (hB:B+2<=w.heap.size)
  (c0:w.cell? ⟨B,0,none⟩=some (zd U x)) (c1:w.cell? ⟨B+1,0,none⟩=some (zd U y))
  (f0:w.frozen? ⟨B,0,none⟩=false) (f1:w.frozen? ⟨B+1,0,none⟩=false) :
  CallsD Tryz.prog 170 #[zi (some ⟨B,0,none⟩),zi (some ⟨B+1,0,none⟩)] (.panicking ({ v:=.iface 230 (zg #[zd U a,zd U e]),recovered:=false }::older)) w fun en u' w'=>
   en=zh (zj #[])/\u'=.panicking ({ v:=.iface 230 (zg #[zd U a,zd U e]),recovered:=true }::older) /\
   w'.cell? ⟨B,0,none⟩=some (zd U a)/\w'.cell? ⟨B+1,0,none⟩=some (zd U e)/\Below B w w':=by
 have hta:=LK
 refine callsD_of_wpS Tryz.func170 rfl fun c₀ cs hu=>?_
 apply wpS_seq
 apply wpS_region
 simp [wpOpsS,go_sem,recoverD,hu,Tryz.ntmps170,Exit.thenS]
 refine wpS_of_wp ?_
 change Code.wp Tryz.prog _ _ { tmps:=#[zi (some ⟨B,0,none⟩),zi (some ⟨B+1,0,none⟩),.iface 230 (zg #[zd U a,zd U e]),undef,.iface 230 (zg #[zd U a,zd U e]),undef,undef,undef,undef,undef,undef,undef,undef],defers:=[] } w
 go_wp2
 have k1:B < w.heap.size:=by omega
 have k2:B+1 < w.heap.size:=by omega
 go_region
 go_wp2
 refine ⟨rfl,_,by cases c₀;simp_all,zj #[],by simp [results,Tryz.results170],rfl,rfl,?_⟩
 refine ⟨by simp [go_sem,k1,c0],by simp [go_sem,k2,c1],?_⟩
 exact (((((Below.refl B w).setCell (by simp) _).setCell (by simp) _)).alloc (by simp [World.setCell];omega) _).drew
end Go.Proofs.YtfffpjkcfnekaaaGreat.Ex
