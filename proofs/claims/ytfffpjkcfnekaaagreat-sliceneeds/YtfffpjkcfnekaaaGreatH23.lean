/- What is copied: rows of one's own whose parts hang on fresh blocks alone. -/
import Derived.Maps.AppendAt
import Derived.Test.YtfffpjkcfnekaaaGreatH22
import Derived.Laws.OwnMore
import Derived.Lib.SliceRun
import Derived.Laws.AppendOwnNone
set_option linter.unusedVariables false
set_option maxHeartbeats 8000000
set_option maxRecDepth 100000
namespace Go.Proofs.YtfffpjkcfnekaaaGreat.Ex
open Go.RowKit
open Go.Value renaming slice -> O, int -> zd, bool -> ze, agg -> zg, pointer -> zi, tuple -> zj
open Go.IntKind renaming i64 -> U
open Go.Obj renaming cells -> zf
open Go.Ending renaming returned -> zh
def Off (B:Nat) (g:Option Nat) (w:World) (P:World->Prop):Prop:=∀ W:World,(∀ k,B<=k->k < w.heap.size->some k≠g->W.heap[k]? = w.heap[k]?)->P W
section
variable {B B':Nat} {g:Option Nat} {w w':World} {P P':World->Prop} {v v':Value}
theorem Off.self (h:Off B g w P):P w:=h w fun _ _ _ _=>rfl
theorem Off.imp (h:Off B g w P) (f:∀ W,P W->P' W):Off B g w P':=fun W hW=>f W (h W hW)
theorem Off.over (h:Off B g w P) (hb:Ov w w'):Off B g w' P:=fun W hW=>h W fun k h1 h2 h3=>(hW k h1 (Nat.lt_of_lt_of_le h2 hb.size) h3).trans (hb.block k h2)
theorem Off.base (h:Off B g w P) (hb:B'<=B):Off B' g w P:=fun W hW=>h W fun k h1 h2 h3=>hW k (Nat.le_trans hb h1) h2 h3
theorem Off.row (h:Off B v.ownBlock w P) (hg:w.grownBy w' v.ownBlock) (hv:v'.ownBlock=v.ownBlock\/v'.ownBlock=some w.heap.size):Off B v'.ownBlock w' P:=fun W hW=>h W fun k h1 h2 h3=>
 (hW k h1 (Nat.lt_of_lt_of_le h2 hg.size) (by
  rcases hv with e | e
  ·rw [e];exact h3
  ·rw [e];intro q;injection q with q;omega)).trans (hg.block k h2 h3)
theorem Off.weak (h:Off B none w P) (hb:B'<=B) (hg:∀ k,g=some k->k < B):Off B' g w P:=fun W hW=>h W fun k h1 h2 _=>hW k (Nat.le_trans hb h1) h2 (fun e=>by have:=hg k e.symm;omega)
theorem Off.set {b j:Nat} {u:Value} (h:Off B g w P) (hb:b < B):Off B g (w.setCell ⟨b,j,none⟩ u) P:=fun W hW=>h W fun k h1 h2 h3=>
 (hW k h1 (by simpa [World.setCell] using h2) h3).trans ((Bw (w:=w) (r:=b) (j:=j) (u:=u)).block k h2 (fun e=>by injection e with e;omega))
end
def Cop (B T s:Nat) (P:Nat->List Value->World->Prop) (n:Nat) (v:Value) (w:World):Prop:=
 ∃ xs,w.ownsRow B T s v n xs/\∀ i,i < n->∃ cs:List Value,cs.length=s/\(∀ j u,cs[j]? = some u->xs[i*s+j]? = some u)/\Off B v.ownBlock w (P i cs)
section
variable {B T s n:Nat} {P:Nat->List Value->World->Prop} {v v':Value} {w w' w2:World}
theorem Cop.nil:Cop B T s P 0 (O none 0 0) w:=⟨[],World.ownsRow_nil w B T s,fun i hi=>absurd hi (Nat.not_lt_zero _)⟩
theorem Cop.over (h:Cop B T s P n v w) (hb:Ov w w'):Cop B T s P n v w':=by
 obtain ⟨xs,ho,he⟩:=h
 refine ⟨xs,Ca ho hb,fun i hi=>?_⟩
 obtain ⟨cs,h1,h2,h3⟩:=he i hi
 exact ⟨cs,h1,h2,h3.over hb⟩
theorem Cop.add {xs cs:List Value} {B1:Nat} (ho:w.ownsRow B T s v n xs) (he:∀ i,i < n->∃ cs:List Value,cs.length=s/\(∀ j u,cs[j]? = some u->xs[i*s+j]? = some u)/\Off B v.ownBlock w (P i cs))
  (hl:cs.length=s) (hn:Off B1 none w (P n cs)) (hB:B<=B1) (hrow:∀ k,v.ownBlock=some k->k < B1) (ho':w2.ownsRow B T s v' (n+1) (xs++cs)) (hg:w.grownBy w2 v.ownBlock) (hat:v'.ownBlock=v.ownBlock\/v'.ownBlock=some w.heap.size):Cop B T s P (n+1) v' w2:=by
 refine ⟨xs++cs,ho',fun i hi=>?_⟩
 by_cases h:i < n
 ·obtain ⟨ds,h1,h2,h3⟩:=he i h
  refine ⟨ds,h1,fun j u hu=>?_,h3.row hg hat⟩
  have:=h2 j u hu
  rw [List.getElem?_append_left (List.getElem?_eq_some_iff.1 this).1]
  exact this
 ·obtain rfl:i=n:=by omega
  refine ⟨cs,hl,fun j u hu=>?_,(hn.weak hB hrow).row hg hat⟩
  rw [List.getElem?_append_right (by rw [ho.1];omega),ho.1,Nat.add_sub_cancel_left]
  exact hu
theorem Cop.cells (h:Cop B T s P n v w) (hs:0 < s):∃ (a:Option Addr) (c:Nat),v=O a n c/\Off B none w (fun W=>(n≠0->∃ b,a=some ⟨b,0,none⟩/\∀ i,i < n->∃ cs:List Value,cs.length=s/\(∀ j u,cs[j]? = some u->W.cell? ⟨b,i*s+j,none⟩=some u)/\P i cs W)):=by
 obtain ⟨xs,ho,he⟩:=h
 rcases ho.2 with ⟨hv,h0⟩ | ⟨g,cap,cur,hv,hb,hg,h1,h2,h3,h4⟩
 ·exact ⟨none,0,by rw [hv,h0],fun W _ hne=>absurd h0 hne⟩
 ·refine ⟨some ⟨g,0,none⟩,cap,hv,fun W hW hne=>⟨g,rfl,fun i hi=>?_⟩⟩
  obtain ⟨cs,q1,q2,q3⟩:=he i hi
  refine ⟨cs,q1,fun j u hu=>?_,q3 W fun k k1 k2 _=>hW k k1 k2 (by simp)⟩
  have hlt:g < w.heap.size:=(Array.getElem?_eq_some_iff.1 hg).1
  have hx:=q2 j u hu
  have hblk:W.heap[g]? = w.heap[g]?:=hW g hb hlt (by simp)
  rw [World.cell?_of_block (a:=⟨g,i*s+j,none⟩) hblk,Lib.cell_of_heap hg]
  have hlx:i*s+j < n*s:=by rw [<-ho.1];exact (List.getElem?_eq_some_iff.1 hx).1
  rw [<-h4,List.getElem?_take,if_pos hlx] at hx
  simpa using hx
end
theorem GA {k:Nat}:∀ {ds:List D},(∀ d∈ds,0 < (AB k d).length)->ds.length<=(ds.flatMap (AB k)).length
 | [],_=>Nat.le_refl _
 | d::ds,h=>by
  have h1:=h d (List.mem_cons_self ..)
  have h2:=GA (fun x hx=>h x (List.mem_cons_of_mem _ hx))
  simp only [List.flatMap_cons,List.length_append,List.length_cons]
  omega
theorem L4 (F:FuncId) (cap:List Value) (P:Nat->List Value->World->Prop) (ao:Option Addr) (n c:Nat) (w:World) (hn:n<=100) (hC:∀ (args:Array Value) (w:World),(callFunc F args).run Tryz.prog w=.ok (.enter F args) w)
  (hv:n≠0->∃ b off,ao=some ⟨b,off,none⟩/\∀ i,i < n->∃ (k1 k2:Int) (xa:Option Addr) (xl xc:Nat),(w.cell? ⟨b,off+i*3,none⟩=some (zd U k1)/\w.cell? ⟨b,off+i*3+1,none⟩=some (zd U k2)/\w.cell? ⟨b,off+i*3+2,none⟩=some (O xa xl xc))/\∀ W,Ov w W->Calls Tryz.prog F (zg #[zd U k1,zd U k2,O xa xl xc]::cap).toArray W fun e W'=>∃ (j1 j2:Int) (za:Option Addr) (zl zc:Nat),e=zh (zg #[zd U j1,zd U j2,O za zl zc])/\Off W.heap.size none W' (P i [zd U j1,zd U j2,O za zl zc])/\Ov W W') :
  Calls Tryz.prog 201 #[O ao n c,.func (.func F) #[] cap.toArray] w fun e w'=>∃ a c',e=zh (O a n c')/\Cop w.heap.size 94 3 P n (O a n c') w'/\Ov w w':=by
 obtain ⟨i0,hi,hz0,hz1,hz2⟩:=info_parts Tryz.infoX
 have HV:=Aa hv
 clear hv
 go_enter Tryz.func201,Tryz.ntmps201
 go_wp2_with fail
 go_loopw [5,10] (fun u i wr=>∃ j:Nat,j<=n/\i=zd U j/\Cop w.heap.size 94 3 P j u wr/\Ov w wr) (fun _ i _=>n - (intOf i).toNat)
 case atStart=>exact ⟨0,Nat.zero_le _,rfl,Cop.nil,Below.refl _ _⟩
 case round=>
  obtain ⟨j,hj,rfl,hI,hB⟩:=hrel
  by_cases hlt:j < n
  ·obtain ⟨b,off,rfl,hel⟩:=HV.o (by omega)
   obtain ⟨k1,k2,xa,xl,xc,⟨c0,c1,c2⟩,hF⟩:=hel j hlt
   obtain ⟨c0,c1,c2⟩:=co3 hB c0 c1 c2
   obtain ⟨oa,oc,rfl,-⟩:=hI.cells (by decide)
   have hb1:Ov wr (wr.alloc (zf #[zd U k1,zd U k2,O xa xl xc] 94)):=bA _ _
   obtain ⟨V,hV⟩:=nm (wr.alloc (zf #[zd U k1,zd U k2,O xa xl xc] 94))
   have hrV:Ad [zd U k1,zd U k2,O xa xl xc] V wr.heap.size:=by rw [hV];exact Ay wr [zd U k1,zd U k2,O xa xl xc] 94
   have hsV:V.heap.size=wr.heap.size+1:=by rw [hV];simp
   rw [<-hV] at hb1
   have hwV:Ov w V:=hB.trans (hb1.mono hB.size)
   have KF:=Aa (hF V hwV)
   obtain ⟨d0,d1,d2⟩:=rc3 hrV
   have HI:=Aa (hI.over hb1)
   have HRL:Hx (∀ g,(Value.slice oa j oc).ownBlock=some g->g < wr.heap.size):=fun g hg=>by
    obtain ⟨xs,ho,-⟩:=hI
    exact (DI ho hg).2
   have HWV:=Aa hwV
   have HSV:=Aa hsV
   have HSZ:=Aa hB.size
   have hlt1:(j:Int) < (n:Int):=by omega
   clear hI hB hb1 hrV hwV hsV hF hel HV
   go_wp2_with fail
   rw [<-hV]
   clear hV c0 c1 c2
   refine KF.o.mono ?_
   rintro e W1 ⟨j1,j2,za,zl,zc,rfl,hO,hb2⟩
   have hI1:=HI.o.over hb2
   have hb3:Ov W1 (W1.alloc (zf #[zd U j1,zd U j2,O za zl zc] 94)):=bA _ _
   obtain ⟨xs,hown,hpar⟩:=hI1.over hb3
   have hN:=Ay W1 [zd U j1,zd U j2,O za zl zc] 94
   have hBW:w.heap.size<=(W1.alloc (zf #[zd U j1,zd U j2,O za zl zc] 94)).heap.size:=Nat.le_trans (Nat.le_trans HWV.o.size hb2.size) hb3.size
   have HN:=Aa hN
   have HO:=Aa (hO.over hb3)
   have HPAR:=Aa hpar
   have HB23:Hx (Ov w (W1.alloc (zf #[zd U j1,zd U j2,O za zl zc] 94))):=HWV.o.trans ((hb2.trans (hb3.mono hb2.size)).mono HWV.o.size)
   clear hI1 hO hb2 hb3 hN hpar d0 d1 d2
   go_wp2_with (at_builtin;refine wpList_append_own_at _ rfl _ _ 92 rfl w.heap.size 94 i0 (zg #[zd U 0,zd U 0,O none 0 0]) 3 40 Tryz.underlying92 hi hz0 hz1 hz2 rfl (by decide) _ _ _ rfl hown ⟨W1.heap.size,0,none⟩ 1 1 [zd U j1,zd U j2,O za zl zc] rfl rfl (fun jj u hu=>by rw [Addr.add_lit,Nat.zero_add];exact HN.o jj u hu) (by simp [Value.oneCell']) (by unfold maxLen;omega) (by omega) hBW ?_)
   intro v2 w2 hown2 hgr2 _ hat
   have hcop:=Cop.add hown HPAR.o rfl HO.o HWV.o.size (fun g hg=>by have:=HRL.o g hg;have:=HSV.o;omega) hown2 hgr2 (by simpa using hat)
   obtain ⟨va2,vn2,vc2,rfl⟩:=AK hown2
   have hov:Ov w w2:=HB23.o.trans (AG hown hgr2 hBW)
   have HFIN:=Aa (And.intro hcop hov)
   clear hcop hov hown hown2 hgr2 hat hBW
   go_wp2_with fail
   exact ⟨⟨j+1,by omega,by go_num,HFIN.o.1,HFIN.o.2⟩,by simp [intOf];omega⟩
  ·have hje:j=n:=by omega
   subst hje
   obtain ⟨oa,oc,rfl,-⟩:=hI.cells (by decide)
   have HFIN:=Aa (And.intro hI hB)
   clear hI hB HV hlt
   go_wp2_with fail
   go_ret
   exact ⟨_,_,rfl,HFIN.o.1,HFIN.o.2⟩
theorem Tryz.infoIc:(Tryz.prog.info? 3).map (fun i=>(i.zero,i.size,i.bytes))=some (some (zd U 0),1,8):=by kernel_rfl
theorem Et {P:Program} {w:World} (base:Nat) (t ty e:TypeId) (i:TypeInfo) (size:Nat) (ht:P.underlying t=some (.slice e)) (hi:P.info? e=some i)
  (v:Value) (n:Nat) (xs:List Value) (hown:w.ownsRow base e size v n xs) (a:Option Addr) (c:Nat) :
  (Builtin.append_ #[t,t] ty #[v,O a 0 c]).run P w=.ok v w:=by
 rcases hown.2 with ⟨rfl,rfl⟩ | ⟨g,cap,cur,rfl,_,_,hnc,_⟩ <;> cases a <;> simp [Builtin.append_,run_underlying ht,sizeOf,typeInfo,Builtin.lenOf,Builtin.firstCells,storeCells,loadCells,loadCellsFrom, *]
theorem Gq {W:World} {B:Nat} {v:Value} {l:List Int} (h:W.ownsRow B 3 1 v l.length (Ba l)):Off B none W (fun W'=>Aq W' v l):=by
 rcases h.2 with ⟨hv,h0⟩ | ⟨g,cap,cur,hv,hb,hg,h1,h2,h3,h4⟩
 ·exact fun W' _=>⟨none,0,by rw [hv,h0],fun hne=>absurd (List.length_eq_zero_iff.1 h0) hne⟩
 ·refine fun W' hW=>⟨some ⟨g,0,none⟩,cap,hv,fun _=>⟨g,0,rfl,fun i hi=>?_⟩⟩
  have hlt:g < W.heap.size:=(Array.getElem?_eq_some_iff.1 hg).1
  have hblk:W'.heap[g]? = W.heap[g]?:=hW g hb hlt (by simp)
  rw [World.cell?_of_block (a:=⟨g,0+i,none⟩) hblk,Lib.cell_of_heap hg]
  have hx:(Ba l)[i]? = some (zd U l[i]):=by unfold Ba;rw [List.getElem?_map,List.getElem?_eq_getElem hi];rfl
  rw [<-h4,List.getElem?_take,if_pos (by omega)] at hx
  simpa using hx
theorem F4 (v:Value) (l:List Int) (w:World) (h:Aq w v l) (hl:l.length<=1000) :
  Calls Tryz.prog 129 #[v] w fun e w'=>∃ a c,e=zh (O a l.length c)/\Off w.heap.size none w' (fun W=>Aq W (O a l.length c) l)/\Ov w w'/\l.length<=c/\c<=maxLen:=by
 obtain ⟨ao,cap,rfl,hel⟩:=h
 obtain ⟨i0,hi,hz0,hz1,hz2⟩:=info_parts Tryz.infoIc
 have q25:∀ (w:World) (a:Option Addr) (n c n' c':Nat),(binOp .eql 25 (O a n c) (O none n' c')).run Tryz.prog w=.ok (ze a.isNone) w:=fun w a n c n' c'=>Lib.run_eql_slice_nil w _ _ a n c n' c' Tryz.underlying25
 cases ao with
 | none=>
  obtain rfl:l=[]:=by
   cases l with
   | nil=>rfl
   | cons x l=>obtain ⟨b,off,he,-⟩:=hel (by simp);cases he
  clear hel hi hz0 hz1 hz2
  show Calls Tryz.prog 129 #[O none 0 cap] w fun e w'=>∃ a c,e=zh (O a 0 c)/\Off w.heap.size none w' (fun W=>Aq W (O a 0 c) [])/\Ov w w'/\0<=c/\c<=maxLen
  go_enter Tryz.func129,Tryz.ntmps129
  go_wp2_with fail
  go_ret
  exact ⟨none,0,rfl,fun W _=>⟨none,0,rfl,fun h=>absurd rfl h⟩,Below.refl _ _,Nat.le_refl _,by unfold maxLen;omega⟩
 | some a0=>
  have hb0:Ov w (w.alloc (zf #[] 3)):=bA w _
  have hown:(w.alloc (zf #[] 3)).ownsRow w.heap.size 3 1 (O (some ⟨w.heap.size,0,none⟩) 0 0) 0 []:=World.ownsRow_made w #[] 0 (Nat.le_refl _) (by unfold maxLen;omega) (by simp)
  have HB0:=Aa hb0
  have hb0s:=hb0.size
  cases l with
  | nil=>
   clear hel hz0 hz1 hz2
   show Calls Tryz.prog 129 #[O (some a0) 0 cap] w fun e w'=>∃ a c,e=zh (O a 0 c)/\Off w.heap.size none w' (fun W=>Aq W (O a 0 c) [])/\Ov w w'/\0<=c/\c<=maxLen
   go_enter Tryz.func129,Tryz.ntmps129
   go_wp2_with (at_builtin;refine wpList_append_own_none rfl _ _ 25 rfl w.heap.size 3 i0 1 Tryz.underlying25 hi _ _ _ rfl hown rfl ?_)
   go_wp2_with fail
   go_ret
   exact ⟨_,_,rfl,fun W _=>⟨_,_,rfl,fun h=>absurd rfl h⟩,HB0.o,Nat.le_refl _,by unfold maxLen;omega⟩
  | cons x l=>
   obtain ⟨b,off,he,hel2⟩:=hel (by simp)
   injection he with he
   subst he
   have hnews:∀ jj u,(Ba (x::l))[jj]? = some u->(w.alloc (zf #[] 3)).cell? ((⟨b,off,none⟩:Addr).add jj)=some u:=fun jj u hu=>by
    have hj:jj < (x::l).length:=by have:=(List.getElem?_eq_some_iff.1 hu).1;simpa [Ba] using this
    rw [Addr.add_lit]
    unfold Ba at hu
    rw [List.getElem?_map,List.getElem?_eq_getElem hj] at hu
    simp only [Option.map_some,Option.some.injEq] at hu
    subst hu
    exact Ab hb0 _ _ (hel2 jj hj)
   have hone:∀ u∈Ba (x::l),u.oneCell'=true:=by intro u hu;unfold Ba at hu;obtain ⟨y,-,rfl⟩:=List.mem_map.1 hu;rfl
   obtain ⟨L,hL⟩:=nm (x::l)
   rw [<-hL] at hl hnews hone ⊢
   obtain ⟨ll,hll⟩:=nm L.length
   have hml:(Ba L).length=ll*1:=by simp [hll,Ba]
   have HLL:=Aa hll
   have HLP:Hx (1<=ll):=by rw [hll,hL];simp [Hx]
   rw [<-hll] at hl ⊢
   have hl1:=HLP.o
   clear hel hel2 hb0 hL hll
   go_enter Tryz.func129,Tryz.ntmps129
   go_wp2_with (at_builtin;refine wpList_append_own _ rfl _ _ 25 rfl w.heap.size 3 i0 (zd U 0) 1 8 Tryz.underlying25 hi hz0 hz1 hz2 rfl (by decide) _ _ _ rfl hown ⟨b,off,none⟩ ll cap (Ba L) rfl hml hnews hone (by unfold maxLen;omega) (by omega) hb0s ?_)
   intro v2 w2 hown2 hgr2 _
   have hB2:Ov w w2:=HB0.o.trans (CF hgr2 (fun g e=>by simp [Value.ownBlock] at e;omega) HB0.o.size)
   rw [HLL.o] at hown2
   have HOFF:=Aa (Gq hown2)
   obtain ⟨va2,vc2,rfl,hcap⟩:∃ a c,v2=O a L.length c/\L.length<=c/\c<=maxLen:=by
    rcases hown2.2 with ⟨h,h0⟩ | ⟨g,cap,cur,h,_,_,h3,h4,_⟩
    ·exact ⟨none,0,by rw [h,h0],by rw [h0];exact Nat.le_refl _,by unfold maxLen;omega⟩
    ·exact ⟨_,_,h,h3,h4⟩
   have HCAP:=Aa hcap
   have HB2:=Aa hB2
   clear hcap hown hown2 hgr2 hB2 hi hz0 hz1 hz2 hnews hone hml
   go_wp2_with fail
   go_ret
   exact ⟨va2,vc2,by rw [HLL.o];rfl,by rw [HLL.o];exact HOFF.o,HB2.o,by rw [HLL.o];exact HCAP.o.1,HCAP.o.2⟩
theorem MB (v:Value) (l:List Int) (w:World) (h:Aq w v l) (hl:l.length<=100) :
  Calls Tryz.prog 129 #[v] w fun e w'=>∃ a c,e=zh (O a l.length c)/\Off w.heap.size none w' (fun W=>Aq W (O a l.length c) l)/\Ov w w':=
 (F4 v l w h (by omega)).mono fun e w' ⟨a,c,h1,h2,h3,_⟩=>⟨a,c,h1,h2,h3⟩
theorem Tryz.infoPoN:(Tryz.prog.info? 87).map (fun i=>(i.zero,i.size,i.bytes))=some (some (zg #[zd U 0,O none 0 0]),2,32):=by kernel_rfl
theorem Tryz.infoLaN:(Tryz.prog.info? 39).map (fun i=>(i.zero,i.size,i.bytes))=some (some (zg #[O none 0 0,O none 0 0]),2,48):=by kernel_rfl
theorem Tryz.infoVaN:(Tryz.prog.info? 41).map (fun i=>(i.zero,i.size,i.bytes))=some (some (zg #[ze false,O none 0 0,O none 0 0]),3,56):=by kernel_rfl
theorem M7 (F:FuncId) (cap:List Value) (P:Nat->List Value->World->Prop) (ao:Option Addr) (n c:Nat) (w:World) (hn:n<=100) (hC:∀ (args:Array Value) (w:World),(callFunc F args).run Tryz.prog w=.ok (.enter F args) w)
  (hv:n≠0->∃ b off,ao=some ⟨b,off,none⟩/\∀ i,i < n->∃ (k1:Int) (xa:Option Addr) (xl xc:Nat),(w.cell? ⟨b,off+i*2,none⟩=some (zd U k1)/\w.cell? ⟨b,off+i*2+1,none⟩=some (O xa xl xc))/\∀ W,Ov w W->Calls Tryz.prog F (zg #[zd U k1,O xa xl xc]::cap).toArray W fun e W'=>∃ (j1:Int) (za:Option Addr) (zl zc:Nat),e=zh (zg #[zd U j1,O za zl zc])/\Off W.heap.size none W' (P i [zd U j1,O za zl zc])/\Ov W W') :
  Calls Tryz.prog 199 #[O ao n c,.func (.func F) #[] cap.toArray] w fun e w'=>∃ a c',e=zh (O a n c')/\Cop w.heap.size 87 2 P n (O a n c') w'/\Ov w w':=by
 obtain ⟨i0,hi,hz0,hz1,hz2⟩:=info_parts Tryz.infoPoN
 have HV:=Aa hv
 clear hv
 go_enter Tryz.func199,Tryz.ntmps199
 go_wp2_with fail
 go_loopw [5,10] (fun u i wr=>∃ j:Nat,j<=n/\i=zd U j/\Cop w.heap.size 87 2 P j u wr/\Ov w wr) (fun _ i _=>n - (intOf i).toNat)
 case atStart=>exact ⟨0,Nat.zero_le _,rfl,Cop.nil,Below.refl _ _⟩
 case round=>
  obtain ⟨j,hj,rfl,hI,hB⟩:=hrel
  by_cases hlt:j < n
  ·obtain ⟨b,off,rfl,hel⟩:=HV.o (by omega)
   obtain ⟨k1,xa,xl,xc,⟨c0,c1⟩,hF⟩:=hel j hlt
   obtain ⟨c0,c1⟩:=co2 hB c0 c1
   obtain ⟨oa,oc,rfl,-⟩:=hI.cells (by decide)
   have hb1:Ov wr (wr.alloc (zf #[zd U k1,O xa xl xc] 87)):=bA _ _
   obtain ⟨V,hV⟩:=nm (wr.alloc (zf #[zd U k1,O xa xl xc] 87))
   have hrV:Ad [zd U k1,O xa xl xc] V wr.heap.size:=by rw [hV];exact Ay wr [zd U k1,O xa xl xc] 87
   have hsV:V.heap.size=wr.heap.size+1:=by rw [hV];simp
   rw [<-hV] at hb1
   have hwV:Ov w V:=hB.trans (hb1.mono hB.size)
   have KF:=Aa (hF V hwV)
   obtain ⟨d0,d1⟩:=rc2 hrV
   have HI:=Aa (hI.over hb1)
   have HRL:Hx (∀ g,(Value.slice oa j oc).ownBlock=some g->g < wr.heap.size):=fun g hg=>by
    obtain ⟨xs,ho,-⟩:=hI
    exact (DI ho hg).2
   have HWV:=Aa hwV
   have HSV:=Aa hsV
   have HSZ:=Aa hB.size
   have hlt1:(j:Int) < (n:Int):=by omega
   clear hI hB hb1 hrV hwV hsV hF hel HV
   go_wp2_with fail
   rw [<-hV]
   clear hV c0 c1
   refine KF.o.mono ?_
   rintro e W1 ⟨j1,za,zl,zc,rfl,hO,hb2⟩
   have hI1:=HI.o.over hb2
   have hb3:Ov W1 (W1.alloc (zf #[zd U j1,O za zl zc] 87)):=bA _ _
   obtain ⟨xs,hown,hpar⟩:=hI1.over hb3
   have hN:=Ay W1 [zd U j1,O za zl zc] 87
   have hBW:w.heap.size<=(W1.alloc (zf #[zd U j1,O za zl zc] 87)).heap.size:=Nat.le_trans (Nat.le_trans HWV.o.size hb2.size) hb3.size
   have HN:=Aa hN
   have HO:=Aa (hO.over hb3)
   have HPAR:=Aa hpar
   have HB23:Hx (Ov w (W1.alloc (zf #[zd U j1,O za zl zc] 87))):=HWV.o.trans ((hb2.trans (hb3.mono hb2.size)).mono HWV.o.size)
   clear hI1 hO hb2 hb3 hN hpar d0 d1
   go_wp2_with (at_builtin;refine wpList_append_own_at _ rfl _ _ 37 rfl w.heap.size 87 i0 (zg #[zd U 0,O none 0 0]) 2 32 Tryz.underlying37 hi hz0 hz1 hz2 rfl (by decide) _ _ _ rfl hown ⟨W1.heap.size,0,none⟩ 1 1 [zd U j1,O za zl zc] rfl rfl (fun jj u hu=>by rw [Addr.add_lit,Nat.zero_add];exact HN.o jj u hu) (by simp [Value.oneCell']) (by unfold maxLen;omega) (by omega) hBW ?_)
   intro v2 w2 hown2 hgr2 _ hat
   have hcop:=Cop.add hown HPAR.o rfl HO.o HWV.o.size (fun g hg=>by have:=HRL.o g hg;have:=HSV.o;omega) hown2 hgr2 (by simpa using hat)
   obtain ⟨va2,vn2,vc2,rfl⟩:=AK hown2
   have hov:Ov w w2:=HB23.o.trans (AG hown hgr2 hBW)
   have HFIN:=Aa (And.intro hcop hov)
   clear hcop hov hown hown2 hgr2 hat hBW
   go_wp2_with fail
   exact ⟨⟨j+1,by omega,by go_num,HFIN.o.1,HFIN.o.2⟩,by simp [intOf];omega⟩
  ·have hje:j=n:=by omega
   subst hje
   obtain ⟨oa,oc,rfl,-⟩:=hI.cells (by decide)
   have HFIN:=Aa (And.intro hI hB)
   clear hI hB HV hlt
   go_wp2_with fail
   go_ret
   exact ⟨_,_,rfl,HFIN.o.1,HFIN.o.2⟩
theorem M8 (F:FuncId) (cap:List Value) (P:Nat->List Value->World->Prop) (ao:Option Addr) (n c:Nat) (w:World) (hn:n<=100) (hC:∀ (args:Array Value) (w:World),(callFunc F args).run Tryz.prog w=.ok (.enter F args) w)
  (hv:n≠0->∃ b off,ao=some ⟨b,off,none⟩/\∀ i,i < n->∃ (xa:Option Addr) (xl xc:Nat) (ya:Option Addr) (yl yc:Nat),(w.cell? ⟨b,off+i*2,none⟩=some (O xa xl xc)/\w.cell? ⟨b,off+i*2+1,none⟩=some (O ya yl yc))/\∀ W,Ov w W->Calls Tryz.prog F (zg #[O xa xl xc,O ya yl yc]::cap).toArray W fun e W'=>∃ (za:Option Addr) (zl zc:Nat) (ua:Option Addr) (ul uc:Nat),e=zh (zg #[O za zl zc,O ua ul uc])/\Off W.heap.size none W' (P i [O za zl zc,O ua ul uc])/\Ov W W') :
  Calls Tryz.prog 140 #[O ao n c,.func (.func F) #[] cap.toArray] w fun e w'=>∃ a c',e=zh (O a n c')/\Cop w.heap.size 39 2 P n (O a n c') w'/\Ov w w':=by
 obtain ⟨i0,hi,hz0,hz1,hz2⟩:=info_parts Tryz.infoLaN
 have HV:=Aa hv
 clear hv
 go_enter Tryz.func140,Tryz.ntmps140
 go_wp2_with fail
 go_loopw [5,10] (fun u i wr=>∃ j:Nat,j<=n/\i=zd U j/\Cop w.heap.size 39 2 P j u wr/\Ov w wr) (fun _ i _=>n - (intOf i).toNat)
 case atStart=>exact ⟨0,Nat.zero_le _,rfl,Cop.nil,Below.refl _ _⟩
 case round=>
  obtain ⟨j,hj,rfl,hI,hB⟩:=hrel
  by_cases hlt:j < n
  ·obtain ⟨b,off,rfl,hel⟩:=HV.o (by omega)
   obtain ⟨xa,xl,xc,ya,yl,yc,⟨c0,c1⟩,hF⟩:=hel j hlt
   obtain ⟨c0,c1⟩:=co2 hB c0 c1
   obtain ⟨oa,oc,rfl,-⟩:=hI.cells (by decide)
   have hb1:Ov wr (wr.alloc (zf #[O xa xl xc,O ya yl yc] 39)):=bA _ _
   obtain ⟨V,hV⟩:=nm (wr.alloc (zf #[O xa xl xc,O ya yl yc] 39))
   have hrV:Ad [O xa xl xc,O ya yl yc] V wr.heap.size:=by rw [hV];exact Ay wr [O xa xl xc,O ya yl yc] 39
   have hsV:V.heap.size=wr.heap.size+1:=by rw [hV];simp
   rw [<-hV] at hb1
   have hwV:Ov w V:=hB.trans (hb1.mono hB.size)
   have KF:=Aa (hF V hwV)
   obtain ⟨d0,d1⟩:=rc2 hrV
   have HI:=Aa (hI.over hb1)
   have HRL:Hx (∀ g,(Value.slice oa j oc).ownBlock=some g->g < wr.heap.size):=fun g hg=>by
    obtain ⟨xs,ho,-⟩:=hI
    exact (DI ho hg).2
   have HWV:=Aa hwV
   have HSV:=Aa hsV
   have HSZ:=Aa hB.size
   have hlt1:(j:Int) < (n:Int):=by omega
   clear hI hB hb1 hrV hwV hsV hF hel HV
   go_wp2_with fail
   rw [<-hV]
   clear hV c0 c1
   refine KF.o.mono ?_
   rintro e W1 ⟨za,zl,zc,ua,ul,uc,rfl,hO,hb2⟩
   have hI1:=HI.o.over hb2
   have hb3:Ov W1 (W1.alloc (zf #[O za zl zc,O ua ul uc] 39)):=bA _ _
   obtain ⟨xs,hown,hpar⟩:=hI1.over hb3
   have hN:=Ay W1 [O za zl zc,O ua ul uc] 39
   have hBW:w.heap.size<=(W1.alloc (zf #[O za zl zc,O ua ul uc] 39)).heap.size:=Nat.le_trans (Nat.le_trans HWV.o.size hb2.size) hb3.size
   have HN:=Aa hN
   have HO:=Aa (hO.over hb3)
   have HPAR:=Aa hpar
   have HB23:Hx (Ov w (W1.alloc (zf #[O za zl zc,O ua ul uc] 39))):=HWV.o.trans ((hb2.trans (hb3.mono hb2.size)).mono HWV.o.size)
   clear hI1 hO hb2 hb3 hN hpar d0 d1
   go_wp2_with (at_builtin;refine wpList_append_own_at _ rfl _ _ 26 rfl w.heap.size 39 i0 (zg #[O none 0 0,O none 0 0]) 2 48 Tryz.underlying26 hi hz0 hz1 hz2 rfl (by decide) _ _ _ rfl hown ⟨W1.heap.size,0,none⟩ 1 1 [O za zl zc,O ua ul uc] rfl rfl (fun jj u hu=>by rw [Addr.add_lit,Nat.zero_add];exact HN.o jj u hu) (by simp [Value.oneCell']) (by unfold maxLen;omega) (by omega) hBW ?_)
   intro v2 w2 hown2 hgr2 _ hat
   have hcop:=Cop.add hown HPAR.o rfl HO.o HWV.o.size (fun g hg=>by have:=HRL.o g hg;have:=HSV.o;omega) hown2 hgr2 (by simpa using hat)
   obtain ⟨va2,vn2,vc2,rfl⟩:=AK hown2
   have hov:Ov w w2:=HB23.o.trans (AG hown hgr2 hBW)
   have HFIN:=Aa (And.intro hcop hov)
   clear hcop hov hown hown2 hgr2 hat hBW
   go_wp2_with fail
   exact ⟨⟨j+1,by omega,by go_num,HFIN.o.1,HFIN.o.2⟩,by simp [intOf];omega⟩
  ·have hje:j=n:=by omega
   subst hje
   obtain ⟨oa,oc,rfl,-⟩:=hI.cells (by decide)
   have HFIN:=Aa (And.intro hI hB)
   clear hI hB HV hlt
   go_wp2_with fail
   go_ret
   exact ⟨_,_,rfl,HFIN.o.1,HFIN.o.2⟩
theorem M6 (F:FuncId) (cap:List Value) (P:Nat->List Value->World->Prop) (ao:Option Addr) (n c:Nat) (w:World) (hn:n<=100) (hC:∀ (args:Array Value) (w:World),(callFunc F args).run Tryz.prog w=.ok (.enter F args) w)
  (hv:n≠0->∃ b off,ao=some ⟨b,off,none⟩/\∀ i,i < n->∃ (kb:Bool) (xa:Option Addr) (xl xc:Nat) (ya:Option Addr) (yl yc:Nat),(w.cell? ⟨b,off+i*3,none⟩=some (ze kb)/\w.cell? ⟨b,off+i*3+1,none⟩=some (O xa xl xc)/\w.cell? ⟨b,off+i*3+2,none⟩=some (O ya yl yc))/\∀ W,Ov w W->Calls Tryz.prog F (zg #[ze kb,O xa xl xc,O ya yl yc]::cap).toArray W fun e W'=>∃ (jb:Bool) (za:Option Addr) (zl zc:Nat) (ua:Option Addr) (ul uc:Nat),e=zh (zg #[ze jb,O za zl zc,O ua ul uc])/\Off W.heap.size none W' (P i [ze jb,O za zl zc,O ua ul uc])/\Ov W W') :
  Calls Tryz.prog 142 #[O ao n c,.func (.func F) #[] cap.toArray] w fun e w'=>∃ a c',e=zh (O a n c')/\Cop w.heap.size 41 3 P n (O a n c') w'/\Ov w w':=by
 obtain ⟨i0,hi,hz0,hz1,hz2⟩:=info_parts Tryz.infoVaN
 have HV:=Aa hv
 clear hv
 go_enter Tryz.func142,Tryz.ntmps142
 go_wp2_with fail
 go_loopw [5,10] (fun u i wr=>∃ j:Nat,j<=n/\i=zd U j/\Cop w.heap.size 41 3 P j u wr/\Ov w wr) (fun _ i _=>n - (intOf i).toNat)
 case atStart=>exact ⟨0,Nat.zero_le _,rfl,Cop.nil,Below.refl _ _⟩
 case round=>
  obtain ⟨j,hj,rfl,hI,hB⟩:=hrel
  by_cases hlt:j < n
  ·obtain ⟨b,off,rfl,hel⟩:=HV.o (by omega)
   obtain ⟨kb,xa,xl,xc,ya,yl,yc,⟨c0,c1,c2⟩,hF⟩:=hel j hlt
   obtain ⟨c0,c1,c2⟩:=co3 hB c0 c1 c2
   obtain ⟨oa,oc,rfl,-⟩:=hI.cells (by decide)
   have hb1:Ov wr (wr.alloc (zf #[ze kb,O xa xl xc,O ya yl yc] 41)):=bA _ _
   obtain ⟨V,hV⟩:=nm (wr.alloc (zf #[ze kb,O xa xl xc,O ya yl yc] 41))
   have hrV:Ad [ze kb,O xa xl xc,O ya yl yc] V wr.heap.size:=by rw [hV];exact Ay wr [ze kb,O xa xl xc,O ya yl yc] 41
   have hsV:V.heap.size=wr.heap.size+1:=by rw [hV];simp
   rw [<-hV] at hb1
   have hwV:Ov w V:=hB.trans (hb1.mono hB.size)
   have KF:=Aa (hF V hwV)
   obtain ⟨d0,d1,d2⟩:=rc3 hrV
   have HI:=Aa (hI.over hb1)
   have HRL:Hx (∀ g,(Value.slice oa j oc).ownBlock=some g->g < wr.heap.size):=fun g hg=>by
    obtain ⟨xs,ho,-⟩:=hI
    exact (DI ho hg).2
   have HWV:=Aa hwV
   have HSV:=Aa hsV
   have HSZ:=Aa hB.size
   have hlt1:(j:Int) < (n:Int):=by omega
   clear hI hB hb1 hrV hwV hsV hF hel HV
   go_wp2_with fail
   rw [<-hV]
   clear hV c0 c1 c2
   refine KF.o.mono ?_
   rintro e W1 ⟨jb,za,zl,zc,ua,ul,uc,rfl,hO,hb2⟩
   have hI1:=HI.o.over hb2
   have hb3:Ov W1 (W1.alloc (zf #[ze jb,O za zl zc,O ua ul uc] 41)):=bA _ _
   obtain ⟨xs,hown,hpar⟩:=hI1.over hb3
   have hN:=Ay W1 [ze jb,O za zl zc,O ua ul uc] 41
   have hBW:w.heap.size<=(W1.alloc (zf #[ze jb,O za zl zc,O ua ul uc] 41)).heap.size:=Nat.le_trans (Nat.le_trans HWV.o.size hb2.size) hb3.size
   have HN:=Aa hN
   have HO:=Aa (hO.over hb3)
   have HPAR:=Aa hpar
   have HB23:Hx (Ov w (W1.alloc (zf #[ze jb,O za zl zc,O ua ul uc] 41))):=HWV.o.trans ((hb2.trans (hb3.mono hb2.size)).mono HWV.o.size)
   clear hI1 hO hb2 hb3 hN hpar d0 d1 d2
   go_wp2_with (at_builtin;refine wpList_append_own_at _ rfl _ _ 27 rfl w.heap.size 41 i0 (zg #[ze false,O none 0 0,O none 0 0]) 3 56 Tryz.underlying27 hi hz0 hz1 hz2 rfl (by decide) _ _ _ rfl hown ⟨W1.heap.size,0,none⟩ 1 1 [ze jb,O za zl zc,O ua ul uc] rfl rfl (fun jj u hu=>by rw [Addr.add_lit,Nat.zero_add];exact HN.o jj u hu) (by simp [Value.oneCell']) (by unfold maxLen;omega) (by omega) hBW ?_)
   intro v2 w2 hown2 hgr2 _ hat
   have hcop:=Cop.add hown HPAR.o rfl HO.o HWV.o.size (fun g hg=>by have:=HRL.o g hg;have:=HSV.o;omega) hown2 hgr2 (by simpa using hat)
   obtain ⟨va2,vn2,vc2,rfl⟩:=AK hown2
   have hov:Ov w w2:=HB23.o.trans (AG hown hgr2 hBW)
   have HFIN:=Aa (And.intro hcop hov)
   clear hcop hov hown hown2 hgr2 hat hBW
   go_wp2_with fail
   exact ⟨⟨j+1,by omega,by go_num,HFIN.o.1,HFIN.o.2⟩,by simp [intOf];omega⟩
  ·have hje:j=n:=by omega
   subst hje
   obtain ⟨oa,oc,rfl,-⟩:=hI.cells (by decide)
   have HFIN:=Aa (And.intro hI hB)
   clear hI hB HV hlt
   go_wp2_with fail
   go_ret
   exact ⟨_,_,rfl,HFIN.o.1,HFIN.o.2⟩
theorem LG (o:Int) (na:Option Addr) (nc:Nat) (names:List Int) (w:World) (h:Aq w (O na names.length nc) names) (hl:names.length<=100) :
  Calls Tryz.prog 200 #[zg #[zd U o,O na names.length nc]] w fun e w'=>∃ j1 za zl zc,e=zh (zg #[zd U j1,O za zl zc])/\Off w.heap.size none w' (fun W=>j1=o/\zl=names.length/\Aq W (O za zl zc) names)/\Ov w w':=by
 have hb1:Ov w ((w.alloc (zf #[zd U o,O na names.length nc] 87)).alloc (zf #[zd U 0,O none 0 0] 87)):=(bA w _).alloc (by simp) _
 obtain ⟨V,hV⟩:=nm ((w.alloc (zf #[zd U o,O na names.length nc] 87)).alloc (zf #[zd U 0,O none 0 0] 87))
 have hsV:V.heap.size=w.heap.size+2:=by rw [hV];simp
 have hrA:Ad [zd U o,O na names.length nc] V w.heap.size:=by rw [hV];exact Ad.over (Ay w [zd U o,O na names.length nc] 87) (bA _ _)
 have hrB:Ad [zd U 0,O none 0 0] V (w.heap.size+1):=by
  rw [hV]
  have hs:(w.alloc (zf #[zd U o,O na names.length nc] 87)).heap.size=w.heap.size+1:=by simp
  rw [<-hs]
  exact Ay (w.alloc (zf #[zd U o,O na names.length nc] 87)) [zd U 0,O none 0 0] 87
 have hfB:∀ j,V.frozen? ⟨w.heap.size+1,j,none⟩=false:=fun j=>by rw [hV];simp [go_sem]
 rw [<-hV] at hb1
 have KC:=Aa (MB _ names V.drew ((h.over hb1).over (bD V)) hl)
 obtain ⟨nn,hnn⟩:=nm names.length
 rw [<-hnn] at hrA KC ⊢
 have hS0:CE V.drew w.heap.size 0 (zd U o)/\CE V.drew w.heap.size 1 (O na nn nc):=rc2 hrA
 have HB1:=Aa hb1
 have HRB:=Aa hrB
 have HFB:=Aa hfB
 have HSV:=Aa hsV
 have HNN:=Aa hnn
 rw [<-hnn] at hV
 clear h hb1 hrA hrB hfB hsV hnn hl
 go_enter Tryz.func200,Tryz.ntmps200
 go_wp2_with fail
 rw [<-hV]
 clear hV
 refine gS (fun Wz=>CE Wz w.heap.size 0 (zd U o)/\CE Wz w.heap.size 1 (O na nn nc)) hS0 fun hHeld=>?_
 refine kT 0 ?_
 refine kT 1 ?_
 refine kT 2 ?_
 refine kT 3 ?_
 refine rdA 4 rfl fun K hK=>?_
 go_simp
 refine KC.o.mono ?_
 rintro e W1 ⟨a,c,rfl,hO,hb⟩
 have hbV:Ov V W1:=(bD V).trans (hb.mono (Nat.le_refl _))
 have hS1:CE W1 w.heap.size 0 (zd U o)/\CE W1 w.heap.size 1 (O na nn nc):=⟨Ab hbV _ _ hS0.1,Ab hbV _ _ hS0.2⟩
 have hrB1:=HRB.o.over hbV
 have hrF:=(hrB1.set (j:=0) (v:=zd U o) (by simp)).set (j:=1) (v:=O a nn c) (by simp)
 simp only [List.set_cons_zero,List.set_cons_succ] at hrF
 have hfz:=fun j=>((AI hbV).2 (w.heap.size+1) j (by have:=HSV.o;omega)).trans (HFB.o j)
 have f0:=hfz 0
 have f1:=hfz 1
 obtain ⟨x0,x1⟩:=rc2 hrB1
 have hS2:CE ((W1.setCell ⟨w.heap.size+1,0,none⟩ (zd U o)).setCell ⟨w.heap.size+1,1,none⟩ (O a nn c)) w.heap.size 0 (zd U o)/\CE ((W1.setCell ⟨w.heap.size+1,0,none⟩ (zd U o)).setCell ⟨w.heap.size+1,1,none⟩ (O a nn c)) w.heap.size 1 (O na nn nc):=⟨Ao (Ao hS1.1 (by omega)) (by omega),Ao (Ao hS1.2 (by omega)) (by omega)⟩
 have HRF:=Aa hrF
 have HOF:=Aa hO
 have HOV:Hx (Ov w W1):=HB1.o.trans (hbV.mono HB1.o.size)
 have HVs:Hx (V.drew.heap.size=w.heap.size+2):=HSV.o
 clear hO hb hbV hrB1 hrF hfz
 go_simp
 refine xK hK hS1 fun hHeld=>?_
 clear hK K
 refine kT 5 ?_
 refine rdA 6 rfl fun K hK=>?_
 go_simp
 refine xK hK hS2 fun hHeld=>?_
 clear hK K
 refine gE ?_
 go_wp2_with fail
 obtain ⟨r0,r1⟩:=rc2 HRF.o
 refine bodyPost_ret (v:=zg #[zd U o,O a nn c]) (by simp [results,Tryz.results200,go_sem,r0,r1]) rfl ?_
 refine ⟨o,a,nn,c,rfl,?_,(HOV.o.setCell (by simp) _).setCell (by simp) _⟩
 have h1:=((HOF.o.set (b:=w.heap.size+1) (j:=0) (u:=zd U o) (by rw [HVs.o];omega)).set (b:=w.heap.size+1) (j:=1) (u:=O a nn c) (by rw [HVs.o];omega)).base (B':=w.heap.size) (by rw [HVs.o];omega)
 exact h1.imp fun W hW=>⟨rfl,rfl,hW⟩
theorem GN (v:Value) (ps:List Pol) (w:World) (h:Az w v ps) (hl:ps.length<=100) (hn:∀ p∈ps,p.names.length<=100) :
  Calls Tryz.prog 199 #[v,.func (.func 200) #[] #[]] w fun e w'=>∃ a c,e=zh (O a ps.length c)/\Off w.heap.size none w' (fun W=>Az W (O a ps.length c) ps)/\Ov w w':=by
 obtain ⟨ao,cap,rfl,hel⟩:=h
 refine (M7 200 [] (fun i cs W=>∀ p,ps[i]? = some p->∃ nv,cs=[zd U p.owner,nv]/\Aq W nv p.names) ao ps.length cap w hl (enters_of Tryz.func200 (by kernel_rfl) rfl) (fun hne=>?_)).mono ?_
 ·obtain ⟨b,off,hao,hc⟩:=hel (by rintro rfl;simp at hne)
  refine ⟨b,off,hao,fun i hi=>?_⟩
  obtain ⟨h0,nv,h1,hi2⟩:=hc i hi
  obtain ⟨na,nc,hnv,-⟩:=id hi2
  subst hnv
  refine ⟨_,na,_,nc,⟨h0,h1⟩,fun W hW=>?_⟩
  refine (LG ps[i].owner na nc ps[i].names W (Aq.over (w:=w) hi2 hW) (hn _ (List.getElem_mem hi))).mono ?_
  rintro e W' ⟨j1,za,zl,zc,rfl,hO,hB⟩
  refine ⟨j1,za,zl,zc,rfl,hO.imp fun X hX p hp=>?_,hB⟩
  rw [List.getElem?_eq_getElem hi] at hp
  injection hp with hp
  subst hp
  exact ⟨_,by rw [hX.1],hX.2.2⟩
 ·rintro e w' ⟨a,c',rfl,hcop,hB⟩
  obtain ⟨a',c2,he,hoff⟩:=hcop.cells (by decide)
  injection he with x1 x2 x3
  subst x1 x3
  refine ⟨a,c',rfl,hoff.imp fun W hW=>⟨a,c',rfl,fun hne=>?_⟩,hB⟩
  obtain ⟨b,hb,hc⟩:=hW (fun h=>hne (List.eq_nil_of_length_eq_zero h))
  refine ⟨b,0,hb,fun i hi=>?_⟩
  obtain ⟨cs,h1,h2,h3⟩:=hc i hi
  obtain ⟨nv,rfl,h4⟩:=h3 _ (List.getElem?_eq_getElem hi)
  rw [Nat.zero_add]
  exact ⟨h2 0 _ rfl,nv,h2 1 _ rfl,h4⟩
theorem Ik (bl:Lab) (ra:Option Addr) (rc:Nat) (wa:Option Addr) (wc:Nat) (w:World) (hx:Az w (O ra bl.r.length rc) bl.r) (hy:Az w (O wa bl.w.length wc) bl.w) (hl:bl.r.length<=100/\bl.w.length<=100) (hn:(∀ p∈bl.r,p.names.length<=100)/\∀ p∈bl.w,p.names.length<=100) :
  Calls Tryz.prog 141 #[zg #[O ra bl.r.length rc,O wa bl.w.length wc]] w fun e w'=>∃ za zl zc ua ul uc,e=zh (zg #[O za zl zc,O ua ul uc])/\Off w.heap.size none w' (fun W=>Az W (O za zl zc) bl.r/\Az W (O ua ul uc) bl.w)/\Ov w w':=by
 have hb1:Ov w ((w.alloc (zf #[O ra bl.r.length rc,O wa bl.w.length wc] 39)).alloc (zf #[O none 0 0,O none 0 0] 39)):=(bA w _).alloc (by simp) _
 obtain ⟨V,hV⟩:=nm ((w.alloc (zf #[O ra bl.r.length rc,O wa bl.w.length wc] 39)).alloc (zf #[O none 0 0,O none 0 0] 39))
 have hsV:V.heap.size=w.heap.size+2:=by rw [hV];simp
 have hrA:Ad [O ra bl.r.length rc,O wa bl.w.length wc] V w.heap.size:=by rw [hV];exact Ad.over (Ay w [O ra bl.r.length rc,O wa bl.w.length wc] 39) (bA _ _)
 have hrB:Ad [O none 0 0,O none 0 0] V (w.heap.size+1):=by
  rw [hV]
  have hs:(w.alloc (zf #[O ra bl.r.length rc,O wa bl.w.length wc] 39)).heap.size=w.heap.size+1:=by simp
  rw [<-hs]
  exact Ay (w.alloc (zf #[O ra bl.r.length rc,O wa bl.w.length wc] 39)) [O none 0 0,O none 0 0] 39
 have hfB:∀ j,V.frozen? ⟨w.heap.size+1,j,none⟩=false:=fun j=>by rw [hV];simp [go_sem]
 rw [<-hV] at hb1
 have KX:=Aa (GN _ bl.r V.drew (Au (Au hx hb1) (bD V)) hl.1 hn.1)
 have KY:=Aa fun (Wz:World) (hz:Ov V Wz)=>GN _ bl.w Wz (Au (Au hy hb1) hz) hl.2 hn.2
 obtain ⟨rn,hrn⟩:=nm bl.r.length
 obtain ⟨wn,hwn⟩:=nm bl.w.length
 rw [<-hrn] at hrA KX hV ⊢
 rw [<-hwn] at hrA KY hV ⊢
 have hS0:CE V.drew w.heap.size 0 (O ra rn rc)/\CE V.drew w.heap.size 1 (O wa wn wc):=rc2 hrA
 have HB1:=Aa hb1
 have HRB:=Aa hrB
 have HFB:=Aa hfB
 have HSV:=Aa hsV
 clear hx hy hb1 hrA hrB hfB hsV hrn hwn hl hn
 go_enter Tryz.func141,Tryz.ntmps141
 go_wp2_with fail
 rw [<-hV]
 clear hV
 refine gS (fun Wz=>CE Wz w.heap.size 0 (O ra rn rc)/\CE Wz w.heap.size 1 (O wa wn wc)) hS0 fun hHeld=>?_
 refine kT 0 ?_
 refine kT 1 ?_
 refine kT 3 ?_
 refine kT 4 ?_
 refine rdA 2 rfl fun K hK=>?_
 go_simp
 refine KX.o.mono ?_
 rintro e W1 ⟨a,c,rfl,hO,hb⟩
 have hbV:Ov V W1:=(bD V).trans (hb.mono (Nat.le_refl _))
 have hS1:CE W1 w.heap.size 0 (O ra rn rc)/\CE W1 w.heap.size 1 (O wa wn wc):=⟨Ab hbV _ _ hS0.1,Ab hbV _ _ hS0.2⟩
 have HBV:=Aa hbV
 have HO1:=Aa hO
 clear hO hb hbV
 go_simp
 refine xK hK hS1 fun hHeld=>?_
 clear hK K
 refine rdA 5 rfl fun K hK=>?_
 go_simp
 refine (KY.o W1 HBV.o).mono ?_
 rintro e W2 ⟨a2,c2,rfl,hO2,hb2⟩
 have hbV:Ov V W2:=HBV.o.trans (hb2.mono HBV.o.size)
 have hS2:CE W2 w.heap.size 0 (O ra rn rc)/\CE W2 w.heap.size 1 (O wa wn wc):=⟨Ab hbV _ _ hS0.1,Ab hbV _ _ hS0.2⟩
 have hrB1:=HRB.o.over hbV
 have hrF:=(hrB1.set (j:=0) (v:=O a rn c) (by simp)).set (j:=1) (v:=O a2 wn c2) (by simp)
 simp only [List.set_cons_zero,List.set_cons_succ] at hrF
 have hfz:=fun j=>((AI hbV).2 (w.heap.size+1) j (by have:=HSV.o;omega)).trans (HFB.o j)
 have f0:=hfz 0
 have f1:=hfz 1
 obtain ⟨x0,x1⟩:=rc2 hrB1
 have hS3:CE ((W2.setCell ⟨w.heap.size+1,0,none⟩ (O a rn c)).setCell ⟨w.heap.size+1,1,none⟩ (O a2 wn c2)) w.heap.size 0 (O ra rn rc)/\CE ((W2.setCell ⟨w.heap.size+1,0,none⟩ (O a rn c)).setCell ⟨w.heap.size+1,1,none⟩ (O a2 wn c2)) w.heap.size 1 (O wa wn wc):=⟨Ao (Ao hS2.1 (by omega)) (by omega),Ao (Ao hS2.2 (by omega)) (by omega)⟩
 have HRF:=Aa hrF
 have HOV:Hx (Ov w W2):=HB1.o.trans (hbV.mono HB1.o.size)
 have HVs:Hx (V.drew.heap.size=w.heap.size+2):=HSV.o
 have HVW:Hx (w.heap.size+2<=W1.heap.size):=by have h1:=HBV.o.size;have h2:=HSV.o;show w.heap.size+2<=W1.heap.size;omega
 have HOX:=Aa (HO1.o.over hb2)
 have HOY:=Aa hO2
 clear hO2 hb2 hbV hrB1 hrF hfz
 go_simp
 refine xK hK hS2 fun hHeld=>?_
 clear hK K
 refine kT 6 ?_
 refine rdA 7 rfl fun K hK=>?_
 go_simp
 refine xK hK hS3 fun hHeld=>?_
 clear hK K
 refine gE ?_
 go_wp2_with fail
 obtain ⟨r0,r1⟩:=rc2 HRF.o
 refine bodyPost_ret (v:=zg #[O a rn c,O a2 wn c2]) (by simp [results,Tryz.results141,go_sem,r0,r1]) rfl ?_
 refine ⟨a,rn,c,a2,wn,c2,rfl,?_,(HOV.o.setCell (by simp) _).setCell (by simp) _⟩
 have h1:=((HOX.o.set (b:=w.heap.size+1) (j:=0) (u:=O a rn c) (by rw [HVs.o];omega)).set (b:=w.heap.size+1) (j:=1) (u:=O a2 wn c2) (by rw [HVs.o];omega)).base (B':=w.heap.size) (by rw [HVs.o];omega)
 have h2:=((HOY.o.set (b:=w.heap.size+1) (j:=0) (u:=O a rn c) (by have:=HVW.o;omega)).set (b:=w.heap.size+1) (j:=1) (u:=O a2 wn c2) (by have:=HVW.o;omega)).base (B':=w.heap.size) (by have:=HVW.o;omega)
 exact fun W hW=>⟨h1 W hW,h2 W hW⟩
end Go.Proofs.YtfffpjkcfnekaaaGreat.Ex
