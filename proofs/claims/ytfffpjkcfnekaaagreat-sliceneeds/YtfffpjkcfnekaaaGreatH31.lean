/- Is a command needed? -/
import Derived.Test.YtfffpjkcfnekaaaGreatH22
set_option linter.unusedVariables false
set_option maxHeartbeats 8000000
set_option maxRecDepth 100000
namespace Go.Proofs.YtfffpjkcfnekaaaGreat.Ex
open Go.RowKit
open Go.Value renaming slice -> O, int -> zd, bool -> ze, agg -> zg, pointer -> zi, tuple -> zj
open Go.IntKind renaming i64 -> U
open Go.Obj renaming cells -> zf
open Go.Ending renaming returned -> zh
section
variable {w0:World} {pc:List Value} {ch:Int} {cv fv:Value} {bn bv bi bs:Nat} {st:NS} {W W':World}
theorem Ib (h:NI w0 pc ch cv fv bn bv bi bs st W) (hl:st.vs.length<=1000) (bx:Nat) (hx:W.cell? ⟨bx,0,none⟩=some (zi (some ⟨bn,0,none⟩))) (v:Int) (hv:0<=v/\v < (st.vs.length:Int)) :
  Calls Tryz.prog 232 #[zd U v,zi (some ⟨bx,0,none⟩)] W fun e W'=>e=zh (ze (st.vs.getD v.toNat false))/\Ov W W':=by
 obtain ⟨j,rfl⟩:∃ j:Nat,v=(j:Int):=⟨v.toNat,by omega⟩
 have hj:j < st.vs.length:=by omega
 have hj1:(j:Int) < (st.vs.length:Int):=by omega
 have c11:=h.cells.2.2.2.1
 have hc:=BW h.vs hj
 rw [show (j:Int).toNat=j from rfl]
 obtain ⟨r,hr⟩:=nm (st.vs.getD j false)
 obtain ⟨n,hn⟩:=nm st.vs.length
 rw [<-hr] at hc ⊢
 rw [<-hn] at c11 hj hj1 hl
 clear hr hn h hv
 go_enter Tryz.func232,Tryz.ntmps232
 go_wp2_with fail
 go_ret
 exact ⟨rfl,Below.refl _ _⟩
theorem EC {nd:List Bool} {a b:Nat} (h:b<=nd.length):((nd.take b).drop a).length=b - a:=by
 rw [List.length_drop,List.length_take,Nat.min_eq_left h]
theorem MI {nd:List Bool} {a b:Nat} (hr:Ad (nd.map Value.bool) W bs) (h:b<=nd.length):MM W bs a ((nd.take b).drop a).length ((nd.take b).drop a):=⟨rfl,fun i hi=>by
 rw [EC h] at hi
 rw [List.getElem_drop,List.getElem_take]
 refine hr (a+i) _ ?_
 rw [List.getElem?_map,List.getElem?_eq_getElem (by omega)]
 rfl⟩
theorem FR (h:NI w0 pc ch cv fv bn bv bi bs st W) (a b:Nat) (hab:a<=b) (hb:b<=st.nd.length) (hl:st.nd.length<=1000) :
  Calls Tryz.prog 233 #[zi (some ⟨bn,0,none⟩),zd U (a:Int),zd U (b:Int)] W fun e W'=>e=zh (ze (CA st.nd a b))/\Ov W W':=by
 have c13:=h.cells.2.2.2.2.2.1
 have K1:=Aa fun (ao:Option Addr) (c:Nat) (hao:(st.nd.take b).drop a≠[]->ao=some ⟨bs,a,none⟩)=>Jb ao c ((st.nd.take b).drop a) W (by rw [EC hb];omega) (fun hne=>⟨bs,a,hao hne,MI h.nd hb⟩)
 have KA:Hx (((st.nd.take b).drop a).any id=CA st.nd a b):=rfl
 have KE:Hx (a=b->(st.nd.take b).drop a=[]):=fun e=>List.eq_nil_of_length_eq_zero (by rw [EC hb];omega)
 rw [EC hb] at K1
 obtain ⟨q,hq⟩:=nm (((st.nd.take b).drop a).any id)
 rw [<-hq] at K1 KA
 obtain ⟨L,hL⟩:=nm ((st.nd.take b).drop a)
 rw [<-hL] at K1 KE
 obtain ⟨n,hn⟩:=nm st.nd.length
 rw [<-hn] at c13 hb hl
 rw [<-KA.o]
 clear hq hn h KA hL
 have h0:(0:Int)<=(a:Int):=by omega
 have h1:(a:Int)<=(b:Int):=by omega
 have h2:(b:Int)<=(n:Int):=by omega
 by_cases hna:n=a
 ·have hab2:a=b:=by omega
  have KE2:=Aa (KE.o hab2)
  clear KE
  subst hna
  obtain rfl:b=n:=by omega
  rw [Nat.sub_self] at K1
  clear hab hb h0 h1 h2 hab2 hl
  go_enter Tryz.func233,Tryz.ntmps233
  go_wp2_with fail
  refine (K1.o _ _ (fun hne=>absurd KE2.o hne)).mono ?_
  rintro e W1 ⟨rfl,hb1⟩
  go_wp2_with fail
  go_ret
  exact ⟨rfl,hb1⟩
 ·clear hab hb KE hl
  go_enter Tryz.func233,Tryz.ntmps233
  go_wp2_with fail
  refine (K1.o _ _ (fun _=>rfl)).mono ?_
  rintro e W1 ⟨rfl,hb1⟩
  go_wp2_with fail
  go_ret
  exact ⟨rfl,hb1⟩
end
theorem E3 {k:Nat} {fs:List FnD} {j:Nat} (hj:j < fs.length):An k (fs.take j)<=An k (fs.take (j+1))/\An k (fs.take (j+1))<=An k fs:=by
 refine ⟨by rw [B9 hj];omega,?_⟩
 have h1:An k fs=An k (fs.take (j+1))+An k (fs.drop (j+1)):=by
  unfold An
  rw [<-List.sum_append,<-List.map_append,List.take_append_drop]
 omega
theorem M4 {w0:World} {pc:List Value} {ch:Int} {cv fv:Value} {bn bv bi bs:Nat} {st:NS} {W:World} (h:NI w0 pc ch cv fv bn bv bi bs st W) (hlv:st.vs.length<=1000) (hlc:st.cs.length<=1000) (hln:st.nd.length<=1000) (x e:Nat) (ek en:Int) (xa xl xc aa al ac ta tl tc ea el ec) (ot:Int) (jv:Nat) (hv:jv < st.vs.length) :
  Calls Tryz.prog 196 #[zi (some ⟨bn,0,none⟩),zd U (x:Int),zg #[zd U 1,zd U (jv:Int),zd U ot,zd U ek,zd U en,O xa xl xc,O aa al ac,O ta tl tc,O ea el ec,zd U (e:Int)]] W fun r W'=>r=zh (ze (st.vs.getD jv false))/\Ov W W':=by
 have hb:Ov W ((W.alloc (zf #[zi (some ⟨bn,0,none⟩)] 157)).alloc (zf #[zd U 1,zd U (jv:Int),zd U ot,zd U ek,zd U en,O xa xl xc,O aa al ac,O ta tl tc,O ea el ec,zd U (e:Int)] 249)):=(bA W _).alloc (by simp) _
 obtain ⟨V,hV⟩:=nm ((W.alloc (zf #[zi (some ⟨bn,0,none⟩)] 157)).alloc (zf #[zd U 1,zd U (jv:Int),zd U ot,zd U ek,zd U en,O xa xl xc,O aa al ac,O ta tl tc,O ea el ec,zd U (e:Int)] 249))
 have kb:V.cell? ⟨W.heap.size,0,none⟩=some (zi (some ⟨bn,0,none⟩)):=by rw [hV];simp [go_sem]
 have k0:V.cell? ⟨W.heap.size+1,0,none⟩=some (zd U 1):=by rw [hV];simp [go_sem]
 have k1:V.cell? ⟨W.heap.size+1,1,none⟩=some (zd U (jv:Int)):=by rw [hV];simp [go_sem]
 have k2:V.cell? ⟨W.heap.size+1,2,none⟩=some (zd U ot):=by rw [hV];simp [go_sem]
 have k9:V.cell? ⟨W.heap.size+1,9,none⟩=some (zd U (e:Int)):=by rw [hV];simp [go_sem]
 rw [<-hV] at hb
 have hN:=h.over hb
 obtain ⟨n8,n9,n10,n11,n12,n13,n14⟩:=hN.cells
 have hc:=BW hN.vs hv
 obtain ⟨r,hr⟩:=nm (st.vs.getD jv false)
 obtain ⟨nv,hnv⟩:=nm st.vs.length
 rw [<-hr] at hc ⊢
 rw [<-hnv] at n11 hv hlv
 have hv1:(jv:Int) < (nv:Int):=by omega
 have HB:=Aa hb
 clear hr hnv hN h hb n8 n9 n10 n12 n13 n14 k9 k2 hlc hln
 go_enter Tryz.func196,Tryz.ntmps196
 go_wp2_with fail
 rw [<-hV]
 clear hV
 refine gS (fun Wz=>Below V.heap.size V Wz) (Below.refl _ _).drew fun hHeld=>?_
 generalize V.drew=W at hHeld ⊢
 refine kO 0 ?_
 refine kO 1 ?_
 refine kO 2 ?_
 refine kO 3 ?_
 refine kO 4 ?_
 refine kO 5 ?_
 refine kO 6 ?_
 refine kO 7 ?_
 refine kO 8 ?_
 refine kO 9 ?_
 refine gE ?_
 go_wp2_with fail
 go_ret
 exact ⟨by rfl,HB.o.trans (hHeld.mono HB.o.size)⟩
theorem MX {w0:World} {pc:List Value} {ch:Int} {cv fv:Value} {bn bv bi bs:Nat} {st:NS} {W:World} (h:NI w0 pc ch cv fv bn bv bi bs st W) (hlv:st.vs.length<=1000) (hlc:st.cs.length<=1000) (hln:st.nd.length<=1000) (x e:Nat) (ek en:Int) (xa xl xc aa al ac ta tl tc ea el ec) (ot:Int) (jv:Nat) (hv:jv < st.vs.length) :
  Calls Tryz.prog 196 #[zi (some ⟨bn,0,none⟩),zd U (x:Int),zg #[zd U 5,zd U (jv:Int),zd U ot,zd U ek,zd U en,O xa xl xc,O aa al ac,O ta tl tc,O ea el ec,zd U (e:Int)]] W fun r W'=>r=zh (ze (st.vs.getD jv false))/\Ov W W':=by
 have hb:Ov W ((W.alloc (zf #[zi (some ⟨bn,0,none⟩)] 157)).alloc (zf #[zd U 5,zd U (jv:Int),zd U ot,zd U ek,zd U en,O xa xl xc,O aa al ac,O ta tl tc,O ea el ec,zd U (e:Int)] 249)):=(bA W _).alloc (by simp) _
 obtain ⟨V,hV⟩:=nm ((W.alloc (zf #[zi (some ⟨bn,0,none⟩)] 157)).alloc (zf #[zd U 5,zd U (jv:Int),zd U ot,zd U ek,zd U en,O xa xl xc,O aa al ac,O ta tl tc,O ea el ec,zd U (e:Int)] 249))
 have kb:V.cell? ⟨W.heap.size,0,none⟩=some (zi (some ⟨bn,0,none⟩)):=by rw [hV];simp [go_sem]
 have k0:V.cell? ⟨W.heap.size+1,0,none⟩=some (zd U 5):=by rw [hV];simp [go_sem]
 have k1:V.cell? ⟨W.heap.size+1,1,none⟩=some (zd U (jv:Int)):=by rw [hV];simp [go_sem]
 have k2:V.cell? ⟨W.heap.size+1,2,none⟩=some (zd U ot):=by rw [hV];simp [go_sem]
 have k9:V.cell? ⟨W.heap.size+1,9,none⟩=some (zd U (e:Int)):=by rw [hV];simp [go_sem]
 rw [<-hV] at hb
 have hN:=h.over hb
 obtain ⟨n8,n9,n10,n11,n12,n13,n14⟩:=hN.cells
 have hc:=BW hN.vs hv
 obtain ⟨r,hr⟩:=nm (st.vs.getD jv false)
 obtain ⟨nv,hnv⟩:=nm st.vs.length
 rw [<-hr] at hc ⊢
 rw [<-hnv] at n11 hv hlv
 have hv1:(jv:Int) < (nv:Int):=by omega
 have HB:=Aa hb
 clear hr hnv hN h hb n8 n9 n10 n12 n13 n14 k9 k2 hlc hln
 go_enter Tryz.func196,Tryz.ntmps196
 go_wp2_with fail
 rw [<-hV]
 clear hV
 refine gS (fun Wz=>Below V.heap.size V Wz) (Below.refl _ _).drew fun hHeld=>?_
 generalize V.drew=W at hHeld ⊢
 refine kO 0 ?_
 refine kO 1 ?_
 refine kO 2 ?_
 refine kO 3 ?_
 refine kO 4 ?_
 refine kO 5 ?_
 refine kO 6 ?_
 refine kO 7 ?_
 refine kO 8 ?_
 refine kO 9 ?_
 refine gE ?_
 go_wp2_with fail
 go_ret
 exact ⟨by rfl,HB.o.trans (hHeld.mono HB.o.size)⟩
theorem MW {w0:World} {pc:List Value} {ch:Int} {cv fv:Value} {bn bv bi bs:Nat} {st:NS} {W:World} (h:NI w0 pc ch cv fv bn bv bi bs st W) (hlv:st.vs.length<=1000) (hlc:st.cs.length<=1000) (hln:st.nd.length<=1000) (x e:Nat) (ek en:Int) (xa xl xc aa al ac ta tl tc ea el ec) (ot:Int) (jv:Nat) (hv:jv < st.vs.length) :
  Calls Tryz.prog 196 #[zi (some ⟨bn,0,none⟩),zd U (x:Int),zg #[zd U 6,zd U (jv:Int),zd U ot,zd U ek,zd U en,O xa xl xc,O aa al ac,O ta tl tc,O ea el ec,zd U (e:Int)]] W fun r W'=>r=zh (ze (st.vs.getD jv false))/\Ov W W':=by
 have hb:Ov W ((W.alloc (zf #[zi (some ⟨bn,0,none⟩)] 157)).alloc (zf #[zd U 6,zd U (jv:Int),zd U ot,zd U ek,zd U en,O xa xl xc,O aa al ac,O ta tl tc,O ea el ec,zd U (e:Int)] 249)):=(bA W _).alloc (by simp) _
 obtain ⟨V,hV⟩:=nm ((W.alloc (zf #[zi (some ⟨bn,0,none⟩)] 157)).alloc (zf #[zd U 6,zd U (jv:Int),zd U ot,zd U ek,zd U en,O xa xl xc,O aa al ac,O ta tl tc,O ea el ec,zd U (e:Int)] 249))
 have kb:V.cell? ⟨W.heap.size,0,none⟩=some (zi (some ⟨bn,0,none⟩)):=by rw [hV];simp [go_sem]
 have k0:V.cell? ⟨W.heap.size+1,0,none⟩=some (zd U 6):=by rw [hV];simp [go_sem]
 have k1:V.cell? ⟨W.heap.size+1,1,none⟩=some (zd U (jv:Int)):=by rw [hV];simp [go_sem]
 have k2:V.cell? ⟨W.heap.size+1,2,none⟩=some (zd U ot):=by rw [hV];simp [go_sem]
 have k9:V.cell? ⟨W.heap.size+1,9,none⟩=some (zd U (e:Int)):=by rw [hV];simp [go_sem]
 rw [<-hV] at hb
 have hN:=h.over hb
 obtain ⟨n8,n9,n10,n11,n12,n13,n14⟩:=hN.cells
 have hc:=BW hN.vs hv
 obtain ⟨r,hr⟩:=nm (st.vs.getD jv false)
 obtain ⟨nv,hnv⟩:=nm st.vs.length
 rw [<-hr] at hc ⊢
 rw [<-hnv] at n11 hv hlv
 have hv1:(jv:Int) < (nv:Int):=by omega
 have HB:=Aa hb
 clear hr hnv hN h hb n8 n9 n10 n12 n13 n14 k9 k2 hlc hln
 go_enter Tryz.func196,Tryz.ntmps196
 go_wp2_with fail
 rw [<-hV]
 clear hV
 refine gS (fun Wz=>Below V.heap.size V Wz) (Below.refl _ _).drew fun hHeld=>?_
 generalize V.drew=W at hHeld ⊢
 refine kO 0 ?_
 refine kO 1 ?_
 refine kO 2 ?_
 refine kO 3 ?_
 refine kO 4 ?_
 refine kO 5 ?_
 refine kO 6 ?_
 refine kO 7 ?_
 refine kO 8 ?_
 refine kO 9 ?_
 refine gE ?_
 go_wp2_with fail
 go_ret
 exact ⟨by rfl,HB.o.trans (hHeld.mono HB.o.size)⟩
theorem MY {w0:World} {pc:List Value} {ch:Int} {cv fv:Value} {bn bv bi bs:Nat} {st:NS} {W:World} (h:NI w0 pc ch cv fv bn bv bi bs st W) (hlv:st.vs.length<=1000) (hlc:st.cs.length<=1000) (hln:st.nd.length<=1000) (x e:Nat) (ek en:Int) (xa xl xc aa al ac ta tl tc ea el ec) (va ot:Int) :
  Calls Tryz.prog 196 #[zi (some ⟨bn,0,none⟩),zd U (x:Int),zg #[zd U 4,zd U va,zd U ot,zd U ek,zd U en,O xa xl xc,O aa al ac,O ta tl tc,O ea el ec,zd U (e:Int)]] W fun r W'=>r=zh (ze (decide (ot=ch)))/\Ov W W':=by
 have hb:Ov W ((W.alloc (zf #[zi (some ⟨bn,0,none⟩)] 157)).alloc (zf #[zd U 4,zd U va,zd U ot,zd U ek,zd U en,O xa xl xc,O aa al ac,O ta tl tc,O ea el ec,zd U (e:Int)] 249)):=(bA W _).alloc (by simp) _
 obtain ⟨V,hV⟩:=nm ((W.alloc (zf #[zi (some ⟨bn,0,none⟩)] 157)).alloc (zf #[zd U 4,zd U va,zd U ot,zd U ek,zd U en,O xa xl xc,O aa al ac,O ta tl tc,O ea el ec,zd U (e:Int)] 249))
 have kb:V.cell? ⟨W.heap.size,0,none⟩=some (zi (some ⟨bn,0,none⟩)):=by rw [hV];simp [go_sem]
 have k0:V.cell? ⟨W.heap.size+1,0,none⟩=some (zd U 4):=by rw [hV];simp [go_sem]
 have k1:V.cell? ⟨W.heap.size+1,1,none⟩=some (zd U va):=by rw [hV];simp [go_sem]
 have k2:V.cell? ⟨W.heap.size+1,2,none⟩=some (zd U ot):=by rw [hV];simp [go_sem]
 have k9:V.cell? ⟨W.heap.size+1,9,none⟩=some (zd U (e:Int)):=by rw [hV];simp [go_sem]
 rw [<-hV] at hb
 have hN:=h.over hb
 obtain ⟨n8,n9,n10,n11,n12,n13,n14⟩:=hN.cells
 have HB:=Aa hb
 clear hN h hb n9 n10 n11 n12 n13 n14 k9 k1 hlv hlc hln
 go_enter Tryz.func196,Tryz.ntmps196
 go_wp2_with fail
 rw [<-hV]
 clear hV
 refine gS (fun Wz=>Below V.heap.size V Wz) (Below.refl _ _).drew fun hHeld=>?_
 generalize V.drew=W at hHeld ⊢
 refine kO 0 ?_
 refine kO 1 ?_
 refine kO 2 ?_
 refine kO 3 ?_
 refine kO 4 ?_
 refine kO 5 ?_
 refine kO 6 ?_
 refine kO 7 ?_
 refine kO 8 ?_
 refine gE ?_
 go_wp2_with fail
 go_ret
 exact ⟨by first | rfl | (simp only [];rfl) | (simp;rfl),HB.o.trans (hHeld.mono HB.o.size)⟩
theorem MZ {w0:World} {pc:List Value} {ch:Int} {cv fv:Value} {bn bv bi bs:Nat} {st:NS} {W:World} (h:NI w0 pc ch cv fv bn bv bi bs st W) (hlv:st.vs.length<=1000) (hlc:st.cs.length<=1000) (hln:st.nd.length<=1000) (x e:Nat) (ek en:Int) (xa xl xc aa al ac ta tl tc ea el ec) (jv jo:Nat) (hv:jv < st.vs.length) (ho:jo < st.cs.length) :
  Calls Tryz.prog 196 #[zi (some ⟨bn,0,none⟩),zd U (x:Int),zg #[zd U 3,zd U (jv:Int),zd U (jo:Int),zd U ek,zd U en,O xa xl xc,O aa al ac,O ta tl tc,O ea el ec,zd U (e:Int)]] W fun r W'=>r=zh (ze (st.vs.getD jv false || st.cs.getD jo false))/\Ov W W':=by
 have hb:Ov W ((W.alloc (zf #[zi (some ⟨bn,0,none⟩)] 157)).alloc (zf #[zd U 3,zd U (jv:Int),zd U (jo:Int),zd U ek,zd U en,O xa xl xc,O aa al ac,O ta tl tc,O ea el ec,zd U (e:Int)] 249)):=(bA W _).alloc (by simp) _
 obtain ⟨V,hV⟩:=nm ((W.alloc (zf #[zi (some ⟨bn,0,none⟩)] 157)).alloc (zf #[zd U 3,zd U (jv:Int),zd U (jo:Int),zd U ek,zd U en,O xa xl xc,O aa al ac,O ta tl tc,O ea el ec,zd U (e:Int)] 249))
 have kb:V.cell? ⟨W.heap.size,0,none⟩=some (zi (some ⟨bn,0,none⟩)):=by rw [hV];simp [go_sem]
 have k0:V.cell? ⟨W.heap.size+1,0,none⟩=some (zd U 3):=by rw [hV];simp [go_sem]
 have k1:V.cell? ⟨W.heap.size+1,1,none⟩=some (zd U (jv:Int)):=by rw [hV];simp [go_sem]
 have k2:V.cell? ⟨W.heap.size+1,2,none⟩=some (zd U (jo:Int)):=by rw [hV];simp [go_sem]
 have k9:V.cell? ⟨W.heap.size+1,9,none⟩=some (zd U (e:Int)):=by rw [hV];simp [go_sem]
 rw [<-hV] at hb
 have hN:=h.over hb
 obtain ⟨n8,n9,n10,n11,n12,n13,n14⟩:=hN.cells
 have hc:=BW hN.vs hv
 have hc2:=BW hN.cs ho
 obtain ⟨r,hr⟩:=nm (st.vs.getD jv false)
 obtain ⟨r2,hr2⟩:=nm (st.cs.getD jo false)
 obtain ⟨nv,hnv⟩:=nm st.vs.length
 obtain ⟨nc,hnc⟩:=nm st.cs.length
 rw [<-hr,<-hr2]
 rw [<-hr] at hc
 rw [<-hr2] at hc2
 rw [<-hnv] at n11 hv hlv
 rw [<-hnc] at n12 ho hlc
 have hv1:(jv:Int) < (nv:Int):=by omega
 have ho1:(jo:Int) < (nc:Int):=by omega
 have HB:=Aa hb
 clear hr hr2 hnv hnc hN h hb n8 n9 n10 n13 n14 k9 hln
 cases r with
 | true=>
  go_enter Tryz.func196,Tryz.ntmps196
  go_wp2_with fail
  rw [<-hV]
  clear hV
  refine gS (fun Wz=>Below V.heap.size V Wz) (Below.refl _ _).drew fun hHeld=>?_
  generalize V.drew=W at hHeld ⊢
  refine kO 0 ?_
  refine kO 1 ?_
  refine kO 2 ?_
  refine kO 3 ?_
  refine kO 4 ?_
  refine kO 5 ?_
  refine kO 6 ?_
  refine kO 7 ?_
  refine kO 8 ?_
  refine kO 9 ?_
  refine kU 10 ?_
  refine kU 11 ?_
  refine kU 12 ?_
  refine kU 13 ?_
  refine kU 14 ?_
  refine kU 15 ?_
  refine kU 16 ?_
  refine kU 17 ?_
  refine kU 18 ?_
  refine kO 19 ?_
  refine kO 20 ?_
  refine gE ?_
  go_wp2_with fail
  go_ret
  exact ⟨by rfl,HB.o.trans (hHeld.mono HB.o.size)⟩
 | false=>
  go_enter Tryz.func196,Tryz.ntmps196
  go_wp2_with fail
  rw [<-hV]
  clear hV
  refine gS (fun Wz=>Below V.heap.size V Wz) (Below.refl _ _).drew fun hHeld=>?_
  generalize V.drew=W at hHeld ⊢
  refine kO 0 ?_
  refine kO 1 ?_
  refine kO 2 ?_
  refine kO 3 ?_
  refine kO 4 ?_
  refine kO 5 ?_
  refine kO 6 ?_
  refine kO 7 ?_
  refine kO 8 ?_
  refine kO 9 ?_
  refine kO 10 ?_
  refine kO 11 ?_
  refine kO 12 ?_
  refine kO 13 ?_
  refine kO 14 ?_
  refine kO 15 ?_
  refine kO 16 ?_
  refine kO 17 ?_
  refine kO 18 ?_
  refine kO 19 ?_
  refine kO 20 ?_
  refine gE ?_
  go_wp2_with fail
  go_ret
  exact ⟨by rfl,HB.o.trans (hHeld.mono HB.o.size)⟩
theorem MV {w0:World} {pc:List Value} {ch:Int} {cv fv:Value} {bn bv bi bs:Nat} {st:NS} {W:World} (h:NI w0 pc ch cv fv bn bv bi bs st W) (hlv:st.vs.length<=1000) (hlc:st.cs.length<=1000) (hln:st.nd.length<=1000) (x e:Nat) (ek en:Int) (xa xl xc aa al ac ta tl tc ea el ec) (va ot:Int) (hx:x+1<=e) (he:e<=st.nd.length) :
  Calls Tryz.prog 196 #[zi (some ⟨bn,0,none⟩),zd U (x:Int),zg #[zd U 7,zd U va,zd U ot,zd U ek,zd U en,O xa xl xc,O aa al ac,O ta tl tc,O ea el ec,zd U (e:Int)]] W fun r W'=>r=zh (ze (CA st.nd (x+1) e))/\Ov W W':=by
 have hb:Ov W ((W.alloc (zf #[zi (some ⟨bn,0,none⟩)] 157)).alloc (zf #[zd U 7,zd U va,zd U ot,zd U ek,zd U en,O xa xl xc,O aa al ac,O ta tl tc,O ea el ec,zd U (e:Int)] 249)):=(bA W _).alloc (by simp) _
 obtain ⟨V,hV⟩:=nm ((W.alloc (zf #[zi (some ⟨bn,0,none⟩)] 157)).alloc (zf #[zd U 7,zd U va,zd U ot,zd U ek,zd U en,O xa xl xc,O aa al ac,O ta tl tc,O ea el ec,zd U (e:Int)] 249))
 have kb:V.cell? ⟨W.heap.size,0,none⟩=some (zi (some ⟨bn,0,none⟩)):=by rw [hV];simp [go_sem]
 have k0:V.cell? ⟨W.heap.size+1,0,none⟩=some (zd U 7):=by rw [hV];simp [go_sem]
 have k1:V.cell? ⟨W.heap.size+1,1,none⟩=some (zd U va):=by rw [hV];simp [go_sem]
 have k2:V.cell? ⟨W.heap.size+1,2,none⟩=some (zd U ot):=by rw [hV];simp [go_sem]
 have k9:V.cell? ⟨W.heap.size+1,9,none⟩=some (zd U (e:Int)):=by rw [hV];simp [go_sem]
 rw [<-hV] at hb
 have hN:=h.over hb
 obtain ⟨n8,n9,n10,n11,n12,n13,n14⟩:=hN.cells
 have K1:=Aa (FR hN (x+1) e hx he hln)
 have HB:=Aa hb
 have hx1:x<=1000:=by omega
 clear hN h hb n8 n9 n10 n11 n12 n13 n14 k1 k2 hlv hlc hln hx he
 go_enter Tryz.func196,Tryz.ntmps196
 go_wp2_with fail
 rw [<-hV]
 clear hV
 refine K1.o.mono ?_
 rintro r W1 ⟨rfl,hb1⟩
 go_wp2_with fail
 go_ret
 exact ⟨rfl,HB.o.trans (hb1.mono HB.o.size)⟩
theorem MU {w0:World} {pc:List Value} {ch:Int} {cv fv:Value} {bn bv bi bs:Nat} {st:NS} {W:World} (h:NI w0 pc ch cv fv bn bv bi bs st W) (hlv:st.vs.length<=1000) (hlc:st.cs.length<=1000) (hln:st.nd.length<=1000) (x e:Nat) (ek en:Int) (xa xl xc aa al ac ta tl tc ea el ec) (va ot:Int) (hx:x+1<=e) (he:e<=st.nd.length) :
  Calls Tryz.prog 196 #[zi (some ⟨bn,0,none⟩),zd U (x:Int),zg #[zd U 8,zd U va,zd U ot,zd U ek,zd U en,O xa xl xc,O aa al ac,O ta tl tc,O ea el ec,zd U (e:Int)]] W fun r W'=>r=zh (ze (CA st.nd (x+1) e))/\Ov W W':=by
 have hb:Ov W ((W.alloc (zf #[zi (some ⟨bn,0,none⟩)] 157)).alloc (zf #[zd U 8,zd U va,zd U ot,zd U ek,zd U en,O xa xl xc,O aa al ac,O ta tl tc,O ea el ec,zd U (e:Int)] 249)):=(bA W _).alloc (by simp) _
 obtain ⟨V,hV⟩:=nm ((W.alloc (zf #[zi (some ⟨bn,0,none⟩)] 157)).alloc (zf #[zd U 8,zd U va,zd U ot,zd U ek,zd U en,O xa xl xc,O aa al ac,O ta tl tc,O ea el ec,zd U (e:Int)] 249))
 have kb:V.cell? ⟨W.heap.size,0,none⟩=some (zi (some ⟨bn,0,none⟩)):=by rw [hV];simp [go_sem]
 have k0:V.cell? ⟨W.heap.size+1,0,none⟩=some (zd U 8):=by rw [hV];simp [go_sem]
 have k1:V.cell? ⟨W.heap.size+1,1,none⟩=some (zd U va):=by rw [hV];simp [go_sem]
 have k2:V.cell? ⟨W.heap.size+1,2,none⟩=some (zd U ot):=by rw [hV];simp [go_sem]
 have k9:V.cell? ⟨W.heap.size+1,9,none⟩=some (zd U (e:Int)):=by rw [hV];simp [go_sem]
 rw [<-hV] at hb
 have hN:=h.over hb
 obtain ⟨n8,n9,n10,n11,n12,n13,n14⟩:=hN.cells
 have K1:=Aa (FR hN (x+1) e hx he hln)
 have HB:=Aa hb
 have hx1:x<=1000:=by omega
 clear hN h hb n8 n9 n10 n11 n12 n13 n14 k1 k2 hlv hlc hln hx he
 go_enter Tryz.func196,Tryz.ntmps196
 go_wp2_with fail
 rw [<-hV]
 clear hV
 refine K1.o.mono ?_
 rintro r W1 ⟨rfl,hb1⟩
 go_wp2_with fail
 go_ret
 exact ⟨rfl,HB.o.trans (hb1.mono HB.o.size)⟩
theorem M0 {w0:World} {pc:List Value} {ch:Int} {cv fv:Value} {bn bv bi bs:Nat} {st:NS} {W:World} (h:NI w0 pc ch cv fv bn bv bi bs st W) (hlv:st.vs.length<=1000) (hlc:st.cs.length<=1000) (hln:st.nd.length<=1000) (x e:Nat) (ek en:Int) (xa xl xc aa al ac ta tl tc ea el ec) (jv jo:Nat) (hv:jv < st.vs.length) (K kf:Nat) (fs:List FnD) (fa:Option Addr) (fn fc:Nat) (hpf:pc[6]? = some (O fa fn fc)) (hF:AL w0 K kf (O fa fn fc) fs) (ho:jo < fs.length) (hf5:fs.length<=1000) (hps:(AQ fs (jo:Int)).ps.length<=6/\∀ p∈(AQ fs (jo:Int)).ps,0<=p/\p < (st.vs.length:Int)) (bf cf:Nat) (hfv:fv=O (some ⟨bf,0,none⟩) (fs.length+1) cf) (hft:∀ i,i<=fs.length->W.cell? ⟨bf,i,none⟩=some (zd U ((An kf (fs.take i):Nat):Int))) (hct:An kf fs<=st.nd.length) :
  Calls Tryz.prog 196 #[zi (some ⟨bn,0,none⟩),zd U (x:Int),zg #[zd U 2,zd U (jv:Int),zd U (jo:Int),zd U ek,zd U en,O xa xl xc,O aa al ac,O ta tl tc,O ea el ec,zd U (e:Int)]] W fun r W'=>r=zh (ze (st.vs.getD jv false || (AQ fs (jo:Int)).ps.any (fun p=>st.vs.getD p.toNat false) || CA st.nd (An kf (fs.take jo)) (An kf (fs.take (jo+1)))))/\Ov W W':=by
 have hb:Ov W ((W.alloc (zf #[zi (some ⟨bn,0,none⟩)] 157)).alloc (zf #[zd U 2,zd U (jv:Int),zd U (jo:Int),zd U ek,zd U en,O xa xl xc,O aa al ac,O ta tl tc,O ea el ec,zd U (e:Int)] 249)):=(bA W _).alloc (by simp) _
 obtain ⟨V,hV⟩:=nm ((W.alloc (zf #[zi (some ⟨bn,0,none⟩)] 157)).alloc (zf #[zd U 2,zd U (jv:Int),zd U (jo:Int),zd U ek,zd U en,O xa xl xc,O aa al ac,O ta tl tc,O ea el ec,zd U (e:Int)] 249))
 have kb:V.cell? ⟨W.heap.size,0,none⟩=some (zi (some ⟨bn,0,none⟩)):=by rw [hV];simp [go_sem]
 have k0:V.cell? ⟨W.heap.size+1,0,none⟩=some (zd U 2):=by rw [hV];simp [go_sem]
 have k1:V.cell? ⟨W.heap.size+1,1,none⟩=some (zd U (jv:Int)):=by rw [hV];simp [go_sem]
 have k2:V.cell? ⟨W.heap.size+1,2,none⟩=some (zd U (jo:Int)):=by rw [hV];simp [go_sem]
 have k9:V.cell? ⟨W.heap.size+1,9,none⟩=some (zd U (e:Int)):=by rw [hV];simp [go_sem]
 rw [<-hV] at hb
 have hN:=h.over hb
 obtain ⟨n8,n9,n10,n11,n12,n13,n14⟩:=hN.cells
 have hff:AQ fs (jo:Int)=fs[jo]:=by unfold AQ;rw [show (jo:Int).toNat=jo from rfl,List.getD_eq_getElem?_getD,List.getElem?_eq_getElem ho];rfl
 rw [hff] at hps ⊢
 have n6:CE V bn 6 (O fa fn fc):=hN.prog 6 _ hpf
 obtain ⟨hfm,fa2,fc2,hfe,hfel⟩:=hF
 injection hfe with f1 f2 f3
 obtain ⟨fb,fo,hfo,hfel⟩:=hfel (by rintro rfl;simp at ho)
 obtain ⟨vP,vB,z0,z1,z2,p0,-,-,-,-,hPs,hPok,-,-⟩:=hfel jo ho
 have hwV:Ov w0 V:=hN.below
 have p0V:=Ab hwV _ _ p0
 obtain ⟨-,pa,pcap,rfl,-⟩:=id hPok
 subst f1 f2 hfo
 have hPV:=hPs.over hwV
 have ft1:=Ab hb _ _ (hft jo (by omega))
 have ft2:=Ab hb _ _ (hft (jo+1) (by omega))
 subst hfv
 have KV:=Aa fun (Wz:World) (hz:Ov V Wz)=>Ib (hN.over hz) hlv W.heap.size (Ab hz _ _ kb) (jv:Int) ⟨by omega,by omega⟩
 have KC:=Aa fun (Wz:World) (hz:Ov V Wz)=>Hh 232 [zi (some ⟨W.heap.size,0,none⟩)] (fun p=>st.vs.getD p.toNat false) _ _ Wz (hPV.over hz) hps.1 (fun i hi w1 hw1=>Ib (hN.over (hz.trans (hw1.mono hz.size))) hlv W.heap.size (Ab (hz.trans (hw1.mono hz.size)) _ _ kb) _ (hps.2 _ (List.getElem_mem hi))) (enters_of Tryz.func232 (by kernel_rfl) rfl)
 have hcl:=E3 (k:=kf) ho
 have KO:=Aa fun (Wz:World) (hz:Ov V Wz)=>FR (hN.over hz) (An kf (fs.take jo)) (An kf (fs.take (jo+1))) hcl.1 (by omega) hln
 rw [show (jv:Int).toNat=jv from rfl] at KV
 obtain ⟨c1,hc1⟩:=nm (An kf (fs.take jo))
 obtain ⟨c2,hc2⟩:=nm (An kf (fs.take (jo+1)))
 rw [<-hc1] at ft1 KO ⊢
 rw [<-hc2] at ft2 KO ⊢
 obtain ⟨r1,hr1⟩:=nm (st.vs.getD jv false)
 obtain ⟨r2,hr2⟩:=nm (fs[jo].ps.any (fun p=>st.vs.getD p.toNat false))
 obtain ⟨r3,hr3⟩:=nm (CA st.nd c1 c2)
 rw [<-hr1] at KV
 rw [<-hr2] at KC
 rw [<-hr3] at KO
 rw [<-hr1,<-hr2,<-hr3]
 obtain ⟨pl,hpl⟩:=nm fs[jo].ps.length
 rw [<-hpl] at p0V KC
 obtain ⟨fl,hfl⟩:=nm fs.length
 have ho1:(jo:Int) < (fl:Int):=by omega
 have ho2:(jo:Int)+1 < (fl:Int)+1:=by omega
 have ho3:(jo:Int) < (fl:Int)+1:=by omega
 have hfm2:fl<=9223372036854775807:=by rw [hfl];exact hfm
 rw [<-hfl] at n6 n10
 have HB:=Aa hb
 have hjo:jo<=1000:=by omega
 obtain ⟨m1,hm1⟩:=nm (jo+1)
 have hw1:IntKind.i64.wrap ((jo:Int)+1)=(m1:Int):=by rw [IntKind.wrap_i64];omega
 have ho4:(m1:Int) < (fl:Int)+1:=by omega
 rw [<-hm1] at ft2
 clear hm1 ho2 hr1 hr2 hr3 hpl hfl hc1 hc2 hN h hb n8 n9 n11 n12 n13 n14 k9 hlv hlc hln p0 hpf f3 hps hff hfm hfel hPs hPok hwV hPV hft hct hcl ho hv hf5
 cases r1 with
 | true=>
  go_enter Tryz.func196,Tryz.ntmps196
  go_wp2_with fail
  rw [<-hV]
  clear hV
  refine gS (fun Wz=>Below V.heap.size V Wz) (Below.refl _ _).drew fun hHeld=>?_
  generalize V.drew=W at hHeld ⊢
  refine kO 0 ?_
  refine kO 1 ?_
  refine kO 2 ?_
  refine kO 3 ?_
  refine rdA 4 rfl fun K hK=>?_
  go_simp
  obtain ⟨Wc,rfl⟩:=nm W
  refine (KV.o _ hHeld).mono ?_
  rintro e0 W ⟨rfl,hb⟩
  go_simp
  refine xK hK (Ag hHeld hb) fun hHeld=>?_
  clear hK K
  refine kO 5 ?_
  refine kU 6 ?_
  refine kU 7 ?_
  refine kU 8 ?_
  refine kU 9 ?_
  refine kU 10 ?_
  refine kU 11 ?_
  refine kU 12 ?_
  refine kU 13 ?_
  refine kU 14 ?_
  refine kU 15 ?_
  refine kU 16 ?_
  refine kU 17 ?_
  refine kU 18 ?_
  refine kO 19 ?_
  refine kO 20 ?_
  refine kU 21 ?_
  refine kU 22 ?_
  refine kU 23 ?_
  refine kU 24 ?_
  refine kU 25 ?_
  refine kU 26 ?_
  refine kU 27 ?_
  refine kU 28 ?_
  refine kU 29 ?_
  refine kU 30 ?_
  refine kU 31 ?_
  refine kU 32 ?_
  refine kU 33 ?_
  refine kU 34 ?_
  refine kU 35 ?_
  refine kU 36 ?_
  refine kU 37 ?_
  refine kU 38 ?_
  refine kU 39 ?_
  refine kU 40 ?_
  refine kU 41 ?_
  refine kO 42 ?_
  refine kO 43 ?_
  refine gE ?_
  go_wp2_with fail
  go_ret
  exact ⟨by rfl,HB.o.trans (hHeld.mono HB.o.size)⟩
 | false=>
  cases r2 with
  | true=>
   go_enter Tryz.func196,Tryz.ntmps196
   go_wp2_with fail
   rw [<-hV]
   clear hV
   refine gS (fun Wz=>Below V.heap.size V Wz) (Below.refl _ _).drew fun hHeld=>?_
   generalize V.drew=W at hHeld ⊢
   refine kO 0 ?_
   refine kO 1 ?_
   refine kO 2 ?_
   refine kO 3 ?_
   refine rdA 4 rfl fun K hK=>?_
   go_simp
   obtain ⟨Wc,rfl⟩:=nm W
   refine (KV.o _ hHeld).mono ?_
   rintro e0 W ⟨rfl,hb⟩
   go_simp
   refine xK hK (Ag hHeld hb) fun hHeld=>?_
   clear hK K
   refine kO 5 ?_
   refine kO 6 ?_
   refine kO 7 ?_
   refine kO 8 ?_
   refine kO 9 ?_
   refine kO 10 ?_
   refine kO 11 ?_
   refine kO 12 ?_
   refine kO 13 ?_
   refine kO 14 ?_
   refine kO 15 ?_
   refine kO 16 ?_
   refine kO 17 ?_
   refine rdA 18 rfl fun K hK=>?_
   go_simp
   obtain ⟨Wc,rfl⟩:=nm W
   refine (KC.o _ hHeld).mono ?_
   rintro e0 W ⟨rfl,hb⟩
   go_simp
   refine xK hK (Ag hHeld hb) fun hHeld=>?_
   clear hK K
   refine kO 19 ?_
   refine kO 20 ?_
   refine kU 21 ?_
   refine kU 22 ?_
   refine kU 23 ?_
   refine kU 24 ?_
   refine kU 25 ?_
   refine kU 26 ?_
   refine kU 27 ?_
   refine kU 28 ?_
   refine kU 29 ?_
   refine kU 30 ?_
   refine kU 31 ?_
   refine kU 32 ?_
   refine kU 33 ?_
   refine kU 34 ?_
   refine kU 35 ?_
   refine kU 36 ?_
   refine kU 37 ?_
   refine kU 38 ?_
   refine kU 39 ?_
   refine kU 40 ?_
   refine kU 41 ?_
   refine kO 42 ?_
   refine kO 43 ?_
   refine gE ?_
   go_wp2_with fail
   go_ret
   exact ⟨by rfl,HB.o.trans (hHeld.mono HB.o.size)⟩
  | false=>
   go_enter Tryz.func196,Tryz.ntmps196
   go_wp2_with fail
   rw [<-hV]
   clear hV
   refine gS (fun Wz=>Below V.heap.size V Wz) (Below.refl _ _).drew fun hHeld=>?_
   generalize V.drew=W at hHeld ⊢
   refine kO 0 ?_
   refine kO 1 ?_
   refine kO 2 ?_
   refine kO 3 ?_
   refine rdA 4 rfl fun K hK=>?_
   go_simp
   obtain ⟨Wc,rfl⟩:=nm W
   refine (KV.o _ hHeld).mono ?_
   rintro e0 W ⟨rfl,hb⟩
   go_simp
   refine xK hK (Ag hHeld hb) fun hHeld=>?_
   clear hK K
   refine kO 5 ?_
   refine kO 6 ?_
   refine kO 7 ?_
   refine kO 8 ?_
   refine kO 9 ?_
   refine kO 10 ?_
   refine kO 11 ?_
   refine kO 12 ?_
   refine kO 13 ?_
   refine kO 14 ?_
   refine kO 15 ?_
   refine kO 16 ?_
   refine kO 17 ?_
   refine rdA 18 rfl fun K hK=>?_
   go_simp
   obtain ⟨Wc,rfl⟩:=nm W
   refine (KC.o _ hHeld).mono ?_
   rintro e0 W ⟨rfl,hb⟩
   go_simp
   refine xK hK (Ag hHeld hb) fun hHeld=>?_
   clear hK K
   refine kO 19 ?_
   refine kO 20 ?_
   refine kO 21 ?_
   refine kO 22 ?_
   refine kO 23 ?_
   refine kO 24 ?_
   refine kO 25 ?_
   refine kO 26 ?_
   refine kO 27 ?_
   refine kO 28 ?_
   refine kO 29 ?_
   refine kO 30 ?_
   refine kO 31 ?_
   refine kO 32 ?_
   refine kO 33 ?_
   refine kO 34 ?_
   refine kO 35 ?_
   refine kO 36 ?_
   refine kO 37 ?_
   refine kO 38 ?_
   refine kO 39 ?_
   refine kO 40 ?_
   refine rdA 41 rfl fun K hK=>?_
   go_simp
   obtain ⟨Wc,rfl⟩:=nm W
   refine (KO.o _ hHeld).mono ?_
   rintro e0 W ⟨rfl,hb⟩
   go_simp
   refine xK hK (Ag hHeld hb) fun hHeld=>?_
   clear hK K
   refine kO 42 ?_
   refine kO 43 ?_
   refine gE ?_
   go_wp2_with fail
   go_ret
   exact ⟨by rfl,HB.o.trans (hHeld.mono HB.o.size)⟩
end Go.Proofs.YtfffpjkcfnekaaaGreat.Ex
