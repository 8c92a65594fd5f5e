/- Runs held against each other. -/
import Derived.Test.YtfffpjkcfnekaaaGreatH35
import Derived.Deep.CutBlock
set_option linter.unusedVariables false
set_option maxHeartbeats 8000000
set_option maxRecDepth 100000
namespace Go.Proofs.YtfffpjkcfnekaaaGreat.Ex
open Go.RowKit
open Go.Value renaming slice -> O, int -> zd, bool -> ze, agg -> zg, pointer -> zi, tuple -> zj
open Go.IntKind renaming i64 -> U
open Go.Obj renaming cells -> zf
open Go.Ending renaming returned -> zh
theorem Er:∀ (l:List Ev4) (i:Nat) (h:i < l.length),(Bp l)[i*4]? = some (zd U l[i].1)/\(Bp l)[i*4+1]? = some (zd U l[i].2.1)/\(Bp l)[i*4+2]? = some (zd U l[i].2.2.1)/\(Bp l)[i*4+3]? = some (zd U l[i].2.2.2)
 | [],i,h=>by simp at h
 | e::r,0,h=>⟨rfl,rfl,rfl,rfl⟩
 | e::r,i+1,h=>by
  have:=Er r i (by simpa using h)
  rw [Nat.succ_mul]
  simpa [Bp] using this
def Fk (w:World) (v:Value) (l:List Ev4):Prop:=∃ ao cap,v=O ao l.length cap/\l.length<=cap/\cap<=maxLen/\(l≠[]->∃ b,ao=some ⟨b,0,none⟩/\Ad (Bp l) w b)
theorem Fk.over {w w':World} {v:Value} {l:List Ev4} (h:Fk w v l) (hb:Below w.heap.size w w'):Fk w' v l:=by
 obtain ⟨ao,cap,hv,hc,hm,hr⟩:=h
 exact ⟨ao,cap,hv,hc,hm,fun hne=>by obtain ⟨b,h1,h2⟩:=hr hne;exact ⟨b,h1,h2.over hb⟩⟩
theorem Fk.of_own {w:World} {B:Nat} {v:Value} {l:List Ev4} (h:w.ownsRow B 136 4 v l.length (Bp l)):Fk w v l:=by
 rcases h.2 with ⟨h1,h2⟩ | ⟨g,cap,cur,hv,hb,hg,h1,h2,h3,h4⟩
 ·exact ⟨none,0,by rw [h1,h2],by omega,by unfold maxLen;omega,fun hne=>absurd (List.length_eq_zero_iff.1 h2) hne⟩
 ·refine ⟨_,cap,hv,h1,h2,fun _=>⟨g,rfl,fun j u hu=>?_⟩⟩
  have:=h.cells (g:=g) (by rw [hv];rfl) j u hu
  rwa [Addr.add_lit,Nat.zero_add] at this
theorem El (l:List Int) (va vb:Value) (w:World) (ha:Aq w va l) (hb:Aq w vb l) (hl:l.length<=9223372036854775807) :
  Calls Tryz.prog 32 #[va,vb] w fun e w'=>e=zh (ze true)/\∃ n,w'=w.drewN n:=by
 obtain ⟨ao,ac,rfl,hac⟩:=ha
 obtain ⟨bo,bc,rfl,hbc⟩:=hb
 have HA:=Aa hac
 have HB:=Aa hbc
 clear hac hbc
 go_enter Tryz.func32,Tryz.ntmps32
 go_wp2_with fail
 go_loopw [5] (fun i wr=>∃ j:Nat,j<=l.length/\i=zd U j/\∃ n,wr=w.drewN n) (fun i _=>l.length - (intOf i).toNat)
 case atStart=>exact ⟨0,Nat.zero_le _,rfl,0,rfl⟩
 case round=>
  obtain ⟨j,hj,rfl,n,rfl⟩:=hrel
  by_cases hjl:j < l.length
  ·obtain ⟨b,off,rfl,hel⟩:=HA.o (by intro hz;rw [hz] at hjl;simp at hjl)
   obtain ⟨b',off',rfl,hel'⟩:=HB.o (by intro hz;rw [hz] at hjl;simp at hjl)
   have q0:=hel j hjl
   have q1:=hel' j hjl
   have hji:(j:Int) < (l.length:Int):=by omega
   obtain ⟨x,hx⟩:∃ x,x=l[j]:=⟨_,rfl⟩
   rw [<-hx] at q0 q1
   obtain ⟨n0,hn0⟩:∃ q,q=l.length:=⟨_,rfl⟩
   rw [<-hn0] at hji ⊢
   have HN0:=Aa hn0
   clear hel hel' hx hn0
   go_wp2_with fail
   go_quiet ((fail))
   go_wp2_with fail
   have hn0:=HN0.o
   subst hn0
   exact ⟨⟨j+1,by omega,by go_num,_,by first | rfl | exact World.drewN_drewN _ _ _⟩,by simp [intOf];omega⟩
  ·go_wp2_with fail
   go_ret
   exact ⟨rfl,n,by first | rfl | trivial⟩
theorem II {ch:Int} {l:List Ev4} {j:Nat} (h:j < l.length):Bg ch (l.take (j+1))=Bg ch (l.take j)++Bg ch [l[j]]:=by
 rw [List.take_succ_eq_append_getElem h,Dc]
theorem EL (ch:Int) (l:List Ev4):(Bg ch l).length<=l.length:=by
 unfold Bg
 exact List.length_filterMap_le _ _
theorem Gk (ch:Int) (l:List Ev4) (v:Value) (w:World) (h:Fk w v l) (hl:l.length<=10000) :
  Calls Tryz.prog 31 #[v,zd U ch] w fun e w'=>∃ a c,e=zh (O a (Bg ch l).length c)/\Off w.heap.size none w' (fun W=>Aq W (O a (Bg ch l).length c) (Bg ch l))/\((Bg ch l).length<=c/\c<=maxLen)/\Ov w w':=by
 obtain ⟨ao,cap,rfl,-,-,hr⟩:=h
 obtain ⟨i0,hi,hz0,hz1,hz2⟩:=info_parts Tryz.infoIc
 have HR:=Aa hr
 clear hr
 go_enter Tryz.func31,Tryz.ntmps31
 go_wp2_with fail
 go_loopw [5,6] (fun u i wr=>∃ j:Nat,j<=l.length/\i=zd U j/\wr.ownsRow w.heap.size 3 1 u (Bg ch (l.take j)).length (Ba (Bg ch (l.take j)))/\Ov w wr) (fun _ i _=>l.length - (intOf i).toNat)
 case atStart=>exact ⟨0,Nat.zero_le _,rfl,World.ownsRow_nil _ _ _ _,Below.refl _ _⟩
 case round=>
  obtain ⟨j,hj,rfl,hown,hB⟩:=hrel
  obtain ⟨oa,on,oc,rfl⟩:=AK hown
  by_cases hlt:j < l.length
  ·obtain ⟨b,rfl,hel⟩:=HR.o (by rintro rfl;simp at hlt)
   obtain ⟨g0,g1,g2,g3⟩:=Er l j hlt
   have q0:=Ab hB _ _ (hel _ _ g0)
   have q2:=Ab hB _ _ (hel _ _ g2)
   have q3:=Ab hB _ _ (hel _ _ g3)
   have hji:(j:Int) < (l.length:Int):=by omega
   obtain ⟨x0,hx0⟩:=nm (l[j].1)
   obtain ⟨x2,hx2⟩:=nm (l[j].2.2.1)
   obtain ⟨x3,hx3⟩:=nm (l[j].2.2.2)
   rw [<-hx0] at q0
   rw [<-hx2] at q2
   rw [<-hx3] at q3
   have HPT:=Aa (II (ch:=ch) hlt)
   have HPO:Hx (Bg ch [l[j]]=if x0=1/\x2=ch then [x3] else []):=by
    show _=_
    rw [hx0,hx2,hx3]
    unfold Bg
    split
    ·rename_i hh;simp [hh]
    ·rename_i hh;simp [hh]
   have hj9:j<=10000:=by omega
   obtain ⟨pn,hpn⟩:=nm (Bg ch (l.take j)).length
   have HPN:=Aa hpn
   have hpl:pn<=10000:=by have h1:=EL ch (l.take j);rw [hpn];rw [List.length_take] at h1;omega
   obtain ⟨n0,hn0⟩:=nm l.length
   have HN0:=Aa hn0
   rw [<-hpn] at hown
   rw [<-hn0] at hji ⊢
   have HOWN:=Aa hown
   have HB:=Aa hB
   clear hel g0 g1 g2 g3 hx0 hx2 hx3 HR hpn hn0 hj hl hown hB
   by_cases z0:x0=1
   rotate_left
   ·have y0:(x0 == 1)=false:=by simpa using z0
    have HE:Hx (Bg ch (l.take (j+1))=Bg ch (l.take j)):=by show _=_;rw [HPT.o,HPO.o,if_neg (fun h=>z0 h.1),List.append_nil]
    clear z0
    go_wp2_with fail
    exact ⟨⟨j+1,by have:=HN0.o;omega,by go_num,by rw [HE.o,<-HPN.o];exact HOWN.o,HB.o⟩,by have:=HN0.o;simp [intOf];omega⟩
   subst z0
   by_cases z2:x2=ch
   rotate_left
   ·have y2:(x2 == ch)=false:=by simpa using z2
    have HE:Hx (Bg ch (l.take (j+1))=Bg ch (l.take j)):=by show _=_;rw [HPT.o,HPO.o,if_neg (fun h=>z2 h.2),List.append_nil]
    clear z2
    go_wp2_with fail
    exact ⟨⟨j+1,by have:=HN0.o;omega,by go_num,by rw [HE.o,<-HPN.o];exact HOWN.o,HB.o⟩,by have:=HN0.o;simp [intOf];omega⟩
   have y2:(x2 == ch)=true:=by simpa using z2
   have HE:Hx (Bg ch (l.take (j+1))=Bg ch (l.take j)++[x3]):=by show _=_;rw [HPT.o,HPO.o,if_pos ⟨rfl,z2⟩]
   clear z2 HPO
   have hb3:Ov wr (wr.alloc (zf #[zd U x3] 3)):=bA _ _
   have hown1:=Ca HOWN.o hb3
   have hN:=Ay wr [zd U x3] 3
   have hBW:w.heap.size<=(wr.alloc (zf #[zd U x3] 3)).heap.size:=Nat.le_trans HB.o.size hb3.size
   have HN:=Aa hN
   have HB3:Hx (Ov w (wr.alloc (zf #[zd U x3] 3))):=HB.o.trans (hb3.mono HB.o.size)
   clear hb3 hN
   go_wp2_with (at_builtin;refine wpList_append_own_at _ rfl _ _ 25 rfl w.heap.size 3 i0 (zd U 0) 1 8 Tryz.underlying25 hi hz0 hz1 hz2 rfl (by decide) _ _ _ rfl hown1 ⟨wr.heap.size,0,none⟩ 1 1 [zd U x3] rfl rfl (fun jj u hu=>by rw [Addr.add_lit,Nat.zero_add];exact HN.o jj u hu) (by simp [Value.oneCell']) (by unfold maxLen;omega) (by omega) hBW ?_)
   intro v2 w2 hown2 hgr2 _ hat
   obtain ⟨va2,vn2,vc2,rfl⟩:=AK hown2
   have hov:Ov w w2:=HB3.o.trans (AG hown1 hgr2 hBW)
   have HFIN:Hx (w2.ownsRow w.heap.size 3 1 (O va2 vn2 vc2) (Bg ch (l.take (j+1))).length (Ba (Bg ch (l.take (j+1))))):=by
    show World.ownsRow _ _ _ _ _ _ _
    rw [HE.o,List.length_append,<-HPN.o]
    have e:Ba (Bg ch (l.take j)++[x3])=Ba (Bg ch (l.take j))++[zd U x3]:=by simp [Ba]
    rw [e]
    exact hown2
   have HOV:=Aa hov
   clear hown1 hown2 hgr2 hat hBW hov
   go_wp2_with fail
   exact ⟨⟨j+1,by have:=HN0.o;omega,by go_num,HFIN.o,HOV.o⟩,by have:=HN0.o;simp [intOf];omega⟩
  ·have hje:j=l.length:=by omega
   subst hje
   rw [List.take_length] at hown
   have HO:=Aa (Gq hown)
   have HC:Hx (∃ c,Value.slice oa on oc=O oa (Bg ch l).length c/\(Bg ch l).length<=c/\c<=maxLen):=by
    rcases hown.2 with ⟨h1,h0⟩ | ⟨g,cap,cur,h1,_,_,h3,h4,_⟩
    ·injection h1 with e1 e2 e3
     exact ⟨0,by rw [e2,e3,h0],by rw [h0];exact Nat.le_refl _,by unfold maxLen;omega⟩
    ·injection h1 with e1 e2 e3
     exact ⟨cap,by rw [e2,e3],h3,h4⟩
   have HB:=Aa hB
   clear hown hB HR hlt
   go_wp2_with fail
   go_ret
   obtain ⟨c,he,h1,h2⟩:=HC.o
   refine ⟨oa,c,by rw [<-he];rfl,?_,⟨h1,h2⟩,HB.o⟩
   rw [<-he]
   exact HO.o
theorem Ix:Ce 1 1 [] (9:Int).toNat [[7]] AF [sm1,sm2] 1 1 o0=⟨[(1,1,0,7)],[7],[1],2,1,0,o0⟩:=by kernel_rfl
structure F6 (bi bo bv bm bx by':Nat) (w:World):Prop where
 small:Fb bi bo bv bm w
 xs:w.cell? ⟨bx,0,none⟩=some (O (some ⟨by',0,none⟩) 1 1)
 ys:w.cell? ⟨by',0,none⟩=some (zd U 7)
def Ran (w:World) (e:Ending) (w':World):Prop:=
 ∃ g c b1 b2,e=zh (zj #[zg #[O (some ⟨g,0,none⟩) 1 c,O (some ⟨b1,0,none⟩) 1 1,O (some ⟨b2,0,none⟩) 1 1,zd U 2,zd U 1,zd U 0],zd U 0])/\Ad [zd U 1,zd U 1,zd U 0,zd U 7] w' g/\w'.cell? ⟨b2,0,none⟩=some (zd U 1)/\Ov w w'
theorem Iy:okR 1 1 1 1 1 1 0 [] [] [⟨[],[]⟩] [⟨[],[]⟩] [(false,⟨[],[]⟩)] [] [sm1,sm2] [[7]] 9:=
 ⟨Mh,rfl,fun x hx=>by simp at hx;subst hx;simp,fun x hx y hy=>by simp at hx;subst hx;simp at hy;subst hy;exact ⟨by omega,by omega⟩,by omega,by omega⟩
theorem Jg (bi bo bv bm bx by':Nat) (w:World) (hS:F6 bi bo bv bm bx by' w) :
  Calls Tryz.prog 18 #[D8 bi bo bv bm,O (some ⟨bx,0,none⟩) 1 1,zd U 9] w (Ran w):=by
 have hx:Bm w (O (some ⟨bx,0,none⟩) 1 1) [[7]]:=by
  refine ⟨by simp [maxLen],some ⟨bx,0,none⟩,1,rfl,fun _=>⟨bx,0,rfl,fun i hi=>?_⟩⟩
  have:i=0:=by simp at hi;omega
  subst this
  refine ⟨_,hS.xs,⟨some ⟨by',0,none⟩,1,rfl,fun _=>⟨by',0,rfl,fun j hj=>?_⟩⟩,by simp⟩
  have:j=0:=by simp at hj;omega
  subst this
  exact hS.ys
 refine (F7 1 1 1 none 0 0 none 0 0 (some ⟨bi,0,none⟩) 1 1 (some ⟨bo,0,none⟩) 1 1 (some ⟨bv,0,none⟩) 1 1 none 0 0 (some ⟨bm,0,none⟩) 2 2 (some ⟨bx,0,none⟩) 1 1 [[7]] 9 [] [] [⟨[],[]⟩] [⟨[],[]⟩] [(false,⟨[],[]⟩)] [] [sm1,sm2] w (IA hS.small) hx).mono ?_
 rintro e w' ⟨why,hw,hB,⟨hne,-⟩ | ⟨-,ev,b1,b2,rfl,hr⟩⟩
 ·exact absurd (hw.2 Iy) hne
 ·rw [Ix] at hr ⊢
  have ho:=hr.own
  rcases ho.2 with ⟨-,h⟩ | ⟨g,cap,cur,rfl,-⟩
  ·exact absurd h (by simp)
  ·refine ⟨g,cap,b1,b2,rfl,fun j u hu=>?_,hr.taken 0 _ rfl,hB⟩
   have:=ho.cells (g:=g) rfl j u hu
   rwa [Addr.add_lit,Nat.zero_add] at this
def ML (w:World) (e:Ending) (w':World):Prop:=∃ bi bo bv bm,e=zh (D8 bi bo bv bm)/\Fb bi bo bv bm w'/\Ov w w'
theorem Ad.at {cs:List Value} {w w':World} {b:Nat} {a:Array Value} {t:Nat} (ha:a.toList=cs) (hb:b=w.heap.size) (hw:Ov (w.alloc (.cells a t)) w'):Ad cs w' b:=by
 subst hb
 rw [<-ha]
 exact (Ad.newA a t w).over hw
theorem Iz (w:World):Calls Tryz.prog 38 #[] w (ML w):=by
 go_enter Tryz.func38,Tryz.ntmps38
 go_wp2_with fail
 have hbr:=fun (W:World) (o:Obj)=>bA W o
 refine bodyPost_ret (v:=D8 (w.heap.size+1) (w.heap.size+1+1) (w.heap.size+1+1+1) (w.heap.size+1+1+1+1)) (by simp [results,Tryz.results38,go_sem]) rfl ⟨_,_,_,_,rfl,⟨?_,?_,?_,?_⟩,?_⟩
 ·exact Ad.at rfl (by simp) (Ag (Ag (hbr _ _) (hbr _ _)) (hbr _ _))
 ·exact Ad.at rfl (by simp) (Ag (hbr _ _) (hbr _ _))
 ·exact Ad.at rfl (by simp) (hbr _ _)
 ·exact Ad.at rfl (by simp) (Below.refl _ _)
 ·exact Ag (Ag (Ag (Ag (hbr _ _) (hbr _ _)) (hbr _ _)) (hbr _ _)) (hbr _ _)
theorem FE (a b:Nat) (w:World) (ha:w.cell? ⟨a,0,none⟩=some (zd U 1)) (hb:w.cell? ⟨b,0,none⟩=some (zd U 1)) :
  Calls Tryz.prog 32 #[O (some ⟨a,0,none⟩) 1 1,O (some ⟨b,0,none⟩) 1 1] w fun e w'=>e=zh (ze true)/\∃ n,w'=w.drewN n:=by
 go_enter Tryz.func32,Tryz.ntmps32
 go_wp2_with fail
 go_loopw [5] (fun i wr=>∃ j:Int,0<=j/\j<=1/\i=zd U j/\∃ n,wr=w.drewN n) (fun i _=>1 - (intOf i).toNat)
 case atStart=>exact ⟨0,by omega,by omega,rfl,0,rfl⟩
 case round=>
  obtain ⟨j,hj0,hj,rfl,n,rfl⟩:=hrel
  rcases (by omega:j=0\/j=1) with rfl | rfl
  ·go_wp2_with fail
   go_quiet ((fail))
   go_wp2_with fail
   exact ⟨⟨1,by omega,by omega,by first | rfl | go_num,_,by first | rfl | exact World.drewN_drewN _ _ _⟩,by simp [intOf]⟩
  ·go_wp2_with fail
   go_ret
   exact ⟨rfl,n,by first | rfl | trivial⟩
theorem Nm (w:World):RX w 1 [zd U 1,zd U 4,O none 0 0] (xD 1 4 []):=⟨1,4,_,[],rfl,rfl,⟨by omega,by omega⟩,⟨by omega,by omega⟩,by simp,none,0,rfl,fun h=>absurd rfl h⟩
theorem Mq (w:World):Aq w (O none 0 0) []:=⟨none,0,rfl,fun h=>absurd rfl h⟩
theorem Jf (w:World):Calls Tryz.prog 20 #[] w fun e w'=>e=zh (ze true)/\Ov w w':=by
 have K1:=Aa Iz
 have K2:=Aa fun bi bo bv bm bx by' W (hS:F6 bi bo bv bm bx by' W)=>Jg bi bo bv bm bx by' W hS
 have K3:=Aa fun W=>J9 1 _ _ W _ [] (Nm W) (Mq W) (by simp)
 have he:Cd [] 1 (xD 1 4 [])=0:=by decide
 have hv:F1 [] 1 (xD 1 4 [])=4:=by decide
 rw [he,hv] at K3
 clear he hv
 go_enter Tryz.func20,Tryz.ntmps20
 go_wp2_with fail
 refine (K1.o _).mono ?_
 rintro e w1 ⟨bi,bo,bv,bm,rfl,hSm,hb1⟩
 have hS:F6 bi bo bv bm (w1.heap.size+1) w1.heap.size ((w1.alloc (zf #[zd U 7] 3)).alloc (zf #[O (some ⟨w1.heap.size,0,none⟩) 1 1] 25)):=
  ⟨hSm.over ((bA w1 _).alloc (by simp) _),by simp [go_sem],by simp [go_sem]⟩
 have hB1:Ov w ((w1.alloc (zf #[zd U 7] 3)).alloc (zf #[O (some ⟨w1.heap.size,0,none⟩) 1 1] 25)):=(hb1.alloc hb1.size _).alloc (by have:=hb1.size;simp;omega) _
 have K2':=Aa (K2.o _ _ _ _ _ _ _ hS)
 clear K1 K2 hSm hb1 hS
 unfold D8 at K2' ⊢
 go_wp2_with fail
 refine (K2'.o).mono ?_
 rintro e w2 ⟨g,c,b1,b2,rfl,hrow,ht,hb2⟩
 have hB2:=hB1.trans (hb2.mono hB1.size)
 clear K2' hb2 hB1
 go_wp2_with fail
 refine (K3.o _).mono ?_
 rintro e w3 ⟨rfl,hb3⟩
 have hba:=bA w2 (zf #[O (some ⟨g,0,none⟩) 1 c,O (some ⟨b1,0,none⟩) 1 1,O (some ⟨b2,0,none⟩) 1 1,zd U 2,zd U 1,zd U 0] 55)
 have hb3':=Ag hba hb3
 have hB3:=hB2.trans (hb3'.mono hB2.size)
 have hr:=(Ad.newA #[O (some ⟨g,0,none⟩) 1 c,O (some ⟨b1,0,none⟩) 1 1,O (some ⟨b2,0,none⟩) 1 1,zd U 2,zd U 1,zd U 0] 55 w2).over hb3
 have r0:=hr 0 _ rfl
 have r2:=hr 2 _ rfl
 have r3:=hr 3 _ rfl
 have r4:=hr 4 _ rfl
 have hrow3:=hrow.over hb3'
 obtain ⟨g0,g1,g2,g3⟩:=rc4 hrow3
 have t3:=Ab hb3' _ _ ht
 clear hrow hrow3 ht hr hba hb3 hb3' hB2 K3
 have q3:=Ay w3 [zd U 1] 3 0 _ rfl
 have K4:=Aa (FE b2 w3.heap.size _ (Ab (bA w3 _) _ _ t3) q3)
 have hB4:Ov w (w3.alloc (zf #[zd U 1] 3)):=hB3.alloc hB3.size _
 go_wp2_with fail
 refine (K4.o).mono ?_
 rintro e w4 ⟨rfl,n,rfl⟩
 have hB5:=below_drewN hB4 n
 go_wp2_with fail
 go_ret
 exact ⟨rfl,hB5⟩
open Classical in
theorem MP {K kf:Nat} {m:Int} {vn yn on sn:Nat} {gs:List (Int × Int)} {sp:List Int} {ls ms:List Lab} {vs:List (Bool × Lab)} {fs:List FnD} {l:List D} {ins:List (List Int)} {fuel:Int} {w:World} {e:Ending} {w':World} (h:Ir K kf m vn yn on sn gs sp ls ms vs fs l ins fuel w e w') :
  ∃ (qa:Option Addr) (ql qc:Nat) (qva:Option Addr) (qvl qvc:Nat) (qta:Option Addr) (qtl qtc:Nat) (qs qen qtp:Int),e=zh (zj #[zg #[O qa ql qc,O qva qvl qvc,O qta qtl qtc,zd U qs,zd U qen,zd U qtp],zd U (eR K kf m vn yn on sn gs sp ls ms vs fs l ins fuel)])/\Ov w w'/\(eR K kf m vn yn on sn gs sp ls ms vs fs l ins fuel=0->(fuel.toNat<=2000/\(Ce K kf fs fuel.toNat ins AF l vn yn o0).ev.length<=2000)/\Fk w' (O qa ql qc) (Ce K kf fs fuel.toNat ins AF l vn yn o0).ev/\((Ce K kf fs fuel.toNat ins AF l vn yn o0).steps:Int)=qs/\(Ce K kf fs fuel.toNat ins AF l vn yn o0).en=qen):=by
 obtain ⟨why,hw,hb,⟨hne,rfl⟩ | ⟨h0,ev,b1,b2,rfl,hr⟩⟩:=h
 ·rw [hw.eq]
  exact ⟨none,0,0,none,0,0,none,0,0,0,0,0,rfl,hb,fun h=>absurd (hw.eq.trans h) hne⟩
 ·subst h0
  have hE:=Fk.of_own hr.own
  obtain ⟨ea,ec,he,-⟩:=id hE
  subst he
  rw [<-hw.eq]
  have hf:=(hw.1 rfl).f1
  have h1:=hr.num.el
  have h2:=hr.num.sb
  exact ⟨ea,_,ec,_,_,_,_,_,_,_,_,_,rfl,hb,fun _=>⟨⟨by omega,by omega⟩,hE,rfl,rfl⟩⟩
theorem GD {W:World} {a:Option Addr} {c:Nat} {x y:List Int} (h:Aq W (O a y.length c) y) (hp:x <+: y):Aq W (O a x.length c) x:=by
 obtain ⟨ao,cap,he,hel⟩:=h
 injection he with e1 e2 e3
 subst e1 e3
 refine ⟨_,_,rfl,fun hne=>?_⟩
 obtain ⟨r,rfl⟩:=hp
 obtain ⟨b,off,hao,h2⟩:=hel (by simp [hne])
 refine ⟨b,off,hao,fun i hi=>?_⟩
 have:=h2 i (by rw [List.length_append];omega)
 rw [List.getElem_append_left hi] at this
 exact this
theorem Ha {k:Int} (h:1<=k/\k<=8):k=1\/k=2\/k=3\/k=4\/k=5\/k=6\/k=7\/k=8:=by omega
def Nn (k:Int):Bool:=decide (1<=k/\k<=3) || k == 5 || k == 6
def Np (k:Int):Bool:=k == 1 || decide (4<=k/\k<=8)
theorem Cq {k:Int} (hk:1<=k/\k<=8) (w:World):Calls Tryz.prog 157 #[zd U k] w fun e w'=>e=zh (ze (Nn k))/\w'=w:=by
 rcases Ha hk with rfl | rfl | rfl | rfl | rfl | rfl | rfl | rfl
 all_goals
  go_enter Tryz.func157,Tryz.ntmps157
  go_wp2_with fail
  refine (BK _ _ _ _).mono ?_
  rintro e w' ⟨rfl,rfl⟩
  go_wp2_with fail
  go_ret
  exact ⟨rfl,rfl⟩
theorem B7 {k:Int} (hk:1<=k/\k<=8) (w:World):Calls Tryz.prog 158 #[zd U k] w fun e w'=>e=zh (ze (Np k))/\w'=w:=by
 by_cases h1:k=1
 ·subst h1
  go_enter Tryz.func158,Tryz.ntmps158
  go_wp2_with fail
  go_ret
  exact ⟨rfl,rfl⟩
 rcases Ha hk with rfl | rfl | rfl | rfl | rfl | rfl | rfl | rfl
 ·exact absurd rfl h1
 all_goals
  go_enter Tryz.func158,Tryz.ntmps158
  go_wp2_with fail
  refine (BK _ _ _ _).mono ?_
  rintro e w' ⟨rfl,rfl⟩
  go_wp2_with fail
  go_ret
  exact ⟨rfl,rfl⟩
theorem CX {vars:Int} {k:Nat} {d:D} {w:World} {k1 k2:Int} {x:Value} (h:Am vars k d=0) (hr:RX w k [zd U k1,zd U k2,x] d):k1≠0:=by
 cases k with
 | zero=>exact hr.elim
 | succ k=>
  obtain ⟨kd,n,v,ds,he,rfl,-⟩:=hr
  simp only [List.cons.injEq,Value.int.injEq,true_and] at he
  intro h0
  have hk0:kd=0:=by rw [<-he.1];exact h0
  unfold Am at h
  split at h
  ·omega
  ·have e1:AB (k+1) (xD kd n ds)=xD kd n ds::ds.flatMap (AB k):=rfl
   rw [e1] at h
   unfold AW at h
   have e2:Be vars (Ap (xD kd n ds)) (AA (xD kd n ds)) (Ar (xD kd n ds)).length=7:=by
    have e3:Ap (xD kd n ds)=kd:=rfl
    rw [e3,hk0]
    unfold Be
    rw [if_pos (by omega)]
   rw [e2,if_neg (by omega)] at h
   omega
def cF1:Code->Code
 | .seq a _=>a
 | c=>c
def cF2:Code->Code
 | .seq _ a=>a
 | c=>c
def cFB:Code->Code
 | .block _ a=>a
 | c=>c
def cFL:Code->Code
 | .loop a=>a
 | c=>c
def BU (c:Code):Code:=cF1 (cF2 (cFL (cFB (cF2 (cF1 (cF2 c))))))
theorem Kg {P:Program} {c:Code} {Q:Exit->Act->World->Prop} {a:Act} {w:World} (R:Act->World->Prop) (h:c.wp P (BR R) a w) (hq:∀ a w,R a w->Q .normal a w):c.wp P Q a w:=
 wp_mono h fun e a w h=>by cases e <;> first | exact hq _ _ h | exact h.elim
end Go.Proofs.YtfffpjkcfnekaaaGreat.Ex
