/- Runs held against each other. -/
import Derived.Test.YtfffpjkcfnekaaaGreatG43
set_option linter.unusedVariables false
set_option maxHeartbeats 8000000
set_option maxRecDepth 100000
namespace Go.Proofs.YtfffpjkcfnekaaaGreat.Ex
open Go.RowKit
open Go.Value renaming slice -> O, int -> zd, bool -> ze, agg -> zg, pointer -> zi, tuple -> zj
open Go.IntKind renaming i64 -> U
open Go.Obj renaming cells -> zf
open Go.Ending renaming returned -> zh
theorem D4:∀ (l:List Ev4) (i:Nat) (h:i < l.length),(Bh l)[i*4]? = some (zd U l[i].1)/\(Bh l)[i*4+1]? = some (zd U l[i].2.1)/\(Bh l)[i*4+2]? = some (zd U l[i].2.2.1)/\(Bh l)[i*4+3]? = some (zd U l[i].2.2.2)
 | [],i,h=>by simp at h
 | e::r,0,h=>⟨rfl,rfl,rfl,rfl⟩
 | e::r,i+1,h=>by
  have:=D4 r i (by simpa using h)
  rw [Nat.succ_mul]
  simpa [Bh] using this
def EW (w:World) (v:Value) (l:List Ev4):Prop:=∃ ao cap,v=O ao l.length cap/\l.length<=cap/\cap<=maxLen/\(l≠[]->∃ b,ao=some ⟨b,0,none⟩/\Af (Bh l) w b)
theorem EW.over {w w':World} {v:Value} {l:List Ev4} (h:EW w v l) (hb:Below w.heap.size w w'):EW w' v l:=by
 obtain ⟨ao,cap,hv,hc,hm,hr⟩:=h
 exact ⟨ao,cap,hv,hc,hm,fun hne=>by obtain ⟨b,h1,h2⟩:=hr hne;exact ⟨b,h1,h2.over hb⟩⟩
theorem EW.of_own {w:World} {B:Nat} {v:Value} {l:List Ev4} (h:w.ownsRow B 136 4 v l.length (Bh l)):EW w v l:=by
 rcases h.2 with ⟨h1,h2⟩ | ⟨g,cap,cur,hv,hb,hg,h1,h2,h3,h4⟩
 ·exact ⟨none,0,by rw [h1,h2],by omega,by unfold maxLen;omega,fun hne=>absurd (List.length_eq_zero_iff.1 h2) hne⟩
 ·refine ⟨_,cap,hv,h1,h2,fun _=>⟨g,rfl,fun j u hu=>?_⟩⟩
  have:=h.cells (g:=g) (by rw [hv];rfl) j u hu
  rwa [Addr.add_lit,Nat.zero_add] at this
theorem DZ (l:List Int) (va vb:Value) (w:World) (ha:Ar w va l) (hb:Ar w vb l) (hl:l.length<=9223372036854775807) :
  Calls Tryz.prog 32 #[va,vb] w fun e w'=>e=zh (ze true)/\∃ n,w'=w.drewN n:=by
 obtain ⟨ao,ac,rfl,hac⟩:=ha
 obtain ⟨bo,bc,rfl,hbc⟩:=hb
 have HA:=Aa hac
 have HB:=Aa hbc
 clear hac hbc
 go_enter Tryz.func32,Tryz.ntmps32
 go_wp2_with fail
 go_loopw [5] (fun i wr=>∃ j:Nat,j<=l.length/\i=zd U j/\∃ n,wr=w.drewN n) (fun i _=>l.length - (intOf i).toNat)
 case atStart=>exact ⟨0,Nat.zero_le _,rfl,0,rfl⟩
 case round=>
  obtain ⟨j,hj,rfl,n,rfl⟩:=hrel
  by_cases hjl:j < l.length
  ·obtain ⟨b,off,rfl,hel⟩:=HA.o (by intro hz;rw [hz] at hjl;simp at hjl)
   obtain ⟨b',off',rfl,hel'⟩:=HB.o (by intro hz;rw [hz] at hjl;simp at hjl)
   have q0:=hel j hjl
   have q1:=hel' j hjl
   have hji:(j:Int) < (l.length:Int):=by omega
   obtain ⟨x,hx⟩:∃ x,x=l[j]:=⟨_,rfl⟩
   rw [<-hx] at q0 q1
   obtain ⟨n0,hn0⟩:∃ q,q=l.length:=⟨_,rfl⟩
   rw [<-hn0] at hji ⊢
   have HN0:=Aa hn0
   clear hel hel' hx hn0
   go_wp2_with fail
   go_quiet ((fail))
   go_wp2_with fail
   have hn0:=HN0.o
   subst hn0
   exact ⟨⟨j+1,by omega,by go_num,_,by first | rfl | exact World.drewN_drewN _ _ _⟩,by simp [intOf];omega⟩
  ·go_wp2_with fail
   go_ret
   exact ⟨rfl,n,by first | rfl | trivial⟩
theorem H3 {ch:Int} {l:List Ev4} {j:Nat} (h:j < l.length):A7 ch (l.take (j+1))=A7 ch (l.take j)++A7 ch [l[j]]:=by
 rw [List.take_succ_eq_append_getElem h,CZ]
theorem Ek (ch:Int) (l:List Ev4):(A7 ch l).length<=l.length:=by
 unfold A7
 exact List.length_filterMap_le _ _
theorem FU (ch:Int) (l:List Ev4) (v:Value) (w:World) (h:EW w v l) (hl:l.length<=10000) :
  Calls Tryz.prog 31 #[v,zd U ch] w fun e w'=>∃ a c,e=zh (O a (A7 ch l).length c)/\Off w.heap.size none w' (fun W=>Ar W (O a (A7 ch l).length c) (A7 ch l))/\((A7 ch l).length<=c/\c<=maxLen)/\Ov w w':=by
 obtain ⟨ao,cap,rfl,-,-,hr⟩:=h
 obtain ⟨i0,hi,hz0,hz1,hz2⟩:=info_parts Tryz.infoIc
 have HR:=Aa hr
 clear hr
 go_enter Tryz.func31,Tryz.ntmps31
 go_wp2_with fail
 go_loopw [5,6] (fun u i wr=>∃ j:Nat,j<=l.length/\i=zd U j/\wr.ownsRow w.heap.size 3 1 u (A7 ch (l.take j)).length (AZ (A7 ch (l.take j)))/\Ov w wr) (fun _ i _=>l.length - (intOf i).toNat)
 case atStart=>exact ⟨0,Nat.zero_le _,rfl,World.ownsRow_nil _ _ _ _,Below.refl _ _⟩
 case round=>
  obtain ⟨j,hj,rfl,hown,hB⟩:=hrel
  obtain ⟨oa,on,oc,rfl⟩:=A9 hown
  by_cases hlt:j < l.length
  ·obtain ⟨b,rfl,hel⟩:=HR.o (by rintro rfl;simp at hlt)
   obtain ⟨g0,g1,g2,g3⟩:=D4 l j hlt
   have q0:=Ab hB _ _ (hel _ _ g0)
   have q2:=Ab hB _ _ (hel _ _ g2)
   have q3:=Ab hB _ _ (hel _ _ g3)
   have hji:(j:Int) < (l.length:Int):=by omega
   obtain ⟨x0,hx0⟩:=nm (l[j].1)
   obtain ⟨x2,hx2⟩:=nm (l[j].2.2.1)
   obtain ⟨x3,hx3⟩:=nm (l[j].2.2.2)
   rw [<-hx0] at q0
   rw [<-hx2] at q2
   rw [<-hx3] at q3
   have HPT:=Aa (H3 (ch:=ch) hlt)
   have HPO:Hx (A7 ch [l[j]]=if x0=1/\x2=ch then [x3] else []):=by
    show _=_
    rw [hx0,hx2,hx3]
    unfold A7
    split
    ·rename_i hh;simp [hh]
    ·rename_i hh;simp [hh]
   have hj9:j<=10000:=by omega
   obtain ⟨pn,hpn⟩:=nm (A7 ch (l.take j)).length
   have HPN:=Aa hpn
   have hpl:pn<=10000:=by have h1:=Ek ch (l.take j);rw [hpn];rw [List.length_take] at h1;omega
   obtain ⟨n0,hn0⟩:=nm l.length
   have HN0:=Aa hn0
   rw [<-hpn] at hown
   rw [<-hn0] at hji ⊢
   have HOWN:=Aa hown
   have HB:=Aa hB
   clear hel g0 g1 g2 g3 hx0 hx2 hx3 HR hpn hn0 hj hl hown hB
   by_cases z0:x0=1
   rotate_left
   ·have y0:(x0 == 1)=false:=by simpa using z0
    have HE:Hx (A7 ch (l.take (j+1))=A7 ch (l.take j)):=by show _=_;rw [HPT.o,HPO.o,if_neg (fun h=>z0 h.1),List.append_nil]
    clear z0
    go_wp2_with fail
    exact ⟨⟨j+1,by have:=HN0.o;omega,by go_num,by rw [HE.o,<-HPN.o];exact HOWN.o,HB.o⟩,by have:=HN0.o;simp [intOf];omega⟩
   subst z0
   by_cases z2:x2=ch
   rotate_left
   ·have y2:(x2 == ch)=false:=by simpa using z2
    have HE:Hx (A7 ch (l.take (j+1))=A7 ch (l.take j)):=by show _=_;rw [HPT.o,HPO.o,if_neg (fun h=>z2 h.2),List.append_nil]
    clear z2
    go_wp2_with fail
    exact ⟨⟨j+1,by have:=HN0.o;omega,by go_num,by rw [HE.o,<-HPN.o];exact HOWN.o,HB.o⟩,by have:=HN0.o;simp [intOf];omega⟩
   have y2:(x2 == ch)=true:=by simpa using z2
   have HE:Hx (A7 ch (l.take (j+1))=A7 ch (l.take j)++[x3]):=by show _=_;rw [HPT.o,HPO.o,if_pos ⟨rfl,z2⟩]
   clear z2 HPO
   have hb3:Ov wr (wr.alloc (zf #[zd U x3] 3)):=bA _ _
   have hown1:=FV HOWN.o hb3
   have hN:=Az wr [zd U x3] 3
   have hBW:w.heap.size<=(wr.alloc (zf #[zd U x3] 3)).heap.size:=Nat.le_trans HB.o.size hb3.size
   have HN:=Aa hN
   have HB3:Hx (Ov w (wr.alloc (zf #[zd U x3] 3))):=HB.o.trans (hb3.mono HB.o.size)
   clear hb3 hN
   go_wp2_with (at_builtin;refine wpList_append_own_at _ rfl _ _ 25 rfl w.heap.size 3 i0 (zd U 0) 1 8 Tryz.underlying25 hi hz0 hz1 hz2 rfl (by decide) _ _ _ rfl hown1 ⟨wr.heap.size,0,none⟩ 1 1 [zd U x3] rfl rfl (fun jj u hu=>by rw [Addr.add_lit,Nat.zero_add];exact HN.o jj u hu) (by simp [Value.oneCell']) (by unfold maxLen;omega) (by omega) hBW ?_)
   intro v2 w2 hown2 hgr2 _ hat
   obtain ⟨va2,vn2,vc2,rfl⟩:=A9 hown2
   have hov:Ov w w2:=HB3.o.trans (Bk hown1 hgr2 hBW)
   have HFIN:Hx (w2.ownsRow w.heap.size 3 1 (O va2 vn2 vc2) (A7 ch (l.take (j+1))).length (AZ (A7 ch (l.take (j+1))))):=by
    show World.ownsRow _ _ _ _ _ _ _
    rw [HE.o,List.length_append,<-HPN.o]
    have e:AZ (A7 ch (l.take j)++[x3])=AZ (A7 ch (l.take j))++[zd U x3]:=by simp [AZ]
    rw [e]
    exact hown2
   have HOV:=Aa hov
   clear hown1 hown2 hgr2 hat hBW hov
   go_wp2_with fail
   exact ⟨⟨j+1,by have:=HN0.o;omega,by go_num,HFIN.o,HOV.o⟩,by have:=HN0.o;simp [intOf];omega⟩
  ·have hje:j=l.length:=by omega
   subst hje
   rw [List.take_length] at hown
   have HO:=Aa (FZ hown)
   have HC:Hx (∃ c,Value.slice oa on oc=O oa (A7 ch l).length c/\(A7 ch l).length<=c/\c<=maxLen):=by
    rcases hown.2 with ⟨h1,h0⟩ | ⟨g,cap,cur,h1,_,_,h3,h4,_⟩
    ·injection h1 with e1 e2 e3
     exact ⟨0,by rw [e2,e3,h0],by rw [h0];exact Nat.le_refl _,by unfold maxLen;omega⟩
    ·injection h1 with e1 e2 e3
     exact ⟨cap,by rw [e2,e3],h3,h4⟩
   have HB:=Aa hB
   clear hown hB HR hlt
   go_wp2_with fail
   go_ret
   obtain ⟨c,he,h1,h2⟩:=HC.o
   refine ⟨oa,c,by rw [<-he];rfl,?_,⟨h1,h2⟩,HB.o⟩
   rw [<-he]
   exact HO.o
theorem Hv:Cc 1 1 [] (9:Int).toNat [[7]] AB [sm1,sm2] 1 1 o0=⟨[(1,1,0,7)],[7],[1],2,1,0,o0⟩:=by kernel_rfl
structure FF (bi bo bv bm bx by':Nat) (w:World):Prop where
 small:EK bi bo bv bm w
 xs:w.cell? ⟨bx,0,none⟩=some (O (some ⟨by',0,none⟩) 1 1)
 ys:w.cell? ⟨by',0,none⟩=some (zd U 7)
def Ran (w:World) (e:Ending) (w':World):Prop:=
 ∃ g c b1 b2,e=zh (zj #[zg #[O (some ⟨g,0,none⟩) 1 c,O (some ⟨b1,0,none⟩) 1 1,O (some ⟨b2,0,none⟩) 1 1,zd U 2,zd U 1,zd U 0],zd U 0])/\Af [zd U 1,zd U 1,zd U 0,zd U 7] w' g/\w'.cell? ⟨b2,0,none⟩=some (zd U 1)/\Ov w w'
theorem Hw:okR 1 1 1 1 1 1 0 [] [] [⟨[],[]⟩] [⟨[],[]⟩] [(false,⟨[],[]⟩)] [] [sm1,sm2] [[7]] 9:=
 ⟨Lu,rfl,fun x hx=>by simp at hx;subst hx;simp,fun x hx y hy=>by simp at hx;subst hx;simp at hy;subst hy;exact ⟨by omega,by omega⟩,by omega,by omega⟩
theorem Ix (bi bo bv bm bx by':Nat) (w:World) (hS:FF bi bo bv bm bx by' w) :
  Calls Tryz.prog 18 #[DP bi bo bv bm,O (some ⟨bx,0,none⟩) 1 1,zd U 9] w (Ran w):=by
 have hx:Bo w (O (some ⟨bx,0,none⟩) 1 1) [[7]]:=by
  refine ⟨by simp [maxLen],some ⟨bx,0,none⟩,1,rfl,fun _=>⟨bx,0,rfl,fun i hi=>?_⟩⟩
  have:i=0:=by simp at hi;omega
  subst this
  refine ⟨_,hS.xs,⟨some ⟨by',0,none⟩,1,rfl,fun _=>⟨by',0,rfl,fun j hj=>?_⟩⟩,by simp⟩
  have:j=0:=by simp at hj;omega
  subst this
  exact hS.ys
 refine (FG 1 1 1 none 0 0 none 0 0 (some ⟨bi,0,none⟩) 1 1 (some ⟨bo,0,none⟩) 1 1 (some ⟨bv,0,none⟩) 1 1 none 0 0 (some ⟨bm,0,none⟩) 2 2 (some ⟨bx,0,none⟩) 1 1 [[7]] 9 [] [] [⟨[],[]⟩] [⟨[],[]⟩] [(false,⟨[],[]⟩)] [] [sm1,sm2] w (Hz hS.small) hx).mono ?_
 rintro e w' ⟨why,hw,hB,⟨hne,-⟩ | ⟨-,ev,b1,b2,rfl,hr⟩⟩
 ·exact absurd (hw.2 Hw) hne
 ·rw [Hv] at hr ⊢
  have ho:=hr.own
  rcases ho.2 with ⟨-,h⟩ | ⟨g,cap,cur,rfl,-⟩
  ·exact absurd h (by simp)
  ·refine ⟨g,cap,b1,b2,rfl,fun j u hu=>?_,hr.taken 0 _ rfl,hB⟩
   have:=ho.cells (g:=g) rfl j u hu
   rwa [Addr.add_lit,Nat.zero_add] at this
def L1 (w:World) (e:Ending) (w':World):Prop:=∃ bi bo bv bm,e=zh (DP bi bo bv bm)/\EK bi bo bv bm w'/\Ov w w'
theorem Af.at {cs:List Value} {w w':World} {b:Nat} {a:Array Value} {t:Nat} (ha:a.toList=cs) (hb:b=w.heap.size) (hw:Ov (w.alloc (.cells a t)) w'):Af cs w' b:=by
 subst hb
 rw [<-ha]
 exact (Af.newA a t w).over hw
theorem Hy (w:World):Calls Tryz.prog 38 #[] w (L1 w):=by
 go_enter Tryz.func38,Tryz.ntmps38
 go_wp2_with fail
 have hbr:=fun (W:World) (o:Obj)=>bA W o
 refine bodyPost_ret (v:=DP (w.heap.size+1) (w.heap.size+1+1) (w.heap.size+1+1+1) (w.heap.size+1+1+1+1)) (by simp [results,Tryz.results38,go_sem]) rfl ⟨_,_,_,_,rfl,⟨?_,?_,?_,?_⟩,?_⟩
 ·exact Af.at rfl (by simp) (Ag (Ag (hbr _ _) (hbr _ _)) (hbr _ _))
 ·exact Af.at rfl (by simp) (Ag (hbr _ _) (hbr _ _))
 ·exact Af.at rfl (by simp) (hbr _ _)
 ·exact Af.at rfl (by simp) (Below.refl _ _)
 ·exact Ag (Ag (Ag (Ag (hbr _ _) (hbr _ _)) (hbr _ _)) (hbr _ _)) (hbr _ _)
theorem Ff (a b:Nat) (w:World) (ha:w.cell? ⟨a,0,none⟩=some (zd U 1)) (hb:w.cell? ⟨b,0,none⟩=some (zd U 1)) :
  Calls Tryz.prog 32 #[O (some ⟨a,0,none⟩) 1 1,O (some ⟨b,0,none⟩) 1 1] w fun e w'=>e=zh (ze true)/\∃ n,w'=w.drewN n:=by
 go_enter Tryz.func32,Tryz.ntmps32
 go_wp2_with fail
 go_loopw [5] (fun i wr=>∃ j:Int,0<=j/\j<=1/\i=zd U j/\∃ n,wr=w.drewN n) (fun i _=>1 - (intOf i).toNat)
 case atStart=>exact ⟨0,by omega,by omega,rfl,0,rfl⟩
 case round=>
  obtain ⟨j,hj0,hj,rfl,n,rfl⟩:=hrel
  rcases (by omega:j=0\/j=1) with rfl | rfl
  ·go_wp2_with fail
   go_quiet ((fail))
   go_wp2_with fail
   exact ⟨⟨1,by omega,by omega,by first | rfl | go_num,_,by first | rfl | exact World.drewN_drewN _ _ _⟩,by simp [intOf]⟩
  ·go_wp2_with fail
   go_ret
   exact ⟨rfl,n,by first | rfl | trivial⟩
theorem Mz (w:World):RX w 1 [zd U 1,zd U 4,O none 0 0] (xD 1 4 []):=⟨1,4,_,[],rfl,rfl,⟨by omega,by omega⟩,⟨by omega,by omega⟩,by simp,none,0,rfl,fun h=>absurd rfl h⟩
theorem LC (w:World):Ar w (O none 0 0) []:=⟨none,0,rfl,fun h=>absurd rfl h⟩
theorem Iw (w:World):Calls Tryz.prog 20 #[] w fun e w'=>e=zh (ze true)/\Ov w w':=by
 have K1:=Aa Hy
 have K2:=Aa fun bi bo bv bm bx by' W (hS:FF bi bo bv bm bx by' W)=>Ix bi bo bv bm bx by' W hS
 have K3:=Aa fun W=>Ju 1 _ _ W _ [] (Mz W) (LC W) (by simp)
 have he:BW [] 1 (xD 1 4 [])=0:=by decide
 have hv:FA [] 1 (xD 1 4 [])=4:=by decide
 rw [he,hv] at K3
 clear he hv
 go_enter Tryz.func20,Tryz.ntmps20
 go_wp2_with fail
 refine (K1.o _).mono ?_
 rintro e w1 ⟨bi,bo,bv,bm,rfl,hSm,hb1⟩
 have hS:FF bi bo bv bm (w1.heap.size+1) w1.heap.size ((w1.alloc (zf #[zd U 7] 3)).alloc (zf #[O (some ⟨w1.heap.size,0,none⟩) 1 1] 25)):=
  ⟨hSm.over ((bA w1 _).alloc (by simp) _),by simp [go_sem],by simp [go_sem]⟩
 have hB1:Ov w ((w1.alloc (zf #[zd U 7] 3)).alloc (zf #[O (some ⟨w1.heap.size,0,none⟩) 1 1] 25)):=(hb1.alloc hb1.size _).alloc (by have:=hb1.size;simp;omega) _
 have K2':=Aa (K2.o _ _ _ _ _ _ _ hS)
 clear K1 K2 hSm hb1 hS
 unfold DP at K2' ⊢
 go_wp2_with fail
 refine (K2'.o).mono ?_
 rintro e w2 ⟨g,c,b1,b2,rfl,hrow,ht,hb2⟩
 have hB2:=hB1.trans (hb2.mono hB1.size)
 clear K2' hb2 hB1
 go_wp2_with fail
 refine (K3.o _).mono ?_
 rintro e w3 ⟨rfl,hb3⟩
 have hba:=bA w2 (zf #[O (some ⟨g,0,none⟩) 1 c,O (some ⟨b1,0,none⟩) 1 1,O (some ⟨b2,0,none⟩) 1 1,zd U 2,zd U 1,zd U 0] 55)
 have hb3':=Ag hba hb3
 have hB3:=hB2.trans (hb3'.mono hB2.size)
 have hr:=(Af.newA #[O (some ⟨g,0,none⟩) 1 c,O (some ⟨b1,0,none⟩) 1 1,O (some ⟨b2,0,none⟩) 1 1,zd U 2,zd U 1,zd U 0] 55 w2).over hb3
 have r0:=hr 0 _ rfl
 have r2:=hr 2 _ rfl
 have r3:=hr 3 _ rfl
 have r4:=hr 4 _ rfl
 have hrow3:=hrow.over hb3'
 obtain ⟨g0,g1,g2,g3⟩:=rc4 hrow3
 have t3:=Ab hb3' _ _ ht
 clear hrow hrow3 ht hr hba hb3 hb3' hB2 K3
 have q3:=Az w3 [zd U 1] 3 0 _ rfl
 have K4:=Aa (Ff b2 w3.heap.size _ (Ab (bA w3 _) _ _ t3) q3)
 have hB4:Ov w (w3.alloc (zf #[zd U 1] 3)):=hB3.alloc hB3.size _
 go_wp2_with fail
 refine (K4.o).mono ?_
 rintro e w4 ⟨rfl,n,rfl⟩
 have hB5:=below_drewN hB4 n
 go_wp2_with fail
 go_ret
 exact ⟨rfl,hB5⟩
open Classical in
theorem LN {K kf:Nat} {m:Int} {vn yn on sn:Nat} {gs:List (Int × Int)} {sp:List Int} {ls ms:List Lab} {vs:List (Bool × Lab)} {fs:List FnD} {l:List D} (hX:Ey.xP K kf m vn yn on sn gs sp ls ms vs fs l) (nd:List Bool) (a:Nat) (ins:List (List Int)) (fuel:Int):eR K kf m vn yn on sn gs sp ls ms vs (Bi nd kf fs) (AF nd kf l a) ins fuel=eR K kf m vn yn on sn gs sp ls ms vs fs l ins fuel:=by
 unfold eR eRz
 rw [(Ez.eP_iff K kf m vn yn on sn gs sp ls ms vs fs l).2 hX,(Ez.eP_iff K kf m vn yn on sn gs sp ls ms vs (Bi nd kf fs) (AF nd kf l a)).2 (LO hX nd a)]
open Classical in
theorem L5 {K kf:Nat} {m:Int} {vn yn on sn:Nat} {gs:List (Int × Int)} {sp:List Int} {ls ms:List Lab} {vs:List (Bool × Lab)} {fs:List FnD} {l:List D} {ins:List (List Int)} {fuel:Int} {w:World} {e:Ending} {w':World} (h:Hq K kf m vn yn on sn gs sp ls ms vs fs l ins fuel w e w') :
  ∃ (qa:Option Addr) (ql qc:Nat) (qva:Option Addr) (qvl qvc:Nat) (qta:Option Addr) (qtl qtc:Nat) (qs qen qtp:Int),e=zh (zj #[zg #[O qa ql qc,O qva qvl qvc,O qta qtl qtc,zd U qs,zd U qen,zd U qtp],zd U (eR K kf m vn yn on sn gs sp ls ms vs fs l ins fuel)])/\Ov w w'/\(eR K kf m vn yn on sn gs sp ls ms vs fs l ins fuel=0->(fuel.toNat<=2000/\(Cc K kf fs fuel.toNat ins AB l vn yn o0).ev.length<=2000)/\EW w' (O qa ql qc) (Cc K kf fs fuel.toNat ins AB l vn yn o0).ev/\((Cc K kf fs fuel.toNat ins AB l vn yn o0).steps:Int)=qs/\(Cc K kf fs fuel.toNat ins AB l vn yn o0).en=qen):=by
 obtain ⟨why,hw,hb,⟨hne,rfl⟩ | ⟨h0,ev,b1,b2,rfl,hr⟩⟩:=h
 ·rw [hw.eq]
  exact ⟨none,0,0,none,0,0,none,0,0,0,0,0,rfl,hb,fun h=>absurd (hw.eq.trans h) hne⟩
 ·subst h0
  have hE:=EW.of_own hr.own
  obtain ⟨ea,ec,he,-⟩:=id hE
  subst he
  rw [<-hw.eq]
  have hf:=(hw.1 rfl).f1
  have h1:=hr.num.el
  have h2:=hr.num.sb
  exact ⟨ea,_,ec,_,_,_,_,_,_,_,_,_,rfl,hb,fun _=>⟨⟨by omega,by omega⟩,hE,rfl,rfl⟩⟩
theorem JS (K kf:Nat) (m:Int) (ga gn gc sa sn sc ya yn yc oa on oc va vn vc fa fn fc ba bn bd gs sp ls ms vs fs l) (ch:Int) (w:World) (h:A1 K kf m ga gn gc sa sn sc ya yn yc oa on oc va vn vc fa fn fc ba bn bd gs sp ls ms vs fs l w) (nd:List Bool) (hnd:nd=(AY ch K kf fs l vn yn).nd) :
  Calls Tryz.prog 29 #[zg #[zd U m,O ga gn gc,O sa sn sc,O ya yn yc,O oa on oc,O va vn vc,O fa fn fc,O ba bn bd],zd U ch] w fun e w'=>Ov w w'/\∃ why:Int,(why=0 ↔ Ey.xP K kf m vn yn on sn gs sp ls ms vs fs l/\0<=ch/\ch < on)/\((why≠0/\e=zh (zj #[zg #[zd U 0,O none 0 0,O none 0 0,O none 0 0,O none 0 0,O none 0 0,O none 0 0,O none 0 0],zd U why]))\/(why=0/\∃ (ga2:Option Addr) (gc2:Nat) (sa2:Option Addr) (sc2:Nat) (ya2:Option Addr) (yc2:Nat) (oa2:Option Addr) (oc2:Nat) (va2:Option Addr) (vc2:Nat) (fa2:Option Addr) (fc2:Nat) (ba2:Option Addr) (bl bd2:Nat),e=zh (zj #[zg #[zd U m,O ga2 gn gc2,O sa2 sn sc2,O ya2 yn yc2,O oa2 on oc2,O va2 vn vc2,O fa2 fn fc2,O ba2 bl bd2],zd U 0])/\A1 K kf m ga2 gn gc2 sa2 sn sc2 ya2 yn yc2 oa2 on oc2 va2 vn vc2 fa2 fn fc2 ba2 bl bd2 gs sp ls ms vs (Bi nd kf fs) (AF nd kf l (Am kf fs)) w')):=by
 refine (G3 K kf m ga gn gc sa sn sc ya yn yc oa on oc va vn vc fa fn fc ba bn bd gs sp ls ms vs fs l ch w h nd hnd).mono ?_
 obtain ⟨q1,q2,q3,q4,q5,q6,q7⟩:=E4 h
 rintro e w' ⟨hb,why,hwhy,hor⟩
 refine ⟨hb,why,hwhy,hor.imp id ?_⟩
 rintro ⟨h0,ga2,gc2,sa2,sc2,ya2,yc2,oa2,oc2,va2,vc2,fa2,fc2,ba2,bd2,he,hP⟩
 rw [<-q1,<-q2,<-q3,<-q4,<-q5,<-q6] at he hP
 exact ⟨h0,ga2,gc2,sa2,sc2,ya2,yc2,oa2,oc2,va2,vc2,fa2,fc2,ba2,_,bd2,he,hP⟩
theorem Jl {W:World} {a:Option Addr} {c:Nat} {x y:List Int} (h:Ar W (O a y.length c) y) (hp:x <+: y):Ar W (O a x.length c) x:=by
 obtain ⟨ao,cap,he,hel⟩:=h
 injection he with e1 e2 e3
 subst e1 e3
 refine ⟨_,_,rfl,fun hne=>?_⟩
 obtain ⟨r,rfl⟩:=hp
 obtain ⟨b,off,hao,h2⟩:=hel (by simp [hne])
 refine ⟨b,off,hao,fun i hi=>?_⟩
 have:=h2 i (by rw [List.length_append];omega)
 rw [List.getElem_append_left hi] at this
 exact this
open Classical in
theorem keepsLaw (K kf:Nat) (m:Int) (ga gn gc sa sn sc ya yn yc oa on oc va vn vc fa fn fc ba bn bd gs sp ls ms vs fs l) (ch:Int) (xa xn xc) (ins) (fuel:Int) (w:World) (h:A1 K kf m ga gn gc sa sn sc ya yn yc oa on oc va vn vc fa fn fc ba bn bd gs sp ls ms vs fs l w) (hx:Bo w (O xa xn xc) ins) :
  Calls Tryz.prog 7 #[zg #[zd U m,O ga gn gc,O sa sn sc,O ya yn yc,O oa on oc,O va vn vc,O fa fn fc,O ba bn bd],zd U ch,O xa xn xc,zd U fuel] w fun e w'=>e=zh (ze true)/\Ov w w':=by
 have hbel:Ov w (w.alloc (zf #[zd U m,O ga gn gc,O sa sn sc,O ya yn yc,O oa on oc,O va vn vc,O fa fn fc,O ba bn bd] 31)):=bA w _
 obtain ⟨nd,hnd⟩:=nm (AY ch K kf fs l vn yn).nd
 have KS:=Aa (JS K kf m ga gn gc sa sn sc ya yn yc oa on oc va vn vc fa fn fc ba bn bd gs sp ls ms vs fs l ch _ (h.over hbel) nd hnd)
 have KB:=Aa Ee
 have KC:=Aa Iw
 have KR:=Aa fun W (hP:A1 K kf m ga gn gc sa sn sc ya yn yc oa on oc va vn vc fa fn fc ba bn bd gs sp ls ms vs fs l W) (hX:Bo W (O xa xn xc) ins)=>FG K kf m ga gn gc sa sn sc ya yn yc oa on oc va vn vc fa fn fc ba bn bd xa xn xc ins fuel gs sp ls ms vs fs l W hP hX
 have HP0:=Aa h
 have HX0:=Aa hx
 have HND:=Aa hnd
 obtain ⟨c0,c1,c2,c3,c4,c5,c6,c7⟩:=rc8 (Az w [zd U m,O ga gn gc,O sa sn sc,O ya yn yc,O oa on oc,O va vn vc,O fa fn fc,O ba bn bd] 31)
 clear h hx hnd
 go_enter Tryz.func7,Tryz.ntmps7
 go_wp2_with fail
 refine KS.o.mono ?_
 rintro e w1 ⟨hb1,why,hwhy,⟨hne,rfl⟩ | ⟨h0,ga2,gc2,sa2,sc2,ya2,yc2,oa2,oc2,va2,vc2,fa2,fc2,ba2,bl,bd2,rfl,hQ⟩⟩
 ·have hB1:=hbel.trans (hb1.mono hbel.size)
  have hba:=bA w1 (zf #[zd U 0,O none 0 0,O none 0 0,O none 0 0,O none 0 0,O none 0 0,O none 0 0,O none 0 0] 31)
  obtain ⟨g0,g1,g2,g3,g4,g5,g6,g7⟩:=rc8 (Az w1 [zd U 0,O none 0 0,O none 0 0,O none 0 0,O none 0 0,O none 0 0,O none 0 0,O none 0 0] 31)
  have zb:(why == 0)=false:=by simpa using hne
  have HBa:Hx (Ov w (w1.alloc (zf #[zd U 0,O none 0 0,O none 0 0,O none 0 0,O none 0 0,O none 0 0,O none 0 0,O none 0 0] 31))):=hB1.trans (hba.mono hB1.size)
  clear hwhy hne hb1 hbel hB1 hba c0 c1 c2 c3 c4 c5 c6 c7
  go_wp2_with fail
  refine (KB.o _).mono ?_
  rintro e w3 ⟨rfl,hb3⟩
  go_wp2_with fail
  refine (KC.o _).mono ?_
  rintro e w4 ⟨rfl,hb4⟩
  have hb34:=Ag hb3 hb4
  have k7:=Ab hb34 _ _ g7
  have HBf:Hx (Ov w w4):=HBa.o.trans (hb34.mono HBa.o.size)
  clear hb3 hb4 hb34 g0 g1 g2 g3 g4 g5 g6 g7
  go_wp2_with fail
  go_ret
  exact ⟨rfl,HBf.o⟩
 subst h0
 have HX:=Aa (hwhy.1 rfl).1
 have hB1:=hbel.trans (hb1.mono hbel.size)
 have hba:=bA w1 (zf #[zd U m,O ga2 gn gc2,O sa2 sn sc2,O ya2 yn yc2,O oa2 on oc2,O va2 vn vc2,O fa2 fn fc2,O ba2 bl bd2] 31)
 have hB1a:=hB1.trans (hba.mono hB1.size)
 obtain ⟨d0,d1,d2,d3,d4,d5,d6,d7⟩:=co8 (Ag hb1 hba) c0 c1 c2 c3 c4 c5 c6 c7
 obtain ⟨g0,g1,g2,g3,g4,g5,g6,g7⟩:=rc8 (Az w1 [zd U m,O ga2 gn gc2,O sa2 sn sc2,O ya2 yn yc2,O oa2 on oc2,O va2 vn vc2,O fa2 fn fc2,O ba2 bl bd2] 31)
 have HQ:=Aa (hQ.over hba)
 have HB1:=Aa hB1a
 clear hwhy hb1 hbel hB1 hba hB1a hQ c0 c1 c2 c3 c4 c5 c6 c7 KS
 go_wp2_with fail
 refine (KB.o _).mono ?_
 rintro e w3 ⟨rfl,hb3⟩
 go_wp2_with fail
 refine (KC.o _).mono ?_
 rintro e w4 ⟨rfl,hb4⟩
 have hb34:=Ag hb3 hb4
 have hB4:Ov w w4:=HB1.o.trans (hb34.mono HB1.o.size)
 obtain ⟨d0,d1,d2,d3,d4,d5,d6,d7⟩:=co8 hb34 d0 d1 d2 d3 d4 d5 d6 d7
 obtain ⟨g0,g1,g2,g3,g4,g5,g6,g7⟩:=co8 hb34 g0 g1 g2 g3 g4 g5 g6 g7
 have HQ4:=Aa (HQ.o.over hb34)
 have HB4:=Aa hB4
 clear hb3 hb4 hb34 hB4 HQ KB KC
 go_wp2_with fail
 refine (KR.o _ (HP0.o.over HB4.o) (HX0.o.over HB4.o)).mono ?_
 rintro e w5 h5
 obtain ⟨qa,ql,qc,qva,qvl,qvc,qta,qtl,qtc,qs,qen,qtp,rfl,hb5,hq5⟩:=L5 h5
 obtain ⟨E,hE⟩:=nm (eR K kf m vn yn on sn gs sp ls ms vs fs l ins fuel)
 rw [<-hE] at hq5 ⊢
 have HE:=Aa hE
 have HQ5:=Aa hq5
 have hbr:=bA w5 (zf #[O qa ql qc,O qva qvl qvc,O qta qtl qtc,zd U qs,zd U qen,zd U qtp] 55)
 have hb5r:=Ag hb5 hbr
 have HB5:Hx (Ov w (w5.alloc (zf #[O qa ql qc,O qva qvl qvc,O qta qtl qtc,zd U qs,zd U qen,zd U qtp] 55))):=HB4.o.trans (hb5r.mono HB4.o.size)
 have HQ6:=Aa (HQ4.o.over hb5r)
 have HBR:=Aa hbr
 obtain ⟨g0,g1,g2,g3,g4,g5,g6,g7⟩:=co8 hb5r g0 g1 g2 g3 g4 g5 g6 g7
 obtain ⟨k0,k1,k2,k3,k4,k5⟩:=rc6 (Az w5 [O qa ql qc,O qva qvl qvc,O qta qtl qtc,zd U qs,zd U qen,zd U qtp] 55)
 clear h5 hb5 hq5 hE hbr hb5r d0 d1 d2 d3 d4 d5 d6 d7 KR HQ4
 go_wp2_with fail
 have KQ:=Aa (FG K kf m ga2 gn gc2 sa2 sn sc2 ya2 yn yc2 oa2 on oc2 va2 vn vc2 fa2 fn fc2 ba2 bl bd2 xa xn xc ins fuel gs sp ls ms vs (Bi nd kf fs) (AF nd kf l (Am kf fs)) _ HQ6.o (HX0.o.over HB5.o))
 refine KQ.o.mono ?_
 rintro e w6 h6
 obtain ⟨pa,pl,pc,pva,pvl,pvc,pta,ptl,ptc,ps,pen,ptp,rfl,hb6,hq6⟩:=L5 h6
 rw [LN HX.o nd (Am kf fs) ins fuel,<-HE.o] at hq6 ⊢
 have HQ7:=Aa hq6
 have hbs:=bA w6 (zf #[O pa pl pc,O pva pvl pvc,O pta ptl ptc,zd U ps,zd U pen,zd U ptp] 55)
 have hb6s:=Ag hb6 hbs
 have HBS:=Aa hbs
 have HB6S:=Aa hb6s
 have HB6:Hx (Ov w (w6.alloc (zf #[O pa pl pc,O pva pvl pvc,O pta ptl ptc,zd U ps,zd U pen,zd U ptp] 55))):=HB5.o.trans (hb6s.mono HB5.o.size)
 obtain ⟨k0,k1,k2,k3,k4,k5⟩:=co6 hb6s k0 k1 k2 k3 k4 k5
 obtain ⟨n0,n1,n2,n3,n4,n5⟩:=rc6 (Az w6 [O pa pl pc,O pva pvl pvc,O pta ptl ptc,zd U ps,zd U pen,zd U ptp] 55)
 clear h6 hb6 hq6 hbs hb6s g0 g1 g2 g3 g4 g5 g6 g7 KQ HQ6
 by_cases z1:E=0
 rotate_left
 ·have zb:(E == 0)=false:=by simpa using z1
  clear z1
  go_wp2_with fail
  go_ret
  exact ⟨rfl,HB6.o⟩
 subst z1
 obtain ⟨⟨hf1,hl1⟩,he1,hs1,hen1⟩:=HQ5.o rfl
 obtain ⟨⟨-,hl2⟩,he2,hs2,hen2⟩:=HQ7.o rfl
 have hcl:=(G6 HX.o ch).2.2
 have hdp:=JW HX.o
 rw [<-HND.o] at hcl
 have hrun:=JU (LS hdp.1 hcl) fuel.toNat hf1 ins l vn yn o0 o0 hdp.2 (fun x hx=>hcl x (List.mem_append_right _ hx))
 obtain ⟨V,hV⟩:=nm (w6.alloc (zf #[O pa pl pc,O pva pvl pvc,O pta ptl ptc,zd U ps,zd U pen,zd U ptp] 55))
 have hV1:EW V (O qa ql qc) (Cc K kf fs fuel.toNat ins AB l vn yn o0).ev:=by rw [hV];exact ((he1.over HBR.o).over HB6S.o)
 have hV2:EW V (O pa pl pc) (Cc K kf (Bi nd kf fs) fuel.toNat ins AB (AF nd kf l (Am kf fs)) vn yn o0).ev:=by rw [hV];exact he2.over HBS.o
 rw [<-hV] at HB6
 obtain ⟨r1,hr1⟩:=nm (Cc K kf fs fuel.toNat ins AB l vn yn o0)
 obtain ⟨r2,hr2⟩:=nm (Cc K kf (Bi nd kf fs) fuel.toNat ins AB (AF nd kf l (Am kf fs)) vn yn o0)
 rw [<-hr1] at hV1 hl1 hs1 hen1 hrun
 rw [<-hr2] at hV2 hl2 hs2 hen2 hrun
 have KP1:Hx (∀ X,Ov V X->_):=fun X (hX:Ov V X)=>FU ch r1.ev (O qa ql qc) X (hV1.over hX) (by omega)
 have KP2:Hx (∀ X,Ov V X->_):=fun X (hX:Ov V X)=>FU ch r2.ev (O pa pl pc) X (hV2.over hX) (by omega)
 obtain ⟨x,hxx⟩:=nm (A7 ch r1.ev)
 obtain ⟨y,hyy⟩:=nm (A7 ch r2.ev)
 have hxl:x.length<=2000:=by rw [hxx];exact Nat.le_trans (Ek ch r1.ev) hl1
 have hyl:y.length<=2000:=by rw [hyy];exact Nat.le_trans (Ek ch r2.ev) hl2
 rw [<-hxx] at KP1 hrun
 rw [<-hyy] at KP2 hrun
 have HRUN:Hx ((qen=1->pen=1/\ps<=qs/\x=y)/\x <+: y):=by
  refine ⟨fun h=>?_,hrun.2⟩
  obtain ⟨h1,h2,h3⟩:=hrun.1 (hen1.trans h)
  exact ⟨hen2.symm.trans h1,by omega,h3⟩
 have k0:V.cell? ⟨w5.heap.size,0,none⟩=some (O qa ql qc):=by rw [hV];exact k0
 have k3:V.cell? ⟨w5.heap.size,3,none⟩=some (zd U qs):=by rw [hV];exact k3
 have k4:V.cell? ⟨w5.heap.size,4,none⟩=some (zd U qen):=by rw [hV];exact k4
 have n0:V.cell? ⟨w6.heap.size,0,none⟩=some (O pa pl pc):=by rw [hV];exact n0
 have n3:V.cell? ⟨w6.heap.size,3,none⟩=some (zd U ps):=by rw [hV];exact n3
 have n4:V.cell? ⟨w6.heap.size,4,none⟩=some (zd U pen):=by rw [hV];exact n4
 obtain ⟨xl,hxn⟩:=nm x.length
 obtain ⟨yl,hyn⟩:=nm y.length
 rw [<-hxn] at KP1 hxl
 rw [<-hyn] at KP2 hyl
 have HXY:=Aa (And.intro hxn hyn)
 clear hV1 hV2 hrun hr1 hr2 hxx hyy hl1 hl2 hs1 hs2 hen1 hen2 he1 he2 hcl hdp hf1 hxn hyn HQ5 HQ7
 go_wp2_with fail
 rw [<-hV]
 clear hV
 refine gS (fun Wz=>Below V.heap.size V Wz) (Below.refl _ _).drew fun hHeld=>?_
 generalize V.drew=W at hHeld ⊢
 refine kO 0 ?_
 refine kO 1 ?_
 refine kO 2 ?_
 refine kO 4 ?_
 refine kO 5 ?_
 refine kO 6 ?_
 refine rdA 3 rfl fun K hK=>?_
 go_simp
 refine (KP1.o _ hHeld).mono ?_
 rintro e W8 ⟨ua,uc,rfl,hO8,hc8,hb8⟩
 have HO8:=Aa hO8
 have HC8:=Aa hc8
 have HB8:Hx (Ov V W8):=hHeld.trans (hb8.mono hHeld.size)
 clear hO8 hc8 hb8 hHeld
 go_simp
 refine xK hK (HB8.o) fun hHeld=>?_
 clear hK K
 refine rdA 7 rfl fun K hK=>?_
 go_simp
 refine (KP2.o _ HB8.o).mono ?_
 rintro e W9 ⟨za,zc,rfl,hO9,hc9,hb9⟩
 have HO9:=Aa hO9
 have HC9:=Aa hc9
 have HB89:=Aa hb9
 have HB9:Hx (Ov V W9):=HB8.o.trans (hb9.mono HB8.o.size)
 clear hO9 hc9 hb9 hHeld
 go_simp
 refine xK hK (HB9.o) fun hHeld=>?_
 clear hK K
 refine kO 8 ?_
 refine kO 9 ?_
 refine gE ?_
 obtain ⟨a3,a4⟩:CE W9 w5.heap.size 3 (zd U qs)/\CE W9 w5.heap.size 4 (zd U qen):=⟨Ab HB9.o _ _ k3,Ab HB9.o _ _ k4⟩
 obtain ⟨e3,e4⟩:CE W9 w6.heap.size 3 (zd U ps)/\CE W9 w6.heap.size 4 (zd U pen):=⟨Ab HB9.o _ _ n3,Ab HB9.o _ _ n4⟩
 have HBF:Hx (Ov w W9):=HB6.o.trans (HB9.o.mono HB6.o.size)
 have HI1:Hx (Ar W9 (O ua xl uc) x):=(HO8.o.over HB89.o).self
 have HI2:Hx (Ar W9 (O za yl zc) y):=HO9.o.self
 clear k0 k1 k2 k3 k4 k5 n0 n1 n2 n3 n4 n5
 by_cases z1:qen=1
 ·obtain ⟨h1,h2,h3⟩:=HRUN.o.1 z1
  subst z1 h1 h3
  have hle:ps<=qs:=h2
  have hxy:xl=yl:=HXY.o.1.trans HXY.o.2.symm
  subst hxy
  have KI:=Aa (DZ x (O ua xl uc) (O za xl zc) W9 HI1.o HI2.o (by have h9:=HXY.o.1;omega))
  clear h2
  go_wp2_with fail
  refine KI.o.mono ?_
  rintro e W10 ⟨rfl,n,rfl⟩
  go_wp2_with fail
  go_ret
  exact ⟨rfl,below_drewN HBF.o n⟩
 ·have zb:(qen == 1)=false:=by simpa using z1
  have hpl:=HRUN.o.2.length_le
  have hle:xl<=yl:=by have h9:=HXY.o;omega
  have HP3:Hx (Ar W9 (O za xl zc) x):=by
   show Ar _ _ _
   rw [HXY.o.1]
   exact Jl (by rw [<-HXY.o.2];exact HI2.o) HRUN.o.2
  have KI:=Aa (DZ x (O ua xl uc) (O za xl zc) W9 HI1.o HP3.o (by have h9:=HXY.o.1;omega))
  have hcap:=HC9.o
  have hcap8:=HC8.o
  clear z1 hpl
  go_wp2_with fail
  refine KI.o.mono ?_
  rintro e W10 ⟨rfl,n,rfl⟩
  go_wp2_with fail
  go_ret
  exact ⟨rfl,below_drewN HBF.o n⟩
end Go.Proofs.YtfffpjkcfnekaaaGreat.Ex
