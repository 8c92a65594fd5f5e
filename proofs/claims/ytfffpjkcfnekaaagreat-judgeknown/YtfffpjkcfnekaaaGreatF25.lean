/- What must be in any case, of levels that are inferred. -/
import Derived.Test.YtfffpjkcfnekaaaGreatF23
import Derived.Test.YtfffpjkcfnekaaaGreatF24
set_option linter.unusedVariables false
set_option maxHeartbeats 8000000
set_option maxRecDepth 100000
namespace Go.Proofs.YtfffpjkcfnekaaaGreat.Ex
open Go.RowKit
open Go.Value renaming slice -> O, int -> U, bool -> zg, agg -> zh, pointer -> zj, tuple -> zm
open Go.IntKind renaming i64 -> zd
open Go.Obj renaming cells -> ze
open Go.Ending renaming returned -> zk
set_option linter.unusedSimpArgs false
theorem Dn {W:World} {b:Nat} (h:W.cell? ⟨b,0,none⟩=some (zg true)):AN W (O (some ⟨b,0,none⟩) 1 1) [true]:=⟨some ⟨b,0,none⟩,1,rfl,fun _=>⟨b,0,rfl,fun i hi=>by
 have:i=0:=by simp at hi;omega
 subst this
 exact h⟩⟩
theorem Pq (cs:Array Value) (t:Nat) (w:World):Ae cs.toList (w.alloc (.cells cs t)) w.heap.size:=by
 have:=Ae.new cs.toList t w
 simpa using this
theorem G7 {cs:List Value} {w w':World} {b:Nat} {a:Array Value} {t:Nat} (ha:a.toList=cs) (hb:b=w.heap.size) (hw:Ov (w.alloc (.cells a t)) w'):Ae cs w' b:=by
 subst hb
 rw [<-ha]
 exact (Pq a t w).over hw
theorem Ok (w:World):Calls Tryz.prog 38 #[] w fun e w'=>∃ bi bo bv bm,e=zk (zh #[U zd 1,O none 0 0,O none 0 0,O (some ⟨bi,0,none⟩) 1 1,O (some ⟨bo,0,none⟩) 1 1,O (some ⟨bv,0,none⟩) 1 1,O none 0 0,O (some ⟨bm,0,none⟩) 2 2])/\D7 bi bo bv bm w'/\Ov w w':=by
 go_enter Tryz.func38,Tryz.ntmps38
 go_wp2_with fail
 have hbr:=fun (W:World) (o:Obj)=>bA W o
 refine bodyPost_ret (v:=DX (w.heap.size+1) (w.heap.size+1+1) (w.heap.size+1+1+1) (w.heap.size+1+1+1+1)) (by simp [results,Tryz.results38,go_sem]) rfl ⟨_,_,_,_,rfl,⟨?_,?_,?_,?_⟩,?_⟩
 ·exact G7 rfl (by simp) (Ac (Ac (hbr _ _) (hbr _ _)) (hbr _ _))
 ·exact G7 rfl (by simp) (Ac (hbr _ _) (hbr _ _))
 ·exact G7 rfl (by simp) (hbr _ _)
 ·exact G7 rfl (by simp) (Below.refl _ _)
 ·exact Ac (Ac (Ac (Ac (hbr _ _) (hbr _ _)) (hbr _ _)) (hbr _ _)) (hbr _ _)
abbrev C3 (xb:Nat) (k1:Option Addr) (k2 k3:Nat) (k4:Option Addr) (k5 k6:Nat) (w2:World) (bl ol lc:Nat) (ka:Option Addr) (kc:Nat) (m1:Option Addr) (m2 m3:Nat) (m4:Option Addr) (m5 m6:Nat) (Wz:World):Prop:=Wz.cell? ⟨xb,0,none⟩=some (O k1 k2 k3)/\Wz.cell? ⟨xb,1,none⟩=some (O k4 k5 k6)/\Wz.cell? ⟨w2.heap.size,0,none⟩=some (O (some ⟨bl,ol,none⟩) 1 lc)/\Wz.cell? ⟨w2.heap.size,1,none⟩=some (O ka 0 kc)/\Wz.cell? ⟨bl,ol,none⟩=some (O m1 m2 m3)/\Wz.cell? ⟨bl,ol+1,none⟩=some (O m4 m5 m6)
theorem F7 (w:World):Calls Tryz.prog 12 #[] w fun e w'=>e=zk (zg true)/\Ov w w':=by
 have K1:=Aa Ok
 go_enter Tryz.func12,Tryz.ntmps12
 go_wp2_with fail
 refine (K1.o _).mono ?_
 rintro e w1 ⟨bi,bo,bv,bm,rfl,hs,hb1⟩
 have K2:=Aa (Jm bi bo bv bm w1 hs)
 go_wp2_with fail
 refine (K2.o).mono ?_
 rintro e w2 ⟨la,lc,ka,kc,rfl,h1,h2,hb2⟩
 have hba:=bA w2 (ze #[O la 1 lc,O ka 0 kc] 44)
 have HI1:=Aa (Aw h1 hba)
 have HI2:=Aa (Aw h2 hba)
 have HRL:=Aa (Ae.new [O la 1 lc,O ka 0 kc] 44 w2)
 have HB2:=Aa (Ac (Ac hb1 hb2) hba)
 have hS0:(w2.alloc (ze #[O la 1 lc,O ka 0 kc] 44)).cell? ⟨w2.heap.size,0,none⟩=some (O la 1 lc)/\(w2.alloc (ze #[O la 1 lc,O ka 0 kc] 44)).cell? ⟨w2.heap.size,1,none⟩=some (O ka 0 kc):=⟨HRL.o 0 _ rfl,HRL.o 1 _ rfl⟩
 clear hs hb1 K2 h1 h2 hb2 hba
 go_wp2_with fail
 refine gS (fun Wz=>Wz.cell? ⟨w2.heap.size,0,none⟩=some (O la 1 lc)/\Wz.cell? ⟨w2.heap.size,1,none⟩=some (O ka 0 kc)) (hS0) fun hHeld=>?_
 refine kT 1 ?_
 refine rdA 0 rfl fun K hK=>?_
 go_simp
 refine (K1.o _).mono ?_
 rintro e W3 ⟨ci,co,cv,cm,rfl,hs3,hb3⟩
 have hbz:=Ac ((Below.refl _ (w2.alloc (ze #[O la 1 lc,O ka 0 kc] 44))).drew) hb3
 have hr:=HRL.o.over hbz
 have hS3:W3.cell? ⟨w2.heap.size,0,none⟩=some (O la 1 lc)/\W3.cell? ⟨w2.heap.size,1,none⟩=some (O ka 0 kc):=⟨hr 0 _ rfl,hr 1 _ rfl⟩
 have K5:=Aa (Lg ci co cv cm la lc ka kc W3 hs3 (Aw HI1.o hbz) (Aw HI2.o hbz))
 have HBZ3:=Aa hbz
 clear hr hs3 hb3 hbz
 go_simp
 refine xK hK (hS3) fun hHeld=>?_
 clear hK K
 refine rdA 2 rfl fun K hK=>?_
 go_simp
 refine (K5.o).mono ?_
 rintro e W4 ⟨rfl,hb4⟩
 have hbz:=Ac HBZ3.o hb4
 have hr:=HRL.o.over hbz
 have hS4:W4.cell? ⟨w2.heap.size,0,none⟩=some (O la 1 lc)/\W4.cell? ⟨w2.heap.size,1,none⟩=some (O ka 0 kc):=⟨hr 0 _ rfl,hr 1 _ rfl⟩
 have HBZ4:=Aa hbz
 clear hr hb4 hbz
 go_simp
 refine xK hK (hS4) fun hHeld=>?_
 clear hK K
 refine kT 3 ?_
 refine kT 4 ?_
 refine kT 5 ?_
 refine kT 6 ?_
 refine kT 7 ?_
 refine gE ?_
 clear hS0 hS3 hHeld K5
 have hS0:=hS4
 clear hS4
 go_wp2_with fail
 refine gS (fun Wz=>Wz.cell? ⟨w2.heap.size,0,none⟩=some (O la 1 lc)/\Wz.cell? ⟨w2.heap.size,1,none⟩=some (O ka 0 kc)) (hS0) fun hHeld=>?_
 refine kT 1 ?_
 refine kT 2 ?_
 refine rdB 0 7 rfl (fun K hK=>?_) rfl fun K hK=>?_
 ·go_simp
  refine (K1.o _).mono ?_
  rintro e W5 ⟨di,dj,dv,dm,rfl,hs5,hb5⟩
  have hbz5:Ov W4 W5:=Ac (bD W4) hb5
  have hr:=HRL.o.over (Ac HBZ4.o hbz5)
  have hS5:W5.cell? ⟨w2.heap.size,0,none⟩=some (O la 1 lc)/\W5.cell? ⟨w2.heap.size,1,none⟩=some (O ka 0 kc):=⟨hr 0 _ rfl,hr 1 _ rfl⟩
  have HBZ5:=Aa hbz5
  have HS5:=Aa hs5
  clear hr hs5 hb5 hbz5
  go_simp
  refine xK hK (hS5) fun hHeld=>?_
  clear hK K
  refine rdB 3 7 rfl (fun K hK=>?_) rfl fun K hK=>?_
  ·go_simp
   refine (Hc di dj dv dm la lc ka kc _ (HS5.o) (Aw HI1.o (Ac HBZ4.o (HBZ5.o))) (Aw HI2.o (Ac HBZ4.o (HBZ5.o)))).mono ?_
   rintro e W6 ⟨k1,k2,k3,k4,k5,k6,rfl,hlev,hb6⟩
   have hbz6:Ov W4 W6:=Ac (HBZ5.o) hb6
   have hr:=HRL.o.over (Ac HBZ4.o hbz6)
   have hS6:W6.cell? ⟨w2.heap.size,0,none⟩=some (O la 1 lc)/\W6.cell? ⟨w2.heap.size,1,none⟩=some (O ka 0 kc):=⟨hr 0 _ rfl,hr 1 _ rfl⟩
   have HBZ6:=Aa hbz6
   have HLV:=Aa hlev
   clear hr hlev hb6 hbz6
   go_simp
   refine xK hK (hS6) fun hHeld=>?_
   clear hK K
   refine kT 4 ?_
   refine kT 5 ?_
   refine kT 6 ?_
   refine rdA 7 rfl fun K hK=>?_
   go_simp
   refine xK hK (by have hr:=HRL.o.over (Ac HBZ4.o ((HBZ6.o).alloc ((HBZ6.o).size) (ze #[O none 0 0,O none 0 0] 50)));exact ⟨hr 0 _ rfl,hr 1 _ rfl⟩) fun hHeld=>?_
   clear hK K
   have hal:=bA W6 (ze #[O k1 k2 k3,O k4 k5 k6] 50)
   have hF2:=HRL.o.over (Ac HBZ4.o (Ac HBZ6.o hal))
   have hF1:=Ae.new [O k1 k2 k3,O k4 k5 k6] 50 W6
   have HF1:=Aa (And.intro (hF1 0 _ rfl) (hF1 1 _ rfl))
   have HF2:=Aa hF2
   have HF3:=Aa (Ag HLV.o hal)
   have HF4:=Aa (Aw HI1.o (Ac HBZ4.o (Ac HBZ6.o hal)))
   have HF5:=Aa (Ac HB2.o (Ac HBZ4.o (Ac HBZ6.o hal)))
   have hSF:(W6.alloc (ze #[O k1 k2 k3,O k4 k5 k6] 50)).cell? ⟨w2.heap.size,0,none⟩=some (O la 1 lc)/\(W6.alloc (ze #[O k1 k2 k3,O k4 k5 k6] 50)).cell? ⟨w2.heap.size,1,none⟩=some (O ka 0 kc):=⟨hF2 0 _ rfl,hF2 1 _ rfl⟩
   clear hal hF2 hF1
   refine rdA 8 rfl fun K hK=>?_
   go_simp
   refine xK hK (hSF) fun hHeld=>?_
   clear hK K
   refine kT 9 ?_
   refine gE ?_
   clear hS0 hSF hHeld
   generalize (W6.alloc (ze #[O k1 k2 k3,O k4 k5 k6] 50))=WX at HF1 HF2 HF3 HF4 HF5 ⊢
   generalize W6.heap.size=xb at HF1 ⊢
   obtain ⟨x0,x1⟩:=HF1.o
   obtain ⟨ao,cap,hle,hel⟩:=HF4.o
   injection hle with e1 e2 e3
   obtain ⟨bl,ol,hbo,hel⟩:=hel (by simp)
   obtain ⟨rv,wv,g0,g1,hlv⟩:=hel 0 (by simp)
   have e4:=e1.trans hbo
   subst e4
   obtain ⟨m1,m2,m3,m4,m5,m6,hf3,hf4⟩:=AP hlv
   subst hf3 hf4
   simp only [Nat.zero_mul,Nat.add_zero] at g0 g1
   have y0:=HF2.o 0 _ rfl
   have y1:=HF2.o 1 _ rfl
   have hlv1:AQ WX (zh #[O m1 m2 m3,O m4 m5 m6]) ⟨[true],[true]⟩:=hlv
   have KSL:=Aa fun W (hW:Ov WX W)=>Cn (zh #[O k1 k2 k3,O k4 k5 k6]) (zh #[O m1 m2 m3,O m4 m5 m6]) ⟨[true],[true]⟩ ⟨[true],[true]⟩ W (Ag HF3.o hW) (Ag hlv1 hW) ⟨by simp,by simp⟩
   have hsl:DA ⟨[true],[true]⟩ ⟨[true],[true]⟩=true:=rfl
   rw [hsl] at KSL
   obtain ⟨u1,u2,hu,bu1,bu2⟩:=HF3.o
   simp at hu
   obtain ⟨hu1,hu2⟩:=hu
   subst hu1 hu2
   have hdt:decide ([true]=[true])=true:=rfl
   have KSR:=Aa fun b W (hW:Ov WX W) (hc:W.cell? ⟨b,0,none⟩=some (zg true))=>Bu (O k1 k2 k3) (O (some ⟨b,0,none⟩) 1 1) [true] [true] W (Ar bu1 hW) (Dn hc) (by simp)
   have KSW:=Aa fun b W (hW:Ov WX W) (hc:W.cell? ⟨b,0,none⟩=some (zg true))=>Bu (O k4 k5 k6) (O (some ⟨b,0,none⟩) 1 1) [true] [true] W (Ar bu2 hW) (Dn hc) (by simp)
   rw [hdt] at KSR KSW
   have hS9:C3 xb k1 k2 k3 k4 k5 k6 w2 bl ol lc ka kc m1 m2 m3 m4 m5 m6 WX:=⟨x0,x1,y0,y1,g0,g1⟩
   clear hel hlv hlv1 hsl hdt bu1 bu2 e1 e2 e3 hbo HF1 HF2 HF3 HF4
   go_wp2_with fail
   refine gS (C3 xb k1 k2 k3 k4 k5 k6 w2 bl ol lc ka kc m1 m2 m3 m4 m5 m6) (hS9) fun hHeld=>?_
   refine kT 0 ?_
   refine kT 1 ?_
   refine kT 2 ?_
   refine kT 3 ?_
   refine kT 4 ?_
   refine kT 5 ?_
   refine kT 6 ?_
   refine kT 7 ?_
   refine kT 8 ?_
   refine kT 9 ?_
   refine kT 10 ?_
   refine kT 11 ?_
   refine kT 12 ?_
   refine kT 13 ?_
   refine kT 14 ?_
   refine kT 15 ?_
   refine kT 16 ?_
   refine kT 17 ?_
   refine kT 18 ?_
   refine kT 19 ?_
   refine kT 20 ?_
   refine kT 21 ?_
   refine kT 22 ?_
   refine kT 23 ?_
   refine kT 24 ?_
   refine rdA 25 rfl fun K hK=>?_
   go_simp
   refine (KSL.o _ (bD WX)).mono ?_
   rintro e W7 ⟨rfl,hb7⟩
   have hbz7:Ov WX W7:=Ac (bD WX) hb7
   have hSW7:C3 xb k1 k2 k3 k4 k5 k6 w2 bl ol lc ka kc m1 m2 m3 m4 m5 m6 W7:=⟨Ab hbz7 _ _ x0,Ab hbz7 _ _ x1,Ab hbz7 _ _ y0,Ab hbz7 _ _ y1,Ab hbz7 _ _ g0,Ab hbz7 _ _ g1⟩
   have HBW7:=Aa hbz7
   clear hb7 hbz7
   go_simp
   refine xK hK (hSW7) fun hHeld=>?_
   clear hK K
   refine kT 26 ?_
   refine kT 27 ?_
   refine kT 28 ?_
   refine kT 29 ?_
   refine rdA 30 rfl fun K hK=>?_
   go_simp
   refine xK hK (⟨Ab ((HBW7.o).alloc ((HBW7.o).size) (ze #[zg true] 4)) _ _ x0,Ab ((HBW7.o).alloc ((HBW7.o).size) (ze #[zg true] 4)) _ _ x1,Ab ((HBW7.o).alloc ((HBW7.o).size) (ze #[zg true] 4)) _ _ y0,Ab ((HBW7.o).alloc ((HBW7.o).size) (ze #[zg true] 4)) _ _ y1,Ab ((HBW7.o).alloc ((HBW7.o).size) (ze #[zg true] 4)) _ _ g0,Ab ((HBW7.o).alloc ((HBW7.o).size) (ze #[zg true] 4)) _ _ g1⟩) fun hHeld=>?_
   clear hK K
   refine rdA 31 rfl fun K hK=>?_
   go_simp
   refine (KSR.o W7.heap.size _ ((HBW7.o).alloc ((HBW7.o).size) (ze #[zg true] 4)) (by simp [go_sem])).mono ?_
   rintro e W8 ⟨rfl,nn,hW⟩
   have hb8:Ov WX W8:=by rw [hW];exact below_drewN (((HBW7.o).alloc ((HBW7.o).size) (ze #[zg true] 4))) nn
   have hSW8:C3 xb k1 k2 k3 k4 k5 k6 w2 bl ol lc ka kc m1 m2 m3 m4 m5 m6 W8:=⟨Ab hb8 _ _ x0,Ab hb8 _ _ x1,Ab hb8 _ _ y0,Ab hb8 _ _ y1,Ab hb8 _ _ g0,Ab hb8 _ _ g1⟩
   have HBW8:=Aa hb8
   clear hb8 hW
   go_simp
   refine xK hK (hSW8) fun hHeld=>?_
   clear hK K
   refine kT 32 ?_
   refine kT 33 ?_
   refine kT 34 ?_
   refine kT 35 ?_
   refine rdA 36 rfl fun K hK=>?_
   go_simp
   refine xK hK (⟨Ab ((HBW8.o).alloc ((HBW8.o).size) (ze #[zg true] 4)) _ _ x0,Ab ((HBW8.o).alloc ((HBW8.o).size) (ze #[zg true] 4)) _ _ x1,Ab ((HBW8.o).alloc ((HBW8.o).size) (ze #[zg true] 4)) _ _ y0,Ab ((HBW8.o).alloc ((HBW8.o).size) (ze #[zg true] 4)) _ _ y1,Ab ((HBW8.o).alloc ((HBW8.o).size) (ze #[zg true] 4)) _ _ g0,Ab ((HBW8.o).alloc ((HBW8.o).size) (ze #[zg true] 4)) _ _ g1⟩) fun hHeld=>?_
   clear hK K
   refine rdA 37 rfl fun K hK=>?_
   go_simp
   refine (KSW.o W8.heap.size _ ((HBW8.o).alloc ((HBW8.o).size) (ze #[zg true] 4)) (by simp [go_sem])).mono ?_
   rintro e W9 ⟨rfl,nn,hW⟩
   have hb8:Ov WX W9:=by rw [hW];exact below_drewN (((HBW8.o).alloc ((HBW8.o).size) (ze #[zg true] 4))) nn
   have hSW9:C3 xb k1 k2 k3 k4 k5 k6 w2 bl ol lc ka kc m1 m2 m3 m4 m5 m6 W9:=⟨Ab hb8 _ _ x0,Ab hb8 _ _ x1,Ab hb8 _ _ y0,Ab hb8 _ _ y1,Ab hb8 _ _ g0,Ab hb8 _ _ g1⟩
   have HBW9:=Aa hb8
   clear hb8 hW
   go_simp
   refine xK hK (hSW9) fun hHeld=>?_
   clear hK K
   refine kT 38 ?_
   refine kT 39 ?_
   refine gE ?_
   have HEND:=Aa (Ac HF5.o HBW9.o)
   go_wp2_with fail
   go_ret
   exact ⟨rfl,HEND.o⟩
  ·go_simp
   refine xK hK (by have hr:=HRL.o.over (Ac HBZ4.o ((HBZ5.o).alloc ((HBZ5.o).size) (ze #[O none 0 0,O none 0 0] 50)));exact ⟨hr 0 _ rfl,hr 1 _ rfl⟩) fun hHeld=>?_
   clear hK K
   refine rdA 3 rfl fun K hK=>?_
   go_simp
   refine (Hc di dj dv dm la lc ka kc _ (HS5.o.over (bA W5 _)) (Aw HI1.o (Ac HBZ4.o (((HBZ5.o).alloc ((HBZ5.o).size) (ze #[O none 0 0,O none 0 0] 50))))) (Aw HI2.o (Ac HBZ4.o (((HBZ5.o).alloc ((HBZ5.o).size) (ze #[O none 0 0,O none 0 0] 50)))))).mono ?_
   rintro e W6 ⟨k1,k2,k3,k4,k5,k6,rfl,hlev,hb6⟩
   have hbz6:Ov W4 W6:=Ac (((HBZ5.o).alloc ((HBZ5.o).size) (ze #[O none 0 0,O none 0 0] 50))) hb6
   have hr:=HRL.o.over (Ac HBZ4.o hbz6)
   have hS6:W6.cell? ⟨w2.heap.size,0,none⟩=some (O la 1 lc)/\W6.cell? ⟨w2.heap.size,1,none⟩=some (O ka 0 kc):=⟨hr 0 _ rfl,hr 1 _ rfl⟩
   have HBZ6:=Aa hbz6
   have HLV:=Aa hlev
   have bx6:W6.heap[W5.heap.size]? = some (ze #[O none 0 0,O none 0 0] 50):=(hb6.block _ (Array.getElem?_eq_some_iff.1 (AJ W5 (ze #[O none 0 0,O none 0 0] 50))).1).trans (AJ W5 (ze #[O none 0 0,O none 0 0] 50))
   have BX6:=Aa bx6
   clear bx6
   clear hr hlev hb6 hbz6
   go_simp
   refine xK hK (hS6) fun hHeld=>?_
   clear hK K
   refine kT 4 ?_
   refine kT 5 ?_
   refine kT 6 ?_
   have bX:W6.heap[W5.heap.size]? = some (ze #[O none 0 0,O none 0 0] 50):=BX6.o
   have x0:W6.cell? ⟨W5.heap.size,0,none⟩=some (O none 0 0):=by rw [Lib.cell_of_heap bX];rfl
   have x1:W6.cell? ⟨W5.heap.size,1,none⟩=some (O none 0 0):=by rw [Lib.cell_of_heap bX];rfl
   have xz:∀ j,W6.frozen? ⟨W5.heap.size,j,none⟩=false:=fun j=>by first | (simp [World.frozen?,bX];done) | (simp [go_sem];done)
   have hlt4:W4.heap.size<=W5.heap.size:=by first | exact Nat.le_refl _ | exact HBZ5.o.size | exact HBZ6.o.size
   have hbB:Ov W4 W6:=HBZ6.o
   have hr:=HRL.o.over (Ac HBZ4.o hbB)
   have hne:W5.heap.size≠w2.heap.size:=by have h1:=bL (HRL.o.over HBZ4.o 0 _ rfl);simp at h1;omega
   have hcr:∀ j u,W6.cell? ⟨W5.heap.size,j,none⟩=some u->∃ a m c,u=O a m c:=fun j u hu=>by
    rw [Lib.cell_of_heap bX] at hu
    match j,hu with
    | 0,hu=>simp at hu;exact ⟨_,_,_,hu.symm⟩
    | 1,hu=>simp at hu;exact ⟨_,_,_,hu.symm⟩
    | j+2,hu=>simp at hu
   have hF3:AQ ((W6.setCell ⟨W5.heap.size,0,none⟩ (O k1 k2 k3)).setCell ⟨W5.heap.size,1,none⟩ (O k4 k5 k6)) (zh #[O k1 k2 k3,O k4 k5 k6]) ⟨[true],[true]⟩:=Hf (HLV.o) hcr
   have hF4:Bg ((W6.setCell ⟨W5.heap.size,0,none⟩ (O k1 k2 k3)).setCell ⟨W5.heap.size,1,none⟩ (O k4 k5 k6)) (O la 1 lc) [⟨[true],[true]⟩]:=EK (n:=1) (X:=fun _ _=>False) (EL (Nat.le_refl _) (Aw HI1.o (Ac HBZ4.o hbB)) (by intro x hx;simp at hx;subst hx;exact ⟨rfl,rfl⟩) (fun _ h=>h.elim)) hcr (fun a m c e=>by injection e with e1;exact FB HI1.o (by simp) e1 (Nat.le_trans HBZ4.o.size hlt4))
   have hF2:Ae [O la 1 lc,O ka 0 kc] ((W6.setCell ⟨W5.heap.size,0,none⟩ (O k1 k2 k3)).setCell ⟨W5.heap.size,1,none⟩ (O k4 k5 k6)) w2.heap.size:=fun j u hu=>by rw [BB (Or.inl hne),BB (Or.inl hne)];exact hr j u hu
   have hF1a:((W6.setCell ⟨W5.heap.size,0,none⟩ (O k1 k2 k3)).setCell ⟨W5.heap.size,1,none⟩ (O k4 k5 k6)).cell? ⟨W5.heap.size,0,none⟩=some (O k1 k2 k3):=by rw [BB (Or.inr (by omega))];exact World.cell?_setCell_same _ _ _ x0
   have hF1b:((W6.setCell ⟨W5.heap.size,0,none⟩ (O k1 k2 k3)).setCell ⟨W5.heap.size,1,none⟩ (O k4 k5 k6)).cell? ⟨W5.heap.size,1,none⟩=some (O k4 k5 k6):=World.cell?_setCell_same _ _ _ (u:=O none 0 0) (by rw [BB (Or.inr (by omega))];exact x1)
   have hF5:Ov w ((W6.setCell ⟨W5.heap.size,0,none⟩ (O k1 k2 k3)).setCell ⟨W5.heap.size,1,none⟩ (O k4 k5 k6)):=((Ac HB2.o (Ac HBZ4.o hbB)).setCell (p:=⟨W5.heap.size,0,none⟩) (by have h1:=(Ac HB2.o HBZ4.o).size;simp;omega) _).setCell (p:=⟨W5.heap.size,1,none⟩) (by have h1:=(Ac HB2.o HBZ4.o).size;simp;omega) _
   have HF1:=Aa (And.intro hF1a hF1b)
   have HF2:=Aa hF2
   have HF3:=Aa hF3
   have HF4:=Aa hF4
   have HF5:=Aa hF5
   have hSF:((W6.setCell ⟨W5.heap.size,0,none⟩ (O k1 k2 k3)).setCell ⟨W5.heap.size,1,none⟩ (O k4 k5 k6)).cell? ⟨w2.heap.size,0,none⟩=some (O la 1 lc)/\((W6.setCell ⟨W5.heap.size,0,none⟩ (O k1 k2 k3)).setCell ⟨W5.heap.size,1,none⟩ (O k4 k5 k6)).cell? ⟨w2.heap.size,1,none⟩=some (O ka 0 kc):=⟨hF2 0 _ rfl,hF2 1 _ rfl⟩
   clear bX hbB hr hcr hF3 hF4 hF2 hF1a hF1b hF5 hlt4 hne
   refine rdA 8 rfl fun K hK=>?_
   go_simp
   refine xK hK (hSF) fun hHeld=>?_
   clear hK K
   refine kT 9 ?_
   refine gE ?_
   clear x0 x1 xz
   clear hS0 hSF hHeld
   generalize ((W6.setCell ⟨W5.heap.size,0,none⟩ (O k1 k2 k3)).setCell ⟨W5.heap.size,1,none⟩ (O k4 k5 k6))=WX at HF1 HF2 HF3 HF4 HF5 ⊢
   generalize W5.heap.size=xb at HF1 ⊢
   obtain ⟨x0,x1⟩:=HF1.o
   obtain ⟨ao,cap,hle,hel⟩:=HF4.o
   injection hle with e1 e2 e3
   obtain ⟨bl,ol,hbo,hel⟩:=hel (by simp)
   obtain ⟨rv,wv,g0,g1,hlv⟩:=hel 0 (by simp)
   have e4:=e1.trans hbo
   subst e4
   obtain ⟨m1,m2,m3,m4,m5,m6,hf3,hf4⟩:=AP hlv
   subst hf3 hf4
   simp only [Nat.zero_mul,Nat.add_zero] at g0 g1
   have y0:=HF2.o 0 _ rfl
   have y1:=HF2.o 1 _ rfl
   have hlv1:AQ WX (zh #[O m1 m2 m3,O m4 m5 m6]) ⟨[true],[true]⟩:=hlv
   have KSL:=Aa fun W (hW:Ov WX W)=>Cn (zh #[O k1 k2 k3,O k4 k5 k6]) (zh #[O m1 m2 m3,O m4 m5 m6]) ⟨[true],[true]⟩ ⟨[true],[true]⟩ W (Ag HF3.o hW) (Ag hlv1 hW) ⟨by simp,by simp⟩
   have hsl:DA ⟨[true],[true]⟩ ⟨[true],[true]⟩=true:=rfl
   rw [hsl] at KSL
   obtain ⟨u1,u2,hu,bu1,bu2⟩:=HF3.o
   simp at hu
   obtain ⟨hu1,hu2⟩:=hu
   subst hu1 hu2
   have hdt:decide ([true]=[true])=true:=rfl
   have KSR:=Aa fun b W (hW:Ov WX W) (hc:W.cell? ⟨b,0,none⟩=some (zg true))=>Bu (O k1 k2 k3) (O (some ⟨b,0,none⟩) 1 1) [true] [true] W (Ar bu1 hW) (Dn hc) (by simp)
   have KSW:=Aa fun b W (hW:Ov WX W) (hc:W.cell? ⟨b,0,none⟩=some (zg true))=>Bu (O k4 k5 k6) (O (some ⟨b,0,none⟩) 1 1) [true] [true] W (Ar bu2 hW) (Dn hc) (by simp)
   rw [hdt] at KSR KSW
   have hS9:C3 xb k1 k2 k3 k4 k5 k6 w2 bl ol lc ka kc m1 m2 m3 m4 m5 m6 WX:=⟨x0,x1,y0,y1,g0,g1⟩
   clear hel hlv hlv1 hsl hdt bu1 bu2 e1 e2 e3 hbo HF1 HF2 HF3 HF4
   go_wp2_with fail
   refine gS (C3 xb k1 k2 k3 k4 k5 k6 w2 bl ol lc ka kc m1 m2 m3 m4 m5 m6) (hS9) fun hHeld=>?_
   refine kT 0 ?_
   refine kT 1 ?_
   refine kT 2 ?_
   refine kT 3 ?_
   refine kT 4 ?_
   refine kT 5 ?_
   refine kT 6 ?_
   refine kT 7 ?_
   refine kT 8 ?_
   refine kT 9 ?_
   refine kT 10 ?_
   refine kT 11 ?_
   refine kT 12 ?_
   refine kT 13 ?_
   refine kT 14 ?_
   refine kT 15 ?_
   refine kT 16 ?_
   refine kT 17 ?_
   refine kT 18 ?_
   refine kT 19 ?_
   refine kT 20 ?_
   refine kT 21 ?_
   refine kT 22 ?_
   refine kT 23 ?_
   refine kT 24 ?_
   refine rdA 25 rfl fun K hK=>?_
   go_simp
   refine (KSL.o _ (bD WX)).mono ?_
   rintro e W7 ⟨rfl,hb7⟩
   have hbz7:Ov WX W7:=Ac (bD WX) hb7
   have hSW7:C3 xb k1 k2 k3 k4 k5 k6 w2 bl ol lc ka kc m1 m2 m3 m4 m5 m6 W7:=⟨Ab hbz7 _ _ x0,Ab hbz7 _ _ x1,Ab hbz7 _ _ y0,Ab hbz7 _ _ y1,Ab hbz7 _ _ g0,Ab hbz7 _ _ g1⟩
   have HBW7:=Aa hbz7
   clear hb7 hbz7
   go_simp
   refine xK hK (hSW7) fun hHeld=>?_
   clear hK K
   refine kT 26 ?_
   refine kT 27 ?_
   refine kT 28 ?_
   refine kT 29 ?_
   refine rdA 30 rfl fun K hK=>?_
   go_simp
   refine xK hK (⟨Ab ((HBW7.o).alloc ((HBW7.o).size) (ze #[zg true] 4)) _ _ x0,Ab ((HBW7.o).alloc ((HBW7.o).size) (ze #[zg true] 4)) _ _ x1,Ab ((HBW7.o).alloc ((HBW7.o).size) (ze #[zg true] 4)) _ _ y0,Ab ((HBW7.o).alloc ((HBW7.o).size) (ze #[zg true] 4)) _ _ y1,Ab ((HBW7.o).alloc ((HBW7.o).size) (ze #[zg true] 4)) _ _ g0,Ab ((HBW7.o).alloc ((HBW7.o).size) (ze #[zg true] 4)) _ _ g1⟩) fun hHeld=>?_
   clear hK K
   refine rdA 31 rfl fun K hK=>?_
   go_simp
   refine (KSR.o W7.heap.size _ ((HBW7.o).alloc ((HBW7.o).size) (ze #[zg true] 4)) (by simp [go_sem])).mono ?_
   rintro e W8 ⟨rfl,nn,hW⟩
   have hb8:Ov WX W8:=by rw [hW];exact below_drewN (((HBW7.o).alloc ((HBW7.o).size) (ze #[zg true] 4))) nn
   have hSW8:C3 xb k1 k2 k3 k4 k5 k6 w2 bl ol lc ka kc m1 m2 m3 m4 m5 m6 W8:=⟨Ab hb8 _ _ x0,Ab hb8 _ _ x1,Ab hb8 _ _ y0,Ab hb8 _ _ y1,Ab hb8 _ _ g0,Ab hb8 _ _ g1⟩
   have HBW8:=Aa hb8
   clear hb8 hW
   go_simp
   refine xK hK (hSW8) fun hHeld=>?_
   clear hK K
   refine kT 32 ?_
   refine kT 33 ?_
   refine kT 34 ?_
   refine kT 35 ?_
   refine rdA 36 rfl fun K hK=>?_
   go_simp
   refine xK hK (⟨Ab ((HBW8.o).alloc ((HBW8.o).size) (ze #[zg true] 4)) _ _ x0,Ab ((HBW8.o).alloc ((HBW8.o).size) (ze #[zg true] 4)) _ _ x1,Ab ((HBW8.o).alloc ((HBW8.o).size) (ze #[zg true] 4)) _ _ y0,Ab ((HBW8.o).alloc ((HBW8.o).size) (ze #[zg true] 4)) _ _ y1,Ab ((HBW8.o).alloc ((HBW8.o).size) (ze #[zg true] 4)) _ _ g0,Ab ((HBW8.o).alloc ((HBW8.o).size) (ze #[zg true] 4)) _ _ g1⟩) fun hHeld=>?_
   clear hK K
   refine rdA 37 rfl fun K hK=>?_
   go_simp
   refine (KSW.o W8.heap.size _ ((HBW8.o).alloc ((HBW8.o).size) (ze #[zg true] 4)) (by simp [go_sem])).mono ?_
   rintro e W9 ⟨rfl,nn,hW⟩
   have hb8:Ov WX W9:=by rw [hW];exact below_drewN (((HBW8.o).alloc ((HBW8.o).size) (ze #[zg true] 4))) nn
   have hSW9:C3 xb k1 k2 k3 k4 k5 k6 w2 bl ol lc ka kc m1 m2 m3 m4 m5 m6 W9:=⟨Ab hb8 _ _ x0,Ab hb8 _ _ x1,Ab hb8 _ _ y0,Ab hb8 _ _ y1,Ab hb8 _ _ g0,Ab hb8 _ _ g1⟩
   have HBW9:=Aa hb8
   clear hb8 hW
   go_simp
   refine xK hK (hSW9) fun hHeld=>?_
   clear hK K
   refine kT 38 ?_
   refine kT 39 ?_
   refine gE ?_
   have HEND:=Aa (Ac HF5.o HBW9.o)
   go_wp2_with fail
   go_ret
   exact ⟨rfl,HEND.o⟩
 ·go_simp
  refine xK hK (by have hr:=HRL.o.over (Ac HBZ4.o ((bA W4 (ze #[O none 0 0,O none 0 0] 50)).drew));exact ⟨hr 0 _ rfl,hr 1 _ rfl⟩) fun hHeld=>?_
  clear hK K
  refine rdA 0 rfl fun K hK=>?_
  go_simp
  refine (K1.o _).mono ?_
  rintro e W5 ⟨di,dj,dv,dm,rfl,hs5,hb5⟩
  have hbz5:Ov W4 W5:=Ac ((bA W4 (ze #[O none 0 0,O none 0 0] 50)).drew) hb5
  have hr:=HRL.o.over (Ac HBZ4.o hbz5)
  have hS5:W5.cell? ⟨w2.heap.size,0,none⟩=some (O la 1 lc)/\W5.cell? ⟨w2.heap.size,1,none⟩=some (O ka 0 kc):=⟨hr 0 _ rfl,hr 1 _ rfl⟩
  have HBZ5:=Aa hbz5
  have HS5:=Aa hs5
  have bx5:W5.heap[W4.heap.size]? = some (ze #[O none 0 0,O none 0 0] 50):=(hb5.block _ (by simp)).trans (AJ W4 (ze #[O none 0 0,O none 0 0] 50))
  have BX5:=Aa bx5
  clear bx5
  clear hr hs5 hb5 hbz5
  go_simp
  refine xK hK (hS5) fun hHeld=>?_
  clear hK K
  refine rdA 3 rfl fun K hK=>?_
  go_simp
  refine (Hc di dj dv dm la lc ka kc _ (HS5.o) (Aw HI1.o (Ac HBZ4.o (HBZ5.o))) (Aw HI2.o (Ac HBZ4.o (HBZ5.o)))).mono ?_
  rintro e W6 ⟨k1,k2,k3,k4,k5,k6,rfl,hlev,hb6⟩
  have hbz6:Ov W4 W6:=Ac (HBZ5.o) hb6
  have hr:=HRL.o.over (Ac HBZ4.o hbz6)
  have hS6:W6.cell? ⟨w2.heap.size,0,none⟩=some (O la 1 lc)/\W6.cell? ⟨w2.heap.size,1,none⟩=some (O ka 0 kc):=⟨hr 0 _ rfl,hr 1 _ rfl⟩
  have HBZ6:=Aa hbz6
  have HLV:=Aa hlev
  have bx6:W6.heap[W4.heap.size]? = some (ze #[O none 0 0,O none 0 0] 50):=(hb6.block _ (Array.getElem?_eq_some_iff.1 (BX5.o)).1).trans (BX5.o)
  have BX6:=Aa bx6
  clear bx6
  clear hr hlev hb6 hbz6
  go_simp
  refine xK hK (hS6) fun hHeld=>?_
  clear hK K
  refine kT 4 ?_
  refine kT 5 ?_
  refine kT 6 ?_
  have bX:W6.heap[W4.heap.size]? = some (ze #[O none 0 0,O none 0 0] 50):=BX6.o
  have x0:W6.cell? ⟨W4.heap.size,0,none⟩=some (O none 0 0):=by rw [Lib.cell_of_heap bX];rfl
  have x1:W6.cell? ⟨W4.heap.size,1,none⟩=some (O none 0 0):=by rw [Lib.cell_of_heap bX];rfl
  have xz:∀ j,W6.frozen? ⟨W4.heap.size,j,none⟩=false:=fun j=>by first | (simp [World.frozen?,bX];done) | (simp [go_sem];done)
  have hlt4:W4.heap.size<=W4.heap.size:=by first | exact Nat.le_refl _ | exact HBZ5.o.size | exact HBZ6.o.size
  have hbB:Ov W4 W6:=HBZ6.o
  have hr:=HRL.o.over (Ac HBZ4.o hbB)
  have hne:W4.heap.size≠w2.heap.size:=by have h1:=bL (HRL.o.over HBZ4.o 0 _ rfl);simp at h1;omega
  have hcr:∀ j u,W6.cell? ⟨W4.heap.size,j,none⟩=some u->∃ a m c,u=O a m c:=fun j u hu=>by
   rw [Lib.cell_of_heap bX] at hu
   match j,hu with
   | 0,hu=>simp at hu;exact ⟨_,_,_,hu.symm⟩
   | 1,hu=>simp at hu;exact ⟨_,_,_,hu.symm⟩
   | j+2,hu=>simp at hu
  have hF3:AQ ((W6.setCell ⟨W4.heap.size,0,none⟩ (O k1 k2 k3)).setCell ⟨W4.heap.size,1,none⟩ (O k4 k5 k6)) (zh #[O k1 k2 k3,O k4 k5 k6]) ⟨[true],[true]⟩:=Hf (HLV.o) hcr
  have hF4:Bg ((W6.setCell ⟨W4.heap.size,0,none⟩ (O k1 k2 k3)).setCell ⟨W4.heap.size,1,none⟩ (O k4 k5 k6)) (O la 1 lc) [⟨[true],[true]⟩]:=EK (n:=1) (X:=fun _ _=>False) (EL (Nat.le_refl _) (Aw HI1.o (Ac HBZ4.o hbB)) (by intro x hx;simp at hx;subst hx;exact ⟨rfl,rfl⟩) (fun _ h=>h.elim)) hcr (fun a m c e=>by injection e with e1;exact FB HI1.o (by simp) e1 (Nat.le_trans HBZ4.o.size hlt4))
  have hF2:Ae [O la 1 lc,O ka 0 kc] ((W6.setCell ⟨W4.heap.size,0,none⟩ (O k1 k2 k3)).setCell ⟨W4.heap.size,1,none⟩ (O k4 k5 k6)) w2.heap.size:=fun j u hu=>by rw [BB (Or.inl hne),BB (Or.inl hne)];exact hr j u hu
  have hF1a:((W6.setCell ⟨W4.heap.size,0,none⟩ (O k1 k2 k3)).setCell ⟨W4.heap.size,1,none⟩ (O k4 k5 k6)).cell? ⟨W4.heap.size,0,none⟩=some (O k1 k2 k3):=by rw [BB (Or.inr (by omega))];exact World.cell?_setCell_same _ _ _ x0
  have hF1b:((W6.setCell ⟨W4.heap.size,0,none⟩ (O k1 k2 k3)).setCell ⟨W4.heap.size,1,none⟩ (O k4 k5 k6)).cell? ⟨W4.heap.size,1,none⟩=some (O k4 k5 k6):=World.cell?_setCell_same _ _ _ (u:=O none 0 0) (by rw [BB (Or.inr (by omega))];exact x1)
  have hF5:Ov w ((W6.setCell ⟨W4.heap.size,0,none⟩ (O k1 k2 k3)).setCell ⟨W4.heap.size,1,none⟩ (O k4 k5 k6)):=((Ac HB2.o (Ac HBZ4.o hbB)).setCell (p:=⟨W4.heap.size,0,none⟩) (by have h1:=(Ac HB2.o HBZ4.o).size;simp;omega) _).setCell (p:=⟨W4.heap.size,1,none⟩) (by have h1:=(Ac HB2.o HBZ4.o).size;simp;omega) _
  have HF1:=Aa (And.intro hF1a hF1b)
  have HF2:=Aa hF2
  have HF3:=Aa hF3
  have HF4:=Aa hF4
  have HF5:=Aa hF5
  have hSF:((W6.setCell ⟨W4.heap.size,0,none⟩ (O k1 k2 k3)).setCell ⟨W4.heap.size,1,none⟩ (O k4 k5 k6)).cell? ⟨w2.heap.size,0,none⟩=some (O la 1 lc)/\((W6.setCell ⟨W4.heap.size,0,none⟩ (O k1 k2 k3)).setCell ⟨W4.heap.size,1,none⟩ (O k4 k5 k6)).cell? ⟨w2.heap.size,1,none⟩=some (O ka 0 kc):=⟨hF2 0 _ rfl,hF2 1 _ rfl⟩
  clear bX hbB hr hcr hF3 hF4 hF2 hF1a hF1b hF5 hlt4 hne
  refine rdA 8 rfl fun K hK=>?_
  go_simp
  refine xK hK (hSF) fun hHeld=>?_
  clear hK K
  refine kT 9 ?_
  refine gE ?_
  clear x0 x1 xz
  clear hS0 hSF hHeld
  generalize ((W6.setCell ⟨W4.heap.size,0,none⟩ (O k1 k2 k3)).setCell ⟨W4.heap.size,1,none⟩ (O k4 k5 k6))=WX at HF1 HF2 HF3 HF4 HF5 ⊢
  generalize W4.heap.size=xb at HF1 ⊢
  obtain ⟨x0,x1⟩:=HF1.o
  obtain ⟨ao,cap,hle,hel⟩:=HF4.o
  injection hle with e1 e2 e3
  obtain ⟨bl,ol,hbo,hel⟩:=hel (by simp)
  obtain ⟨rv,wv,g0,g1,hlv⟩:=hel 0 (by simp)
  have e4:=e1.trans hbo
  subst e4
  obtain ⟨m1,m2,m3,m4,m5,m6,hf3,hf4⟩:=AP hlv
  subst hf3 hf4
  simp only [Nat.zero_mul,Nat.add_zero] at g0 g1
  have y0:=HF2.o 0 _ rfl
  have y1:=HF2.o 1 _ rfl
  have hlv1:AQ WX (zh #[O m1 m2 m3,O m4 m5 m6]) ⟨[true],[true]⟩:=hlv
  have KSL:=Aa fun W (hW:Ov WX W)=>Cn (zh #[O k1 k2 k3,O k4 k5 k6]) (zh #[O m1 m2 m3,O m4 m5 m6]) ⟨[true],[true]⟩ ⟨[true],[true]⟩ W (Ag HF3.o hW) (Ag hlv1 hW) ⟨by simp,by simp⟩
  have hsl:DA ⟨[true],[true]⟩ ⟨[true],[true]⟩=true:=rfl
  rw [hsl] at KSL
  obtain ⟨u1,u2,hu,bu1,bu2⟩:=HF3.o
  simp at hu
  obtain ⟨hu1,hu2⟩:=hu
  subst hu1 hu2
  have hdt:decide ([true]=[true])=true:=rfl
  have KSR:=Aa fun b W (hW:Ov WX W) (hc:W.cell? ⟨b,0,none⟩=some (zg true))=>Bu (O k1 k2 k3) (O (some ⟨b,0,none⟩) 1 1) [true] [true] W (Ar bu1 hW) (Dn hc) (by simp)
  have KSW:=Aa fun b W (hW:Ov WX W) (hc:W.cell? ⟨b,0,none⟩=some (zg true))=>Bu (O k4 k5 k6) (O (some ⟨b,0,none⟩) 1 1) [true] [true] W (Ar bu2 hW) (Dn hc) (by simp)
  rw [hdt] at KSR KSW
  have hS9:C3 xb k1 k2 k3 k4 k5 k6 w2 bl ol lc ka kc m1 m2 m3 m4 m5 m6 WX:=⟨x0,x1,y0,y1,g0,g1⟩
  clear hel hlv hlv1 hsl hdt bu1 bu2 e1 e2 e3 hbo HF1 HF2 HF3 HF4
  go_wp2_with fail
  refine gS (C3 xb k1 k2 k3 k4 k5 k6 w2 bl ol lc ka kc m1 m2 m3 m4 m5 m6) (hS9) fun hHeld=>?_
  refine kT 0 ?_
  refine kT 1 ?_
  refine kT 2 ?_
  refine kT 3 ?_
  refine kT 4 ?_
  refine kT 5 ?_
  refine kT 6 ?_
  refine kT 7 ?_
  refine kT 8 ?_
  refine kT 9 ?_
  refine kT 10 ?_
  refine kT 11 ?_
  refine kT 12 ?_
  refine kT 13 ?_
  refine kT 14 ?_
  refine kT 15 ?_
  refine kT 16 ?_
  refine kT 17 ?_
  refine kT 18 ?_
  refine kT 19 ?_
  refine kT 20 ?_
  refine kT 21 ?_
  refine kT 22 ?_
  refine kT 23 ?_
  refine kT 24 ?_
  refine rdA 25 rfl fun K hK=>?_
  go_simp
  refine (KSL.o _ (bD WX)).mono ?_
  rintro e W7 ⟨rfl,hb7⟩
  have hbz7:Ov WX W7:=Ac (bD WX) hb7
  have hSW7:C3 xb k1 k2 k3 k4 k5 k6 w2 bl ol lc ka kc m1 m2 m3 m4 m5 m6 W7:=⟨Ab hbz7 _ _ x0,Ab hbz7 _ _ x1,Ab hbz7 _ _ y0,Ab hbz7 _ _ y1,Ab hbz7 _ _ g0,Ab hbz7 _ _ g1⟩
  have HBW7:=Aa hbz7
  clear hb7 hbz7
  go_simp
  refine xK hK (hSW7) fun hHeld=>?_
  clear hK K
  refine kT 26 ?_
  refine kT 27 ?_
  refine kT 28 ?_
  refine kT 29 ?_
  refine rdA 30 rfl fun K hK=>?_
  go_simp
  refine xK hK (⟨Ab ((HBW7.o).alloc ((HBW7.o).size) (ze #[zg true] 4)) _ _ x0,Ab ((HBW7.o).alloc ((HBW7.o).size) (ze #[zg true] 4)) _ _ x1,Ab ((HBW7.o).alloc ((HBW7.o).size) (ze #[zg true] 4)) _ _ y0,Ab ((HBW7.o).alloc ((HBW7.o).size) (ze #[zg true] 4)) _ _ y1,Ab ((HBW7.o).alloc ((HBW7.o).size) (ze #[zg true] 4)) _ _ g0,Ab ((HBW7.o).alloc ((HBW7.o).size) (ze #[zg true] 4)) _ _ g1⟩) fun hHeld=>?_
  clear hK K
  refine rdA 31 rfl fun K hK=>?_
  go_simp
  refine (KSR.o W7.heap.size _ ((HBW7.o).alloc ((HBW7.o).size) (ze #[zg true] 4)) (by simp [go_sem])).mono ?_
  rintro e W8 ⟨rfl,nn,hW⟩
  have hb8:Ov WX W8:=by rw [hW];exact below_drewN (((HBW7.o).alloc ((HBW7.o).size) (ze #[zg true] 4))) nn
  have hSW8:C3 xb k1 k2 k3 k4 k5 k6 w2 bl ol lc ka kc m1 m2 m3 m4 m5 m6 W8:=⟨Ab hb8 _ _ x0,Ab hb8 _ _ x1,Ab hb8 _ _ y0,Ab hb8 _ _ y1,Ab hb8 _ _ g0,Ab hb8 _ _ g1⟩
  have HBW8:=Aa hb8
  clear hb8 hW
  go_simp
  refine xK hK (hSW8) fun hHeld=>?_
  clear hK K
  refine kT 32 ?_
  refine kT 33 ?_
  refine kT 34 ?_
  refine kT 35 ?_
  refine rdA 36 rfl fun K hK=>?_
  go_simp
  refine xK hK (⟨Ab ((HBW8.o).alloc ((HBW8.o).size) (ze #[zg true] 4)) _ _ x0,Ab ((HBW8.o).alloc ((HBW8.o).size) (ze #[zg true] 4)) _ _ x1,Ab ((HBW8.o).alloc ((HBW8.o).size) (ze #[zg true] 4)) _ _ y0,Ab ((HBW8.o).alloc ((HBW8.o).size) (ze #[zg true] 4)) _ _ y1,Ab ((HBW8.o).alloc ((HBW8.o).size) (ze #[zg true] 4)) _ _ g0,Ab ((HBW8.o).alloc ((HBW8.o).size) (ze #[zg true] 4)) _ _ g1⟩) fun hHeld=>?_
  clear hK K
  refine rdA 37 rfl fun K hK=>?_
  go_simp
  refine (KSW.o W8.heap.size _ ((HBW8.o).alloc ((HBW8.o).size) (ze #[zg true] 4)) (by simp [go_sem])).mono ?_
  rintro e W9 ⟨rfl,nn,hW⟩
  have hb8:Ov WX W9:=by rw [hW];exact below_drewN (((HBW8.o).alloc ((HBW8.o).size) (ze #[zg true] 4))) nn
  have hSW9:C3 xb k1 k2 k3 k4 k5 k6 w2 bl ol lc ka kc m1 m2 m3 m4 m5 m6 W9:=⟨Ab hb8 _ _ x0,Ab hb8 _ _ x1,Ab hb8 _ _ y0,Ab hb8 _ _ y1,Ab hb8 _ _ g0,Ab hb8 _ _ g1⟩
  have HBW9:=Aa hb8
  clear hb8 hW
  go_simp
  refine xK hK (hSW9) fun hHeld=>?_
  clear hK K
  refine kT 38 ?_
  refine kT 39 ?_
  refine gE ?_
  have HEND:=Aa (Ac HF5.o HBW9.o)
  go_wp2_with fail
  go_ret
  exact ⟨rfl,HEND.o⟩
end Go.Proofs.YtfffpjkcfnekaaaGreat.Ex
