/- JudgeKnown, whatever it is handed. -/
import Derived.Test.YtfffpjkcfnekaaaGreatF38
set_option linter.unusedVariables false
set_option maxHeartbeats 8000000
set_option maxRecDepth 100000
namespace Go.Proofs.YtfffpjkcfnekaaaGreat.Ex
open Go.RowKit
open Go.Value renaming slice -> O, int -> U, bool -> zg, agg -> zh, pointer -> zj, tuple -> zm
open Go.IntKind renaming i64 -> zd
open Go.Obj renaming cells -> ze
open Go.Ending renaming returned -> zk
def VX (a:Option Addr) (n j:Nat) (w wr:World):Prop:=(∃ g,a=some ⟨g,0,none⟩/\VI g n j w wr)\/(a=none/\n=0/\wr=w)
theorem VX.row {a:Option Addr} {n j b:Nat} {w wr:World} {cs:List Value} (h:VX a n j w wr) (hr:Ae cs w b) (hb:∀ g,a=some ⟨g,0,none⟩->b≠g):Ae cs wr b:=by
 rcases h with ⟨g,hg,hi⟩ | ⟨-,-,rfl⟩
 ·exact fun j u hu=>(World.cell?_of_block (a:=⟨b,j,none⟩) (hi.o b (hb g hg))).trans (hr j u hu)
 ·exact hr
theorem VX.below {a:Option Addr} {n j:Nat} {w0 w wr:World} (h:VX a n j w wr) (hb:Ov w0 w) (hg:∀ g,a=some ⟨g,0,none⟩->w0.heap.size<=g):Ov w0 wr:=by
 rcases h with ⟨g,e,hi⟩ | ⟨-,-,rfl⟩
 ·exact hi.below hb (hg g e)
 ·exact hb
theorem VX.vars {a:Option Addr} {n c:Nat} {w wr:World} (h:VX a n n w wr) (hn:n<=maxLen):Br wr (O a n c) (List.replicate n (false,⟨[],[]⟩)):=by
 rcases h with ⟨g,rfl,hi⟩ | ⟨rfl,rfl,rfl⟩
 ·exact hi.vars hn
 ·exact ⟨by simp,none,c,rfl,fun h=>absurd rfl h⟩
theorem VX.off {a:Option Addr} {n j c:Nat} {w wr:World} (h:VX a n j w wr) (k:Nat) (hk:some k≠(Value.slice a n c).ownBlock):wr.heap[k]? = w.heap[k]?:=by
 rcases h with ⟨g,rfl,hi⟩ | ⟨-,-,rfl⟩
 ·exact hi.o k (fun e=>hk (by rw [e];rfl))
 ·rfl
theorem VX.start {a:Option Addr} {k n c B:Nat} {w:World} {xs:List Value} (h:w.ownsRow B 41 3 (O a k c) n xs):k=n/\VX a n 0 w w/\∀ g,a=some ⟨g,0,none⟩->B<=g/\g < w.heap.size:=by
 rcases h.2 with ⟨e,h0⟩ | ⟨g',cap',cur,hv,-⟩
 ·injection e with e1 e2 e3
  exact ⟨by omega,Or.inr ⟨e1,h0,rfl⟩,fun g hg=>by rw [e1] at hg;cases hg⟩
 ·injection hv with e1 e2 e3
  subst e1 e2 e3
  have:=VI.start h
  exact ⟨rfl,Or.inl ⟨g',rfl,this.1⟩,fun g hg=>by injection hg with hg;injection hg with hg;subst hg;exact this.2⟩
theorem judgeLaw (K kf:Nat) (m:Int) (ga gn gc sa sn sc ya yn yc oa on oc va vn vc fa fn fc ba bn bc) (gs sp ls ms vs fs l) (w:World) (h:BE K kf m ga gn gc sa sn sc ya yn yc oa on oc va vn vc fa fn fc ba bn bc gs sp ls ms vs fs l w) :
  Calls Tryz.prog 3 #[zh #[U zd m,O ga gn gc,O sa sn sc,O ya yn yc,O oa on oc,O va vn vc,O fa fn fc,O ba bn bc]] w fun e w'=>e=zk (zg true)/\Ov w w':=by
 have hsn:sn=sp.length:=by obtain ⟨a,c,he,-⟩:=h.speak;injection he
 have hyl:yn=ls.length:=by obtain ⟨-,a,c,he,-⟩:=h.ins;injection he
 have hol:on=ms.length:=by obtain ⟨-,a,c,he,-⟩:=h.outs;injection he
 have hvl:vn=vs.length:=by obtain ⟨-,a,c,he,-⟩:=h.vars;injection he
 subst hsn hyl hol hvl
 have hb0:Ov w (w.alloc (ze #[U zd m,O ga gn gc,O sa sp.length sc,O ya ls.length yc,O oa ms.length oc,O va vs.length vc,O fa fn fc,O ba bn bc] 31)):=bA w _
 have KS:∀ W,Ov w W->Calls Tryz.prog 53 #[zh #[U zd m,O ga gn gc,O sa sp.length sc,O ya ls.length yc,O oa ms.length oc,O va vs.length vc,O fa fn fc,O ba bn bc]] W fun e w'=>∃ why:Int,e=zk (U zd why)/\(why=0 ↔ Ey.xP K kf m vs.length ls.length ms.length sp.length gs sp ls ms vs fs l)/\Ov W w':=fun W hW=>Ey.scopeCheck_any K kf m ga gn gc sa sp.length sc ya ls.length yc oa ms.length oc va vs.length vc fa fn fc ba bn bc gs sp ls ms vs fs l W (h.over hW)
 have K1:=Aa (NM K kf m ga gn gc sa sp.length sc ya ls.length yc oa ms.length oc va vs.length vc fa fn fc ba bn bc gs sp ls ms vs fs l _ (h.over hb0) (fun why=>why=0 ↔ Ey.xP K kf m vs.length ls.length ms.length sp.length gs sp ls ms vs fs l) (fun W hW=>KS W (Ac hb0 hW)) (fun h=>(h.1 rfl).ok) (fun h=>by have:=(h.1 rfl).lim.2.2.2.2;omega))
 have KI:=Aa fun W (hW:Ov w W)=>Hh K kf m ga gn gc sa sp.length sc ya ls.length yc oa ms.length oc va vs.length vc fa fn fc ba bn bc gs sp ls ms vs fs l W (h.over hW) (fun why=>why=0 ↔ Ey.xP K kf m vs.length ls.length ms.length sp.length gs sp ls ms vs fs l) (fun W2 hW2=>KS W2 (Ac hW hW2)) (fun h=>(h.1 rfl).ok)
 have KB1:=Aa F2
 have KB2:=Aa F7
 have KB3:=Aa Go.Proofs.YtfffpjkcfnekaaaGreat.labBegun_any
 have KC:=Aa fun W (hW:Ov w W) (hs:smP K kf gs sp ls ms vs fs l)=>Mr K kf m ga gn gc sa sp.length sc ya ls.length yc oa ms.length oc va vs.length vc fa fn fc ba bn bc gs sp ls ms vs fs l W (h.over hW) hs
 have hrp:=Ae.new [U zd m,O ga gn gc,O sa sp.length sc,O ya ls.length yc,O oa ms.length oc,O va vs.length vc,O fa fn fc,O ba bn bc] 31 w
 obtain ⟨c0,c1,c2,c3,c4,c5,c6,c7⟩:=rc8 hrp
 have HRP:=Aa hrp
 have HB0:=Aa hb0
 have HH:=Aa h
 clear h hb0 hrp KS
 go_enter Tryz.func3,Tryz.ntmps3
 go_wp2_with fail
 refine (K1.o).mono ?_
 obtain ⟨WB,hWB⟩:=nm (w.alloc (ze #[U zd m,O ga gn gc,O sa sp.length sc,O ya ls.length yc,O oa ms.length oc,O va vs.length vc,O fa fn fc,O ba bn bc] 31))
 rw [<-hWB] at HRP HB0 ⊢
 rintro e w1 ⟨why,hx,hb1,hcase⟩
 have HB1:=Aa (HB0.o.trans (hb1.mono HB0.o.size))
 have HR1:=Aa (HRP.o.over hb1)
 have HW1:Hx (w.heap.size < w1.heap.size):=Nat.lt_of_lt_of_le (by rw [hWB];simp) hb1.size
 clear K1 c0 c1 c2 c3 c4 c5 c6 c7 hb1 hWB HRP HB0
 obtain ⟨bf,hbf,rfl⟩:∃ bf:Bool,((why≠0)\/why=0/\Ey.xP K kf m vs.length ls.length ms.length sp.length gs sp ls ms vs fs l/\∃ (n:Nat) (st:ISt),m=n/\bf=decide (BQ n K kf gs sp st.vs st.fs vs ls ms fs l=[])/\Bz n K kf gs vs ls fs l st/\(∀ x∈st.vs,x.len n)/\st.vs.length=vs.length/\st.fs.length=fs.length)/\e=zk (zm #[zg bf,U zd why]):=by
  rcases hcase with ⟨hne,rfl⟩ | ⟨rfl,-,n,st,hm,rfl,hi,hl1,hl2,hv,hf⟩
  ·exact ⟨false,Or.inl hne,rfl⟩
  ·exact ⟨_,Or.inr ⟨rfl,hx.1 rfl,n,st,hm,rfl,hi,hl1,hv,hf⟩,rfl⟩
 have HC:=Aa hbf
 clear hbf hcase hx
 go_wp2_with fail
 refine (KB1.o _).mono ?_
 rintro e w2 ⟨rfl,hb2⟩
 go_wp2_with fail
 refine (KB2.o _).mono ?_
 rintro e w3 ⟨rfl,hb3⟩
 go_wp2_with fail
 refine (KB3.o _).mono ?_
 rintro e w4 ⟨rfl,hb4⟩
 have hb14:=Ac hb2 (Ac hb3 hb4)
 have HB4:=Aa (HB1.o.trans (hb14.mono HB1.o.size))
 have HR4:=Aa (HR1.o.over hb14)
 obtain ⟨c0,c1,c2,c3,c4,c5,c6,c7⟩:=rc8 HR4.o
 have HWS:Hx (w.heap.size < w4.heap.size):=Nat.lt_of_lt_of_le HW1.o hb14.size
 clear hb2 hb3 hb4 hb14 KB1 KB2 KB3 HB1 HR1
 by_cases hwy:why=0
 rotate_left
 ·have hwb:(why == 0)=false:=by simpa using hwy
  clear c0 c1 c2 c3 c4 c5 c6 c7
  go_wp2_with fail
  go_ret
  exact ⟨rfl,HB4.o⟩
 subst hwy
 cases bf with
 | false=>
  clear c0 c1 c2 c3 c4 c5 c6 c7
  go_wp2_with fail
  go_ret
  exact ⟨rfl,HB4.o⟩
 | true=>
 rcases HC.o with hne | ⟨-,hX,n,st,hmn,hF,hI,hln,hvs,hfs⟩
 ·exact absurd rfl hne
 replace hF:=of_decide_eq_true hF.symm
 have KC1:=Aa (KC.o w4 HB4.o (Om hX rfl rfl rfl rfl))
 have HX:=Aa hX
 have HF:=Aa hF
 have HI:=Aa hI
 have HL:=Aa (And.intro hmn (And.intro hln (And.intro hvs hfs)))
 clear HC KC hX hmn hF hI hln hvs hfs
 go_wp2_with fail
 refine (KC1.o).mono ?_
 rintro e w5 ⟨g1,g2,g3,s1,s2,s3,y1,y3,o1,o3,vv,f1,f3,m1,m3,xs,rfl,hN,hown,hoff,hb5⟩
 obtain ⟨v1,v2,v3,rfl⟩:=Ak hown
 obtain rfl:s2=sp.length:=by obtain ⟨a,c,he,-⟩:=hoff.self.2.1;injection he
 obtain ⟨rfl,-,hvg⟩:=VX.start hown
 have HB5:=Aa (HB4.o.trans (hb5.mono HB4.o.size))
 have HR5:=Aa (HR4.o.over hb5)
 have HOW:=Aa hown
 have HVG:Hx (∀ g,v1=some ⟨g,0,none⟩->w.heap.size < g/\g < w5.heap.size):=fun g hg=>⟨Nat.lt_of_lt_of_le HWS.o (hvg g hg).1,(hvg g hg).2⟩
 have HOF:Hx (∀ W:World,(∀ k,k < w5.heap.size->some k≠(Value.slice v1 vs.length v3).ownBlock->W.heap[k]? = w5.heap[k]?)->_):=fun W hW=>hoff W fun k _ h2 h3=>hW k h2 h3
 have HN:=Aa hN
 clear hb5 hown hoff hN c0 c1 c2 c3 c4 c5 c6 c7 HR4 KC1 hvg HB4
 go_wp2_with fail
 have H56:=Aa (bA w5 (ze #[U zd m,O g1 g2 g3,O s1 sp.length s3,O y1 ls.length y3,O o1 ms.length o3,O v1 vs.length v3,O f1 fs.length f3,O m1 l.length m3] 31))
 have HQ6:=Aa (Ae.new [U zd m,O g1 g2 g3,O s1 sp.length s3,O y1 ls.length y3,O o1 ms.length o3,O v1 vs.length v3,O f1 fs.length f3,O m1 l.length m3] 31 w5)
 obtain ⟨W6,hW6⟩:=nm (w5.alloc (ze #[U zd m,O g1 g2 g3,O s1 sp.length s3,O y1 ls.length y3,O o1 ms.length o3,O v1 vs.length v3,O f1 fs.length f3,O m1 l.length m3] 31))
 rw [<-hW6] at H56 HQ6 ⊢
 obtain ⟨bq,hbq⟩:=nm w5.heap.size
 rw [<-hbq] at HQ6 HVG ⊢
 have HBQ:=Aa hbq
 clear hW6 hbq
 have HB6:=Aa (HB5.o.trans (H56.o.mono HB5.o.size))
 have HR6:=Aa (HR5.o.over H56.o)
 have HVX:=Aa (VX.start (Ad HOW.o H56.o)).2.1
 clear HB5 HR5 HOW
 have h16:vs.length<=16:=by have:=HX.o.lim.1;omega
 go_loopw [6] (fun i wr=>∃ j:Nat,j<=vs.length/\i=U zd j/\VX v1 vs.length j W6 wr) (fun i _=>vs.length - (intOf i).toNat)
 case atStart=>exact ⟨0,Nat.zero_le _,rfl,HVX.o⟩
 case round=>
  obtain ⟨j,hj,rfl,hV⟩:=hrel
  have hQ:=hV.row HQ6.o (fun g hg=>by have:=(HVG.o g hg).2;omega)
  have t5:=hQ 5 _ rfl
  by_cases hlt:j < vs.length
  ·rcases hV with ⟨g,rfl,hi⟩ | ⟨-,h0,-⟩
   rotate_left
   ·omega
   obtain ⟨u0,k0⟩:=hi.c (j*3) (by omega)
   obtain ⟨u1,k1⟩:=hi.c (j*3+1) (by omega)
   obtain ⟨u2,k2⟩:=hi.c (j*3+2) (by omega)
   have z0:=hi.f (j*3)
   have z1:=hi.f (j*3+1)
   have z2:=hi.f (j*3+2)
   have hjp:(j:Int) < (vs.length:Int):=by omega
   have hst:=hi.step hlt
   unfold Fw at hst
   have HST:=Aa hst
   clear hQ hi hst
   go_wp2_with fail
   exact ⟨⟨j+1,by omega,by go_num,Or.inl ⟨g,rfl,HST.o⟩⟩,by simp [intOf];omega⟩
  ·have hje:j=vs.length:=by omega
   subst hje
   have hmp:¬ (vs.length:Int) < (vs.length:Int):=by omega
   have hq6:=HOF.o wr (fun k h1 h2=>(hV.off (c:=v3) k h2).trans (H56.o.block k h1))
   have hPq:BE K kf m g1 g2 g3 s1 sp.length s3 y1 ls.length y3 o1 ms.length o3 v1 vs.length v3 f1 fs.length f3 m1 l.length m3 gs sp ls ms (List.replicate vs.length (false,⟨[],[]⟩)) fs l wr:=⟨HH.o.m64,hq6.1,hq6.2.1,HH.o.speakL,hq6.2.2.1,hq6.2.2.2.1,hV.vars HH.o.vars.1,hq6.2.2.2.2.1,hq6.2.2.2.2.2,HN.o.1,HN.o.2⟩
   have KQ:=Aa fun W (hW:Ov wr W)=>Hh K kf m g1 g2 g3 s1 sp.length s3 y1 ls.length y3 o1 ms.length o3 v1 vs.length v3 f1 fs.length f3 m1 l.length m3 gs sp ls ms (List.replicate vs.length (false,⟨[],[]⟩)) fs l W (hPq.over hW) (fun why=>why=0 ↔ Ey.xP K kf m vs.length ls.length ms.length sp.length gs sp ls ms (List.replicate vs.length (false,⟨[],[]⟩)) fs l) (fun W2 hW2=>Ey.scopeCheck_any K kf m g1 g2 g3 s1 sp.length s3 y1 ls.length y3 o1 ms.length o3 v1 vs.length v3 f1 fs.length f3 m1 l.length m3 gs sp ls ms (List.replicate vs.length (false,⟨[],[]⟩)) fs l W2 (hPq.over (Ac hW hW2))) (fun h=>(h.1 rfl).ok)
   have hwr:=hV.below HB6.o (fun g hg=>Nat.le_of_lt (HVG.o g hg).1)
   have HR:=Aa (hV.row HR6.o (fun g hg=>by have:=(HVG.o g hg).1;omega))
   have HQ:=Aa hQ
   have HWR:=Aa hwr
   have KP:=Aa (KI.o wr hwr)
   obtain ⟨c0,c1,c2,c3,c4,c5,c6,c7⟩:=rc8 HR.o
   clear hq6 hPq hwr hV hQ HR6 HQ6 HB6 HVX HOF HN KI H56
   go_wp2_with fail
   refine (KP.o).mono ?_
   rintro e w7 ⟨why,hw,hb7,hc⟩
   rcases hc with ⟨hne,-⟩ | ⟨rfl,-,n2,st2,la,ln,lc,ka,kn,kc,hm2,rfl,hlv,-,-,-,-,-,hI2,-⟩
   ·exact absurd (hw.2 HX.o) hne
   obtain rfl:n2=n:=by have:=HL.o.1;omega
   obtain rfl:=Ev HI.o hI2
   clear hm2
   obtain rfl:ln=vs.length:=by obtain ⟨ao,cap,he,-⟩:=hlv;injection he with e1 e2 e3;rw [e2,HL.o.2.2.1]
   have hba:=bA w7 (ze #[O la vs.length lc,O ka kn kc] 44)
   have HB7:=Aa (HWR.o.trans (hb7.mono HWR.o.size))
   have HO7:=Aa (Ac hb7 hba)
   have HB8:=Aa (Ac HB7.o hba)
   have HR8:=Aa (HR.o.over HO7.o)
   have HQ8:=Aa (HQ.o.over HO7.o)
   have HL8:=Aa (Aw hlv hba)
   have HM8:=Aa (Ae.new [O la vs.length lc,O ka kn kc] 44 w7)
   clear c0 c1 c2 c3 c4 c5 c6 c7 t5 hlv hI2 hw hb7 hba KP HR HQ HWR HB7
   obtain ⟨c0,c1,c2,c3,c4,c5,c6,c7⟩:=rc8 HQ8.o
   have KQ1:=Aa (KQ.o _ HO7.o)
   go_wp2_with fail
   refine (KQ1.o).mono ?_
   obtain ⟨W8,hW8⟩:=nm (w7.alloc (ze #[O la vs.length lc,O ka kn kc] 44))
   obtain ⟨b7,hb7⟩:=nm w7.heap.size
   rw [<-hW8] at HO7 HB8 HR8 HQ8 HL8 HM8 ⊢
   rw [<-hb7] at HM8 ⊢
   clear c0 c1 c2 c3 c4 c5 c6 c7 hW8 hb7 KQ KQ1 HQ8 HO7
   rintro e w9 ⟨why,hw,hb9,hc⟩
   rcases hc with ⟨hne,-⟩ | ⟨rfl,-,n3,st3,lb,lbn,lbc,kb,kbn,kbc,hm3,rfl,hlv,-,hln3,-,hv3,-,hI3,-⟩
   ·exact absurd (hw.2 (Kf _ HX.o)) hne
   obtain rfl:n3=n2:=by have:=HL.o.1;omega
   clear hm3
   obtain rfl:lbn=vs.length:=by obtain ⟨ao,cap,he,-⟩:=hlv;injection he with e1 e2 e3;rw [e2,hv3]
   have hba:=bA w9 (ze #[O lb vs.length lbc,O kb kbn kbc] 44)
   have HB9:=Aa (HB8.o.trans (hb9.mono HB8.o.size))
   have HBA:=Aa (Ac HB9.o hba)
   have HRA:=Aa (HR8.o.over (Ac hb9 hba))
   have HLA:=Aa (Aw HL8.o (Ac hb9 hba))
   have HMA:=Aa (HM8.o.over (Ac hb9 hba))
   have HKA:=Aa (Aw hlv hba)
   have HNA:=Aa (Ae.new [O lb vs.length lbc,O kb kbn kbc] 44 w9)
   have HL3:=Aa (And.intro hln3 hv3)
   have HI3:=Aa hI3
   obtain ⟨c0,c1⟩:=rc2 HMA.o
   clear hb9 hba hln3 hv3 hI3 hw hlv HB8 HR8 HL8 HM8 HB9
   go_wp2_with fail
   obtain ⟨WA,hWA⟩:=nm (w9.alloc (ze #[O lb vs.length lbc,O kb kbn kbc] 44))
   obtain ⟨b9,hb9⟩:=nm w9.heap.size
   rw [<-hWA] at HBA HRA HLA HMA HKA HNA ⊢
   rw [<-hb9] at HNA ⊢
   clear c0 c1 hWA hb9
   go_loopw [10] (fun i wr=>∃ j:Nat,j<=vs.length/\i=U zd j/\Ov WA wr) (fun i _=>vs.length - (intOf i).toNat)
   case atStart=>exact ⟨0,Nat.zero_le _,rfl,Below.refl _ _⟩
   case round=>
    obtain ⟨j,hj,rfl,hB⟩:=hrel
    have HBR:=Aa hB
    have hM:=HMA.o.over hB
    have q0:=hM 0 _ rfl
    by_cases hlt:j < vs.length
    ·have hjp:(j:Int) < (vs.length:Int):=by omega
     have hR:=HRA.o.over hB
     have t0:=hR 0 _ rfl
     have t1:=hR 1 _ rfl
     have hN:=HNA.o.over hB
     have r0:=hN 0 _ rfl
     have hj1:j < st.vs.length:=by rw [HL.o.2.2.1];exact hlt
     have hj3:j < st3.vs.length:=by rw [HL3.o.2];exact hlt
     obtain ⟨bl,ol,a1,a2,a3,a4,a5,a6,rfl,-,u0,u1,hlev⟩:=C8 (Aw HLA.o hB) (i:=j) hj1
     obtain ⟨bk,ok,e1,e2,e3,e4,e5,e6,rfl,-,v0,v1',hlev3⟩:=C8 (Aw HKA.o hB) (i:=j) hj3
     have hfl:Ay st3.vs[j] st.vs[j] n3=true:=by
      have:=Iw HX.o rfl HI.o HL.o.2.2.1 HL.o.2.2.2 HF.o (vs':=(List.replicate vs.length (false,⟨[],[]⟩))) (fun v hv=>by rw [(List.mem_replicate.1 hv).2]) (by simp) HI3.o j
      simpa [List.getD_eq_getElem?_getD,hj1,hj3] using this
     have hchk:AU m gs=0:=HX.o.chk
     have hmN:m=(n3:Int):=HL.o.1
     have KF:Hx (∀ W,Ov wr W->Calls Tryz.prog 16 #[zh #[U zd m,O ga gn gc],zh #[O e1 e2 e3,O e4 e5 e6],zh #[O a1 a2 a3,O a4 a5 a6]] W fun e w'=>e=zk (zm #[zg true,U zd 0])/\Ov W w'):=fun W hW=>by
      have hwW:Ov w W:=HBA.o.trans ((Ac hB hW).mono HBA.o.size)
      have:=Hl m (O ga gn gc) gs _ _ _ _ W (Af HH.o.grants hwW) (Ag hlev3 hW) (Ag hlev hW)
      rw [hmN,Di (by rw [<-hmN];exact hchk) (HL3.o.1 _ (List.getElem_mem hj3)) (HL.o.2.1 _ (List.getElem_mem hj1))] at this
      rw [hmN]
      simpa [hfl] using this
     clear hM hR hN hB hlev hlev3 hfl hchk hmN hj1 hj3
     go_wp2_with fail
     refine gS (fun Wz=>Ov wr Wz) (bD _) fun hHeld=>?_
     generalize wr.drew=W at hHeld ⊢
     refine kO 0 ?_
     refine kO 1 ?_
     refine kO 2 ?_
     refine kO 3 ?_
     refine kO 4 ?_
     refine kO 5 ?_
     refine kO 6 ?_
     refine kO 7 ?_
     refine kO 8 ?_
     refine kO 9 ?_
     refine kO 10 ?_
     refine kO 11 ?_
     refine rdA 12 rfl fun K hK=>?_
     go_simp
     refine (KF.o _ hHeld).mono ?_
     rintro e W ⟨rfl,hb⟩
     refine xK hK (Ac hHeld hb) fun hHeld=>?_
     refine kO 13 ?_
     refine kO 14 ?_
     refine kO 15 ?_
     refine kO 16 ?_
     refine kO 17 ?_
     refine gE ?_
     have hW2:=hHeld
     clear hHeld
     go_wp2_with fail
     exact ⟨⟨j+1,by omega,by go_num,Ac HBR.o hW2⟩,by simp [intOf];omega⟩
    ·have hmp:¬ (j:Int) < (vs.length:Int):=by omega
     have HBE:=Aa (HBA.o.trans (hB.mono HBA.o.size))
     clear hB hM
     go_wp2_with fail
     go_ret
     exact ⟨rfl,HBE.o⟩
end Go.Proofs.YtfffpjkcfnekaaaGreat.Ex
