/- What a command asks of levels: commands that call nothing, nor get. -/
import Derived.Test.YtfffpjkcfnekaaaGreatF03
import Derived.Laws.EntriesVeiled
import Derived.Maps.AppendAt
set_option linter.unusedVariables false
set_option maxHeartbeats 8000000
set_option maxRecDepth 100000
namespace Go.Proofs.YtfffpjkcfnekaaaGreat.Ex
open Go.RowKit
open Go.Value renaming slice -> O, int -> U, bool -> zg, agg -> zh, pointer -> zj, tuple -> zm
open Go.IntKind renaming i64 -> zd
open Go.Obj renaming cells -> ze
open Go.Ending renaming returned -> zk
theorem AW.mix {n:Nat} {X:World->Nat->Prop} {W:World} {x y x' y':Value} {l k:Lev} (h:AW n X W (zh #[x,y]) l) (h2:AW n X W (zh #[x',y']) k):AW n X W (zh #[x,y']) ⟨l.r,k.w⟩:=by
 obtain ⟨a,b,e,ha,hb⟩:=h.at_
 obtain ⟨a',b',e',ha',hb'⟩:=h2.at_
 obtain ⟨u,v,f,hu,hv⟩:=h.off
 obtain ⟨u',v',f',hu',hv'⟩:=h2.off
 simp at e e' f f'
 obtain ⟨rfl,rfl⟩:=e
 obtain ⟨rfl,rfl⟩:=e'
 obtain ⟨rfl,rfl⟩:=f
 obtain ⟨rfl,rfl⟩:=f'
 exact ⟨⟨_,_,rfl,ha,hb'⟩,⟨h.len.1,h2.len.2⟩,_,_,rfl,hu,hv'⟩
section
variable {σ:Type} {c:WC} {w0:World} {K nv ni no:Nat} {fs:List FnD} {gs:List (Int × Int)} {lev flev:σ->List Lev} {Inv:σ->World->Prop} {X:World->Nat->Prop} {s:Nat} {G:FuncId} {d1 d2:Value}
theorem Ot (I:D3 c w0 nv fs gs lev flev Inv X) (flow:Lev->Bool × Nat->σ->σ) (hC:∀ (args:Array Value) (w:World),(callFunc G args).run Tryz.prog w=.ok (.enter G args) w) (hfl:Hx (C3 c nv fs Inv X flow G d1 d2)) (vs) (hvs:Bo w0 (O c.va c.vn c.vc) vs) (hnv:vs.length=nv)
  (ls:List Lab) (hls:A9 w0 (O c.ya c.yn c.yc) ls) (hlc:∀ b∈ls,Bq c.n gs b=0) (hni:ls.length=ni) (hni5:ni<=5) (kf:Nat) (hfs:BA w0 K kf (O c.fa c.fn c.fc) fs) (hf5:fs.length<=5) (hof:∀ i (h:i < fs.length),okF K nv ni no (i:Int) fs kf fs[i])
  (st:σ) (W:World) (a:Int) (k:Nat) (cs:List Value) (d:D) (v:Value) (p:Lev) (funcs:Int) (hI:Inv st W) (hB:BI c X s G d1 d2 W) (hrs:RS w0 K (k+1) cs d) (hfn:funcs<=fs.length) (hok:CA K nv ni no funcs fs d) (hl:AW c.n X W v p) (hk:Ak d=1) :
  Calls Tryz.prog 116 #[U zd a,.agg cs.toArray,v,zj (some ⟨s,0,none⟩),zj (some ⟨s+1+1,0,none⟩),zj (some ⟨s+1,0,none⟩)] W fun e W'=>e=zk (zm #[])/\(Inv (BU c.n K lev (vs.map Prod.fst) (ls.map (Az (AB gs) c.n)) fs flow a d p st) W'/\BI c X s G d1 d2 W')/\FrW X W W':=by
 obtain ⟨p1,q1,r1,p2,q2,r2,rfl⟩:=hl.form
 obtain ⟨ek,en,xa,xl,xc,aa,ac,ta,tc,ea,ec,rfl,i0,i1,i2,hX,hA,hT,hE,-,-,-⟩:=hrs.form
 obtain ⟨vr,hvr⟩:=nm (AJ d)
 obtain ⟨ot,hot⟩:=nm (Ag d)
 obtain ⟨al,hal⟩:=nm ((An d).length)
 obtain ⟨tl,htl⟩:=nm ((Ar d).length)
 obtain ⟨el,hel⟩:=nm ((Av d).length)
 have hkd:sC (Ak d) (AJ d) (Ag d) ek en xa xl xc aa (An d).length ac ta (Ar d).length tc ea (Av d).length ec=sC 1 (AJ d) (Ag d) ek en xa xl xc aa (An d).length ac ta (Ar d).length tc ea (Av d).length ec:=by rw [hk]
 rw [hkd]
 clear hkd
 rw [<-hvr,<-hot,<-hal,<-htl,<-hel]
 have HVR:=Aa hvr
 have HOT:=Aa hot
 have HAL:=Aa hal
 have hb:Ov W ((W.alloc (ze #[U zd 1,U zd vr,U zd ot,U zd ek,U zd en,O xa xl xc,O aa al ac,O ta tl tc,O ea el ec] 130)).alloc (ze #[O p1 q1 r1,O p2 q2 r2] 50)):=(bA W _).alloc (by simp) _
 have hI1:=I.over _ _ _ hI hb
 have hB1:=hB.over I.xok hb
 have hl1:=hl.over I.xok hb
 have hF1:=FrW.of_below I.xok hb
 have rowS:Ae [U zd 1,U zd vr,U zd ot,U zd ek,U zd en,O xa xl xc,O aa al ac,O ta tl tc,O ea el ec] ((W.alloc (ze #[U zd 1,U zd vr,U zd ot,U zd ek,U zd en,O xa xl xc,O aa al ac,O ta tl tc,O ea el ec] 130)).alloc (ze #[O p1 q1 r1,O p2 q2 r2] 50)) W.heap.size:=(Ae.new [U zd 1,U zd vr,U zd ot,U zd ek,U zd en,O xa xl xc,O aa al ac,O ta tl tc,O ea el ec] 130 W).over (bA _ _)
 have rowP:Ae [O p1 q1 r1,O p2 q2 r2] ((W.alloc (ze #[U zd 1,U zd vr,U zd ot,U zd ek,U zd en,O xa xl xc,O aa al ac,O ta tl tc,O ea el ec] 130)).alloc (ze #[O p1 q1 r1,O p2 q2 r2] 50)) (W.heap.size+1):=by
  have r:=Ae.new [O p1 q1 r1,O p2 q2 r2] 50 (W.alloc (ze #[U zd 1,U zd vr,U zd ot,U zd ek,U zd en,O xa xl xc,O aa al ac,O ta tl tc,O ea el ec] 130))
  simpa using r
 have xS:¬ X ((W.alloc (ze #[U zd 1,U zd vr,U zd ot,U zd ek,U zd en,O xa xl xc,O aa al ac,O ta tl tc,O ea el ec] 130)).alloc (ze #[O p1 q1 r1,O p2 q2 r2] 50)) W.heap.size:=fun h=>by have:=I.xlt _ _ hI _ (I.xok.below _ _ hb _ h);omega
 have xP:¬ X ((W.alloc (ze #[U zd 1,U zd vr,U zd ot,U zd ek,U zd en,O xa xl xc,O aa al ac,O ta tl tc,O ea el ec] 130)).alloc (ze #[O p1 q1 r1,O p2 q2 r2] 50)) (W.heap.size+1):=fun h=>by have:=I.xlt _ _ hI _ (I.xok.below _ _ hb _ h);omega
 have hBe:=I.below _ _ hI1
 have hlv:=I.levs _ _ hI1
 have KW:=Aa (DE c I.n1 I.n6 gs (lev st) X I.xok _ p K [U zd ek,U zd en,O xa xl xc] (AR d) _ (Af I.gr hBe) I.chk hlv.1 hl1 (by rw [hlv.2];exact I.nv16) (I.xlt _ _ hI1) (hX.over hBe) (by rw [hlv.2];exact BB hok))
 have KV:=Aa (fun (st:σ) (W:World) (v:Value) (l:Lev) (i:Int)=>EK (s:=s) I flow hC hfl vs hvs hnv st W v l i)
 obtain ⟨t0,t1,t2,t3,t4,t5,t6,t7,t8,t9⟩:=B9 hB1.row
 obtain ⟨g0,g1,g2,g3,g4,g5,g6,g7,g8⟩:=rc9 rowS
 obtain ⟨u0,u1⟩:=rc2 rowP
 have HI:=Aa I
 have HI1:=Aa hI1
 have HB1:=Aa hB1
 have HL1:=Aa hl1
 have HF1:=Aa hF1
 have HRS:=Aa rowS
 have HRP:=Aa rowP
 have HXS:=Aa xS
 have HXP:=Aa xP
 have HOK:=Aa hok
 have HFL:=Aa hfl.o
 have HFS:=Aa hfs
 have HOF:=Aa hof
 have HLS:=Aa hls
 have HA:=Aa hA
 have HLC:=Aa hlc
 clear hI1 hB1 hl1 hF1 rowS rowP xS xP hBe hlv hvr hot hal htl hel hb hrs hX hA hT hE hI hB hl hfl hvs hok hfs hof hls hlc I
 go_enter Tryz.func116,Tryz.ntmps116
 go_wp2_with fail
 refine (KW.o).mono ?_
 rintro e W3 ⟨⟨o1,o2,o3,o4,o5,o6,rfl,hL3⟩,hb3⟩
 have hb34:=bA W3 (ze #[O o1 o2 o3,O o4 o5 o6] 50)
 have hb14:=Ac hb3 hb34
 have hI4:=HI.o.over _ _ _ HI1.o hb14
 have hI3:=HI.o.over _ _ _ HI1.o hb3
 have hB4:=HB1.o.over HI.o.xok hb14
 have hL4:=hL3.over HI.o.xok hb34
 have hP4:=HL1.o.over HI.o.xok hb14
 have rowA:=Ae.new [O o1 o2 o3,O o4 o5 o6] 50 W3
 have rowS:=HRS.o.over hb14
 have rowP:=HRP.o.over hb14
 have xS:¬ X (W3.alloc (ze #[O o1 o2 o3,O o4 o5 o6] 50)) W.heap.size:=fun h=>HXS.o (HI.o.xok.below _ _ hb14 _ h)
 have xP:¬ X (W3.alloc (ze #[O o1 o2 o3,O o4 o5 o6] 50)) (W.heap.size+1):=fun h=>HXP.o (HI.o.xok.below _ _ hb14 _ h)
 have xA:¬ X (W3.alloc (ze #[O o1 o2 o3,O o4 o5 o6] 50)) W3.heap.size:=fun h=>by have:=HI.o.xlt _ _ hI3 _ (HI.o.xok.below _ _ hb34 _ h);omega
 have hF4:=HF1.o.trans (FrW.of_below HI.o.xok hb14)
 have HI4:=Aa hI4
 have HB4:=Aa hB4
 have HL4:=Aa hL4
 have HP4:=Aa hP4
 have HF4:=Aa hF4
 have HRS4:=Aa rowS
 have HRP4:=Aa rowP
 have HRA4:=Aa rowA
 have HXS4:=Aa xS
 have HXP4:=Aa xP
 have HXA4:=Aa xA
 clear t0 t1 t2 t3 t4 t5 t6 t7 t8 t9 g0 g1 g2 g3 g4 g5 g6 g7 g8 u0 u1 hb3 hb34 hb14 hL3 hI4 hI3 hB4 hL4 hP4 hF4 rowA rowS rowP xS xP xA KW HI1 HB1 HL1 HF1 HRS HRP HXS HXP
 obtain ⟨t0,t1,t2,t3,t4,t5,t6,t7,t8,t9⟩:=B9 HB4.o.row
 obtain ⟨g0,g1,g2,g3,g4,g5,g6,g7,g8⟩:=rc9 HRS4.o
 obtain ⟨u0,u1⟩:=rc2 HRP4.o
 obtain ⟨y0,y1⟩:=rc2 HRA4.o
 have tv:=HB4.o.toVar
 have fl:=HB4.o.flow
 go_wp2_with fail
 refine (KV.o st _ _ _ vr HI4.o HB4.o HL4.o (by rw [HVR.o];exact (HOK.o.2.1 (by omega)).1) (by rw [HVR.o];exact (HOK.o.2.1 (by omega)).2)).mono ?_
 rintro e W5 ⟨rfl,hI5,hF5⟩
 go_wp2_with fail
 go_end0
 refine ⟨rfl,⟨?_,HB4.o.keep hF5⟩,HF4.o.trans hF5⟩
 unfold BU
 rw [if_pos hk,<-HVR.o]
 exact hI5
theorem Om (I:D3 c w0 nv fs gs lev flev Inv X) (flow:Lev->Bool × Nat->σ->σ) (hC:∀ (args:Array Value) (w:World),(callFunc G args).run Tryz.prog w=.ok (.enter G args) w) (hfl:Hx (C3 c nv fs Inv X flow G d1 d2)) (vs) (hvs:Bo w0 (O c.va c.vn c.vc) vs) (hnv:vs.length=nv)
  (ls:List Lab) (hls:A9 w0 (O c.ya c.yn c.yc) ls) (hlc:∀ b∈ls,Bq c.n gs b=0) (hni:ls.length=ni) (hni5:ni<=5) (kf:Nat) (hfs:BA w0 K kf (O c.fa c.fn c.fc) fs) (hf5:fs.length<=5) (hof:∀ i (h:i < fs.length),okF K nv ni no (i:Int) fs kf fs[i])
  (st:σ) (W:World) (a:Int) (k:Nat) (cs:List Value) (d:D) (v:Value) (p:Lev) (funcs:Int) (hI:Inv st W) (hB:BI c X s G d1 d2 W) (hrs:RS w0 K (k+1) cs d) (hfn:funcs<=fs.length) (hok:CA K nv ni no funcs fs d) (hl:AW c.n X W v p) (hk:Ak d=5) :
  Calls Tryz.prog 116 #[U zd a,.agg cs.toArray,v,zj (some ⟨s,0,none⟩),zj (some ⟨s+1+1,0,none⟩),zj (some ⟨s+1,0,none⟩)] W fun e W'=>e=zk (zm #[])/\(Inv (BU c.n K lev (vs.map Prod.fst) (ls.map (Az (AB gs) c.n)) fs flow a d p st) W'/\BI c X s G d1 d2 W')/\FrW X W W':=by
 obtain ⟨p1,q1,r1,p2,q2,r2,rfl⟩:=hl.form
 obtain ⟨ek,en,xa,xl,xc,aa,ac,ta,tc,ea,ec,rfl,i0,i1,i2,hX,hA,hT,hE,-,-,-⟩:=hrs.form
 obtain ⟨vr,hvr⟩:=nm (AJ d)
 obtain ⟨ot,hot⟩:=nm (Ag d)
 obtain ⟨al,hal⟩:=nm ((An d).length)
 obtain ⟨tl,htl⟩:=nm ((Ar d).length)
 obtain ⟨el,hel⟩:=nm ((Av d).length)
 have hkd:sC (Ak d) (AJ d) (Ag d) ek en xa xl xc aa (An d).length ac ta (Ar d).length tc ea (Av d).length ec=sC 5 (AJ d) (Ag d) ek en xa xl xc aa (An d).length ac ta (Ar d).length tc ea (Av d).length ec:=by rw [hk]
 rw [hkd]
 clear hkd
 rw [<-hvr,<-hot,<-hal,<-htl,<-hel]
 have HVR:=Aa hvr
 have HOT:=Aa hot
 have HAL:=Aa hal
 have hb:Ov W ((W.alloc (ze #[U zd 5,U zd vr,U zd ot,U zd ek,U zd en,O xa xl xc,O aa al ac,O ta tl tc,O ea el ec] 130)).alloc (ze #[O p1 q1 r1,O p2 q2 r2] 50)):=(bA W _).alloc (by simp) _
 have hI1:=I.over _ _ _ hI hb
 have hB1:=hB.over I.xok hb
 have hl1:=hl.over I.xok hb
 have hF1:=FrW.of_below I.xok hb
 have rowS:Ae [U zd 5,U zd vr,U zd ot,U zd ek,U zd en,O xa xl xc,O aa al ac,O ta tl tc,O ea el ec] ((W.alloc (ze #[U zd 5,U zd vr,U zd ot,U zd ek,U zd en,O xa xl xc,O aa al ac,O ta tl tc,O ea el ec] 130)).alloc (ze #[O p1 q1 r1,O p2 q2 r2] 50)) W.heap.size:=(Ae.new [U zd 5,U zd vr,U zd ot,U zd ek,U zd en,O xa xl xc,O aa al ac,O ta tl tc,O ea el ec] 130 W).over (bA _ _)
 have rowP:Ae [O p1 q1 r1,O p2 q2 r2] ((W.alloc (ze #[U zd 5,U zd vr,U zd ot,U zd ek,U zd en,O xa xl xc,O aa al ac,O ta tl tc,O ea el ec] 130)).alloc (ze #[O p1 q1 r1,O p2 q2 r2] 50)) (W.heap.size+1):=by
  have r:=Ae.new [O p1 q1 r1,O p2 q2 r2] 50 (W.alloc (ze #[U zd 5,U zd vr,U zd ot,U zd ek,U zd en,O xa xl xc,O aa al ac,O ta tl tc,O ea el ec] 130))
  simpa using r
 have xS:¬ X ((W.alloc (ze #[U zd 5,U zd vr,U zd ot,U zd ek,U zd en,O xa xl xc,O aa al ac,O ta tl tc,O ea el ec] 130)).alloc (ze #[O p1 q1 r1,O p2 q2 r2] 50)) W.heap.size:=fun h=>by have:=I.xlt _ _ hI _ (I.xok.below _ _ hb _ h);omega
 have xP:¬ X ((W.alloc (ze #[U zd 5,U zd vr,U zd ot,U zd ek,U zd en,O xa xl xc,O aa al ac,O ta tl tc,O ea el ec] 130)).alloc (ze #[O p1 q1 r1,O p2 q2 r2] 50)) (W.heap.size+1):=fun h=>by have:=I.xlt _ _ hI _ (I.xok.below _ _ hb _ h);omega
 have hBe:=I.below _ _ hI1
 have hlv:=I.levs _ _ hI1
 have KW:=Aa (DE c I.n1 I.n6 gs (lev st) X I.xok _ p K [U zd ek,U zd en,O xa xl xc] (AR d) _ (Af I.gr hBe) I.chk hlv.1 hl1 (by rw [hlv.2];exact I.nv16) (I.xlt _ _ hI1) (hX.over hBe) (by rw [hlv.2];exact BB hok))
 have KV:=Aa (fun (st:σ) (W:World) (v:Value) (l:Lev) (i:Int)=>EK (s:=s) I flow hC hfl vs hvs hnv st W v l i)
 obtain ⟨t0,t1,t2,t3,t4,t5,t6,t7,t8,t9⟩:=B9 hB1.row
 obtain ⟨g0,g1,g2,g3,g4,g5,g6,g7,g8⟩:=rc9 rowS
 obtain ⟨u0,u1⟩:=rc2 rowP
 have HI:=Aa I
 have HI1:=Aa hI1
 have HB1:=Aa hB1
 have HL1:=Aa hl1
 have HF1:=Aa hF1
 have HRS:=Aa rowS
 have HRP:=Aa rowP
 have HXS:=Aa xS
 have HXP:=Aa xP
 have HOK:=Aa hok
 have HFL:=Aa hfl.o
 have HFS:=Aa hfs
 have HOF:=Aa hof
 have HLS:=Aa hls
 have HA:=Aa hA
 have HLC:=Aa hlc
 clear hI1 hB1 hl1 hF1 rowS rowP xS xP hBe hlv hvr hot hal htl hel hb hrs hX hA hT hE hI hB hl hfl hvs hok hfs hof hls hlc I
 go_enter Tryz.func116,Tryz.ntmps116
 go_wp2_with fail
 refine (KW.o).mono ?_
 rintro e W3 ⟨⟨o1,o2,o3,o4,o5,o6,rfl,hL3⟩,hb3⟩
 have hb34:=bA W3 (ze #[O o1 o2 o3,O o4 o5 o6] 50)
 have hb14:=Ac hb3 hb34
 have hI4:=HI.o.over _ _ _ HI1.o hb14
 have hI3:=HI.o.over _ _ _ HI1.o hb3
 have hB4:=HB1.o.over HI.o.xok hb14
 have hL4:=hL3.over HI.o.xok hb34
 have hP4:=HL1.o.over HI.o.xok hb14
 have rowA:=Ae.new [O o1 o2 o3,O o4 o5 o6] 50 W3
 have rowS:=HRS.o.over hb14
 have rowP:=HRP.o.over hb14
 have xS:¬ X (W3.alloc (ze #[O o1 o2 o3,O o4 o5 o6] 50)) W.heap.size:=fun h=>HXS.o (HI.o.xok.below _ _ hb14 _ h)
 have xP:¬ X (W3.alloc (ze #[O o1 o2 o3,O o4 o5 o6] 50)) (W.heap.size+1):=fun h=>HXP.o (HI.o.xok.below _ _ hb14 _ h)
 have xA:¬ X (W3.alloc (ze #[O o1 o2 o3,O o4 o5 o6] 50)) W3.heap.size:=fun h=>by have:=HI.o.xlt _ _ hI3 _ (HI.o.xok.below _ _ hb34 _ h);omega
 have hF4:=HF1.o.trans (FrW.of_below HI.o.xok hb14)
 have HI4:=Aa hI4
 have HB4:=Aa hB4
 have HL4:=Aa hL4
 have HP4:=Aa hP4
 have HF4:=Aa hF4
 have HRS4:=Aa rowS
 have HRP4:=Aa rowP
 have HRA4:=Aa rowA
 have HXS4:=Aa xS
 have HXP4:=Aa xP
 have HXA4:=Aa xA
 clear t0 t1 t2 t3 t4 t5 t6 t7 t8 t9 g0 g1 g2 g3 g4 g5 g6 g7 g8 u0 u1 hb3 hb34 hb14 hL3 hI4 hI3 hB4 hL4 hP4 hF4 rowA rowS rowP xS xP xA KW HI1 HB1 HL1 HF1 HRS HRP HXS HXP
 obtain ⟨t0,t1,t2,t3,t4,t5,t6,t7,t8,t9⟩:=B9 HB4.o.row
 obtain ⟨g0,g1,g2,g3,g4,g5,g6,g7,g8⟩:=rc9 HRS4.o
 obtain ⟨u0,u1⟩:=rc2 HRP4.o
 obtain ⟨y0,y1⟩:=rc2 HRA4.o
 have tv:=HB4.o.toVar
 have fl:=HB4.o.flow
 go_wp2_with fail
 refine (KV.o st _ _ _ vr HI4.o HB4.o (AW.mix HP4.o HL4.o) (by rw [HVR.o];exact (HOK.o.2.1 (by omega)).1) (by rw [HVR.o];exact (HOK.o.2.1 (by omega)).2)).mono ?_
 rintro e W5 ⟨rfl,hI5,hF5⟩
 go_wp2_with fail
 go_end0
 refine ⟨rfl,⟨?_,HB4.o.keep hF5⟩,HF4.o.trans hF5⟩
 unfold BU
 rw [if_neg (by omega),if_neg (by omega),if_neg (by omega),if_pos hk,<-HVR.o]
 exact hI5
theorem Ol (I:D3 c w0 nv fs gs lev flev Inv X) (flow:Lev->Bool × Nat->σ->σ) (hC:∀ (args:Array Value) (w:World),(callFunc G args).run Tryz.prog w=.ok (.enter G args) w) (hfl:Hx (C3 c nv fs Inv X flow G d1 d2)) (vs) (hvs:Bo w0 (O c.va c.vn c.vc) vs) (hnv:vs.length=nv)
  (ls:List Lab) (hls:A9 w0 (O c.ya c.yn c.yc) ls) (hlc:∀ b∈ls,Bq c.n gs b=0) (hni:ls.length=ni) (hni5:ni<=5) (kf:Nat) (hfs:BA w0 K kf (O c.fa c.fn c.fc) fs) (hf5:fs.length<=5) (hof:∀ i (h:i < fs.length),okF K nv ni no (i:Int) fs kf fs[i])
  (st:σ) (W:World) (a:Int) (k:Nat) (cs:List Value) (d:D) (v:Value) (p:Lev) (funcs:Int) (hI:Inv st W) (hB:BI c X s G d1 d2 W) (hrs:RS w0 K (k+1) cs d) (hfn:funcs<=fs.length) (hok:CA K nv ni no funcs fs d) (hl:AW c.n X W v p) (hk:Ak d=6) :
  Calls Tryz.prog 116 #[U zd a,.agg cs.toArray,v,zj (some ⟨s,0,none⟩),zj (some ⟨s+1+1,0,none⟩),zj (some ⟨s+1,0,none⟩)] W fun e W'=>e=zk (zm #[])/\(Inv (BU c.n K lev (vs.map Prod.fst) (ls.map (Az (AB gs) c.n)) fs flow a d p st) W'/\BI c X s G d1 d2 W')/\FrW X W W':=by
 obtain ⟨p1,q1,r1,p2,q2,r2,rfl⟩:=hl.form
 obtain ⟨ek,en,xa,xl,xc,aa,ac,ta,tc,ea,ec,rfl,i0,i1,i2,hX,hA,hT,hE,-,-,-⟩:=hrs.form
 obtain ⟨vr,hvr⟩:=nm (AJ d)
 obtain ⟨ot,hot⟩:=nm (Ag d)
 obtain ⟨al,hal⟩:=nm ((An d).length)
 obtain ⟨tl,htl⟩:=nm ((Ar d).length)
 obtain ⟨el,hel⟩:=nm ((Av d).length)
 have hkd:sC (Ak d) (AJ d) (Ag d) ek en xa xl xc aa (An d).length ac ta (Ar d).length tc ea (Av d).length ec=sC 6 (AJ d) (Ag d) ek en xa xl xc aa (An d).length ac ta (Ar d).length tc ea (Av d).length ec:=by rw [hk]
 rw [hkd]
 clear hkd
 rw [<-hvr,<-hot,<-hal,<-htl,<-hel]
 have HVR:=Aa hvr
 have HOT:=Aa hot
 have HAL:=Aa hal
 have hb:Ov W ((W.alloc (ze #[U zd 6,U zd vr,U zd ot,U zd ek,U zd en,O xa xl xc,O aa al ac,O ta tl tc,O ea el ec] 130)).alloc (ze #[O p1 q1 r1,O p2 q2 r2] 50)):=(bA W _).alloc (by simp) _
 have hI1:=I.over _ _ _ hI hb
 have hB1:=hB.over I.xok hb
 have hl1:=hl.over I.xok hb
 have hF1:=FrW.of_below I.xok hb
 have rowS:Ae [U zd 6,U zd vr,U zd ot,U zd ek,U zd en,O xa xl xc,O aa al ac,O ta tl tc,O ea el ec] ((W.alloc (ze #[U zd 6,U zd vr,U zd ot,U zd ek,U zd en,O xa xl xc,O aa al ac,O ta tl tc,O ea el ec] 130)).alloc (ze #[O p1 q1 r1,O p2 q2 r2] 50)) W.heap.size:=(Ae.new [U zd 6,U zd vr,U zd ot,U zd ek,U zd en,O xa xl xc,O aa al ac,O ta tl tc,O ea el ec] 130 W).over (bA _ _)
 have rowP:Ae [O p1 q1 r1,O p2 q2 r2] ((W.alloc (ze #[U zd 6,U zd vr,U zd ot,U zd ek,U zd en,O xa xl xc,O aa al ac,O ta tl tc,O ea el ec] 130)).alloc (ze #[O p1 q1 r1,O p2 q2 r2] 50)) (W.heap.size+1):=by
  have r:=Ae.new [O p1 q1 r1,O p2 q2 r2] 50 (W.alloc (ze #[U zd 6,U zd vr,U zd ot,U zd ek,U zd en,O xa xl xc,O aa al ac,O ta tl tc,O ea el ec] 130))
  simpa using r
 have xS:¬ X ((W.alloc (ze #[U zd 6,U zd vr,U zd ot,U zd ek,U zd en,O xa xl xc,O aa al ac,O ta tl tc,O ea el ec] 130)).alloc (ze #[O p1 q1 r1,O p2 q2 r2] 50)) W.heap.size:=fun h=>by have:=I.xlt _ _ hI _ (I.xok.below _ _ hb _ h);omega
 have xP:¬ X ((W.alloc (ze #[U zd 6,U zd vr,U zd ot,U zd ek,U zd en,O xa xl xc,O aa al ac,O ta tl tc,O ea el ec] 130)).alloc (ze #[O p1 q1 r1,O p2 q2 r2] 50)) (W.heap.size+1):=fun h=>by have:=I.xlt _ _ hI _ (I.xok.below _ _ hb _ h);omega
 have hBe:=I.below _ _ hI1
 have hlv:=I.levs _ _ hI1
 have KW:=Aa (DE c I.n1 I.n6 gs (lev st) X I.xok _ p K [U zd ek,U zd en,O xa xl xc] (AR d) _ (Af I.gr hBe) I.chk hlv.1 hl1 (by rw [hlv.2];exact I.nv16) (I.xlt _ _ hI1) (hX.over hBe) (by rw [hlv.2];exact BB hok))
 have KV:=Aa (fun (st:σ) (W:World) (v:Value) (l:Lev) (i:Int)=>EK (s:=s) I flow hC hfl vs hvs hnv st W v l i)
 obtain ⟨t0,t1,t2,t3,t4,t5,t6,t7,t8,t9⟩:=B9 hB1.row
 obtain ⟨g0,g1,g2,g3,g4,g5,g6,g7,g8⟩:=rc9 rowS
 obtain ⟨u0,u1⟩:=rc2 rowP
 have HI:=Aa I
 have HI1:=Aa hI1
 have HB1:=Aa hB1
 have HL1:=Aa hl1
 have HF1:=Aa hF1
 have HRS:=Aa rowS
 have HRP:=Aa rowP
 have HXS:=Aa xS
 have HXP:=Aa xP
 have HOK:=Aa hok
 have HFL:=Aa hfl.o
 have HFS:=Aa hfs
 have HOF:=Aa hof
 have HLS:=Aa hls
 have HA:=Aa hA
 have HLC:=Aa hlc
 clear hI1 hB1 hl1 hF1 rowS rowP xS xP hBe hlv hvr hot hal htl hel hb hrs hX hA hT hE hI hB hl hfl hvs hok hfs hof hls hlc I
 go_enter Tryz.func116,Tryz.ntmps116
 go_wp2_with fail
 refine (KW.o).mono ?_
 rintro e W3 ⟨⟨o1,o2,o3,o4,o5,o6,rfl,hL3⟩,hb3⟩
 have hb34:=bA W3 (ze #[O o1 o2 o3,O o4 o5 o6] 50)
 have hb14:=Ac hb3 hb34
 have hI4:=HI.o.over _ _ _ HI1.o hb14
 have hI3:=HI.o.over _ _ _ HI1.o hb3
 have hB4:=HB1.o.over HI.o.xok hb14
 have hL4:=hL3.over HI.o.xok hb34
 have hP4:=HL1.o.over HI.o.xok hb14
 have rowA:=Ae.new [O o1 o2 o3,O o4 o5 o6] 50 W3
 have rowS:=HRS.o.over hb14
 have rowP:=HRP.o.over hb14
 have xS:¬ X (W3.alloc (ze #[O o1 o2 o3,O o4 o5 o6] 50)) W.heap.size:=fun h=>HXS.o (HI.o.xok.below _ _ hb14 _ h)
 have xP:¬ X (W3.alloc (ze #[O o1 o2 o3,O o4 o5 o6] 50)) (W.heap.size+1):=fun h=>HXP.o (HI.o.xok.below _ _ hb14 _ h)
 have xA:¬ X (W3.alloc (ze #[O o1 o2 o3,O o4 o5 o6] 50)) W3.heap.size:=fun h=>by have:=HI.o.xlt _ _ hI3 _ (HI.o.xok.below _ _ hb34 _ h);omega
 have hF4:=HF1.o.trans (FrW.of_below HI.o.xok hb14)
 have HI4:=Aa hI4
 have HB4:=Aa hB4
 have HL4:=Aa hL4
 have HP4:=Aa hP4
 have HF4:=Aa hF4
 have HRS4:=Aa rowS
 have HRP4:=Aa rowP
 have HRA4:=Aa rowA
 have HXS4:=Aa xS
 have HXP4:=Aa xP
 have HXA4:=Aa xA
 clear t0 t1 t2 t3 t4 t5 t6 t7 t8 t9 g0 g1 g2 g3 g4 g5 g6 g7 g8 u0 u1 hb3 hb34 hb14 hL3 hI4 hI3 hB4 hL4 hP4 hF4 rowA rowS rowP xS xP xA KW HI1 HB1 HL1 HF1 HRS HRP HXS HXP
 obtain ⟨t0,t1,t2,t3,t4,t5,t6,t7,t8,t9⟩:=B9 HB4.o.row
 obtain ⟨g0,g1,g2,g3,g4,g5,g6,g7,g8⟩:=rc9 HRS4.o
 obtain ⟨u0,u1⟩:=rc2 HRP4.o
 obtain ⟨y0,y1⟩:=rc2 HRA4.o
 have tv:=HB4.o.toVar
 have fl:=HB4.o.flow
 go_wp2_with fail
 refine (KV.o st _ _ _ vr HI4.o HB4.o (AW.mix HL4.o HP4.o) (by rw [HVR.o];exact (HOK.o.2.1 (by omega)).1) (by rw [HVR.o];exact (HOK.o.2.1 (by omega)).2)).mono ?_
 rintro e W5 ⟨rfl,hI5,hF5⟩
 go_wp2_with fail
 go_end0
 refine ⟨rfl,⟨?_,HB4.o.keep hF5⟩,HF4.o.trans hF5⟩
 unfold BU
 rw [if_neg (by omega),if_neg (by omega),if_neg (by omega),if_neg (by omega),if_pos hk,<-HVR.o]
 exact hI5
theorem Ou (I:D3 c w0 nv fs gs lev flev Inv X) (flow:Lev->Bool × Nat->σ->σ) (hC:∀ (args:Array Value) (w:World),(callFunc G args).run Tryz.prog w=.ok (.enter G args) w) (hfl:Hx (C3 c nv fs Inv X flow G d1 d2)) (vs) (hvs:Bo w0 (O c.va c.vn c.vc) vs) (hnv:vs.length=nv)
  (ls:List Lab) (hls:A9 w0 (O c.ya c.yn c.yc) ls) (hlc:∀ b∈ls,Bq c.n gs b=0) (hni:ls.length=ni) (hni5:ni<=5) (kf:Nat) (hfs:BA w0 K kf (O c.fa c.fn c.fc) fs) (hf5:fs.length<=5) (hof:∀ i (h:i < fs.length),okF K nv ni no (i:Int) fs kf fs[i])
  (st:σ) (W:World) (a:Int) (k:Nat) (cs:List Value) (d:D) (v:Value) (p:Lev) (funcs:Int) (hI:Inv st W) (hB:BI c X s G d1 d2 W) (hrs:RS w0 K (k+1) cs d) (hfn:funcs<=fs.length) (hok:CA K nv ni no funcs fs d) (hl:AW c.n X W v p) (hk:Ak d=4\/Ak d=7\/Ak d=8) :
  Calls Tryz.prog 116 #[U zd a,.agg cs.toArray,v,zj (some ⟨s,0,none⟩),zj (some ⟨s+1+1,0,none⟩),zj (some ⟨s+1,0,none⟩)] W fun e W'=>e=zk (zm #[])/\(Inv (BU c.n K lev (vs.map Prod.fst) (ls.map (Az (AB gs) c.n)) fs flow a d p st) W'/\BI c X s G d1 d2 W')/\FrW X W W':=by
 have hd:BU c.n K lev (vs.map Prod.fst) (ls.map (Az (AB gs) c.n)) fs flow a d p st=st:=by
  unfold BU
  rw [if_neg (by omega),if_neg (by omega),if_neg (by omega),if_neg (by omega),if_neg (by omega)]
 rw [hd]
 have HD:=Aa hd
 clear hd
 obtain ⟨p1,q1,r1,p2,q2,r2,rfl⟩:=hl.form
 obtain ⟨ek,en,xa,xl,xc,aa,ac,ta,tc,ea,ec,rfl,i0,i1,i2,hX,hA,hT,hE,-,-,-⟩:=hrs.form
 obtain ⟨vr,hvr⟩:=nm (AJ d)
 obtain ⟨ot,hot⟩:=nm (Ag d)
 obtain ⟨al,hal⟩:=nm ((An d).length)
 obtain ⟨tl,htl⟩:=nm ((Ar d).length)
 obtain ⟨el,hel⟩:=nm ((Av d).length)
 obtain ⟨kd,hkd⟩:=nm (Ak d)
 rw [<-hkd] at hk ⊢
 have n1:(kd == 1)=false:=by simp;omega
 have n2:(kd == 2)=false:=by simp;omega
 have n3:(kd == 3)=false:=by simp;omega
 have n5:(kd == 5)=false:=by simp;omega
 have n6:(kd == 6)=false:=by simp;omega
 clear hkd hk
 rw [<-hvr,<-hot,<-hal,<-htl,<-hel]
 have HVR:=Aa hvr
 have HOT:=Aa hot
 have HAL:=Aa hal
 have hb:Ov W ((W.alloc (ze #[U zd kd,U zd vr,U zd ot,U zd ek,U zd en,O xa xl xc,O aa al ac,O ta tl tc,O ea el ec] 130)).alloc (ze #[O p1 q1 r1,O p2 q2 r2] 50)):=(bA W _).alloc (by simp) _
 have hI1:=I.over _ _ _ hI hb
 have hB1:=hB.over I.xok hb
 have hl1:=hl.over I.xok hb
 have hF1:=FrW.of_below I.xok hb
 have rowS:Ae [U zd kd,U zd vr,U zd ot,U zd ek,U zd en,O xa xl xc,O aa al ac,O ta tl tc,O ea el ec] ((W.alloc (ze #[U zd kd,U zd vr,U zd ot,U zd ek,U zd en,O xa xl xc,O aa al ac,O ta tl tc,O ea el ec] 130)).alloc (ze #[O p1 q1 r1,O p2 q2 r2] 50)) W.heap.size:=(Ae.new [U zd kd,U zd vr,U zd ot,U zd ek,U zd en,O xa xl xc,O aa al ac,O ta tl tc,O ea el ec] 130 W).over (bA _ _)
 have rowP:Ae [O p1 q1 r1,O p2 q2 r2] ((W.alloc (ze #[U zd kd,U zd vr,U zd ot,U zd ek,U zd en,O xa xl xc,O aa al ac,O ta tl tc,O ea el ec] 130)).alloc (ze #[O p1 q1 r1,O p2 q2 r2] 50)) (W.heap.size+1):=by
  have r:=Ae.new [O p1 q1 r1,O p2 q2 r2] 50 (W.alloc (ze #[U zd kd,U zd vr,U zd ot,U zd ek,U zd en,O xa xl xc,O aa al ac,O ta tl tc,O ea el ec] 130))
  simpa using r
 have xS:¬ X ((W.alloc (ze #[U zd kd,U zd vr,U zd ot,U zd ek,U zd en,O xa xl xc,O aa al ac,O ta tl tc,O ea el ec] 130)).alloc (ze #[O p1 q1 r1,O p2 q2 r2] 50)) W.heap.size:=fun h=>by have:=I.xlt _ _ hI _ (I.xok.below _ _ hb _ h);omega
 have xP:¬ X ((W.alloc (ze #[U zd kd,U zd vr,U zd ot,U zd ek,U zd en,O xa xl xc,O aa al ac,O ta tl tc,O ea el ec] 130)).alloc (ze #[O p1 q1 r1,O p2 q2 r2] 50)) (W.heap.size+1):=fun h=>by have:=I.xlt _ _ hI _ (I.xok.below _ _ hb _ h);omega
 have hBe:=I.below _ _ hI1
 have hlv:=I.levs _ _ hI1
 have KW:=Aa (DE c I.n1 I.n6 gs (lev st) X I.xok _ p K [U zd ek,U zd en,O xa xl xc] (AR d) _ (Af I.gr hBe) I.chk hlv.1 hl1 (by rw [hlv.2];exact I.nv16) (I.xlt _ _ hI1) (hX.over hBe) (by rw [hlv.2];exact BB hok))
 have KV:=Aa (fun (st:σ) (W:World) (v:Value) (l:Lev) (i:Int)=>EK (s:=s) I flow hC hfl vs hvs hnv st W v l i)
 obtain ⟨t0,t1,t2,t3,t4,t5,t6,t7,t8,t9⟩:=B9 hB1.row
 obtain ⟨g0,g1,g2,g3,g4,g5,g6,g7,g8⟩:=rc9 rowS
 obtain ⟨u0,u1⟩:=rc2 rowP
 have HI:=Aa I
 have HI1:=Aa hI1
 have HB1:=Aa hB1
 have HL1:=Aa hl1
 have HF1:=Aa hF1
 have HRS:=Aa rowS
 have HRP:=Aa rowP
 have HXS:=Aa xS
 have HXP:=Aa xP
 have HOK:=Aa hok
 have HFL:=Aa hfl.o
 have HFS:=Aa hfs
 have HOF:=Aa hof
 have HLS:=Aa hls
 have HA:=Aa hA
 have HLC:=Aa hlc
 clear hI1 hB1 hl1 hF1 rowS rowP xS xP hBe hlv hvr hot hal htl hel hb hrs hX hA hT hE hI hB hl hfl hvs hok hfs hof hls hlc I
 go_enter Tryz.func116,Tryz.ntmps116
 go_wp2_with fail
 refine (KW.o).mono ?_
 rintro e W3 ⟨⟨o1,o2,o3,o4,o5,o6,rfl,hL3⟩,hb3⟩
 have hb34:=bA W3 (ze #[O o1 o2 o3,O o4 o5 o6] 50)
 have hb14:=Ac hb3 hb34
 have hI4:=HI.o.over _ _ _ HI1.o hb14
 have hI3:=HI.o.over _ _ _ HI1.o hb3
 have hB4:=HB1.o.over HI.o.xok hb14
 have hL4:=hL3.over HI.o.xok hb34
 have hP4:=HL1.o.over HI.o.xok hb14
 have rowA:=Ae.new [O o1 o2 o3,O o4 o5 o6] 50 W3
 have rowS:=HRS.o.over hb14
 have rowP:=HRP.o.over hb14
 have xS:¬ X (W3.alloc (ze #[O o1 o2 o3,O o4 o5 o6] 50)) W.heap.size:=fun h=>HXS.o (HI.o.xok.below _ _ hb14 _ h)
 have xP:¬ X (W3.alloc (ze #[O o1 o2 o3,O o4 o5 o6] 50)) (W.heap.size+1):=fun h=>HXP.o (HI.o.xok.below _ _ hb14 _ h)
 have xA:¬ X (W3.alloc (ze #[O o1 o2 o3,O o4 o5 o6] 50)) W3.heap.size:=fun h=>by have:=HI.o.xlt _ _ hI3 _ (HI.o.xok.below _ _ hb34 _ h);omega
 have hF4:=HF1.o.trans (FrW.of_below HI.o.xok hb14)
 have HI4:=Aa hI4
 have HB4:=Aa hB4
 have HL4:=Aa hL4
 have HP4:=Aa hP4
 have HF4:=Aa hF4
 have HRS4:=Aa rowS
 have HRP4:=Aa rowP
 have HRA4:=Aa rowA
 have HXS4:=Aa xS
 have HXP4:=Aa xP
 have HXA4:=Aa xA
 clear t0 t1 t2 t3 t4 t5 t6 t7 t8 t9 g0 g1 g2 g3 g4 g5 g6 g7 g8 u0 u1 hb3 hb34 hb14 hL3 hI4 hI3 hB4 hL4 hP4 hF4 rowA rowS rowP xS xP xA KW HI1 HB1 HL1 HF1 HRS HRP HXS HXP
 obtain ⟨t0,t1,t2,t3,t4,t5,t6,t7,t8,t9⟩:=B9 HB4.o.row
 obtain ⟨g0,g1,g2,g3,g4,g5,g6,g7,g8⟩:=rc9 HRS4.o
 obtain ⟨u0,u1⟩:=rc2 HRP4.o
 obtain ⟨y0,y1⟩:=rc2 HRA4.o
 have tv:=HB4.o.toVar
 have fl:=HB4.o.flow
 go_wp2_with fail
 go_end0
 exact ⟨rfl,⟨HI4.o,HB4.o⟩,HF4.o⟩
end
section
variable {σ:Type} {c:WC} {w0:World} {K nv ni no:Nat} {fs:List FnD} {gs:List (Int × Int)} {lev flev:σ->List Lev} {Inv:σ->World->Prop} {X:World->Nat->Prop} {s:Nat} {G:FuncId} {d1 d2:Value}
abbrev Hi (s:Nat) (c:WC) (b3 z3:Nat) (W:World) (p1:Option Addr) (q1 r1:Nat) (p2:Option Addr) (q2 r2:Nat) (vr:Int) (j:Nat) (ek en:Int) (xa:Option Addr) (xl xc:Nat) (aa:Option Addr) (al ac:Nat) (ta:Option Addr) (tl tc:Nat) (ea:Option Addr) (el ec:Nat) (a1:Option Addr) (a2 a3:Nat) (a4:Option Addr) (a5 a6:Nat) (Wz:World):Prop:=Wz.cell? ⟨s,0,none⟩=some (U zd (c.n:Int))/\CE Wz s 1 (O c.ga c.gn c.gc)/\CE Wz s 2 (O c.sa c.sn c.sc)/\CE Wz s 3 (O (some ⟨b3,z3,none⟩) c.yn c.yc)/\CE Wz s 4 (O c.oa c.on c.oc)/\CE Wz s 5 (O c.va c.vn c.vc)/\CE Wz s 6 (O c.fa c.fn c.fc)/\CE Wz s 7 (O c.ba c.bn c.bc)/\CE Wz s 8 (O c.la c.ln c.lc)/\CE Wz s 9 (O c.ka c.kn c.kc)/\CE Wz (s+1+1) 0 (.func (.func 115) #[] #[zj (some ⟨s,0,none⟩),zj (some ⟨s+1,0,none⟩)])/\CE Wz (W.heap.size+1) 0 (O p1 q1 r1)/\CE Wz (W.heap.size+1) 1 (O p2 q2 r2)/\CE Wz W.heap.size 0 (U zd 3)/\CE Wz W.heap.size 1 (U zd vr)/\CE Wz W.heap.size 2 (U zd (j:Int))/\CE Wz W.heap.size 3 (U zd ek)/\CE Wz W.heap.size 4 (U zd en)/\CE Wz W.heap.size 5 (O xa xl xc)/\CE Wz W.heap.size 6 (O aa al ac)/\CE Wz W.heap.size 7 (O ta tl tc)/\CE Wz W.heap.size 8 (O ea el ec)/\CE Wz b3 (z3+j*2) (O a1 a2 a3)/\CE Wz b3 (z3+j*2+1) (O a4 a5 a6)
theorem Oo (I:D3 c w0 nv fs gs lev flev Inv X) (flow:Lev->Bool × Nat->σ->σ) (hC:∀ (args:Array Value) (w:World),(callFunc G args).run Tryz.prog w=.ok (.enter G args) w) (hfl:Hx (C3 c nv fs Inv X flow G d1 d2)) (vs) (hvs:Bo w0 (O c.va c.vn c.vc) vs) (hnv:vs.length=nv)
  (ls:List Lab) (hls:A9 w0 (O c.ya c.yn c.yc) ls) (hlc:∀ b∈ls,Bq c.n gs b=0) (hni:ls.length=ni) (hni5:ni<=5) (kf:Nat) (hfs:BA w0 K kf (O c.fa c.fn c.fc) fs) (hf5:fs.length<=5) (hof:∀ i (h:i < fs.length),okF K nv ni no (i:Int) fs kf fs[i])
  (st:σ) (W:World) (a:Int) (k:Nat) (cs:List Value) (d:D) (v:Value) (p:Lev) (funcs:Int) (hI:Inv st W) (hB:BI c X s G d1 d2 W) (hrs:RS w0 K (k+1) cs d) (hfn:funcs<=fs.length) (hok:CA K nv ni no funcs fs d) (hl:AW c.n X W v p) (hk:Ak d=3) :
  Calls Tryz.prog 116 #[U zd a,.agg cs.toArray,v,zj (some ⟨s,0,none⟩),zj (some ⟨s+1+1,0,none⟩),zj (some ⟨s+1,0,none⟩)] W fun e W'=>e=zk (zm #[])/\(Inv (BU c.n K lev (vs.map Prod.fst) (ls.map (Az (AB gs) c.n)) fs flow a d p st) W'/\BI c X s G d1 d2 W')/\FrW X W W':=by
 obtain ⟨p1,q1,r1,p2,q2,r2,rfl⟩:=hl.form
 obtain ⟨ek,en,xa,xl,xc,aa,ac,ta,tc,ea,ec,rfl,i0,i1,i2,hX,hA,hT,hE,-,-,-⟩:=hrs.form
 obtain ⟨vr,hvr⟩:=nm (AJ d)
 obtain ⟨ot,hot⟩:=nm (Ag d)
 obtain ⟨al,hal⟩:=nm ((An d).length)
 obtain ⟨tl,htl⟩:=nm ((Ar d).length)
 obtain ⟨el,hel⟩:=nm ((Av d).length)
 have hkd:sC (Ak d) (AJ d) (Ag d) ek en xa xl xc aa (An d).length ac ta (Ar d).length tc ea (Av d).length ec=sC 3 (AJ d) (Ag d) ek en xa xl xc aa (An d).length ac ta (Ar d).length tc ea (Av d).length ec:=by rw [hk]
 rw [hkd]
 clear hkd
 rw [<-hvr,<-hot,<-hal,<-htl,<-hel]
 have HVR:=Aa hvr
 have HOT:=Aa hot
 have HAL:=Aa hal
 have hb:Ov W ((W.alloc (ze #[U zd 3,U zd vr,U zd ot,U zd ek,U zd en,O xa xl xc,O aa al ac,O ta tl tc,O ea el ec] 130)).alloc (ze #[O p1 q1 r1,O p2 q2 r2] 50)):=(bA W _).alloc (by simp) _
 have hI1:=I.over _ _ _ hI hb
 have hB1:=hB.over I.xok hb
 have hl1:=hl.over I.xok hb
 have hF1:=FrW.of_below I.xok hb
 have rowS:Ae [U zd 3,U zd vr,U zd ot,U zd ek,U zd en,O xa xl xc,O aa al ac,O ta tl tc,O ea el ec] ((W.alloc (ze #[U zd 3,U zd vr,U zd ot,U zd ek,U zd en,O xa xl xc,O aa al ac,O ta tl tc,O ea el ec] 130)).alloc (ze #[O p1 q1 r1,O p2 q2 r2] 50)) W.heap.size:=(Ae.new [U zd 3,U zd vr,U zd ot,U zd ek,U zd en,O xa xl xc,O aa al ac,O ta tl tc,O ea el ec] 130 W).over (bA _ _)
 have rowP:Ae [O p1 q1 r1,O p2 q2 r2] ((W.alloc (ze #[U zd 3,U zd vr,U zd ot,U zd ek,U zd en,O xa xl xc,O aa al ac,O ta tl tc,O ea el ec] 130)).alloc (ze #[O p1 q1 r1,O p2 q2 r2] 50)) (W.heap.size+1):=by
  have r:=Ae.new [O p1 q1 r1,O p2 q2 r2] 50 (W.alloc (ze #[U zd 3,U zd vr,U zd ot,U zd ek,U zd en,O xa xl xc,O aa al ac,O ta tl tc,O ea el ec] 130))
  simpa using r
 have xS:¬ X ((W.alloc (ze #[U zd 3,U zd vr,U zd ot,U zd ek,U zd en,O xa xl xc,O aa al ac,O ta tl tc,O ea el ec] 130)).alloc (ze #[O p1 q1 r1,O p2 q2 r2] 50)) W.heap.size:=fun h=>by have:=I.xlt _ _ hI _ (I.xok.below _ _ hb _ h);omega
 have xP:¬ X ((W.alloc (ze #[U zd 3,U zd vr,U zd ot,U zd ek,U zd en,O xa xl xc,O aa al ac,O ta tl tc,O ea el ec] 130)).alloc (ze #[O p1 q1 r1,O p2 q2 r2] 50)) (W.heap.size+1):=fun h=>by have:=I.xlt _ _ hI _ (I.xok.below _ _ hb _ h);omega
 have hBe:=I.below _ _ hI1
 have hlv:=I.levs _ _ hI1
 have KW:=Aa (DE c I.n1 I.n6 gs (lev st) X I.xok _ p K [U zd ek,U zd en,O xa xl xc] (AR d) _ (Af I.gr hBe) I.chk hlv.1 hl1 (by rw [hlv.2];exact I.nv16) (I.xlt _ _ hI1) (hX.over hBe) (by rw [hlv.2];exact BB hok))
 have KV:=Aa (fun (st:σ) (W:World) (v:Value) (l:Lev) (i:Int)=>EK (s:=s) I flow hC hfl vs hvs hnv st W v l i)
 obtain ⟨t0,t1,t2,t3,t4,t5,t6,t7,t8,t9⟩:=B9 hB1.row
 obtain ⟨g0,g1,g2,g3,g4,g5,g6,g7,g8⟩:=rc9 rowS
 obtain ⟨u0,u1⟩:=rc2 rowP
 have HI:=Aa I
 have HI1:=Aa hI1
 have HB1:=Aa hB1
 have HL1:=Aa hl1
 have HF1:=Aa hF1
 have HRS:=Aa rowS
 have HRP:=Aa rowP
 have HXS:=Aa xS
 have HXP:=Aa xP
 have HOK:=Aa hok
 have HFL:=Aa hfl.o
 have HFS:=Aa hfs
 have HOF:=Aa hof
 have HA:=Aa hA
 have HLC:=Aa hlc
 have hj0:0<=ot/\ot < ni:=by rw [hot];exact hok.2.2.2.1 hk
 obtain ⟨j,hj⟩:∃ j:Nat,ot=(j:Int):=⟨ot.toNat,by omega⟩
 have hj1:j < ls.length:=by omega
 obtain ⟨hym,ya',yc',hye,hyc⟩:=hls
 injection hye with y1 y2 y3
 obtain ⟨b3,z3,hyo,hyel⟩:=hyc (by intro h;rw [h] at hj1;simp at hj1)
 obtain ⟨pr,pw,l0,l1,hpr,hpw⟩:=hyel j hj1
 have hya:c.ya=some ⟨b3,z3,none⟩:=y1.trans hyo
 obtain ⟨a1,a2,a3,rfl⟩:=AM hpr
 obtain ⟨a4,a5,a6,rfl⟩:=AM hpw
 have L0:=Aa l0
 have L1:=Aa l1
 have hyn:j < c.yn:=by omega
 have hyn5:c.yn<=5:=by omega
 have hgj:(ls.map (Az (AB gs) c.n)).getD ot.toNat AE=Az (AB gs) c.n ls[j]:=by rw [hj];simp [List.getD_eq_getElem?_getD,hj1]
 have HGJ:=Aa hgj
 have HPR:=Aa hpr
 have HPW:=Aa hpw
 have HCK:=Aa (hlc _ (List.getElem_mem hj1))
 have hj2:(j:Int) < (c.yn:Int):=by omega
 have HJ:=Aa hj
 have HYA:=Aa hya
 clear hj hya hj0 hyc hyo hyel y1 y2 y3 hgj hpr hpw hym l0 l1
 clear hI1 hB1 hl1 hF1 rowS rowP xS xP hBe hlv hvr hot hal htl hel hb hrs hX hA hT hE hI hB hl hfl hvs hok hfs hof hlc I
 go_enter Tryz.func116,Tryz.ntmps116
 go_wp2_with fail
 refine (KW.o).mono ?_
 rintro e W3 ⟨⟨o1,o2,o3,o4,o5,o6,rfl,hL3⟩,hb3⟩
 have hb34:=bA W3 (ze #[O o1 o2 o3,O o4 o5 o6] 50)
 have hb14:=Ac hb3 hb34
 have hI4:=HI.o.over _ _ _ HI1.o hb14
 have hI3:=HI.o.over _ _ _ HI1.o hb3
 have hB4:=HB1.o.over HI.o.xok hb14
 have hL4:=hL3.over HI.o.xok hb34
 have hP4:=HL1.o.over HI.o.xok hb14
 have rowA:=Ae.new [O o1 o2 o3,O o4 o5 o6] 50 W3
 have rowS:=HRS.o.over hb14
 have rowP:=HRP.o.over hb14
 have xS:¬ X (W3.alloc (ze #[O o1 o2 o3,O o4 o5 o6] 50)) W.heap.size:=fun h=>HXS.o (HI.o.xok.below _ _ hb14 _ h)
 have xP:¬ X (W3.alloc (ze #[O o1 o2 o3,O o4 o5 o6] 50)) (W.heap.size+1):=fun h=>HXP.o (HI.o.xok.below _ _ hb14 _ h)
 have xA:¬ X (W3.alloc (ze #[O o1 o2 o3,O o4 o5 o6] 50)) W3.heap.size:=fun h=>by have:=HI.o.xlt _ _ hI3 _ (HI.o.xok.below _ _ hb34 _ h);omega
 have hF4:=HF1.o.trans (FrW.of_below HI.o.xok hb14)
 have HI4:=Aa hI4
 have HB4:=Aa hB4
 have HL4:=Aa hL4
 have HP4:=Aa hP4
 have HF4:=Aa hF4
 have HRS4:=Aa rowS
 have HRP4:=Aa rowP
 have HRA4:=Aa rowA
 have HXS4:=Aa xS
 have HXP4:=Aa xP
 have HXA4:=Aa xA
 clear t0 t1 t2 t3 t4 t5 t6 t7 t8 t9 g0 g1 g2 g3 g4 g5 g6 g7 g8 u0 u1 hb3 hb34 hb14 hL3 hI4 hI3 hB4 hL4 hP4 hF4 rowA rowS rowP xS xP xA KW HI1 HB1 HL1 HF1 HRS HRP HXS HXP
 obtain ⟨t0,t1,t2,t3,t4,t5,t6,t7,t8,t9⟩:=B9 HB4.o.row
 obtain ⟨g0,g1,g2,g3,g4,g5,g6,g7,g8⟩:=rc9 HRS4.o
 obtain ⟨u0,u1⟩:=rc2 HRP4.o
 obtain ⟨y0,y1⟩:=rc2 HRA4.o
 have tv:=HB4.o.toVar
 have fl:=HB4.o.flow
 have hB0:=HI.o.below _ _ HI4.o
 have l0:=Ab hB0 _ _ L0.o
 have l1:=Ab hB0 _ _ L1.o
 have hgr:=Af HI.o.gr hB0
 have KL:=Aa fun (W5:World) (hb5:Ov (W3.alloc (ze #[O o1 o2 o3,O o4 o5 o6] 50)) W5)=>GR (c.n:Int) c.ga c.gn c.gc c.sa c.sn c.sc (some ⟨b3,z3,none⟩) c.yn c.yc c.oa c.on c.oc c.va c.vn c.vc c.fa c.fn c.fc c.ba c.bn c.bc c.la c.ln c.lc c.ka c.kn c.kc gs _ _ ls[j] W5 (Af hgr hb5) (Ah (Ah HPR.o hB0) hb5) (Ah (Ah HPW.o hB0) hb5) HCK.o
 have KJ:=Aa fun (W5:World) (hb5:Ov (W3.alloc (ze #[O o1 o2 o3,O o4 o5 o6] 50)) W5) (kr kw:Value) (q:Lev) (hq:AW c.n X W5 (zh #[kr,kw]) q)=>JD (c.n:Int) c.ga c.gn c.gc c.sa c.sn c.sc (some ⟨b3,z3,none⟩) c.yn c.yc c.oa c.on c.oc c.va c.vn c.vc c.fa c.fn c.fc c.ba c.bn c.bc c.la c.ln c.lc c.ka c.kn c.kc gs (O p1 q1 r1) (O p2 q2 r2) kr kw p q W5 (Af hgr hb5) (Aw HP4.o.at_ hb5) hq.at_ (C6 HI.o.chk HP4.o.len hq.len)
 rw [HYA.o] at t3
 obtain rfl:=HJ.o
 have hS0:Hi s c b3 z3 W p1 q1 r1 p2 q2 r2 vr j ek en xa xl xc aa al ac ta tl tc ea el ec a1 a2 a3 a4 a5 a6 (W3.alloc (ze #[O o1 o2 o3,O o4 o5 o6] 50)):=⟨t0,t1,t2,t3,t4,t5,t6,t7,t8,t9,tv,u0,u1,g0,g1,g2,g3,g4,g5,g6,g7,g8,l0,l1⟩
 clear hB0 hgr
 go_wp2_with fail
 refine gS (Hi s c b3 z3 W p1 q1 r1 p2 q2 r2 vr j ek en xa xl xc aa al ac ta tl tc ea el ec a1 a2 a3 a4 a5 a6) (hS0) fun hHeld=>?_
 refine kT 0 ?_
 refine kT 1 ?_
 refine kT 2 ?_
 refine kT 3 ?_
 refine kT 4 ?_
 refine kT 5 ?_
 refine kT 6 ?_
 refine kT 7 ?_
 refine kT 8 ?_
 refine kT 9 ?_
 refine kT 10 ?_
 refine kT 11 ?_
 refine kT 12 ?_
 refine kT 13 ?_
 refine kT 16 ?_
 refine kT 17 ?_
 refine rdA 14 rfl fun K hK=>?_
 go_simp
 refine (KL.o _ (bD _)).mono ?_
 rintro e W5 ⟨vj,rfl,hfr,hb5⟩
 have hbz:=Ac ((Below.refl _ (W3.alloc (ze #[O o1 o2 o3,O o4 o5 o6] 50))).drew) hb5
 obtain ⟨m1,m2,m3,m4,m5,m6,hvj⟩:∃ m1 m2 m3 m4 m5 m6,vj=zh #[O m1 m2 m3,O m4 m5 m6]:=by
  obtain ⟨x,y,e,-⟩:=Ao hfr
  subst e
  obtain ⟨z1,z2,z3,z4,z5,z6,rfl,rfl⟩:=AN (Ao hfr)
  exact ⟨_,_,_,_,_,_,rfl⟩
 subst hvj
 have hM5:AW c.n X W5 (zh #[O m1 m2 m3,O m4 m5 m6]) (Az (AB gs) c.n ls[j]):=⟨by have:=Ao hfr;simpa using this,⟨A2 _ _,A2 _ _⟩,Cs HI.o.xok hb5 (fun k hk=>HI.o.xlt _ _ HI4.o k (HI.o.xok.below _ _ (bD _) _ hk)) (BN hfr)⟩
 have hr0:=HB4.o.row.over hbz
 have hrp:=HRP4.o.over hbz
 have hrs:=HRS4.o.over hbz
 have hS5:Hi s c b3 z3 W p1 q1 r1 p2 q2 r2 vr j ek en xa xl xc aa al ac ta tl tc ea el ec a1 a2 a3 a4 a5 a6 W5:=⟨hr0 0 _ rfl,hr0 1 _ rfl,hr0 2 _ rfl,(by rw [<-HYA.o];exact hr0 3 _ rfl),hr0 4 _ rfl,hr0 5 _ rfl,hr0 6 _ rfl,hr0 7 _ rfl,hr0 8 _ rfl,hr0 9 _ rfl,Ab hbz _ _ tv,hrp 0 _ rfl,hrp 1 _ rfl,hrs 0 _ rfl,hrs 1 _ rfl,hrs 2 _ rfl,hrs 3 _ rfl,hrs 4 _ rfl,hrs 5 _ rfl,hrs 6 _ rfl,hrs 7 _ rfl,hrs 8 _ rfl,Ab hbz _ _ l0,Ab hbz _ _ l1⟩
 have HBZ5:=Aa hbz
 have HM5:=Aa hM5
 clear hr0 hrp hrs hM5 hfr hb5 hbz
 go_simp
 refine xK hK (hS5) fun hHeld=>?_
 refine rdA 15 rfl fun K hK=>?_
 go_simp
 refine (KJ.o W5 HBZ5.o _ _ _ HM5.o).mono ?_
 rintro e W6 ⟨vj,rfl,hfr,hb6⟩
 have hbz:=Ac HBZ5.o hb6
 obtain ⟨n1,n2,n3,n4,n5,n6,hvj⟩:∃ n1 n2 n3 n4 n5 n6,vj=zh #[O n1 n2 n3,O n4 n5 n6]:=by
  obtain ⟨x,y,e,-⟩:=Ao hfr
  subst e
  obtain ⟨z1,z2,z3,z4,z5,z6,rfl,rfl⟩:=AN (Ao hfr)
  exact ⟨_,_,_,_,_,_,rfl⟩
 subst hvj
 have hN6:AW c.n X W6 (zh #[O n1 n2 n3,O n4 n5 n6]) (Bp p (Az (AB gs) c.n ls[j]) c.n):=⟨by have:=Ao hfr;simpa using this,Ds _ _ _,Cs HI.o.xok hb6 (fun k hk=>by have:=HI.o.xlt _ _ HI4.o k (HI.o.xok.below _ _ HBZ5.o _ hk);have:=HBZ5.o.size;omega) (BN hfr)⟩
 have hr0:=HB4.o.row.over hbz
 have hrp:=HRP4.o.over hbz
 have hrs:=HRS4.o.over hbz
 have hS6:Hi s c b3 z3 W p1 q1 r1 p2 q2 r2 vr j ek en xa xl xc aa al ac ta tl tc ea el ec a1 a2 a3 a4 a5 a6 W6:=⟨hr0 0 _ rfl,hr0 1 _ rfl,hr0 2 _ rfl,(by rw [<-HYA.o];exact hr0 3 _ rfl),hr0 4 _ rfl,hr0 5 _ rfl,hr0 6 _ rfl,hr0 7 _ rfl,hr0 8 _ rfl,hr0 9 _ rfl,Ab hbz _ _ tv,hrp 0 _ rfl,hrp 1 _ rfl,hrs 0 _ rfl,hrs 1 _ rfl,hrs 2 _ rfl,hrs 3 _ rfl,hrs 4 _ rfl,hrs 5 _ rfl,hrs 6 _ rfl,hrs 7 _ rfl,hrs 8 _ rfl,Ab hbz _ _ l0,Ab hbz _ _ l1⟩
 have HBZ6:=Aa hbz
 have HN6:=Aa hN6
 clear hr0 hrp hrs hN6 hfr hb6 hbz
 go_simp
 refine xK hK (hS6) fun hHeld=>?_
 refine rdA 18 rfl fun K hK=>?_
 go_simp
 refine (KV.o st W6 _ _ vr (HI.o.over _ _ _ HI4.o HBZ6.o) (HB4.o.over HI.o.xok HBZ6.o) HN6.o (by rw [HVR.o];exact (HOK.o.2.1 (by omega)).1) (by rw [HVR.o];exact (HOK.o.2.1 (by omega)).2)).mono ?_
 rintro e W7 ⟨rfl,hI7,hF7⟩
 have hF47:=(FrW.of_below HI.o.xok HBZ6.o).trans hF7
 have hr0:=hF47.row HB4.o.row HB4.o.x0
 have hrp:=hF47.row HRP4.o HXP4.o
 have hrs:=hF47.row HRS4.o HXS4.o
 have hS7:Hi s c b3 z3 W p1 q1 r1 p2 q2 r2 vr j ek en xa xl xc aa al ac ta tl tc ea el ec a1 a2 a3 a4 a5 a6 W7:=⟨hr0 0 _ rfl,hr0 1 _ rfl,hr0 2 _ rfl,(by rw [<-HYA.o];exact hr0 3 _ rfl),hr0 4 _ rfl,hr0 5 _ rfl,hr0 6 _ rfl,hr0 7 _ rfl,hr0 8 _ rfl,hr0 9 _ rfl,hF47.cell tv HB4.o.x2,hrp 0 _ rfl,hrp 1 _ rfl,hrs 0 _ rfl,hrs 1 _ rfl,hrs 2 _ rfl,hrs 3 _ rfl,hrs 4 _ rfl,hrs 5 _ rfl,hrs 6 _ rfl,hrs 7 _ rfl,hrs 8 _ rfl,Ab (HI.o.below _ _ hI7) _ _ L0.o,Ab (HI.o.below _ _ hI7) _ _ L1.o⟩
 clear hr0 hrp hrs
 go_simp
 refine xK hK (hS7) fun hHeld=>?_
 refine gE ?_
 go_end0
 refine ⟨rfl,⟨?_,HB4.o.keep hF47⟩,HF4.o.trans hF47⟩
 unfold BU
 rw [if_neg (by omega),if_neg (by omega),if_pos hk,<-HVR.o,<-HOT.o,HGJ.o]
 exact hI7
end
section
variable {σ:Type} {c:WC} {w0:World} {K nv ni no:Nat} {fs:List FnD} {gs:List (Int × Int)} {lev flev:σ->List Lev} {Inv:σ->World->Prop} {X:World->Nat->Prop} {s:Nat} {G:FuncId} {d1 d2:Value}
abbrev Ju (s:Nat) (c:WC) (W:World) (p1:Option Addr) (q1 r1:Nat) (p2:Option Addr) (q2 r2:Nat) (vr:Int) (j:Nat) (ek en:Int) (xa:Option Addr) (xl xc b6 z6 al ac:Nat) (ta:Option Addr) (tl tc:Nat) (ea:Option Addr) (el ec m:Nat) (k1 k2:Int) (k3:Option Addr) (k4 k5:Nat) (Wz:World):Prop:=Wz.cell? ⟨s,0,none⟩=some (U zd (c.n:Int))/\CE Wz s 1 (O c.ga c.gn c.gc)/\CE Wz s 2 (O c.sa c.sn c.sc)/\CE Wz s 3 (O c.ya c.yn c.yc)/\CE Wz s 4 (O c.oa c.on c.oc)/\CE Wz s 5 (O c.va c.vn c.vc)/\CE Wz s 6 (O c.fa c.fn c.fc)/\CE Wz s 7 (O c.ba c.bn c.bc)/\CE Wz s 8 (O c.la c.ln c.lc)/\CE Wz s 9 (O c.ka c.kn c.kc)/\CE Wz (s+1+1) 0 (.func (.func 115) #[] #[zj (some ⟨s,0,none⟩),zj (some ⟨s+1,0,none⟩)])/\CE Wz (W.heap.size+1) 0 (O p1 q1 r1)/\CE Wz (W.heap.size+1) 1 (O p2 q2 r2)/\CE Wz W.heap.size 0 (U zd 2)/\CE Wz W.heap.size 1 (U zd vr)/\CE Wz W.heap.size 2 (U zd (j:Int))/\CE Wz W.heap.size 3 (U zd ek)/\CE Wz W.heap.size 4 (U zd en)/\CE Wz W.heap.size 5 (O xa xl xc)/\CE Wz W.heap.size 6 (O (some ⟨b6,z6,none⟩) al ac)/\CE Wz W.heap.size 7 (O ta tl tc)/\CE Wz W.heap.size 8 (O ea el ec)/\CE Wz b6 (z6+m*3) (U zd k1)/\CE Wz b6 (z6+m*3+1) (U zd k2)/\CE Wz b6 (z6+m*3+2) (O k3 k4 k5)
abbrev Jt (s:Nat) (c:WC) (W:World) (p1:Option Addr) (q1 r1:Nat) (p2:Option Addr) (q2 r2:Nat) (vr:Int) (j:Nat) (ek en:Int) (xa:Option Addr) (xl xc:Nat) (aa:Option Addr) (al ac:Nat) (ta:Option Addr) (tl tc:Nat) (ea:Option Addr) (el ec:Nat) (W3:World) (pa:Option Addr) (pn pc:Nat) (za:Option Addr) (zn zc:Nat) (rk rn:Int) (ra:Option Addr) (rl rc:Nat) (Wz:World):Prop:=Wz.cell? ⟨s,0,none⟩=some (U zd (c.n:Int))/\CE Wz s 1 (O c.ga c.gn c.gc)/\CE Wz s 2 (O c.sa c.sn c.sc)/\CE Wz s 3 (O c.ya c.yn c.yc)/\CE Wz s 4 (O c.oa c.on c.oc)/\CE Wz s 5 (O c.va c.vn c.vc)/\CE Wz s 6 (O c.fa c.fn c.fc)/\CE Wz s 7 (O c.ba c.bn c.bc)/\CE Wz s 8 (O c.la c.ln c.lc)/\CE Wz s 9 (O c.ka c.kn c.kc)/\CE Wz (s+1+1) 0 (.func (.func 115) #[] #[zj (some ⟨s,0,none⟩),zj (some ⟨s+1,0,none⟩)])/\CE Wz (W.heap.size+1) 0 (O p1 q1 r1)/\CE Wz (W.heap.size+1) 1 (O p2 q2 r2)/\CE Wz W.heap.size 0 (U zd 2)/\CE Wz W.heap.size 1 (U zd vr)/\CE Wz W.heap.size 2 (U zd (j:Int))/\CE Wz W.heap.size 3 (U zd ek)/\CE Wz W.heap.size 4 (U zd en)/\CE Wz W.heap.size 5 (O xa xl xc)/\CE Wz W.heap.size 6 (O aa al ac)/\CE Wz W.heap.size 7 (O ta tl tc)/\CE Wz W.heap.size 8 (O ea el ec)/\CE Wz (W3.heap.size+1) 0 (O pa pn pc)/\CE Wz (W3.heap.size+1) 1 (O za zn zc)/\CE Wz (W3.heap.size+1) 2 (U zd rk)/\CE Wz (W3.heap.size+1) 3 (U zd rn)/\CE Wz (W3.heap.size+1) 4 (O ra rl rc)
abbrev Kt (s:Nat) (c:WC) (b9 z9:Nat) (G:FuncId) (d1 d2:Value) (W:World) (p1:Option Addr) (q1 r1:Nat) (p2:Option Addr) (q2 r2:Nat) (vr:Int) (j:Nat) (ek en:Int) (xa:Option Addr) (xl xc:Nat) (aa:Option Addr) (al ac:Nat) (ta:Option Addr) (tl tc:Nat) (ea:Option Addr) (el ec:Nat) (Wz:World):Prop:=Wz.cell? ⟨s,0,none⟩=some (U zd (c.n:Int))/\CE Wz s 1 (O c.ga c.gn c.gc)/\CE Wz s 2 (O c.sa c.sn c.sc)/\CE Wz s 3 (O c.ya c.yn c.yc)/\CE Wz s 4 (O c.oa c.on c.oc)/\CE Wz s 5 (O c.va c.vn c.vc)/\CE Wz s 6 (O c.fa c.fn c.fc)/\CE Wz s 7 (O c.ba c.bn c.bc)/\CE Wz s 8 (O c.la c.ln c.lc)/\CE Wz s 9 (O (some ⟨b9,z9,none⟩) c.kn c.kc)/\CE Wz (s+1) 0 (.func (.func G) #[] #[d1,d2])/\CE Wz (W.heap.size+1) 0 (O p1 q1 r1)/\CE Wz (W.heap.size+1) 1 (O p2 q2 r2)/\CE Wz W.heap.size 0 (U zd 2)/\CE Wz W.heap.size 1 (U zd vr)/\CE Wz W.heap.size 2 (U zd (j:Int))/\CE Wz W.heap.size 3 (U zd ek)/\CE Wz W.heap.size 4 (U zd en)/\CE Wz W.heap.size 5 (O xa xl xc)/\CE Wz W.heap.size 6 (O aa al ac)/\CE Wz W.heap.size 7 (O ta tl tc)/\CE Wz W.heap.size 8 (O ea el ec)
theorem Oq (I:D3 c w0 nv fs gs lev flev Inv X) (flow:Lev->Bool × Nat->σ->σ) (hC:∀ (args:Array Value) (w:World),(callFunc G args).run Tryz.prog w=.ok (.enter G args) w) (hfl:Hx (C3 c nv fs Inv X flow G d1 d2)) (vs) (hvs:Bo w0 (O c.va c.vn c.vc) vs) (hnv:vs.length=nv)
  (ls:List Lab) (hls:A9 w0 (O c.ya c.yn c.yc) ls) (hlc:∀ b∈ls,Bq c.n gs b=0) (hni:ls.length=ni) (hni5:ni<=5) (kf:Nat) (hfs:BA w0 K kf (O c.fa c.fn c.fc) fs) (hf5:fs.length<=5) (hof:∀ i (h:i < fs.length),okF K nv ni no (i:Int) fs kf fs[i])
  (st:σ) (W:World) (a:Int) (k:Nat) (cs:List Value) (d:D) (v:Value) (p:Lev) (funcs:Int) (hI:Inv st W) (hB:BI c X s G d1 d2 W) (hrs:RS w0 K (k+1) cs d) (hfn:funcs<=fs.length) (hok:CA K nv ni no funcs fs d) (hl:AW c.n X W v p) (hk:Ak d=2) :
  Calls Tryz.prog 116 #[U zd a,.agg cs.toArray,v,zj (some ⟨s,0,none⟩),zj (some ⟨s+1+1,0,none⟩),zj (some ⟨s+1,0,none⟩)] W fun e W'=>e=zk (zm #[])/\(Inv (BU c.n K lev (vs.map Prod.fst) (ls.map (Az (AB gs) c.n)) fs flow a d p st) W'/\BI c X s G d1 d2 W')/\FrW X W W':=by
 obtain ⟨p1,q1,r1,p2,q2,r2,rfl⟩:=hl.form
 obtain ⟨ek,en,xa,xl,xc,aa,ac,ta,tc,ea,ec,rfl,i0,i1,i2,hX,hA,hT,hE,-,-,-⟩:=hrs.form
 obtain ⟨vr,hvr⟩:=nm (AJ d)
 obtain ⟨ot,hot⟩:=nm (Ag d)
 obtain ⟨al,hal⟩:=nm ((An d).length)
 obtain ⟨tl,htl⟩:=nm ((Ar d).length)
 obtain ⟨el,hel⟩:=nm ((Av d).length)
 have hkd:sC (Ak d) (AJ d) (Ag d) ek en xa xl xc aa (An d).length ac ta (Ar d).length tc ea (Av d).length ec=sC 2 (AJ d) (Ag d) ek en xa xl xc aa (An d).length ac ta (Ar d).length tc ea (Av d).length ec:=by rw [hk]
 rw [hkd]
 clear hkd
 rw [<-hvr,<-hot,<-hal,<-htl,<-hel]
 have HVR:=Aa hvr
 have HOT:=Aa hot
 have HAL:=Aa hal
 have hb:Ov W ((W.alloc (ze #[U zd 2,U zd vr,U zd ot,U zd ek,U zd en,O xa xl xc,O aa al ac,O ta tl tc,O ea el ec] 130)).alloc (ze #[O p1 q1 r1,O p2 q2 r2] 50)):=(bA W _).alloc (by simp) _
 have hI1:=I.over _ _ _ hI hb
 have hB1:=hB.over I.xok hb
 have hl1:=hl.over I.xok hb
 have hF1:=FrW.of_below I.xok hb
 have rowS:Ae [U zd 2,U zd vr,U zd ot,U zd ek,U zd en,O xa xl xc,O aa al ac,O ta tl tc,O ea el ec] ((W.alloc (ze #[U zd 2,U zd vr,U zd ot,U zd ek,U zd en,O xa xl xc,O aa al ac,O ta tl tc,O ea el ec] 130)).alloc (ze #[O p1 q1 r1,O p2 q2 r2] 50)) W.heap.size:=(Ae.new [U zd 2,U zd vr,U zd ot,U zd ek,U zd en,O xa xl xc,O aa al ac,O ta tl tc,O ea el ec] 130 W).over (bA _ _)
 have rowP:Ae [O p1 q1 r1,O p2 q2 r2] ((W.alloc (ze #[U zd 2,U zd vr,U zd ot,U zd ek,U zd en,O xa xl xc,O aa al ac,O ta tl tc,O ea el ec] 130)).alloc (ze #[O p1 q1 r1,O p2 q2 r2] 50)) (W.heap.size+1):=by
  have r:=Ae.new [O p1 q1 r1,O p2 q2 r2] 50 (W.alloc (ze #[U zd 2,U zd vr,U zd ot,U zd ek,U zd en,O xa xl xc,O aa al ac,O ta tl tc,O ea el ec] 130))
  simpa using r
 have xS:¬ X ((W.alloc (ze #[U zd 2,U zd vr,U zd ot,U zd ek,U zd en,O xa xl xc,O aa al ac,O ta tl tc,O ea el ec] 130)).alloc (ze #[O p1 q1 r1,O p2 q2 r2] 50)) W.heap.size:=fun h=>by have:=I.xlt _ _ hI _ (I.xok.below _ _ hb _ h);omega
 have xP:¬ X ((W.alloc (ze #[U zd 2,U zd vr,U zd ot,U zd ek,U zd en,O xa xl xc,O aa al ac,O ta tl tc,O ea el ec] 130)).alloc (ze #[O p1 q1 r1,O p2 q2 r2] 50)) (W.heap.size+1):=fun h=>by have:=I.xlt _ _ hI _ (I.xok.below _ _ hb _ h);omega
 have hBe:=I.below _ _ hI1
 have hlv:=I.levs _ _ hI1
 have KW:=Aa (DE c I.n1 I.n6 gs (lev st) X I.xok _ p K [U zd ek,U zd en,O xa xl xc] (AR d) _ (Af I.gr hBe) I.chk hlv.1 hl1 (by rw [hlv.2];exact I.nv16) (I.xlt _ _ hI1) (hX.over hBe) (by rw [hlv.2];exact BB hok))
 have KV:=Aa (fun (st:σ) (W:World) (v:Value) (l:Lev) (i:Int)=>EK (s:=s) I flow hC hfl vs hvs hnv st W v l i)
 obtain ⟨t0,t1,t2,t3,t4,t5,t6,t7,t8,t9⟩:=B9 hB1.row
 obtain ⟨g0,g1,g2,g3,g4,g5,g6,g7,g8⟩:=rc9 rowS
 obtain ⟨u0,u1⟩:=rc2 rowP
 have HI:=Aa I
 have HI1:=Aa hI1
 have HB1:=Aa hB1
 have HL1:=Aa hl1
 have HF1:=Aa hF1
 have HRS:=Aa rowS
 have HRP:=Aa rowP
 have HXS:=Aa xS
 have HXP:=Aa xP
 have HOK:=Aa hok
 have HFL:=Aa hfl.o
 have HOF:=Aa hof
 have HLS:=Aa hls
 have HA:=Aa hA
 have HLC:=Aa hlc
 obtain ⟨⟨hj0,hj1⟩,hps,hck⟩:=hok.2.2.1 hk
 rw [<-hot] at hj0 hj1 hps
 obtain ⟨j,hj⟩:∃ j:Nat,ot=(j:Int):=⟨ot.toNat,by omega⟩
 have hj2:j < fs.length:=by omega
 have hjt:ot.toNat=j:=by omega
 have hpsl:fs[j].ps.length=(An d).length:=hps fs[j] (by rw [hjt];exact List.getElem?_eq_getElem hj2)
 have hfat:EB fs (Ag d)=fs[j]:=by rw [<-hot];unfold EB;rw [hjt];simp [List.getD_eq_getElem?_getD,hj2]
 obtain ⟨hfm,fa',fc',hfe,hfc⟩:=hfs
 injection hfe with y1 y2 y3
 obtain ⟨b8,z8,hfo,hfel⟩:=hfc (by intro h;rw [h] at hj2;simp at hj2)
 obtain ⟨vP,vB,e0,e1,e2,g80,g81,g82,g83,g84,hints,-,hbody,hres⟩:=hfel j hj2
 have hfa:c.fa=some ⟨b8,z8,none⟩:=y1.trans hfo
 obtain ⟨pa,pc,rfl,hpel⟩:=hints
 obtain ⟨-,za,zc,rfl,-⟩:=hbody
 obtain ⟨ra,rc,hxf⟩:=hres.form
 simp only [List.cons.injEq,and_true] at hxf
 obtain ⟨rfl,rfl,rfl⟩:=hxf
 obtain ⟨pn,hpn⟩:=nm (fs[j].ps.length)
 obtain ⟨zn,hzn⟩:=nm (fs[j].body.length)
 obtain ⟨rk,hrk⟩:=nm (AH fs[j].res)
 obtain ⟨rn,hrn⟩:=nm (Ba fs[j].res)
 obtain ⟨rl,hrl⟩:=nm ((AF fs[j].res).length)
 rw [<-hpn] at g80
 rw [<-hzn] at g81
 rw [<-hrk] at g82 hres
 rw [<-hrn] at g83 hres
 rw [<-hrl] at g84 hres
 have G0:=Aa g80
 have G1:=Aa g81
 have G2:=Aa g82
 have G3:=Aa g83
 have G4:=Aa g84
 have HFA:=Aa hfa
 have HJ:=Aa hj
 have HFAT:=Aa hfat
 have HPSL:=Aa hpsl
 have HPN:=Aa hpn
 have HPEL:=Aa hpel
 have HRES:=Aa hres
 have HCK:=Aa hck
 have hfo5:=hof j hj2
 have HPR:=Aa hfo5.2.1
 have HRC:=Aa hfo5.2.2.2
 have hfn5:c.fn<=5:=by omega
 have hjf:(j:Int) < (c.fn:Int):=by omega
 have hpn4:pn<=4:=by rw [hpn];exact hfo5.1
 have HJ2:=Aa hj2
 clear hj0 hj1 hps hck hj hpsl hfat hfc y1 y2 y3 hfo hfel g80 g81 g82 g83 g84 hfa hpel hres hpn hzn hrk hrn hrl hfo5 hjt hfm
 clear hI1 hB1 hl1 hF1 rowS rowP xS xP hBe hlv hvr hot hal htl hel hb hrs hX hA hT hE hI hB hl hfl hvs hok hof hls hlc I
 go_enter Tryz.func116,Tryz.ntmps116
 go_wp2_with fail
 refine (KW.o).mono ?_
 rintro e W3 ⟨⟨o1,o2,o3,o4,o5,o6,rfl,hL3⟩,hb3⟩
 have hb34:=bA W3 (ze #[O o1 o2 o3,O o4 o5 o6] 50)
 have hb14:=Ac hb3 hb34
 have hI4:=HI.o.over _ _ _ HI1.o hb14
 have hI3:=HI.o.over _ _ _ HI1.o hb3
 have hB4:=HB1.o.over HI.o.xok hb14
 have hL4:=hL3.over HI.o.xok hb34
 have hP4:=HL1.o.over HI.o.xok hb14
 have rowA:=Ae.new [O o1 o2 o3,O o4 o5 o6] 50 W3
 have rowS:=HRS.o.over hb14
 have rowP:=HRP.o.over hb14
 have xS:¬ X (W3.alloc (ze #[O o1 o2 o3,O o4 o5 o6] 50)) W.heap.size:=fun h=>HXS.o (HI.o.xok.below _ _ hb14 _ h)
 have xP:¬ X (W3.alloc (ze #[O o1 o2 o3,O o4 o5 o6] 50)) (W.heap.size+1):=fun h=>HXP.o (HI.o.xok.below _ _ hb14 _ h)
 have xA:¬ X (W3.alloc (ze #[O o1 o2 o3,O o4 o5 o6] 50)) W3.heap.size:=fun h=>by have:=HI.o.xlt _ _ hI3 _ (HI.o.xok.below _ _ hb34 _ h);omega
 have hF4:=HF1.o.trans (FrW.of_below HI.o.xok hb14)
 have HI4:=Aa hI4
 have HB4:=Aa hB4
 have HL4:=Aa hL4
 have HP4:=Aa hP4
 have HF4:=Aa hF4
 have HRS4:=Aa rowS
 have HRP4:=Aa rowP
 have HRA4:=Aa rowA
 have HXS4:=Aa xS
 have HXP4:=Aa xP
 have HXA4:=Aa xA
 clear t0 t1 t2 t3 t4 t5 t6 t7 t8 t9 g0 g1 g2 g3 g4 g5 g6 g7 g8 u0 u1 hb3 hb34 hb14 hL3 hI4 hI3 hB4 hL4 hP4 hF4 rowA rowS rowP xS xP xA KW HI1 HB1 HL1 HF1 HRS HRP HXS HXP
 obtain ⟨t0,t1,t2,t3,t4,t5,t6,t7,t8,t9⟩:=B9 HB4.o.row
 obtain ⟨g0,g1,g2,g3,g4,g5,g6,g7,g8⟩:=rc9 HRS4.o
 obtain ⟨u0,u1⟩:=rc2 HRP4.o
 obtain ⟨y0,y1⟩:=rc2 HRA4.o
 have tv:=HB4.o.toVar
 have fl:=HB4.o.flow
 have hB0:=HI.o.below _ _ HI4.o
 have m0:=Ab hB0 _ _ G0.o
 have m1:=Ab hB0 _ _ G1.o
 have m2:=Ab hB0 _ _ G2.o
 have m3:=Ab hB0 _ _ G3.o
 have m4:=Ab hB0 _ _ G4.o
 rw [HFA.o] at t6
 obtain rfl:=HJ.o
 clear hB0
 have hb5:Ov (W3.alloc (ze #[O o1 o2 o3,O o4 o5 o6] 50)) ((W3.alloc (ze #[O o1 o2 o3,O o4 o5 o6] 50)).alloc (ze #[O pa pn pc,O za zn zc,U zd rk,U zd rn,O ra rl rc] 105)):=bA _ _
 have rowF:Ae [O pa pn pc,O za zn zc,U zd rk,U zd rn,O ra rl rc] ((W3.alloc (ze #[O o1 o2 o3,O o4 o5 o6] 50)).alloc (ze #[O pa pn pc,O za zn zc,U zd rk,U zd rn,O ra rl rc] 105)) (W3.heap.size+1):=by
  have r:=Ae.new [O pa pn pc,O za zn zc,U zd rk,U zd rn,O ra rl rc] 105 (W3.alloc (ze #[O o1 o2 o3,O o4 o5 o6] 50))
  simpa using r
 have xF:¬ X ((W3.alloc (ze #[O o1 o2 o3,O o4 o5 o6] 50)).alloc (ze #[O pa pn pc,O za zn zc,U zd rk,U zd rn,O ra rl rc] 105)) (W3.heap.size+1):=fun h=>by have:=HI.o.xlt _ _ HI4.o _ (HI.o.xok.below _ _ hb5 _ h);simp at this
 have HRF:=Aa rowF
 have HXF:=Aa xF
 have HI5:=Aa (HI.o.over _ _ _ HI4.o hb5)
 have HB5:=Aa (HB4.o.over HI.o.xok hb5)
 have HP5:=Aa (HP4.o.over HI.o.xok hb5)
 have HF5:=Aa (HF4.o.trans (FrW.of_below HI.o.xok hb5))
 have HRS5:=Aa (HRS4.o.over hb5)
 have HRP5:=Aa (HRP4.o.over hb5)
 have HXS5:Hx (¬ X ((W3.alloc (ze #[O o1 o2 o3,O o4 o5 o6] 50)).alloc (ze #[O pa pn pc,O za zn zc,U zd rk,U zd rn,O ra rl rc] 105)) W.heap.size):=fun h=>HXS4.o (HI.o.xok.below _ _ hb5 _ h)
 have HXP5:Hx (¬ X ((W3.alloc (ze #[O o1 o2 o3,O o4 o5 o6] 50)).alloc (ze #[O pa pn pc,O za zn zc,U zd rk,U zd rn,O ra rl rc] 105)) (W.heap.size+1)):=fun h=>HXP4.o (HI.o.xok.below _ _ hb5 _ h)
 have f0:=HRF.o 0 _ rfl
 obtain ⟨V5,hV5⟩:=nm (((W3.alloc (ze #[O o1 o2 o3,O o4 o5 o6] 50)).alloc (ze #[O pa pn pc,O za zn zc,U zd rk,U zd rn,O ra rl rc] 105)))
 rw [<-hV5] at HRF HXF HI5 HB5 HP5 HF5 HRS5 HRP5 HXS5 HXP5
 obtain ⟨Q,hQ⟩:∃ Q:Nat->σ,Q=fun m=>(((fs[j]'HJ2.o).ps.zip (An d)).take m).foldl (Cx c.n K lev (vs.map Prod.fst) flow p) st:=⟨_,rfl⟩
 have HQ:=Aa hQ
 have HQ0:Hx (Q 0=st):=by rw [hQ];rfl
 have hfnb:(j:Int) < (c.fn:Int):=hjf
 clear hQ hb5 rowF xF HI4 HB4 HP4 HF4 HRS4 HRP4 HXS4 HXP4 HRA4 HXA4 HL4 tv fl
 go_wp2_with fail
 go_loopw [41] (fun x wr=>∃ m:Nat,m<=pn/\x=U zd m/\(Inv (Q m) wr/\BI c X s G d1 d2 wr)/\FrW X V5 wr) (fun x _=>pn - (intOf x).toNat)
 case atStart=>exact ⟨0,Nat.zero_le _,rfl,by rw [<-hV5,HQ0.o];exact ⟨HI5.o,HB5.o⟩,by rw [<-hV5];exact FrW.refl _⟩
 case round=>
  clear t0 t1 t2 t3 t4 t5 t6 t7 t8 t9 g0 g1 g2 g3 g4 g5 g6 g7 g8 u0 u1 y0 y1 m0 m1 m2 m3 m4 f0 hV5
  obtain ⟨m,hm,rfl,⟨hIr,hBr⟩,hFr⟩:=hrel
  have HIr:=Aa hIr
  have HBr:=Aa hBr
  have HFr:=Aa hFr
  have HBe:=Aa (HI.o.below _ _ hIr)
  have HRSr:=Aa (hFr.row HRS5.o HXS5.o)
  have HRPr:=Aa (hFr.row HRP5.o HXP5.o)
  have HRFr:=Aa (hFr.row HRF.o HXF.o)
  have HXSr:Hx (¬ X wr W.heap.size):=fun h=>HXS5.o (hFr.mov _ (bL (HRS5.o 0 _ rfl)) h)
  have HXPr:Hx (¬ X wr (W.heap.size+1)):=fun h=>HXP5.o (hFr.mov _ (bL (HRP5.o 0 _ rfl)) h)
  have HXFr:Hx (¬ X wr (W3.heap.size+1)):=fun h=>HXF.o (hFr.mov _ (bL (HRF.o 0 _ rfl)) h)
  have HPr:=Aa (HP5.o.keep HI.o.n1 hFr)
  have hlv:=HI.o.levs _ _ hIr
  clear hIr hBr hFr
  by_cases hlt:m < pn
  ·have hm1:m < (fs[j]'HJ2.o).ps.length:=by rw [<-HPN.o];exact hlt
   have hm2:m < (An d).length:=by rw [<-HPSL.o];exact hm1
   obtain ⟨bp,zp,hpo,hpe⟩:=HPEL.o (by intro h;rw [h] at hm1;simp at hm1)
   subst hpo
   have q0:=Ab HBe.o _ _ (hpe m hm1)
   obtain ⟨vm,hvm⟩:=nm ((fs[j]'HJ2.o).ps[m])
   rw [<-hvm] at q0
   have HVM:=Aa (HPR.o vm (by rw [hvm];exact List.getElem_mem hm1))
   obtain ⟨ham,aa',ac',hae,hac⟩:=HA.o
   injection hae with x1 x2 x3
   obtain ⟨b6,z6,hao,hael⟩:=hac (by intro h;rw [h] at hm2;simp at hm2)
   obtain ⟨acs,hal3,hacs,har⟩:=hael m (An d)[m] (List.getElem?_eq_getElem hm2)
   obtain ⟨k3,k5,rfl⟩:=har.form
   obtain ⟨k1,hk1⟩:=nm (AH (An d)[m])
   obtain ⟨k2,hk2⟩:=nm (Ba (An d)[m])
   obtain ⟨k4,hk4⟩:=nm ((AF (An d)[m]).length)
   rw [<-hk1,<-hk2,<-hk4] at hacs har
   have HAA:=Aa (x1.trans hao)
   have L0:=Aa (show w0.cell? ⟨b6,z6+m*3,none⟩=some (U zd k1) from hacs 0 _ rfl)
   have L1:=Aa (hacs 1 _ rfl)
   have L2:=Aa (hacs 2 _ rfl)
   have l0:=Ab HBe.o _ _ L0.o
   have l1:=Ab HBe.o _ _ L1.o
   have l2:=Ab HBe.o _ _ L2.o
   have hal2:m < al:=by rw [HAL.o];exact hm2
   have hal4:al<=4:=by rw [HAL.o,<-HPSL.o,<-HPN.o];exact hpn4
   have hma:(m:Int) < (al:Int):=by omega
   have hmp:(m:Int) < (pn:Int):=by omega
   have hQS:Q (m+1)=toVar (vs.map Prod.fst) flow (AX c.n (lev (Q m)) p (AC K (An d)[m])) vm (Q m):=by
    rw [HQ.o]
    dsimp only
    have hz:m < ((fs[j]'HJ2.o).ps.zip (An d)).length:=by simp;omega
    rw [List.take_succ_eq_append_getElem hz,List.foldl_append,List.foldl_cons,List.foldl_nil]
    simp only [Cx,List.getElem_zip]
    rw [hvm]
   have HQS:=Aa hQS
   have KWA:=Aa (DE c HI.o.n1 HI.o.n6 gs (lev (Q m)) X HI.o.xok _ p K [U zd k1,U zd k2,O k3 k4 k5] (An d)[m] wr.drew (Af HI.o.gr HBe.o.drew) HI.o.chk (hlv.1.over HI.o.xok (bD _)) (HPr.o.over HI.o.xok (bD _)) (by rw [hlv.2];exact HI.o.nv16) (fun k hk=>HI.o.xlt _ _ HIr.o k (HI.o.xok.below _ _ (bD _) _ hk)) (har.over HBe.o.drew) (by rw [hlv.2];exact CF (HCK.o _ (List.getElem_mem hm2))))
   obtain ⟨t0,t1,t2,t3,t4,t5,t6,t7,t8,t9⟩:=B9 HBr.o.row
   obtain ⟨g0,g1,g2,g3,g4,g5,g6,g7,g8⟩:=rc9 HRSr.o
   obtain ⟨u0,u1⟩:=rc2 HRPr.o
   have tv:=HBr.o.toVar
   rw [HAA.o] at g6
   have hS0:Ju s c W p1 q1 r1 p2 q2 r2 vr j ek en xa xl xc b6 z6 al ac ta tl tc ea el ec m k1 k2 k3 k4 k5 wr:=⟨t0,t1,t2,t3,t4,t5,t6,t7,t8,t9,tv,u0,u1,g0,g1,g2,g3,g4,g5,g6,g7,g8,l0,l1,l2⟩
   clear hpe hvm ham hac x1 x2 x3 hao hael hacs har hal3 hk1 hk2 hk4 hlv hQS hm1
   go_wp2_with fail
   refine gS (Ju s c W p1 q1 r1 p2 q2 r2 vr j ek en xa xl xc b6 z6 al ac ta tl tc ea el ec m k1 k2 k3 k4 k5) (hS0) fun hHeld=>?_
   refine kT 0 ?_
   refine kT 1 ?_
   refine kT 2 ?_
   refine kT 3 ?_
   refine kT 4 ?_
   refine kT 5 ?_
   refine kT 6 ?_
   refine kT 7 ?_
   refine kT 8 ?_
   refine kT 10 ?_
   refine rdA 9 rfl fun K hK=>?_
   go_simp
   refine (KWA.o).mono ?_
   rintro e W6 ⟨⟨n1,n2,n3,n4,n5,n6,rfl,hN6⟩,hb6⟩
   have hbz:=Ac (bD wr) hb6
   have hr0:=HBr.o.row.over hbz
   have hrp:=HRPr.o.over hbz
   have hrs:=HRSr.o.over hbz
   have hS6:Ju s c W p1 q1 r1 p2 q2 r2 vr j ek en xa xl xc b6 z6 al ac ta tl tc ea el ec m k1 k2 k3 k4 k5 W6:=⟨hr0 0 _ rfl,hr0 1 _ rfl,hr0 2 _ rfl,hr0 3 _ rfl,hr0 4 _ rfl,hr0 5 _ rfl,hr0 6 _ rfl,hr0 7 _ rfl,hr0 8 _ rfl,hr0 9 _ rfl,Ab hbz _ _ tv,hrp 0 _ rfl,hrp 1 _ rfl,hrs 0 _ rfl,hrs 1 _ rfl,hrs 2 _ rfl,hrs 3 _ rfl,hrs 4 _ rfl,hrs 5 _ rfl,(by rw [<-HAA.o];exact hrs 6 _ rfl),hrs 7 _ rfl,hrs 8 _ rfl,Ab (Ac HBe.o hbz) _ _ L0.o,Ab (Ac HBe.o hbz) _ _ L1.o,Ab (Ac HBe.o hbz) _ _ L2.o⟩
   have HBZ6:=Aa hbz
   have HN6:=Aa hN6
   clear hr0 hrp hrs hN6 hb6 hbz
   go_simp
   refine xK hK (hS6) fun hHeld=>?_
   refine rdA 11 rfl fun K hK=>?_
   go_simp
   refine (KV.o (Q m) W6 _ _ vm (HI.o.over _ _ _ HIr.o HBZ6.o) (HBr.o.over HI.o.xok HBZ6.o) HN6.o HVM.o.1 HVM.o.2).mono ?_
   rintro e W7 ⟨rfl,hI7,hF7⟩
   have hF47:=(FrW.of_below HI.o.xok HBZ6.o).trans hF7
   have hr0:=hF47.row HBr.o.row HBr.o.x0
   have hrp:=hF47.row HRPr.o HXPr.o
   have hrs:=hF47.row HRSr.o HXSr.o
   have hS7:Ju s c W p1 q1 r1 p2 q2 r2 vr j ek en xa xl xc b6 z6 al ac ta tl tc ea el ec m k1 k2 k3 k4 k5 W7:=⟨hr0 0 _ rfl,hr0 1 _ rfl,hr0 2 _ rfl,hr0 3 _ rfl,hr0 4 _ rfl,hr0 5 _ rfl,hr0 6 _ rfl,hr0 7 _ rfl,hr0 8 _ rfl,hr0 9 _ rfl,hF47.cell tv HBr.o.x2,hrp 0 _ rfl,hrp 1 _ rfl,hrs 0 _ rfl,hrs 1 _ rfl,hrs 2 _ rfl,hrs 3 _ rfl,hrs 4 _ rfl,hrs 5 _ rfl,(by rw [<-HAA.o];exact hrs 6 _ rfl),hrs 7 _ rfl,hrs 8 _ rfl,Ab (HI.o.below _ _ hI7) _ _ L0.o,Ab (HI.o.below _ _ hI7) _ _ L1.o,Ab (HI.o.below _ _ hI7) _ _ L2.o⟩
   clear hr0 hrp hrs
   go_simp
   refine xK hK (hS7) fun hHeld=>?_
   refine gE ?_
   have HI7:=Aa hI7
   have HB7:=Aa (HBr.o.keep hF47)
   have HF7:=Aa (HFr.o.trans hF47)
   clear hS7 hS6 hS0 hI7 hF7 hF47 t0 t1 t2 t3 t4 t5 t6 t7 t8 t9 g0 g1 g2 g3 g4 g5 g6 g7 g8 u0 u1 l0 l1 l2 tv q0
   go_wp2_with fail
   refine ⟨⟨m+1,by omega,by go_num,⟨by rw [HQS.o];exact HI7.o,HB7.o⟩,HF7.o⟩,by simp [intOf];omega⟩
  ·have hmn:m=pn:=by omega
   have KWA:=Aa (DE c HI.o.n1 HI.o.n6 gs (lev (Q m)) X HI.o.xok _ p K [U zd rk,U zd rn,O ra rl rc] (fs[j]'HJ2.o).res wr.drew (Af HI.o.gr HBe.o.drew) HI.o.chk (hlv.1.over HI.o.xok (bD _)) (HPr.o.over HI.o.xok (bD _)) (by rw [hlv.2];exact HI.o.nv16) (fun k hk=>HI.o.xlt _ _ HIr.o k (HI.o.xok.below _ _ (bD _) _ hk)) (HRES.o.over HBe.o.drew) (by rw [hlv.2];exact CF HRC.o))
   have HQM:Hx (Q m=((fs[j]'HJ2.o).ps.zip (An d)).foldl (Cx c.n K lev (vs.map Prod.fst) flow p) st):=by
    rw [HQ.o]
    dsimp only
    rw [List.take_of_length_le (by simp;have:=HPN.o;omega)]
    rfl
   obtain ⟨t0,t1,t2,t3,t4,t5,t6,t7,t8,t9⟩:=B9 HBr.o.row
   obtain ⟨g0,g1,g2,g3,g4,g5,g6,g7,g8⟩:=rc9 HRSr.o
   obtain ⟨u0,u1⟩:=rc2 HRPr.o
   obtain ⟨f0,f1,f2,f3,f4⟩:=rc5 HRFr.o
   have tv:=HBr.o.toVar
   have hS0:Jt s c W p1 q1 r1 p2 q2 r2 vr j ek en xa xl xc aa al ac ta tl tc ea el ec W3 pa pn pc za zn zc rk rn ra rl rc wr:=⟨t0,t1,t2,t3,t4,t5,t6,t7,t8,t9,tv,u0,u1,g0,g1,g2,g3,g4,g5,g6,g7,g8,f0,f1,f2,f3,f4⟩
   clear hlv hmn
   go_wp2_with fail
   refine gS (Jt s c W p1 q1 r1 p2 q2 r2 vr j ek en xa xl xc aa al ac ta tl tc ea el ec W3 pa pn pc za zn zc rk rn ra rl rc) (hS0) fun hHeld=>?_
   refine kT 0 ?_
   refine kT 1 ?_
   refine kT 2 ?_
   refine kT 3 ?_
   refine kT 4 ?_
   refine kT 5 ?_
   refine kT 7 ?_
   refine kT 8 ?_
   refine rdA 6 rfl fun K hK=>?_
   go_simp
   refine (KWA.o).mono ?_
   rintro e W6 ⟨⟨n1,n2,n3,n4,n5,n6,rfl,hN6⟩,hb6⟩
   have hbz:=Ac (bD wr) hb6
   have hr0:=HBr.o.row.over hbz
   have hrp:=HRPr.o.over hbz
   have hrs:=HRSr.o.over hbz
   have hrf:=HRFr.o.over hbz
   have hS6:Jt s c W p1 q1 r1 p2 q2 r2 vr j ek en xa xl xc aa al ac ta tl tc ea el ec W3 pa pn pc za zn zc rk rn ra rl rc W6:=⟨hr0 0 _ rfl,hr0 1 _ rfl,hr0 2 _ rfl,hr0 3 _ rfl,hr0 4 _ rfl,hr0 5 _ rfl,hr0 6 _ rfl,hr0 7 _ rfl,hr0 8 _ rfl,hr0 9 _ rfl,Ab hbz _ _ tv,hrp 0 _ rfl,hrp 1 _ rfl,hrs 0 _ rfl,hrs 1 _ rfl,hrs 2 _ rfl,hrs 3 _ rfl,hrs 4 _ rfl,hrs 5 _ rfl,hrs 6 _ rfl,hrs 7 _ rfl,hrs 8 _ rfl,hrf 0 _ rfl,hrf 1 _ rfl,hrf 2 _ rfl,hrf 3 _ rfl,hrf 4 _ rfl⟩
   have HBZ6:=Aa hbz
   have HN6:=Aa hN6
   clear hr0 hrp hrs hrf hN6 hb6 hbz
   go_simp
   refine xK hK (hS6) fun hHeld=>?_
   refine rdA 9 rfl fun K hK=>?_
   go_simp
   refine (KV.o (Q m) W6 _ _ vr (HI.o.over _ _ _ HIr.o HBZ6.o) (HBr.o.over HI.o.xok HBZ6.o) HN6.o (by rw [HVR.o];exact (HOK.o.2.1 (by omega)).1) (by rw [HVR.o];exact (HOK.o.2.1 (by omega)).2)).mono ?_
   rintro e W7 ⟨rfl,hI7,hF7⟩
   have hF47:=(FrW.of_below HI.o.xok HBZ6.o).trans hF7
   have hr0:=hF47.row HBr.o.row HBr.o.x0
   have hrp:=hF47.row HRPr.o HXPr.o
   have hrs:=hF47.row HRSr.o HXSr.o
   have hrf:=hF47.row HRFr.o HXFr.o
   have hS7:Jt s c W p1 q1 r1 p2 q2 r2 vr j ek en xa xl xc aa al ac ta tl tc ea el ec W3 pa pn pc za zn zc rk rn ra rl rc W7:=⟨hr0 0 _ rfl,hr0 1 _ rfl,hr0 2 _ rfl,hr0 3 _ rfl,hr0 4 _ rfl,hr0 5 _ rfl,hr0 6 _ rfl,hr0 7 _ rfl,hr0 8 _ rfl,hr0 9 _ rfl,hF47.cell tv HBr.o.x2,hrp 0 _ rfl,hrp 1 _ rfl,hrs 0 _ rfl,hrs 1 _ rfl,hrs 2 _ rfl,hrs 3 _ rfl,hrs 4 _ rfl,hrs 5 _ rfl,hrs 6 _ rfl,hrs 7 _ rfl,hrs 8 _ rfl,hrf 0 _ rfl,hrf 1 _ rfl,hrf 2 _ rfl,hrf 3 _ rfl,hrf 4 _ rfl⟩
   clear hr0 hrp hrs hrf
   go_simp
   refine xK hK (hS7) fun hHeld=>?_
   refine gE ?_
   have HI7:=Aa hI7
   have HB7:=Aa (HBr.o.keep hF47)
   have HRP7:=Aa (hF47.row HRPr.o HXPr.o)
   have HRS7:=Aa (hF47.row HRSr.o HXSr.o)
   have HXP7:Hx (¬ X W7 (W.heap.size+1)):=fun h=>HXPr.o (hF47.mov _ (bL (HRPr.o 0 _ rfl)) h)
   have HXS7:Hx (¬ X W7 W.heap.size):=fun h=>HXSr.o (hF47.mov _ (bL (HRSr.o 0 _ rfl)) h)
   have HP7:=Aa (HPr.o.keep HI.o.n1 hF47)
   have HF7:=Aa ((HF5.o.trans HFr.o).trans hF47)
   obtain ⟨hf1,hf2⟩:=HI.o.flevs _ _ hI7
   obtain ⟨ao9,cap9,hk1,hk2⟩:=hf1
   injection hk1 with x1 x2 x3
   have hjk:j < c.kn:=by rw [x2,hf2];exact HJ2.o
   have hjk5:c.kn<=5:=by rw [x2,hf2];exact hf5
   obtain ⟨b9,z9,hk3,-⟩:=hk2 (by intro h;rw [h] at hf2;have:=HJ2.o;simp at hf2;omega)
   have HKA:=Aa (x1.trans hk3)
   have KFL:=Aa fun (W1:World) (hb1:Ov W7 W1)=>HFL.o _ W1 _ p (false,j) b9 z9 (HI.o.over _ _ _ HI7.o hb1) (HP7.o.over HI.o.xok hb1) (fun h=>by cases h) (fun _=>HJ2.o) (by rw [if_neg (by simp)];exact HKA.o)
   have hjk2:(j:Int) < (c.kn:Int):=by omega
   clear hS7 hS6 hS0 hI7 hF7 hF47 t0 t1 t2 t3 t4 t5 t6 t7 t8 t9 g0 g1 g2 g3 g4 g5 g6 g7 g8 u0 u1 f0 f1 f2 f3 f4 tv hf2 hk2 hk3 x1 x2 x3
   obtain ⟨t0,t1,t2,t3,t4,t5,t6,t7,t8,t9⟩:=B9 HB7.o.row
   obtain ⟨g0,g1,g2,g3,g4,g5,g6,g7,g8⟩:=rc9 HRS7.o
   obtain ⟨u0,u1⟩:=rc2 HRP7.o
   have fl7:=HB7.o.flow
   rw [HKA.o] at t9
   have hS0:Kt s c b9 z9 G d1 d2 W p1 q1 r1 p2 q2 r2 vr j ek en xa xl xc aa al ac ta tl tc ea el ec W7:=⟨t0,t1,t2,t3,t4,t5,t6,t7,t8,t9,fl7,u0,u1,g0,g1,g2,g3,g4,g5,g6,g7,g8⟩
   go_wp2_with fail
   refine gS (Kt s c b9 z9 G d1 d2 W p1 q1 r1 p2 q2 r2 vr j ek en xa xl xc aa al ac ta tl tc ea el ec) (hS0) fun hHeld=>?_
   refine kT 0 ?_
   refine kT 1 ?_
   refine kT 2 ?_
   refine kT 3 ?_
   refine kT 4 ?_
   refine kT 5 ?_
   refine kT 6 ?_
   refine kT 7 ?_
   refine kT 8 ?_
   refine rdA 9 rfl fun K hK=>?_
   go_simp
   refine (KFL.o W7.drew (bD _)).mono ?_
   rintro e W8 ⟨rfl,hI8,hF8⟩
   have hF78:=(FrW.of_below HI.o.xok (bD W7)).trans hF8
   have hr0:=hF78.row HB7.o.row HB7.o.x0
   have hrp:=hF78.row HRP7.o HXP7.o
   have hrs:=hF78.row HRS7.o HXS7.o
   have hS8:Kt s c b9 z9 G d1 d2 W p1 q1 r1 p2 q2 r2 vr j ek en xa xl xc aa al ac ta tl tc ea el ec W8:=⟨hr0 0 _ rfl,hr0 1 _ rfl,hr0 2 _ rfl,hr0 3 _ rfl,hr0 4 _ rfl,hr0 5 _ rfl,hr0 6 _ rfl,hr0 7 _ rfl,hr0 8 _ rfl,(by rw [<-HKA.o];exact hr0 9 _ rfl),hF78.cell fl7 HB7.o.x1,hrp 0 _ rfl,hrp 1 _ rfl,hrs 0 _ rfl,hrs 1 _ rfl,hrs 2 _ rfl,hrs 3 _ rfl,hrs 4 _ rfl,hrs 5 _ rfl,hrs 6 _ rfl,hrs 7 _ rfl,hrs 8 _ rfl⟩
   clear hr0 hrp hrs
   go_simp
   refine xK hK (hS8) fun hHeld=>?_
   refine gE ?_
   go_end0
   refine ⟨rfl,⟨?_,HB7.o.keep hF78⟩,HF7.o.trans hF78⟩
   unfold BU
   rw [if_neg (by omega),if_pos hk]
   unfold Dx
   dsimp only
   rw [HFAT.o,<-HQM.o,<-HVR.o,<-HOT.o]
   exact hI8
end
section
variable {σ:Type} {c:WC} {w0:World} {K nv ni no:Nat} {fs:List FnD} {gs:List (Int × Int)} {lev flev:σ->List Lev} {Inv:σ->World->Prop} {X:World->Nat->Prop} {s:Nat} {G:FuncId} {d1 d2:Value}
theorem OG (I:D3 c w0 nv fs gs lev flev Inv X):D3 c w0 nv fs gs lev flev (fun st W=>Inv st W/\BI c X s G d1 d2 W) X:=
 ⟨I.n1,I.n6,I.gr,I.chk,I.nv16,fun st W h=>I.below st W h.1,fun st W h=>I.levs st W h.1,fun st W h=>I.flevs st W h.1,fun st W W' h hb=>⟨I.over st W W' h.1 hb,h.2.over I.xok hb⟩,I.xok,fun st W h=>I.xlt st W h.1⟩
theorem O6 (I:D3 c w0 nv fs gs lev flev Inv X) (flow:Lev->Bool × Nat->σ->σ) (hC:∀ (args:Array Value) (w:World),(callFunc G args).run Tryz.prog w=.ok (.enter G args) w) (hfl:Hx (C3 c nv fs Inv X flow G d1 d2)) (vs) (hvs:Bo w0 (O c.va c.vn c.vc) vs) (hnv:vs.length=nv)
  (ls:List Lab) (hls:A9 w0 (O c.ya c.yn c.yc) ls) (hlc:∀ b∈ls,Bq c.n gs b=0) (hni:ls.length=ni) (hni5:ni<=5) (kf:Nat) (hfs:BA w0 K kf (O c.fa c.fn c.fc) fs) (hf5:fs.length<=5) (hof:∀ i (h:i < fs.length),okF K nv ni no (i:Int) fs kf fs[i]) :
  MY c w0 K nv ni no fs (fun st W=>Inv st W/\BI c X s G d1 d2 W) X (BU c.n K lev (vs.map Prod.fst) (ls.map (Az (AB gs) c.n)) fs flow) 116 [] [zj (some ⟨s,0,none⟩),zj (some ⟨s+1+1,0,none⟩),zj (some ⟨s+1,0,none⟩)] (fun _ _=>True):=by
 intro st W a k cs d v p funcs hI hrs hfn hok hl _ _ _
 have hk:=hok.1
 rcases (by omega:Ak d=1\/Ak d=2\/Ak d=3\/(Ak d=4\/Ak d=7\/Ak d=8)\/Ak d=5\/Ak d=6) with h | h | h | h | h | h
 ·exact Ot I flow hC hfl vs hvs hnv ls hls hlc hni hni5 kf hfs hf5 hof st W a k cs d v p funcs hI.1 hI.2 hrs hfn hok hl h
 ·exact Oq I flow hC hfl vs hvs hnv ls hls hlc hni hni5 kf hfs hf5 hof st W a k cs d v p funcs hI.1 hI.2 hrs hfn hok hl h
 ·exact Oo I flow hC hfl vs hvs hnv ls hls hlc hni hni5 kf hfs hf5 hof st W a k cs d v p funcs hI.1 hI.2 hrs hfn hok hl h
 ·exact Ou I flow hC hfl vs hvs hnv ls hls hlc hni hni5 kf hfs hf5 hof st W a k cs d v p funcs hI.1 hI.2 hrs hfn hok hl h
 ·exact Om I flow hC hfl vs hvs hnv ls hls hlc hni hni5 kf hfs hf5 hof st W a k cs d v p funcs hI.1 hI.2 hrs hfn hok hl h
 ·exact Ol I flow hC hfl vs hvs hnv ls hls hlc hni hni5 kf hfs hf5 hof st W a k cs d v p funcs hI.1 hI.2 hrs hfn hok hl h
theorem ML (args:Array Value) (w:World):(callFunc 116 args).run Tryz.prog w=.ok (.enter 116 args) w:=by simp [go_sem]
theorem LW (I:D3 c w0 nv fs gs lev flev Inv X) (flow:Lev->Bool × Nat->σ->σ) (hC:∀ (args:Array Value) (w:World),(callFunc G args).run Tryz.prog w=.ok (.enter G args) w) (hfl:Hx (C3 c nv fs Inv X flow G d1 d2)) (vs) (hvs:Bo w0 (O c.va c.vn c.vc) vs) (hnv:vs.length=nv)
  (ls:List Lab) (hls:A9 w0 (O c.ya c.yn c.yc) ls) (hlc:∀ b∈ls,Bq c.n gs b=0) (hni:ls.length=ni) (hni5:ni<=5) (kf:Nat) (hfs:BA w0 K kf (O c.fa c.fn c.fc) fs) (hf5:fs.length<=5) (hof:∀ i (h:i < fs.length),okF K nv ni no (i:Int) fs kf fs[i])
  (l:List D) (hm:Bc w0 K kf (O c.ba c.bn c.bc) l) (hom:∀ s∈l,okS K nv ni no (fs.length:Int) fs kf s) (h50:B5 kf fs+A4 kf l<=50) (st:σ) (W:World) (hI:Inv st W) :
  Calls Tryz.prog 55 #[c.v,(.func (.func G) #[] #[d1,d2])] W fun e W'=>e=zk (zm #[])/\Inv (Ct c.n K lev (BU c.n K lev (vs.map Prod.fst) (ls.map (Az (AB gs) c.n)) fs flow) flev kf fs l st) W'/\FrW X W W':=by
 have hmf:∀ (fn:Fn) (first cap:Array Value) (w:World),(Instr.makeFunc fn first cap).run Tryz.prog w=.ok (.func fn first cap) w:=fun _ _ _ _=>rfl
 have hb:Ov W (((W.alloc (ze #[U zd (c.n:Int),O c.ga c.gn c.gc,O c.sa c.sn c.sc,O c.ya c.yn c.yc,O c.oa c.on c.oc,O c.va c.vn c.vc,O c.fa c.fn c.fc,O c.ba c.bn c.bc,O c.la c.ln c.lc,O c.ka c.kn c.kc] 110)).alloc (ze #[(.func (.func G) #[] #[d1,d2])] 115)).alloc (ze #[(.func (.func 115) #[] #[zj (some ⟨W.heap.size,0,none⟩),zj (some ⟨W.heap.size+1,0,none⟩)])] 187)):=((bA W _).alloc (by simp) _).alloc (by simp <;> omega) _
 have hx:∀ k,W.heap.size<=k->¬ X (((W.alloc (ze #[U zd (c.n:Int),O c.ga c.gn c.gc,O c.sa c.sn c.sc,O c.ya c.yn c.yc,O c.oa c.on c.oc,O c.va c.vn c.vc,O c.fa c.fn c.fc,O c.ba c.bn c.bc,O c.la c.ln c.lc,O c.ka c.kn c.kc] 110)).alloc (ze #[(.func (.func G) #[] #[d1,d2])] 115)).alloc (ze #[(.func (.func 115) #[] #[zj (some ⟨W.heap.size,0,none⟩),zj (some ⟨W.heap.size+1,0,none⟩)])] 187)) k:=fun k hk h=>by have:=I.xlt _ _ hI _ (I.xok.below _ _ hb _ h);omega
 have hB:BI c X W.heap.size G d1 d2 (((W.alloc (ze #[U zd (c.n:Int),O c.ga c.gn c.gc,O c.sa c.sn c.sc,O c.ya c.yn c.yc,O c.oa c.on c.oc,O c.va c.vn c.vc,O c.fa c.fn c.fc,O c.ba c.bn c.bc,O c.la c.ln c.lc,O c.ka c.kn c.kc] 110)).alloc (ze #[(.func (.func G) #[] #[d1,d2])] 115)).alloc (ze #[(.func (.func 115) #[] #[zj (some ⟨W.heap.size,0,none⟩),zj (some ⟨W.heap.size+1,0,none⟩)])] 187)):=by
  refine ⟨?_,?_,?_,hx _ (Nat.le_refl _),hx _ (by omega),hx _ (by omega)⟩
  ·exact (Ae.new c.cs 110 W).over ((bA _ _).alloc (by simp) _)
  ·simp [go_sem]
  ·simp [go_sem]
 have hI1:=I.over _ _ _ hI hb
 have KE:=Aa (Nl (OG (s:=W.heap.size) (G:=G) (d1:=d1) (d2:=d2) I) (BU c.n K lev (vs.map Prod.fst) (ls.map (Az (AB gs) c.n)) fs flow) 116 [] [zj (some ⟨W.heap.size,0,none⟩),zj (some ⟨W.heap.size+1+1,0,none⟩),zj (some ⟨W.heap.size+1,0,none⟩)] (fun _ _=>True) (Aa (Mj _)) ML
  (Aa (O6 I flow hC hfl vs hvs hnv ls hls hlc hni hni5 kf hfs hf5 hof)) l hfs hm hof hom h50 hf5 st _ ⟨hI1,hB⟩ trivial)
 have HF:=Aa (FrW.of_below I.xok hb)
 obtain ⟨t0,t1,t2,t3,t4,t5,t6,t7,t8,t9⟩:=B9 hB.row
 clear hb hx hB hI1 hfl hvs hls hlc hfs hof hm hom I
 go_enter Tryz.func55,Tryz.ntmps55
 go_wp2_with fail
 refine (KE.o).mono ?_
 rintro e W2 ⟨rfl,hI2,hF2⟩
 go_wp2_with fail
 go_end0
 exact ⟨rfl,hI2.1,HF.o.trans hF2⟩
end
theorem Tryz.infoLv:(Tryz.prog.info? 50).map (fun i=>(i.zero,i.size,i.bytes))=some (some (zh #[O none 0 0,O none 0 0]),2,48):=by kernel_rfl
def T4 (W:World) (v:Value):Prop:=∀ a n c,v=O (some a) n c->∃ cur fr,W.heap[a.block]? = some (.cells cur 4 fr)
structure Em (n:Nat) (W:World) (v:Value) (l:Lev):Prop where
 at_:A7 W v l
 len:l.len n
 ty:∃ x y,v=zh #[x,y]/\T4 W x/\T4 W y
theorem La {W:World} {B n:Nat} {v:Value} {xs:List Value} (h:W.ownsRow B 4 1 v n xs):T4 W v:=by
 intro a m c hv
 rcases h.2 with ⟨h,-⟩ | ⟨g,cap,cur,h,hb,hg,-⟩
 ·rw [hv] at h;cases h
 ·rw [hv] at h;injection h with h1 h2 h3;injection h1 with h1;rw [h1];exact ⟨_,_,hg⟩
theorem CY {n:Nat} {w w':World} {v:Value} {l:Lev} (h:Bh w w' v l) (hl:l.len n):Em n w' v l:=by
 have h2:=Ao h
 obtain ⟨x,y,hv,hx,hy,-⟩:=h
 exact ⟨h2,hl,x,y,hv,La hx,La hy⟩
theorem Hl {W W':World} {v:Value} (h:T4 W v) (hb:∀ (k:Nat) (cur:Array Value) (fr:Nat × Nat),W.heap[k]? = some (Obj.cells cur 4 fr)->W'.heap[k]? = W.heap[k]?):T4 W' v:=by
 intro a n c hv
 obtain ⟨cur,fr,he⟩:=h a n c hv
 exact ⟨cur,fr,(hb _ _ _ he).trans he⟩
theorem Em.keep {n:Nat} {W W':World} {v:Value} {l:Lev} (h1:1<=n) (h:Em n W v l) (hb:∀ (k:Nat) (cur:Array Value) (fr:Nat × Nat),W.heap[k]? = some (Obj.cells cur 4 fr)->W'.heap[k]? = W.heap[k]?):Em n W' v l:=by
 obtain ⟨x,y,hv,tx,ty⟩:=h.ty
 obtain ⟨x',y',hv',bx,by'⟩:=h.at_
 rw [hv] at hv'
 simp at hv'
 obtain ⟨rfl,rfl⟩:=hv'
 have key:∀ (v:Value) (l:List Bool),AP W v l->l.length=n->T4 W v->AP W' v l:=by
  intro v l hbo hl ht
  obtain ⟨ao,cap,hv,hel⟩:=hbo
  refine ⟨ao,cap,hv,fun hne=>?_⟩
  obtain ⟨b,off,hao,hel⟩:=hel hne
  obtain ⟨cur,fr,he⟩:=ht ⟨b,off,none⟩ l.length cap (by rw [hv,hao])
  have e:W'.heap[b]? = W.heap[b]?:=hb b cur fr he
  exact ⟨b,off,hao,fun i hi=>(World.cell?_of_block (a:=⟨b,off+i,none⟩) e).trans (hel i hi)⟩
 exact ⟨⟨x,y,hv,key _ _ bx h.len.1 tx,key _ _ by' h.len.2 ty⟩,h.len,x,y,hv,Hl tx hb,Hl ty hb⟩
theorem Em.over {n:Nat} {W W':World} {v:Value} {l:Lev} (h1:1<=n) (h:Em n W v l) (hb:Ov W W'):Em n W' v l:=
 h.keep h1 fun k cur fr hk=>hb.block k (Array.getElem?_eq_some_iff.1 hk).1
def A0 (n B:Nat) (W:World) (v:Value) (Ls:List Lev):Prop:=
 ∃ us:List Value,W.ownsRow B 50 2 v Ls.length us/\∀ i (h:i < Ls.length),∃ x y,us[i*2]? = some x/\us[i*2+1]? = some y/\Em n W (zh #[x,y]) Ls[i]
theorem E7 (n B:Nat) (W:World):A0 n B W (O none 0 0) []:=⟨[],World.ownsRow_nil ..,fun i h=>absurd h (by simp)⟩
theorem BX {n B:Nat} {W:World} {v:Value} {Ls:List Lev} (h:A0 n B W v Ls):∀ g,v.ownBlock=some g->B<=g/\∃ cur fr,W.heap[g]? = some (.cells cur 50 fr):=by
 obtain ⟨us,ho,-⟩:=h
 intro g hg
 rcases ho.2 with ⟨h,-⟩ | ⟨g',cap,cur,h,hb,hh,-⟩
 ·rw [h] at hg;cases hg
 ·rw [h] at hg
  simp [Value.ownBlock] at hg
  subst hg
  exact ⟨hb,_,_,hh⟩
theorem A0.keep {n B:Nat} {W W':World} {v:Value} {Ls:List Lev} (h1:1<=n) (h:A0 n B W v Ls) {row:Option Nat} (hg:W.grownBy W' row) (ha:v.ownBlock=none\/v.ownBlock≠row) (hr:∀ g,row=some g->∀ (cur:Array Value) (fr:Nat × Nat),W.heap[g]?≠some (Obj.cells cur 4 fr)):A0 n B W' v Ls:=by
 obtain ⟨us,ho,hel⟩:=h
 refine ⟨us,ho.kept hg ha,fun i hi=>?_⟩
 obtain ⟨x,y,e0,e1,hl⟩:=hel i hi
 exact ⟨x,y,e0,e1,hl.keep h1 fun k cur fr hk=>hg.block k (Array.getElem?_eq_some_iff.1 hk).1 (fun e=>hr k e.symm cur fr hk)⟩
theorem A0.over {n B:Nat} {W W':World} {v:Value} {Ls:List Lev} (h1:1<=n) (h:A0 n B W v Ls) (hb:Ov W W'):A0 n B W' v Ls:=
 h.keep h1 (row:=none) ⟨hb.os,hb.tape,hb.output,hb.size,fun k hk _=>hb.block k hk⟩ (by cases v.ownBlock <;> simp) (fun g e=>by cases e)
theorem A0.snoc {n B:Nat} {W W':World} {v v':Value} {Ls:List Lev} {x y:Value} {l:Lev} (h1:1<=n) (h:A0 n B W v Ls) (us:List Value) (ho:W.ownsRow B 50 2 v Ls.length us) (hel:∀ i (h:i < Ls.length),∃ x y,us[i*2]? = some x/\us[i*2+1]? = some y/\Em n W (zh #[x,y]) Ls[i]) (hl:Em n W (zh #[x,y]) l)
  (ho':W'.ownsRow B 50 2 v' (Ls.length+1) (us++[x,y])) (hg:W.grownBy W' v.ownBlock):A0 n B W' v' (Ls++[l]):=by
 have hk:∀ (k:Nat) (cur:Array Value) (fr:Nat × Nat),W.heap[k]? = some (Obj.cells cur 4 fr)->W'.heap[k]? = W.heap[k]?:=fun k cur fr hk=>hg.block k (Array.getElem?_eq_some_iff.1 hk).1 (fun e=>by
  obtain ⟨-,cur',fr',he⟩:=BX h k e.symm
  rw [hk] at he
  injection he with he
  injection he with e1 e2 e3
  exact absurd e2 (by decide))
 have hus:us.length=Ls.length*2:=ho.1
 refine ⟨us++[x,y],by simpa using ho',fun i hi=>?_⟩
 by_cases hlt:i < Ls.length
 ·obtain ⟨x',y',e0,e1,ht⟩:=hel i hlt
  refine ⟨x',y',?_,?_,?_⟩
  ·rw [List.getElem?_append_left (by omega)];exact e0
  ·rw [List.getElem?_append_left (by omega)];exact e1
  ·rw [List.getElem_append_left hlt];exact ht.keep h1 hk
 ·have hi2:i=Ls.length:=by simp at hi;omega
  subst hi2
  refine ⟨x,y,?_,?_,?_⟩
  ·rw [List.getElem?_append_right (by omega)];simp [hus]
  ·rw [List.getElem?_append_right (by omega)]
   have:Ls.length*2+1 - us.length=1:=by omega
   rw [this];rfl
  ·simp;exact hl.keep h1 hk
theorem Di (n:Nat) (ga gn gc sa sn sc ya yn yc oa on oc va vn vc fa fn fc ba bn bc la ln lc ka kn kc) (w:World) :
  Calls Tryz.prog 99 #[zh #[U zd (n:Int),O ga gn gc,O sa sn sc,O ya yn yc,O oa on oc,O va vn vc,O fa fn fc,O ba bn bc],zh #[O la ln lc,O ka kn kc]] w fun e w'=>e=zk (zh #[U zd (n:Int),O ga gn gc,O sa sn sc,O ya yn yc,O oa on oc,O va vn vc,O fa fn fc,O ba bn bc,O la ln lc,O ka kn kc])/\Ov w w':=by
 go_enter Tryz.func99,Tryz.ntmps99
 go_wp2_with fail
 refine bodyPost_ret (v:=zh #[U zd (n:Int),O ga gn gc,O sa sn sc,O ya yn yc,O oa on oc,O va vn vc,O fa fn fc,O ba bn bc,O la ln lc,O ka kn kc]) (by simp [results,Tryz.results99,go_sem]) rfl ⟨rfl,?_⟩
 refine Below.alloc ?_ (by simp <;> omega) _
 refine Below.alloc ?_ (by simp <;> omega) _
 exact bA w _
def Ce (gs:List (Int × Int)) (n:Nat) (vs:List (Bool × Lab)):List Lev:=vs.map fun v=>if v.1=true then Az (AB gs) n v.2 else Bu n
theorem C0 (n:Nat):(Bu n).len n:=⟨by simp [Bu],by simp [Bu]⟩
theorem FD (gn:List (Nat × Nat)) (n:Nat) (b:Lab):(Az gn n b).len n:=⟨A2 _ _,A2 _ _⟩
structure BT (n B bw:Nat) (P:List Value) (Ls Fs:List Lev) (v k:Value) (W:World):Prop where
 row:Ae (P++[v,k]) W bw
 fz:∀ j,W.frozen? ⟨bw,j,none⟩=false
 vs:A0 n B W v Ls
 fs:A0 n B W k Fs
 ap:v.ownBlock=none\/v.ownBlock≠k.ownBlock
 ap2:v.ownBlock≠some bw/\k.ownBlock≠some bw
 ty:∃ cur fr,W.heap[bw]? = some (Obj.cells cur 110 fr)
 lo:B<=bw/\bw < W.heap.size
theorem BT.over {n B bw:Nat} {P:List Value} {Ls Fs:List Lev} {v k:Value} {W W':World} (h1:1<=n) (h:BT n B bw P Ls Fs v k W) (hb:Ov W W'):BT n B bw P Ls Fs v k W':=by
 refine ⟨h.row.over hb,fun j=>((Ap hb).2 _ _ h.lo.2).trans (h.fz j),h.vs.over h1 hb,h.fs.over h1 hb,h.ap,h.ap2,?_,h.lo.1,Nat.lt_of_lt_of_le h.lo.2 hb.size⟩
 obtain ⟨cur,fr,he⟩:=h.ty
 exact ⟨cur,fr,(hb.block _ h.lo.2).trans he⟩
theorem Gl {cs:List Value} {w:World} {b j:Nat} {v:Value} (h:Ae cs w b) (hj:j < cs.length):Ae (cs.set j v) (w.setCell ⟨b,j,none⟩ v) b:=by
 intro i u hu
 by_cases hij:j=i
 ·subst hij
  rw [List.getElem?_set_self hj] at hu
  injection hu with hu
  subst hu
  exact World.cell?_setCell_same _ _ _ (h j _ (List.getElem?_eq_getElem hj))
 ·rw [List.getElem?_set_ne hij] at hu
  rw [World.cell?_setCell_other _ _ _ _ (by intro e;injection e with e1 e2;exact hij e2)]
  exact h i u hu
theorem Cc {w:World} {b j:Nat} {u:Value}:w.grownBy (w.setCell ⟨b,j,none⟩ u) (some b):=
 ⟨rfl,rfl,rfl,by simp [World.setCell],fun k hk hne=>Bi (fun e=>hne (by rw [e])) u⟩
theorem FN {w w':World} {v:Value} {B:Nat} (h:w.grownBy w' v.ownBlock) (hv:∀ g,v.ownBlock=some g->B<=g) (hB:B<=w.heap.size):Below B w w':=
 ⟨h.os,h.tape,h.output,h.size,fun k hk=>h.block k (by omega) (fun e=>by have:=hv k e.symm;omega)⟩
theorem BT.addV {n B bw:Nat} {P:List Value} {Ls Fs:List Lev} {v k v':Value} {W W':World} {us:List Value} {x y:Value} {l:Lev} (h1:1<=n) (hP:P.length=8) (h:BT n B bw P Ls Fs v k W) (ho:W.ownsRow B 50 2 v Ls.length us) (hel:∀ i (h:i < Ls.length),∃ x y,us[i*2]? = some x/\us[i*2+1]? = some y/\Em n W (zh #[x,y]) Ls[i]) (hl:Em n W (zh #[x,y]) l)
  (ho':W'.ownsRow B 50 2 v' (Ls.length+1) (us++[x,y])) (hg:W.grownBy W' v.ownBlock) (hat:v'.ownBlock=v.ownBlock\/v'.ownBlock=some W.heap.size) :
  BT n B bw P (Ls++[l]) Fs v' k (W'.setCell ⟨bw,8,none⟩ v')/\Below B W (W'.setCell ⟨bw,8,none⟩ v'):=by
 have hv:=BX h.vs
 have hk:=BX h.fs
 have n4:∀ g,v.ownBlock=some g->∀ (cur:Array Value) (fr:Nat × Nat),W.heap[g]?≠some (Obj.cells cur 4 fr):=fun g hgv cur fr he=>by
  obtain ⟨-,c2,f2,he2⟩:=hv g hgv
  rw [he] at he2
  injection he2 with he2
  injection he2 with e1 e2 e3
  exact absurd e2 (by decide)
 have hbw:W'.heap[bw]? = W.heap[bw]?:=hg.block bw h.lo.2 (fun e=>h.ap2.1 e.symm)
 have hvs':=A0.snoc h1 h.vs us ho hel hl ho' hg
 have hkv:k.ownBlock=none\/k.ownBlock≠v.ownBlock:=by
  rcases h.ap with e | e
  ·cases hk':k.ownBlock with
   | none=>exact Or.inl rfl
   | some g=>rw [e];exact Or.inr (by simp)
  ·exact Or.inr e.symm
 have hfs':=h.fs.keep h1 hg hkv n4
 have hty:∃ cur fr,W'.heap[bw]? = some (Obj.cells cur 110 fr):=by obtain ⟨c,f,e⟩:=h.ty;exact ⟨c,f,hbw.trans e⟩
 have n5:∀ g,some bw=some g->∀ (cur:Array Value) (fr:Nat × Nat),W'.heap[g]?≠some (Obj.cells cur 4 fr):=fun g e cur fr he=>by
  injection e with e
  subst e
  obtain ⟨c,f,e⟩:=hty
  rw [he] at e
  injection e with e
  injection e with e1 e2 e3
  exact absurd e2 (by decide)
 have hv'bw:v'.ownBlock≠some bw:=by
  rcases hat with e | e
  ·rw [e];exact h.ap2.1
  ·rw [e];intro e;injection e with e;have:=h.lo.2;omega
 have hrow':Ae (P++[v,k]) W' bw:=fun j u hu=>(World.cell?_of_block (a:=⟨bw,j,none⟩) hbw).trans (h.row j u hu)
 have hBl:Below B W W':=FN hg (fun g e=>(hv g e).1) (Nat.le_trans h.lo.1 (Nat.le_of_lt h.lo.2))
 refine ⟨⟨?_,fun j=>?_,hvs'.keep h1 Cc (Or.inr hv'bw) n5,hfs'.keep h1 Cc (Or.inr h.ap2.2) n5,?_,⟨hv'bw,h.ap2.2⟩,?_,h.lo.1,?_⟩,hBl.setCell h.lo.1 _⟩
 ·have:=Gl (j:=8) (v:=v') hrow' (by simp [hP])
  rw [List.set_append,if_neg (by omega)] at this
  simpa [hP] using this
 ·have e1:(W'.setCell ⟨bw,8,none⟩ v').frozen? ⟨bw,j,none⟩=W'.frozen? ⟨bw,j,none⟩:=by simp [go_sem]
  rw [e1,World.frozen?_of_block (a:=⟨bw,j,none⟩) hbw]
  exact h.fz j
 ·rcases hat with e | e
  ·rw [e];exact h.ap
  ·rw [e]
   refine Or.inr fun e2=>?_
   obtain ⟨-,c,f,he⟩:=hk _ e2.symm
   have:=(Array.getElem?_eq_some_iff.1 he).1
   omega
 ·obtain ⟨c,f,e⟩:=hty
  refine ⟨c.setIfInBounds 8 v',f,?_⟩
  simp [World.setCell,Array.getElem?_modify,e]
 ·have:=hg.size
  have:=h.lo.2
  simp [World.setCell]
  omega
theorem BT.addF {n B bw:Nat} {P:List Value} {Ls Fs:List Lev} {v k v':Value} {W W':World} {us:List Value} {x y:Value} {l:Lev} (h1:1<=n) (hP:P.length=8) (h:BT n B bw P Ls Fs v k W) (ho:W.ownsRow B 50 2 k Fs.length us) (hel:∀ i (h:i < Fs.length),∃ x y,us[i*2]? = some x/\us[i*2+1]? = some y/\Em n W (zh #[x,y]) Fs[i]) (hl:Em n W (zh #[x,y]) l)
  (ho':W'.ownsRow B 50 2 v' (Fs.length+1) (us++[x,y])) (hg:W.grownBy W' k.ownBlock) (hat:v'.ownBlock=k.ownBlock\/v'.ownBlock=some W.heap.size) :
  BT n B bw P Ls (Fs++[l]) v v' (W'.setCell ⟨bw,9,none⟩ v')/\Below B W (W'.setCell ⟨bw,9,none⟩ v'):=by
 have hv:=BX h.vs
 have hk:=BX h.fs
 have n4:∀ g,k.ownBlock=some g->∀ (cur:Array Value) (fr:Nat × Nat),W.heap[g]?≠some (Obj.cells cur 4 fr):=fun g hgv cur fr he=>by
  obtain ⟨-,c2,f2,he2⟩:=hk g hgv
  rw [he] at he2
  injection he2 with he2
  injection he2 with e1 e2 e3
  exact absurd e2 (by decide)
 have hbw:W'.heap[bw]? = W.heap[bw]?:=hg.block bw h.lo.2 (fun e=>h.ap2.2 e.symm)
 have hfs':=A0.snoc h1 h.fs us ho hel hl ho' hg
 have hvs':=h.vs.keep h1 hg h.ap n4
 have hty:∃ cur fr,W'.heap[bw]? = some (Obj.cells cur 110 fr):=by obtain ⟨c,f,e⟩:=h.ty;exact ⟨c,f,hbw.trans e⟩
 have n5:∀ g,some bw=some g->∀ (cur:Array Value) (fr:Nat × Nat),W'.heap[g]?≠some (Obj.cells cur 4 fr):=fun g e cur fr he=>by
  injection e with e
  subst e
  obtain ⟨c,f,e⟩:=hty
  rw [he] at e
  injection e with e
  injection e with e1 e2 e3
  exact absurd e2 (by decide)
 have hv'bw:v'.ownBlock≠some bw:=by
  rcases hat with e | e
  ·rw [e];exact h.ap2.2
  ·rw [e];intro e;injection e with e;have:=h.lo.2;omega
 have hrow':Ae (P++[v,k]) W' bw:=fun j u hu=>(World.cell?_of_block (a:=⟨bw,j,none⟩) hbw).trans (h.row j u hu)
 have hBl:Below B W W':=FN hg (fun g e=>(hk g e).1) (Nat.le_trans h.lo.1 (Nat.le_of_lt h.lo.2))
 refine ⟨⟨?_,fun j=>?_,hvs'.keep h1 Cc (Or.inr h.ap2.1) n5,hfs'.keep h1 Cc (Or.inr hv'bw) n5,?_,⟨h.ap2.1,hv'bw⟩,?_,h.lo.1,?_⟩,hBl.setCell h.lo.1 _⟩
 ·have:=Gl (j:=9) (v:=v') hrow' (by simp [hP])
  rw [List.set_append,if_neg (by omega)] at this
  simpa [hP] using this
 ·have e1:(W'.setCell ⟨bw,9,none⟩ v').frozen? ⟨bw,j,none⟩=W'.frozen? ⟨bw,j,none⟩:=by simp [go_sem]
  rw [e1,World.frozen?_of_block (a:=⟨bw,j,none⟩) hbw]
  exact h.fz j
 ·rcases hat with e | e
  ·rw [e];exact h.ap
  ·rw [e]
   refine Or.inr fun e2=>?_
   obtain ⟨-,c,f,he⟩:=hv _ e2
   have:=(Array.getElem?_eq_some_iff.1 he).1
   omega
 ·obtain ⟨c,f,e⟩:=hty
  refine ⟨c.setIfInBounds 9 v',f,?_⟩
  simp [World.setCell,Array.getElem?_modify,e]
 ·have:=hg.size
  have:=h.lo.2
  simp [World.setCell]
  omega
def D5 (W:World) (b:Nat):Prop:=∀ (cur:Array Value) (fr:Nat × Nat),W.heap[b]?≠some (Obj.cells cur 4 fr)
theorem D5.set {W:World} {b b' j:Nat} {u:Value} (h:D5 W b):D5 (W.setCell ⟨b',j,none⟩ u) b:=by
 intro cur fr he
 by_cases hb:b'=b
 ·subst hb
  simp only [World.setCell,Array.getElem?_modify,if_true] at he
  cases ho:W.heap[b']? with
  | none=>rw [ho] at he;simp at he
  | some o=>
   rw [ho] at he
   cases o with
   | cells c e f=>
    simp at he
    obtain ⟨-,rfl,-⟩:=he
    exact h _ _ ho
   | _=>simp at he
 ·rw [Bi hb] at he
  exact h cur fr he
theorem A0.setLow {n B:Nat} {W:World} {v:Value} {Ls:List Lev} (h1:1<=n) (h:A0 n B W v Ls) {b j:Nat} {u:Value} (hb:b < B) (hn:D5 W b):A0 n B (W.setCell ⟨b,j,none⟩ u) v Ls:=
 h.keep h1 Cc (by
  cases hv:v.ownBlock with
  | none=>exact Or.inl rfl
  | some g=>
   refine Or.inr fun e=>?_
   injection e with e
   have:=(BX h g hv).1
   omega) (fun g e=>by injection e with e;subst e;exact hn)
theorem A0.low {n B B':Nat} {W:World} {v:Value} {Ls:List Lev} (h:A0 n B W v Ls) (hb:B'<=B):A0 n B' W v Ls:=by
 obtain ⟨us,ho,hel⟩:=h
 exact ⟨us,B4 ho hb,hel⟩
def setN (b:Nat):List Value->Nat->World->World
 | [],_,W=>W
 | u::us,j,W=>setN b us (j+1) (W.setCell ⟨b,j,none⟩ u)
theorem A0.setN {n B b:Nat} {v:Value} {Ls:List Lev} (h1:1<=n) (hb:b < B):∀ (us:List Value) (j:Nat) (W:World),A0 n B W v Ls->D5 W b->A0 n B (setN b us j W) v Ls
 | [],_,_,h,_=>h
 | u::us,j,W,h,hn=>A0.setN h1 hb us (j+1) _ (h.setLow h1 hb hn) hn.set
theorem F2 {B b:Nat} {w:World} (hb:B<=b):∀ (us:List Value) (j:Nat) (W:World),Below B w W->Below B w (setN b us j W)
 | [],_,_,h=>h
 | u::us,j,W,h=>F2 hb us (j+1) _ (h.setCell hb u)
theorem BT.box {n B bw:Nat} {P:List Value} {Ls Fs:List Lev} {v k:Value} {W:World} {b j:Nat} {u:Value} (h1:1<=n) (h:BT n B bw P Ls Fs v k W) (hb:b≠bw) (hv:v.ownBlock≠some b) (hk:k.ownBlock≠some b) (hn:D5 W b):BT n B bw P Ls Fs v k (W.setCell ⟨b,j,none⟩ u):=by
 have hbw:(W.setCell ⟨b,j,none⟩ u).heap[bw]? = W.heap[bw]?:=Bi hb u
 refine ⟨fun i x hx=>(World.cell?_of_block (a:=⟨bw,i,none⟩) hbw).trans (h.row i x hx),fun i=>(World.frozen?_of_block (a:=⟨bw,i,none⟩) hbw).trans (h.fz i),h.vs.keep h1 Cc (Or.inr hv) (fun g e=>by injection e with e;subst e;exact hn),h.fs.keep h1 Cc (Or.inr hk) (fun g e=>by injection e with e;subst e;exact hn),h.ap,h.ap2,?_,h.lo.1,by simpa [World.setCell] using h.lo.2⟩
 obtain ⟨c,f,e⟩:=h.ty
 exact ⟨c,f,hbw.trans e⟩
theorem Kg {gs:List (Int × Int)} {n:Nat} {vs:List (Bool × Lab)} {j:Nat} (h:j < vs.length):Ce gs n (vs.take (j+1))=Ce gs n (vs.take j)++[if vs[j].1=true then Az (AB gs) n vs[j].2 else Bu n]:=by
 unfold Ce
 rw [List.take_succ_eq_append_getElem h,List.map_append]
 rfl
theorem Hw {W:World} {cs:Array Value} {T:Nat} (h:T≠4):D5 (W.alloc (.cells cs T)) W.heap.size:=by
 intro cur fr he
 rw [BG] at he
 injection he with he
 injection he with e1 e2 e3
 exact h e2
theorem D5.over {W W':World} {b:Nat} (h:D5 W b) (hb:Ov W W') (hlt:b < W.heap.size):D5 W' b:=fun cur fr he=>h cur fr ((hb.block b hlt) ▸ he)
theorem DY {ops:Array Oper} {o:Oper} {a:Act} {W:World} {K:Act->World->Prop} {Q:Exit->Act->World->Prop} {E:Prop} (hg:o.guard=none) (s x:Operand) (t:TypeId) (hop:o.op=Op.call { callee:=Callee.builtin Builtin.append,args:=#[s,x],argTypes:=#[t,t] }) (v u v':Value) (W':World) (hs:a.eval s=v) (hx:a.eval x=u)
  (hr:(Builtin.append_ #[t,t] o.type #[v,u]).run Tryz.prog W=.ok v' W') (h:K (a.put o.dst v') W'):if Region.wanted o (yielded ops a.tmps)=true then Oper.wp Tryz.prog o a W K Q else E:=by
 have hw:Region.wanted o (yielded ops a.tmps)=true:=by simp [Region.wanted,hg]
 rw [if_pos hw]
 unfold Oper.wp execOp
 simp only [hop,resolve,invoke,builtin,Sem.run_bind,Sem.run_pure,Result.andThen_ok,List.map_toArray,List.map_cons,List.map_nil,hs,hx,hr]
 exact h
theorem NX (n:Nat) (h1:1<=n) (h6:n<=6) (ga gn gc) (sa sn sc ya yn yc oa on oc) (va vn vc) (fa:Option Addr) (fn fc:Nat) (ba bn bc gs vs) (w:World) (hg:AG w (O ga gn gc) gs) (hE:AQ n gs=0) (hv:Bo w (O va vn vc) vs) (hvc:∀ v∈vs,Bq n gs v.2=0) (h16:vs.length<=16) (hf5:fn<=5) :
  Calls Tryz.prog 54 #[zh #[U zd (n:Int),O ga gn gc,O sa sn sc,O ya yn yc,O oa on oc,O va vn vc,O fa fn fc,O ba bn bc]] w fun e w'=>∃ la ln lc ka kn2 kc,e=zk (zh #[U zd (n:Int),O ga gn gc,O sa sn sc,O ya yn yc,O oa on oc,O va vn vc,O fa fn fc,O ba bn bc,O la ln lc,O ka kn2 kc])/\A0 n w.heap.size w' (O la ln lc) (Ce gs n vs)/\A0 n w.heap.size w' (O ka kn2 kc) (List.replicate fn (Bu n))/\(Value.ownBlock (O la ln lc)=none\/Value.ownBlock (O la ln lc)≠Value.ownBlock (O ka kn2 kc))/\Ov w w':=by
 obtain ⟨i0,hi,hz0,hz1,hz2⟩:=info_parts Tryz.infoLv
 have hb0:Ov w ((w.alloc (ze #[U zd (n:Int),O ga gn gc,O sa sn sc,O ya yn yc,O oa on oc,O va vn vc,O fa fn fc,O ba bn bc] 31)).alloc (ze #[U zd 0,O none 0 0,O none 0 0,O none 0 0,O none 0 0,O none 0 0,O none 0 0,O none 0 0,O none 0 0,O none 0 0] 110)):=(bA w _).alloc (by simp) _
 have KW:=Aa (Di n ga gn gc sa sn sc ya yn yc oa on oc va vn vc fa fn fc ba bn bc none 0 0 none 0 0 ((w.alloc (ze #[U zd (n:Int),O ga gn gc,O sa sn sc,O ya yn yc,O oa on oc,O va vn vc,O fa fn fc,O ba bn bc] 31)).alloc (ze #[U zd 0,O none 0 0,O none 0 0,O none 0 0,O none 0 0,O none 0 0,O none 0 0,O none 0 0,O none 0 0,O none 0 0] 110)))
 have KB:=Aa fun (la:Option Addr) (ln lc:Nat) (ka:Option Addr) (kn kc:Nat) W=>EE n h1 h6 ga gn gc sa sn sc ya yn yc oa on oc va vn vc fa fn fc ba bn bc la ln lc ka kn kc W
 have KL:=Aa fun (la:Option Addr) (ln lc:Nat) (ka:Option Addr) (kn kc:Nat) (pr pw:Value) (bl:Lab) W (hb:Ov w W) (h2:AI W pr bl.r) (h3:AI W pw bl.w) (h4:Bq n gs bl=0)=>GR (n:Int) ga gn gc sa sn sc ya yn yc oa on oc va vn vc fa fn fc ba bn bc la ln lc ka kn kc gs pr pw bl W (Af hg hb) h2 h3 h4
 have rowP:Ae [U zd (n:Int),O ga gn gc,O sa sn sc,O ya yn yc,O oa on oc,O va vn vc,O fa fn fc,O ba bn bc] ((w.alloc (ze #[U zd (n:Int),O ga gn gc,O sa sn sc,O ya yn yc,O oa on oc,O va vn vc,O fa fn fc,O ba bn bc] 31)).alloc (ze #[U zd 0,O none 0 0,O none 0 0,O none 0 0,O none 0 0,O none 0 0,O none 0 0,O none 0 0,O none 0 0,O none 0 0] 110)) w.heap.size:=(Ae.new [U zd (n:Int),O ga gn gc,O sa sn sc,O ya yn yc,O oa on oc,O va vn vc,O fa fn fc,O ba bn bc] 31 w).over (bA _ _)
 have HB0:=Aa hb0
 have HRP:=Aa rowP
 have HV:=Aa hv
 have HVC:=Aa hvc
 have hvn:vn=vs.length:=by obtain ⟨-,a,c,he,-⟩:=hv;injection he
 have hvn16:vn<=16:=by omega
 have HVN:=Aa hvn
 obtain ⟨V0,hV0⟩:=nm (((w.alloc (ze #[U zd (n:Int),O ga gn gc,O sa sn sc,O ya yn yc,O oa on oc,O va vn vc,O fa fn fc,O ba bn bc] 31)).alloc (ze #[U zd 0,O none 0 0,O none 0 0,O none 0 0,O none 0 0,O none 0 0,O none 0 0,O none 0 0,O none 0 0,O none 0 0] 110)))
 have hs0:V0.heap.size=w.heap.size+1+1:=by rw [hV0];simp
 rw [<-hV0] at HB0 HRP
 have HS0:=Aa hs0
 have HSZ:Hx (∀ W,Below (w.heap.size+1+1) V0 W->(w.heap.size+1+1)<=W.heap.size):=fun W h=>by have:=h.size;rw [HS0.o] at this;exact this
 have nb1:D5 V0 (w.heap.size+1):=by
  rw [hV0]
  have:=Hw (W:=w.alloc (ze #[U zd (n:Int),O ga gn gc,O sa sn sc,O ya yn yc,O oa on oc,O va vn vc,O fa fn fc,O ba bn bc] 31)) (cs:=#[U zd 0,O none 0 0,O none 0 0,O none 0 0,O none 0 0,O none 0 0,O none 0 0,O none 0 0,O none 0 0,O none 0 0]) (T:=110) (by decide)
  simpa using this
 have zr:Ae [U zd 0,O none 0 0,O none 0 0,O none 0 0,O none 0 0,O none 0 0,O none 0 0,O none 0 0,O none 0 0,O none 0 0] V0 (w.heap.size+1):=by
  rw [hV0]
  have:=Ae.new [U zd 0,O none 0 0,O none 0 0,O none 0 0,O none 0 0,O none 0 0,O none 0 0,O none 0 0,O none 0 0,O none 0 0] 110 (w.alloc (ze #[U zd (n:Int),O ga gn gc,O sa sn sc,O ya yn yc,O oa on oc,O va vn vc,O fa fn fc,O ba bn bc] 31))
  simpa using this
 have zf:∀ j,V0.frozen? ⟨w.heap.size+1,j,none⟩=false:=fun j=>by rw [hV0];simp [go_sem]
 have NB1:=Aa nb1
 have ZR:=Aa zr
 have ZF:=Aa zf
 obtain ⟨c0,c1,c2,c3,c4,c5,c6,c7⟩:=rc8 rowP
 clear hb0 rowP hv hvc hg hE hvn hs0 nb1 zr zf
 go_enter Tryz.func54,Tryz.ntmps54
 go_wp2_with fail
 refine (KW.o).mono ?_
 rintro e w1 ⟨rfl,hb1⟩
 rw [<-hV0] at hb1
 have hbw2:=bA w1 (ze #[U zd (n:Int),O ga gn gc,O sa sn sc,O ya yn yc,O oa on oc,O va vn vc,O fa fn fc,O ba bn bc,O none 0 0,O none 0 0] 110)
 have hB02:Below (w.heap.size+1+1) V0 (w1.alloc (ze #[U zd (n:Int),O ga gn gc,O sa sn sc,O ya yn yc,O oa on oc,O va vn vc,O fa fn fc,O ba bn bc,O none 0 0,O none 0 0] 110)):=by rw [<-HS0.o];exact Ac hb1 hbw2
 have hL0:BT n (w.heap.size+1+1) w1.heap.size [U zd (n:Int),O ga gn gc,O sa sn sc,O ya yn yc,O oa on oc,O va vn vc,O fa fn fc,O ba bn bc] [] [] (O none 0 0) (O none 0 0) (w1.alloc (ze #[U zd (n:Int),O ga gn gc,O sa sn sc,O ya yn yc,O oa on oc,O va vn vc,O fa fn fc,O ba bn bc,O none 0 0,O none 0 0] 110)):=by
  refine ⟨Ae.new [U zd (n:Int),O ga gn gc,O sa sn sc,O ya yn yc,O oa on oc,O va vn vc,O fa fn fc,O ba bn bc,O none 0 0,O none 0 0] 110 w1,fun j=>by simp [go_sem],E7 _ _ _,E7 _ _ _,Or.inl rfl,⟨by simp [Value.ownBlock],by simp [Value.ownBlock]⟩,⟨_,_,BG _ _⟩,?_,by simp⟩
  have:=hb1.size
  rw [HS0.o] at this
  exact this
 have HL0:=Aa hL0
 have HB02:=Aa hB02
 have hRP2:=HRP.o.over (Ac hb1 hbw2)
 have HRP2:=Aa hRP2
 clear c0 c1 c2 c3 c4 c5 c6 c7 KW hb1 hbw2 hB02 hL0 hV0
 obtain ⟨c0,c1,c2,c3,c4,c5,c6,c7⟩:=rc8 hRP2
 clear hRP2
 go_wp2_with fail
 go_loopw [13] (fun x wr=>∃ (j:Nat) (la:Option Addr) (ln lc:Nat),j<=vn/\x=U zd j/\BT n (w.heap.size+1+1) w1.heap.size [U zd (n:Int),O ga gn gc,O sa sn sc,O ya yn yc,O oa on oc,O va vn vc,O fa fn fc,O ba bn bc] (Ce gs n (vs.take j)) [] (O la ln lc) (O none 0 0) wr/\Below (w.heap.size+1+1) V0 wr) (fun x _=>vn - (intOf x).toNat)
 case atStart=>exact ⟨0,none,0,0,Nat.zero_le _,rfl,HL0.o,HB02.o⟩
 case round=>
  clear c0 c1 c2 c3 c4 c5 c6 c7
  obtain ⟨j,la,ln,lc,hj,rfl,hL,hB⟩:=hrel
  have hBw:=HB0.o.trans (hB.mono (by omega))
  have hrp:Ae [U zd (n:Int),O ga gn gc,O sa sn sc,O ya yn yc,O oa on oc,O va vn vc,O fa fn fc,O ba bn bc] wr w.heap.size:=fun i u hu=>(hB.cell (p:=⟨w.heap.size,i,none⟩) (by simp <;> omega)).trans (HRP.o i u hu)
  by_cases hlt:j < vn
  ·have hj2:j < vs.length:=by rw [<-HVN.o];exact hlt
   obtain ⟨-,va',vc',hve,hvel⟩:=HV.o
   injection hve with x1 x2 x3
   obtain ⟨bv,ov,hvo,hvel⟩:=hvel (by intro h;rw [h] at hj2;simp at hj2)
   obtain ⟨pr,pw,g0,g1,g2,hpr,hpw⟩:=hvel j hj2
   have hva:va=some ⟨bv,ov,none⟩:=x1.trans hvo
   subst hva
   obtain ⟨b1,b2,b3,rfl⟩:=AM hpr
   obtain ⟨b4,b5,b6,rfl⟩:=AM hpw
   obtain ⟨g0,g1,g2⟩:=co3 hBw g0 g1 g2
   have HIN:=Aa (Kg (gs:=gs) (n:=n) hj2)
   obtain ⟨kn,hkn⟩:=nm (vs[j].1)
   obtain ⟨lb,hlb⟩:=nm (vs[j].2)
   rw [<-hkn] at g0 HIN
   rw [<-hlb] at hpr hpw HIN
   have HCK:=Aa (HVC.o vs[j] (List.getElem_mem hj2))
   rw [<-hlb] at HCK
   have hba:=bA wr (ze #[zg kn,O b1 b2 b3,O b4 b5 b6] 41)
   have hL1:=hL.over h1 hba
   have rowV:=Ae.new [zg kn,O b1 b2 b3,O b4 b5 b6] 41 wr
   have KB1:=Aa (KB.o la ln lc none 0 0 (wr.alloc (ze #[zg kn,O b1 b2 b3,O b4 b5 b6] 41)))
   have hB1:=hB.trans (hba.mono (HSZ.o _ hB))
   have HL1:=Aa hL1
   have HB1:=Aa hB1
   have HRV:=Aa rowV
   have HPR:=Aa (Ah hpr (hBw.trans (hba.mono hBw.size)))
   have HPW:=Aa (Ah hpw (hBw.trans (hba.mono hBw.size)))
   have HBW1:=Aa (hBw.trans (hba.mono hBw.size))
   have hj3:(j:Int) < (vn:Int):=by omega
   obtain ⟨d0,d1,d2,d3,d4,d5,d6,d7,d8,d9⟩:=B9 hL1.row
   obtain ⟨e0,e1,e2⟩:=rc3 rowV
   clear hL hB hBw hrp hvel hvo x1 x2 x3 hpr hpw hkn hlb hba hL1 rowV hB1
   go_wp2_with fail
   refine (KB1.o).mono ?_
   rintro e W3 ⟨vj,rfl,hfr,hb3⟩
   have hT3:=CY hfr (C0 n)
   obtain ⟨a1,a2,a3,a4,a5,a6,hvj⟩:∃ a1 a2 a3 a4 a5 a6,vj=zh #[O a1 a2 a3,O a4 a5 a6]:=by
    obtain ⟨x,y,e,-⟩:=Ao hfr
    subst e
    obtain ⟨z1,z2,z3,z4,z5,z6,rfl,rfl⟩:=AN (Ao hfr)
    exact ⟨_,_,_,_,_,_,rfl⟩
   subst hvj
   have hb4:=bA W3 (ze #[O a1 a2 a3,O a4 a5 a6] 50)
   have hb34:=Ac hb3 hb4
   have hL4:=HL1.o.over h1 hb34
   have HT4:=Aa (hT3.over h1 hb4)
   have hB4:=HB1.o.trans (hb34.mono (HSZ.o _ HB1.o))
   have rowA:=Ae.new [O a1 a2 a3,O a4 a5 a6] 50 W3
   have rowV:=HRV.o.over hb34
   have HL4:=Aa hL4
   have HB4:=Aa hB4
   have HRA:=Aa rowA
   have HP4:=Aa (Ah HPR.o hb34)
   have HQ4:=Aa (Ah HPW.o hb34)
   have HBW4:=Aa (HBW1.o.trans (hb34.mono HBW1.o.size))
   have HVB:Hx (Value.ownBlock (O la ln lc)≠some W3.heap.size/\W3.heap.size≠w1.heap.size/\w1.heap.size < W3.heap.size):=by
    have h3:=hb3.size
    have h4:=HL1.o.lo.2
    refine ⟨fun e=>?_,by omega,by omega⟩
    obtain ⟨-,c,f,he⟩:=BX HL1.o.vs _ e
    have:=(Array.getElem?_eq_some_iff.1 he).1
    omega
   have HNB:=Aa (Hw (W:=W3) (cs:=#[O a1 a2 a3,O a4 a5 a6]) (T:=50) (by decide))
   clear d0 d1 d2 d3 d4 d5 d6 d7 d8 d9 e0 e1 e2 hfr hb3 hT3 hb4 hb34 hL4 hB4 KB1 HL1 HB1 HRV HPR HPW HBW1
   obtain ⟨d0,d1,d2,d3,d4,d5,d6,d7,d8,d9⟩:=B9 HL4.o.row
   obtain ⟨e0,e1,e2⟩:=rc3 rowV
   obtain ⟨f0,f1⟩:=rc2 rowA
   clear rowA rowV
   cases kn with
   | false=>
    have HLb:=HL4
    have HBb:=HB4
    have HT:=HT4
    have hbN:=(Below.refl _ (W3.alloc (ze #[O a1 a2 a3,O a4 a5 a6] 50))).alloc (Nat.le_refl _) (ze #[O a1 a2 a3,O a4 a5 a6] 50)
    have hLN:=HLb.o.over h1 hbN
    have hN:=Ae.new [O a1 a2 a3,O a4 a5 a6] 50 (W3.alloc (ze #[O a1 a2 a3,O a4 a5 a6] 50))
    have hsz:(W3.alloc (ze #[O a1 a2 a3,O a4 a5 a6] 50)).heap.size=(W3.heap.size+1):=by simp
    rw [hsz] at hN
    have HN:=Aa hN
    clear hN hsz
    obtain ⟨us,hous,helu⟩:=hLN.vs
    have HHEL:=Aa helu
    have HOUS:=Aa hous
    have HTN:=Aa (HT.o.over h1 hbN)
    have HLN:=Aa hLN
    have HBW:=Aa (show (w.heap.size+1+1)<=((W3.alloc (ze #[O a1 a2 a3,O a4 a5 a6] 50)).alloc (ze #[O a1 a2 a3,O a4 a5 a6] 50)).heap.size by have:=hLN.lo;omega)
    have hl16:(Ce gs n (vs.take j)).length<=16:=by simp [Ce];omega
    have HBN:=Aa (HBb.o.trans (hbN.mono (HSZ.o _ HBb.o)))
    have dN:=hLN.row 8 _ rfl
    have fN:=hLN.fz 8
    clear hbN hLN helu
    go_wp2_with (at_builtin;refine wpList_append_own_at _ rfl _ _ 42 rfl (w.heap.size+1+1) 50 i0 (zh #[O none 0 0,O none 0 0]) 2 48 Tryz.underlying42 hi hz0 hz1 hz2 rfl (by decide) _ _ _ rfl HOUS.o ⟨(W3.heap.size+1),0,none⟩ 1 1 [O a1 a2 a3,O a4 a5 a6] rfl rfl (fun jj u hu=>by rw [Addr.add_lit,Nat.zero_add];exact HN.o jj u hu) (by simp [Value.oneCell']) (by unfold maxLen;omega) (by omega) HBW.o ?_)
    intro v2 w2 hown2 hgr2 _ hat
    obtain ⟨va2,vn2,vc2,rfl⟩:=Aj hown2
    have hfin:=BT.addV h1 rfl HLN.o HOUS.o HHEL.o HTN.o hown2 hgr2 (by simpa using hat)
    have d2:=hgr2.cell dN (fun hx=>HLN.o.ap2.1 hx.symm)
    have f2:w2.frozen? ⟨w1.heap.size,8,none⟩=false:=(World.frozen?_of_block (a:=⟨w1.heap.size,8,none⟩) (hgr2.block w1.heap.size HLN.o.lo.2 (fun hx=>HLN.o.ap2.1 hx.symm))).trans fN
    have HFIN:=Aa hfin
    clear hfin hown2 hgr2 hat hous dN fN
    go_wp2_with fail
    refine ⟨⟨j+1,va2,vn2,vc2,by omega,by go_num,by rw [HIN.o];exact HFIN.o.1,HBN.o.trans HFIN.o.2⟩,by simp [intOf];omega⟩
   | true=>
    have KL1:=Aa (KL.o la ln lc none 0 0 _ _ lb _ HBW4.o HP4.o HQ4.o HCK.o)
    go_wp2_with fail
    refine (KL1.o).mono ?_
    rintro e W5 ⟨vj,rfl,hfr,hb5⟩
    have hfr2:Bh (W3.alloc (ze #[O a1 a2 a3,O a4 a5 a6] 50)) W5 vj (Az (AB gs) n lb):=by simpa using hfr
    have hT5:=CY hfr2 (FD _ n lb)
    obtain ⟨m1,m2,m3,m4,m5,m6,hvj⟩:∃ a1 a2 a3 a4 a5 a6,vj=zh #[O a1 a2 a3,O a4 a5 a6]:=by
     obtain ⟨x,y,e,-⟩:=Ao hfr2
     subst e
     obtain ⟨z1,z2,z3,z4,z5,z6,rfl,rfl⟩:=AN (Ao hfr2)
     exact ⟨_,_,_,_,_,_,rfl⟩
    subst hvj
    have hlt4:W3.heap.size < (W3.alloc (ze #[O a1 a2 a3,O a4 a5 a6] 50)).heap.size:=by simp
    have nb5:=HNB.o.over hb5 hlt4
    obtain ⟨p0,p1⟩:=co2 hb5 f0 f1
    have z0:W5.frozen? ⟨W3.heap.size,0,none⟩=false:=((Ap hb5).2 _ _ hlt4).trans (by simp [go_sem])
    have z1:W5.frozen? ⟨W3.heap.size,1,none⟩=false:=((Ap hb5).2 _ _ hlt4).trans (by simp [go_sem])
    have hL5:=HL4.o.over h1 hb5
    have hL6:=(hL5.box (j:=0) (u:=O m1 m2 m3) h1 HVB.o.2.1 HVB.o.1 (by simp [Value.ownBlock]) nb5).box (j:=1) (u:=O m4 m5 m6) h1 HVB.o.2.1 HVB.o.1 (by simp [Value.ownBlock]) nb5.set
    have HLb:=Aa hL6
    have hlo3:(w.heap.size+1+1)<=W3.heap.size:=by have:=HL4.o.lo.1;have:=HVB.o.2.2;omega
    have HBb:=Aa (((HB4.o.trans (hb5.mono (HSZ.o _ HB4.o))).setCell (p:=⟨W3.heap.size,0,none⟩) hlo3 (O m1 m2 m3)).setCell (p:=⟨W3.heap.size,1,none⟩) hlo3 (O m4 m5 m6))
    have HT:=Aa ((hT5.keep h1 (fun k cur fr hk=>(Cc (b:=W3.heap.size) (j:=0) (u:=O m1 m2 m3)).block k (Array.getElem?_eq_some_iff.1 hk).1 (fun e=>by injection e with e;subst e;exact nb5 cur fr hk))).keep h1 (fun k cur fr hk=>(Cc (b:=W3.heap.size) (j:=1) (u:=O m4 m5 m6)).block k (Array.getElem?_eq_some_iff.1 hk).1 (fun e=>by injection e with e;subst e;exact nb5.set cur fr hk)))
    have q0:((W5.setCell ⟨W3.heap.size,0,none⟩ (O m1 m2 m3)).setCell ⟨W3.heap.size,1,none⟩ (O m4 m5 m6)).cell? ⟨W3.heap.size,0,none⟩=some (O m1 m2 m3):=by simp [go_sem,p0]
    have q1:((W5.setCell ⟨W3.heap.size,0,none⟩ (O m1 m2 m3)).setCell ⟨W3.heap.size,1,none⟩ (O m4 m5 m6)).cell? ⟨W3.heap.size,1,none⟩=some (O m4 m5 m6):=by simp [go_sem,p1]
    clear d0 d1 d2 d3 d4 d5 d6 d7 d8 d9 e0 e1 e2 f0 f1 KL1 hfr hfr2 hT5 hL5
    obtain ⟨d0,d1,d2,d3,d4,d5,d6,d7,d8,d9⟩:=B9 hL6.row
    clear hL6 hb5
    have hbN:=(Below.refl _ ((W5.setCell ⟨W3.heap.size,0,none⟩ (O m1 m2 m3)).setCell ⟨W3.heap.size,1,none⟩ (O m4 m5 m6))).alloc (Nat.le_refl _) (ze #[O m1 m2 m3,O m4 m5 m6] 50)
    have hLN:=HLb.o.over h1 hbN
    have hN:=Ae.new [O m1 m2 m3,O m4 m5 m6] 50 ((W5.setCell ⟨W3.heap.size,0,none⟩ (O m1 m2 m3)).setCell ⟨W3.heap.size,1,none⟩ (O m4 m5 m6))
    have hsz:((W5.setCell ⟨W3.heap.size,0,none⟩ (O m1 m2 m3)).setCell ⟨W3.heap.size,1,none⟩ (O m4 m5 m6)).heap.size=W5.heap.size:=by simp [World.setCell]
    rw [hsz] at hN
    have HN:=Aa hN
    clear hN hsz
    obtain ⟨us,hous,helu⟩:=hLN.vs
    have HHEL:=Aa helu
    have HOUS:=Aa hous
    have HTN:=Aa (HT.o.over h1 hbN)
    have HLN:=Aa hLN
    have HBW:=Aa (show (w.heap.size+1+1)<=(((W5.setCell ⟨W3.heap.size,0,none⟩ (O m1 m2 m3)).setCell ⟨W3.heap.size,1,none⟩ (O m4 m5 m6)).alloc (ze #[O m1 m2 m3,O m4 m5 m6] 50)).heap.size by have:=hLN.lo;omega)
    have hl16:(Ce gs n (vs.take j)).length<=16:=by simp [Ce];omega
    have HBN:=Aa (HBb.o.trans (hbN.mono (HSZ.o _ HBb.o)))
    have dN:=hLN.row 8 _ rfl
    have fN:=hLN.fz 8
    clear hbN hLN helu
    go_wp2_with (at_builtin;refine wpList_append_own_at _ rfl _ _ 42 rfl (w.heap.size+1+1) 50 i0 (zh #[O none 0 0,O none 0 0]) 2 48 Tryz.underlying42 hi hz0 hz1 hz2 rfl (by decide) _ _ _ rfl HOUS.o ⟨W5.heap.size,0,none⟩ 1 1 [O m1 m2 m3,O m4 m5 m6] rfl rfl (fun jj u hu=>by rw [Addr.add_lit,Nat.zero_add];exact HN.o jj u hu) (by simp [Value.oneCell']) (by unfold maxLen;omega) (by omega) HBW.o ?_)
    intro v2 w2 hown2 hgr2 _ hat
    obtain ⟨va2,vn2,vc2,rfl⟩:=Aj hown2
    have hfin:=BT.addV h1 rfl HLN.o HOUS.o HHEL.o HTN.o hown2 hgr2 (by simpa using hat)
    have d2:=hgr2.cell dN (fun hx=>HLN.o.ap2.1 hx.symm)
    have f2:w2.frozen? ⟨w1.heap.size,8,none⟩=false:=(World.frozen?_of_block (a:=⟨w1.heap.size,8,none⟩) (hgr2.block w1.heap.size HLN.o.lo.2 (fun hx=>HLN.o.ap2.1 hx.symm))).trans fN
    have HFIN:=Aa hfin
    clear hfin hown2 hgr2 hat hous dN fN
    go_wp2_with fail
    refine ⟨⟨j+1,va2,vn2,vc2,by omega,by go_num,by rw [HIN.o];exact HFIN.o.1,HBN.o.trans HFIN.o.2⟩,by simp [intOf];omega⟩
  ·have hj2:vs.take j=vs:=List.take_of_length_le (by rw [<-HVN.o];omega)
   rw [hj2] at hL
   have HL:=Aa hL
   have HB:=Aa hB
   obtain ⟨c0,c1,c2,c3,c4,c5,c6,c7⟩:=rc8 hrp
   clear hj2 hL hB hBw hrp
   go_wp2_with fail
   go_loopw [41] (fun x wr=>∃ (q:Nat) (ka:Option Addr) (kn2 kc:Nat),q<=fn/\x=U zd q/\BT n (w.heap.size+1+1) w1.heap.size [U zd (n:Int),O ga gn gc,O sa sn sc,O ya yn yc,O oa on oc,O va vn vc,O fa fn fc,O ba bn bc] (Ce gs n vs) (List.replicate q (Bu n)) (O la ln lc) (O ka kn2 kc) wr/\Below (w.heap.size+1+1) V0 wr) (fun x _=>fn - (intOf x).toNat)
   case atStart=>exact ⟨0,none,0,0,Nat.zero_le _,rfl,HL.o,HB.o⟩
   case round=>
    clear c0 c1 c2 c3 c4 c5 c6 c7 HL HB
    obtain ⟨q,ka,kn2,kc,hq,rfl,hL,hB⟩:=hrel
    have HL:=Aa hL
    have HBX:=Aa hB
    obtain ⟨d0,d1,d2,d3,d4,d5,d6,d7,d8,d9⟩:=B9 hL.row
    have KB1:=Aa (KB.o la ln lc ka kn2 kc wr.drew)
    clear hL hB
    by_cases hlt2:q < fn
    ·have hq3:(q:Int) < (fn:Int):=by omega
     go_wp2_with fail
     refine gS (fun Wz=>True) (trivial) fun hHeld=>?_
     refine kT 0 ?_
     refine kT 1 ?_
     refine kT 2 ?_
     refine kT 4 ?_
     refine rdB 3 5 rfl (fun K hK=>?_) rfl fun K hK=>?_
     ·go_simp
      refine xK hK trivial fun hHeld=>?_
      clear hK K
      refine rdA 5 rfl fun K hK=>?_
      go_simp
      refine xK hK trivial fun hHeld=>?_
      clear hK K
      refine rdA 6 rfl fun K hK=>?_
      go_simp
      refine (KB1.o).mono ?_
      rintro e W3 ⟨vj,rfl,hfr,hb3⟩
      have hT3:=CY hfr (C0 n)
      obtain ⟨a1,a2,a3,a4,a5,a6,hvj⟩:∃ a1 a2 a3 a4 a5 a6,vj=zh #[O a1 a2 a3,O a4 a5 a6]:=by
       obtain ⟨x,y,e,-⟩:=Ao hfr
       subst e
       obtain ⟨z1,z2,z3,z4,z5,z6,rfl,rfl⟩:=AN (Ao hfr)
       exact ⟨_,_,_,_,_,_,rfl⟩
      subst hvj
      have hb3':=Ac (bD wr) hb3
      have hL3:=HL.o.over h1 hb3'
      have hB3:=HBX.o.trans (hb3'.mono (HSZ.o _ HBX.o))
      have x9:=hL3.row 9 _ rfl
      have hbN:=bA W3 (ze #[O a1 a2 a3,O a4 a5 a6] 50)
      have hLN:=hL3.over h1 hbN
      have hN:=Ae.new [O a1 a2 a3,O a4 a5 a6] 50 W3
      obtain ⟨us,hous,helu⟩:=hLN.fs
      have hTN:=hT3.over h1 hbN
      have hBN:=hB3.trans (hbN.mono (HSZ.o _ hB3))
      have y9:=hLN.row 9 _ rfl
      have z9:=hLN.fz 9
      have hBW:(w.heap.size+1+1)<=(W3.alloc (ze #[O a1 a2 a3,O a4 a5 a6] 50)).heap.size:=HSZ.o _ hBN
      obtain ⟨v2,w2,hrun,hown2,hgr2,-,hat⟩:=run_append_own_at (P:=Tryz.prog) (w:=W3.alloc (ze #[O a1 a2 a3,O a4 a5 a6] 50)) (w.heap.size+1+1) 42 42 50 i0 (zh #[O none 0 0,O none 0 0]) 2 48 Tryz.underlying42 hi hz0 hz1 hz2 rfl (by decide) _ _ _ hous ⟨W3.heap.size,0,none⟩ 1 1 [O a1 a2 a3,O a4 a5 a6] rfl (fun jj u hu=>by rw [Addr.add_lit,Nat.zero_add];exact hN jj u hu) (by simp [Value.oneCell']) (by unfold maxLen;simp;omega) (by simp;omega) hBW
      obtain ⟨va2,vn2,vc2,rfl⟩:=Aj hown2
      have hfin:=BT.addF h1 rfl hLN hous helu hTN hown2 hgr2 hat
      have d2:=hgr2.cell y9 (fun hx=>hLN.ap2.2 hx.symm)
      have f2:w2.frozen? ⟨w1.heap.size,9,none⟩=false:=(World.frozen?_of_block (a:=⟨w1.heap.size,9,none⟩) (hgr2.block w1.heap.size hLN.lo.2 (fun hx=>hLN.ap2.2 hx.symm))).trans z9
      have HFIN:=Aa hfin
      have HBN:=Aa hBN
      clear hfin hown2 hgr2 hat hous helu hTN hN hL3 hB3 hb3 hb3' hfr hT3 hbN hLN hBN z9
      go_simp
      refine xK hK trivial fun hHeld=>?_
      clear hK K
      refine rdA 7 rfl fun K hK=>?_
      go_simp
      refine xK hK trivial fun hHeld=>?_
      clear hK K
      refine rdA 8 rfl fun K hK=>?_
      refine DY rfl _ _ _ rfl _ _ _ _ rfl rfl hrun ?_
      refine xK hK trivial fun hHeld=>?_
      clear hK K
      refine rdA 9 rfl fun K hK=>?_
      go_simp
      refine xK hK trivial fun hHeld=>?_
      clear hK K
      refine rdA 10 rfl fun K hK=>?_
      go_simp
      refine xK hK trivial fun hHeld=>?_
      clear hK K
      refine rdA 11 rfl fun K hK=>?_
      go_simp
      refine xK hK trivial fun hHeld=>?_
      clear hK K
      refine rdA 12 rfl fun K hK=>?_
      go_simp
      refine xK hK trivial fun hHeld=>?_
      clear hK K
      refine gE ?_
      go_wp2_with fail
      refine ⟨⟨q+1,va2,vn2,vc2,by omega,by go_num,by rw [List.replicate_succ'];exact HFIN.o.1,HBN.o.trans HFIN.o.2⟩,by simp [intOf];omega⟩
     ·go_simp
      refine xK hK trivial fun hHeld=>?_
      clear hK K
      refine rdB 3 6 rfl (fun K hK=>?_) rfl fun K hK=>?_
      ·go_simp
       refine xK hK trivial fun hHeld=>?_
       clear hK K
       refine rdA 6 rfl fun K hK=>?_
       go_simp
       refine (KB1.o).mono ?_
       rintro e W3 ⟨vj,rfl,hfr,hb3⟩
       have hT3:=CY hfr (C0 n)
       obtain ⟨a1,a2,a3,a4,a5,a6,hvj⟩:∃ a1 a2 a3 a4 a5 a6,vj=zh #[O a1 a2 a3,O a4 a5 a6]:=by
        obtain ⟨x,y,e,-⟩:=Ao hfr
        subst e
        obtain ⟨z1,z2,z3,z4,z5,z6,rfl,rfl⟩:=AN (Ao hfr)
        exact ⟨_,_,_,_,_,_,rfl⟩
       subst hvj
       have hb3':=Ac (bD wr) hb3
       have hL3:=HL.o.over h1 hb3'
       have hB3:=HBX.o.trans (hb3'.mono (HSZ.o _ HBX.o))
       have x9:=hL3.row 9 _ rfl
       have hbN:=bA W3 (ze #[O a1 a2 a3,O a4 a5 a6] 50)
       have hLN:=hL3.over h1 hbN
       have hN:=Ae.new [O a1 a2 a3,O a4 a5 a6] 50 W3
       obtain ⟨us,hous,helu⟩:=hLN.fs
       have hTN:=hT3.over h1 hbN
       have hBN:=hB3.trans (hbN.mono (HSZ.o _ hB3))
       have y9:=hLN.row 9 _ rfl
       have z9:=hLN.fz 9
       have hBW:(w.heap.size+1+1)<=(W3.alloc (ze #[O a1 a2 a3,O a4 a5 a6] 50)).heap.size:=HSZ.o _ hBN
       obtain ⟨v2,w2,hrun,hown2,hgr2,-,hat⟩:=run_append_own_at (P:=Tryz.prog) (w:=W3.alloc (ze #[O a1 a2 a3,O a4 a5 a6] 50)) (w.heap.size+1+1) 42 42 50 i0 (zh #[O none 0 0,O none 0 0]) 2 48 Tryz.underlying42 hi hz0 hz1 hz2 rfl (by decide) _ _ _ hous ⟨W3.heap.size,0,none⟩ 1 1 [O a1 a2 a3,O a4 a5 a6] rfl (fun jj u hu=>by rw [Addr.add_lit,Nat.zero_add];exact hN jj u hu) (by simp [Value.oneCell']) (by unfold maxLen;simp;omega) (by simp;omega) hBW
       obtain ⟨va2,vn2,vc2,rfl⟩:=Aj hown2
       have hfin:=BT.addF h1 rfl hLN hous helu hTN hown2 hgr2 hat
       have d2:=hgr2.cell y9 (fun hx=>hLN.ap2.2 hx.symm)
       have f2:w2.frozen? ⟨w1.heap.size,9,none⟩=false:=(World.frozen?_of_block (a:=⟨w1.heap.size,9,none⟩) (hgr2.block w1.heap.size hLN.lo.2 (fun hx=>hLN.ap2.2 hx.symm))).trans z9
       have HFIN:=Aa hfin
       have HBN:=Aa hBN
       clear hfin hown2 hgr2 hat hous helu hTN hN hL3 hB3 hb3 hb3' hfr hT3 hbN hLN hBN z9
       go_simp
       refine xK hK trivial fun hHeld=>?_
       clear hK K
       refine rdA 7 rfl fun K hK=>?_
       go_simp
       refine xK hK trivial fun hHeld=>?_
       clear hK K
       refine rdA 8 rfl fun K hK=>?_
       refine DY rfl _ _ _ rfl _ _ _ _ rfl rfl hrun ?_
       refine xK hK trivial fun hHeld=>?_
       clear hK K
       refine rdA 9 rfl fun K hK=>?_
       go_simp
       refine xK hK trivial fun hHeld=>?_
       clear hK K
       refine rdA 10 rfl fun K hK=>?_
       go_simp
       refine xK hK trivial fun hHeld=>?_
       clear hK K
       refine rdA 11 rfl fun K hK=>?_
       go_simp
       refine xK hK trivial fun hHeld=>?_
       clear hK K
       refine rdA 12 rfl fun K hK=>?_
       go_simp
       refine xK hK trivial fun hHeld=>?_
       clear hK K
       refine gE ?_
       go_wp2_with fail
       refine ⟨⟨q+1,va2,vn2,vc2,by omega,by go_num,by rw [List.replicate_succ'];exact HFIN.o.1,HBN.o.trans HFIN.o.2⟩,by simp [intOf];omega⟩
      ·go_simp
       refine (KB1.o).mono ?_
       rintro e W3 ⟨vj,rfl,hfr,hb3⟩
       have hT3:=CY hfr (C0 n)
       obtain ⟨a1,a2,a3,a4,a5,a6,hvj⟩:∃ a1 a2 a3 a4 a5 a6,vj=zh #[O a1 a2 a3,O a4 a5 a6]:=by
        obtain ⟨x,y,e,-⟩:=Ao hfr
        subst e
        obtain ⟨z1,z2,z3,z4,z5,z6,rfl,rfl⟩:=AN (Ao hfr)
        exact ⟨_,_,_,_,_,_,rfl⟩
       subst hvj
       have hb3':=Ac (bD wr) hb3
       have hL3:=HL.o.over h1 hb3'
       have hB3:=HBX.o.trans (hb3'.mono (HSZ.o _ HBX.o))
       have x9:=hL3.row 9 _ rfl
       have hbN:=bA W3 (ze #[O a1 a2 a3,O a4 a5 a6] 50)
       have hLN:=hL3.over h1 hbN
       have hN:=Ae.new [O a1 a2 a3,O a4 a5 a6] 50 W3
       obtain ⟨us,hous,helu⟩:=hLN.fs
       have hTN:=hT3.over h1 hbN
       have hBN:=hB3.trans (hbN.mono (HSZ.o _ hB3))
       have y9:=hLN.row 9 _ rfl
       have z9:=hLN.fz 9
       have hBW:(w.heap.size+1+1)<=(W3.alloc (ze #[O a1 a2 a3,O a4 a5 a6] 50)).heap.size:=HSZ.o _ hBN
       obtain ⟨v2,w2,hrun,hown2,hgr2,-,hat⟩:=run_append_own_at (P:=Tryz.prog) (w:=W3.alloc (ze #[O a1 a2 a3,O a4 a5 a6] 50)) (w.heap.size+1+1) 42 42 50 i0 (zh #[O none 0 0,O none 0 0]) 2 48 Tryz.underlying42 hi hz0 hz1 hz2 rfl (by decide) _ _ _ hous ⟨W3.heap.size,0,none⟩ 1 1 [O a1 a2 a3,O a4 a5 a6] rfl (fun jj u hu=>by rw [Addr.add_lit,Nat.zero_add];exact hN jj u hu) (by simp [Value.oneCell']) (by unfold maxLen;simp;omega) (by simp;omega) hBW
       obtain ⟨va2,vn2,vc2,rfl⟩:=Aj hown2
       have hfin:=BT.addF h1 rfl hLN hous helu hTN hown2 hgr2 hat
       have d2:=hgr2.cell y9 (fun hx=>hLN.ap2.2 hx.symm)
       have f2:w2.frozen? ⟨w1.heap.size,9,none⟩=false:=(World.frozen?_of_block (a:=⟨w1.heap.size,9,none⟩) (hgr2.block w1.heap.size hLN.lo.2 (fun hx=>hLN.ap2.2 hx.symm))).trans z9
       have HFIN:=Aa hfin
       have HBN:=Aa hBN
       clear hfin hown2 hgr2 hat hous helu hTN hN hL3 hB3 hb3 hb3' hfr hT3 hbN hLN hBN z9
       go_simp
       refine xK hK trivial fun hHeld=>?_
       clear hK K
       refine rdB 3 7 rfl (fun K hK=>?_) rfl fun K hK=>?_
       ·go_simp
        refine xK hK trivial fun hHeld=>?_
        clear hK K
        refine rdA 7 rfl fun K hK=>?_
        go_simp
        refine xK hK trivial fun hHeld=>?_
        clear hK K
        refine rdA 8 rfl fun K hK=>?_
        refine DY rfl _ _ _ rfl _ _ _ _ rfl rfl hrun ?_
        refine xK hK trivial fun hHeld=>?_
        clear hK K
        refine rdA 9 rfl fun K hK=>?_
        go_simp
        refine xK hK trivial fun hHeld=>?_
        clear hK K
        refine rdA 10 rfl fun K hK=>?_
        go_simp
        refine xK hK trivial fun hHeld=>?_
        clear hK K
        refine rdA 11 rfl fun K hK=>?_
        go_simp
        refine xK hK trivial fun hHeld=>?_
        clear hK K
        refine rdA 12 rfl fun K hK=>?_
        go_simp
        refine xK hK trivial fun hHeld=>?_
        clear hK K
        refine gE ?_
        go_wp2_with fail
        refine ⟨⟨q+1,va2,vn2,vc2,by omega,by go_num,by rw [List.replicate_succ'];exact HFIN.o.1,HBN.o.trans HFIN.o.2⟩,by simp [intOf];omega⟩
       ·go_simp
        refine xK hK trivial fun hHeld=>?_
        clear hK K
        refine rdA 3 rfl fun K hK=>?_
        go_simp
        refine xK hK trivial fun hHeld=>?_
        clear hK K
        refine rdA 8 rfl fun K hK=>?_
        refine DY rfl _ _ _ rfl _ _ _ _ rfl rfl hrun ?_
        refine xK hK trivial fun hHeld=>?_
        clear hK K
        refine rdA 9 rfl fun K hK=>?_
        go_simp
        refine xK hK trivial fun hHeld=>?_
        clear hK K
        refine rdA 10 rfl fun K hK=>?_
        go_simp
        refine xK hK trivial fun hHeld=>?_
        clear hK K
        refine rdA 11 rfl fun K hK=>?_
        go_simp
        refine xK hK trivial fun hHeld=>?_
        clear hK K
        refine rdA 12 rfl fun K hK=>?_
        go_simp
        refine xK hK trivial fun hHeld=>?_
        clear hK K
        refine gE ?_
        go_wp2_with fail
        refine ⟨⟨q+1,va2,vn2,vc2,by omega,by go_num,by rw [List.replicate_succ'];exact HFIN.o.1,HBN.o.trans HFIN.o.2⟩,by simp [intOf];omega⟩
    ·have hq2:fn=q:=by omega
     subst hq2
     have nbw:D5 wr (w.heap.size+1):=fun cur fr he=>NB1.o cur fr ((HBX.o.block (w.heap.size+1) (by omega)) ▸ he)
     have hzr:Ae [U zd 0,O none 0 0,O none 0 0,O none 0 0,O none 0 0,O none 0 0,O none 0 0,O none 0 0,O none 0 0,O none 0 0] wr (w.heap.size+1):=fun i u hu=>(HBX.o.cell (p:=⟨w.heap.size+1,i,none⟩) (by simp)).trans (ZR.o i u hu)
     have hzf:∀ j,wr.frozen? ⟨w.heap.size+1,j,none⟩=false:=fun j=>(HBX.o.frozen (p:=⟨w.heap.size+1,j,none⟩) (by simp)).trans (ZF.o j)
     obtain ⟨z0,z1,z2,z3,z4,z5,z6,z7,z8,z9⟩:=B9 hzr
     have f0:=hzf 0
     have f1:=hzf 1
     have f2:=hzf 2
     have f3:=hzf 3
     have f4:=hzf 4
     have f5:=hzf 5
     have f6:=hzf 6
     have f7:=hzf 7
     have f8:=hzf 8
     have f9:=hzf 9
     have HNW:=Aa nbw
     clear nbw hzr hzf
     go_wp2_with fail
     refine bodyPost_ret (v:=zh #[U zd (n:Int),O ga gn gc,O sa sn sc,O ya yn yc,O oa on oc,O va vn vc,O fa fn fc,O ba bn bc,O la ln lc,O ka kn2 kc]) (by simp [results,Tryz.results54,go_sem,z0,z1,z2,z3,z4,z5,z6,z7,z8,z9]) rfl ⟨la,ln,lc,ka,kn2,kc,rfl,?_,?_,HL.o.ap,?_⟩
     ·refine A0.low (B:=w.heap.size+1+1) ?_ (by omega)
      exact A0.setN h1 (by omega) [U zd (n:Int),O ga gn gc,O sa sn sc,O ya yn yc,O oa on oc,O va vn vc,O fa fn fc,O ba bn bc,O la ln lc,O ka kn2 kc] 0 wr HL.o.vs HNW.o
     ·refine A0.low (B:=w.heap.size+1+1) ?_ (by omega)
      exact A0.setN h1 (by omega) [U zd (n:Int),O ga gn gc,O sa sn sc,O ya yn yc,O oa on oc,O va vn vc,O fa fn fc,O ba bn bc,O la ln lc,O ka kn2 kc] 0 wr HL.o.fs HNW.o
     ·exact F2 (by omega) [U zd (n:Int),O ga gn gc,O sa sn sc,O ya yn yc,O oa on oc,O va vn vc,O fa fn fc,O ba bn bc,O la ln lc,O ka kn2 kc] 0 wr (HB0.o.trans (HBX.o.mono (by omega)))
end Go.Proofs.YtfffpjkcfnekaaaGreat.Ex
