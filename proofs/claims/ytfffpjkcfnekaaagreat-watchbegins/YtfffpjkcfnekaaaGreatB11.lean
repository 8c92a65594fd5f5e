/- Who runs any program, anew. -/
import Derived.Test.YtfffpjkcfnekaaaGreatB10
import Derived.Laws.EntriesVeiled
import Derived.Laws.OwnMore
set_option linter.unusedVariables false
set_option maxHeartbeats 8000000
set_option maxRecDepth 100000
namespace Go.Proofs.YtfffpjkcfnekaaaGreat.Ex
open Go.RowKit
open Go.Value renaming slice -> O, int -> U, bool -> zg, agg -> zh, pointer -> zi, tuple -> zk
open Go.IntKind renaming i64 -> zd
open Go.Obj renaming cells -> ze
open Go.Ending renaming returned -> zj
def CB (n:Nat):Array Value:=(List.replicate n (Value.int zd 0)).toArray
theorem Ph (n:Nat) (hn:n<=100) (w:World):(Instr.makeSlice 25 (U zd n) (U zd n)).run Tryz.prog w=.ok (O (some ⟨w.heap.size,0,none⟩) n n) (w.alloc (.cells (CB n) 3)):=by
 obtain ⟨i,hi,hz,h1,h2⟩:=info_parts Tryz.infoI
 have:=run_make (P:=Tryz.prog) w 25 3 i (U zd 0) Tryz.underlying25 hi hz zd zd (n:Int) (n:Int) (by omega) (by omega) (by rw [h2];omega) (by omega)
 rw [this,h1]
 simp only [Int.toNat_natCast,Nat.mul_one]
 have e:madeCells (Value.int zd 0).cells n=CB n:=by
  unfold CB
  apply Array.ext
  ·simp [madeCells]
  ·intro j h1 h2
   simp [madeCells,Value.cells,Nat.mod_one]
 rw [e]
def st0 (vn yn:Nat) (o:WSt):RSt:=⟨[],List.replicate vn 0,List.replicate yn 0,0,0,0,o⟩
theorem PW (vn yn F:Nat) (o:WSt):Bc vn yn F (st0 vn yn o):=by
 refine ⟨by simp [st0],by simp [st0],fun x hx=>?_,fun x hx=>?_,by simp [st0],by simp [st0]⟩
 ·have:=List.eq_of_mem_replicate hx
  subst this
  exact ⟨by omega,by omega⟩
 ·have:=List.eq_of_mem_replicate hx
  subst this
  simp [st0]
structure GH (B:Nat) (R:List Value) (br b1 b2 b3:Nat) (fl:List Int) (vn yn:Nat) (w:World):Prop where
 row:Ad (O none 0 0::O (some ⟨b1,0,none⟩) vn vn::O (some ⟨b2,0,none⟩) yn yn::U zd 0::U zd 0::U zd 0::(R++[U zd 0,.nilFunc])) w br
 vars:Ad (BW (List.replicate vn 0)) w b1
 taken:Ad (BW (List.replicate yn 0)) w b2
 first:Ad (BW fl) w b3
 z0:∀ j,w.frozen? ⟨br,j,none⟩=false
 z1:∀ j,w.frozen? ⟨b1,j,none⟩=false
 z2:∀ j,w.frozen? ⟨b2,j,none⟩=false
 apart:br≠b1/\br≠b2/\b1≠b2/\b3≠br/\b3≠b1/\b3≠b2
 lo:B<=br/\B<=b1/\B<=b2/\B<=b3
 hi:br < w.heap.size/\b1 < w.heap.size/\b2 < w.heap.size/\b3 < w.heap.size/\B<=w.heap.size
theorem GH.over {B:Nat} {R:List Value} {br b1 b2 b3:Nat} {fl:List Int} {vn yn:Nat} {w w':World} (h:GH B R br b1 b2 b3 fl vn yn w) (hb:Ov w w'):GH B R br b1 b2 b3 fl vn yn w':=by
 obtain ⟨hc,hf⟩:=Am hb
 have hs:=hb.size
 have hi:=h.hi
 exact ⟨h.row.over hb,h.vars.over hb,h.taken.over hb,h.first.over hb,fun j=>(hf _ _ hi.1).trans (h.z0 j),fun j=>(hf _ _ hi.2.1).trans (h.z1 j),fun j=>(hf _ _ hi.2.2.1).trans (h.z2 j),h.apart,h.lo,⟨by omega,by omega,by omega,by omega,by omega⟩⟩
theorem GH.new (B:Nat) (R:List Value) (w:World) (g:Nat) (fl) (vn yn:Nat) (hB:B<=w.heap.size) (hg:g < w.heap.size) (hgB:B<=g) (hr:Ad (BW fl) w g) :
  GH B R w.heap.size (w.heap.size+1) (w.heap.size+1+1) g fl vn yn (((w.alloc (.cells (O none 0 0::O (some ⟨w.heap.size+1,0,none⟩) vn vn::O (some ⟨w.heap.size+1+1,0,none⟩) yn yn::U zd 0::U zd 0::U zd 0::(R++[U zd 0,.nilFunc])).toArray 127)).alloc (.cells (CB vn) 3)).alloc (.cells (CB yn) 3)):=by
 have b1:=bA w (.cells (O none 0 0::O (some ⟨w.heap.size+1,0,none⟩) vn vn::O (some ⟨w.heap.size+1+1,0,none⟩) yn yn::U zd 0::U zd 0::U zd 0::(R++[U zd 0,.nilFunc])).toArray 127)
 have b2:=fun (W:World) (ob:Obj)=>bA W ob
 refine ⟨?_,?_,?_,((hr.over b1).over (b2 _ _)).over (b2 _ _),fun j=>by simp [go_sem],fun j=>by simp [go_sem],fun j=>by simp [go_sem],⟨by omega,by omega,by omega,by omega,by omega,by omega⟩,⟨hB,by omega,by omega,hgB⟩,⟨by simp;omega,by simp,by simp,by simp;omega,by simp;omega⟩⟩
 ·exact ((Ad.newA (O none 0 0::O (some ⟨w.heap.size+1,0,none⟩) vn vn::O (some ⟨w.heap.size+1+1,0,none⟩) yn yn::U zd 0::U zd 0::U zd 0::(R++[U zd 0,.nilFunc])).toArray 127 w).over (b2 _ (.cells (CB vn) 3))).over (b2 _ (.cells (CB yn) 3))
 ·have:=(Ad.newA (CB vn) 3 (w.alloc (.cells (O none 0 0::O (some ⟨w.heap.size+1,0,none⟩) vn vn::O (some ⟨w.heap.size+1+1,0,none⟩) yn yn::U zd 0::U zd 0::U zd 0::(R++[U zd 0,.nilFunc])).toArray 127))).over (b2 _ (.cells (CB yn) 3))
  simpa [CB,BW] using this
 ·have:=Ad.newA (CB yn) 3 ((w.alloc (.cells (O none 0 0::O (some ⟨w.heap.size+1,0,none⟩) vn vn::O (some ⟨w.heap.size+1+1,0,none⟩) yn yn::U zd 0::U zd 0::U zd 0::(R++[U zd 0,.nilFunc])).toArray 127)).alloc (.cells (CB vn) 3))
  simpa [CB,BW] using this
theorem GH.begin {B:Nat} {a0 a1 a2 a3 a4 a5 a6 a7 a8 a9 a10:Value} {br b1 b2 b3:Nat} {fl:List Int} {vn yn:Nat} {w:World} (h:GH B [a0,a1,a2,a3,a4,a5,a6,a7,a8,a9,a10] br b1 b2 b3 fl vn yn w) (I:BS) (o:WSt) (X:Nat->Prop) (hI:I.In (Yb br b1 b2 (O none 0 0)) o X w) (hlo:∀ k,X k->B<=k) (hx3:¬ X b3) (hok:I.ok 0 o) :
  RnG I B [a0,a1,a2,a3,a4,a5,a6,a7,a8,a9,a10] br b1 b2 b3 fl 0 (st0 vn yn o) ⟨O none 0 0,X⟩ (w.setCell ⟨br,18,none⟩ (.func (.func I.fn) I.fre.toArray I.cap.toArray))/\Fr br b1 b2 ⟨O none 0 0,X⟩ ⟨O none 0 0,X⟩ w (w.setCell ⟨br,18,none⟩ (.func (.func I.fn) I.fre.toArray I.cap.toArray)):=by
 obtain ⟨p1,p2,p3,p4,p5,p6⟩:=h.apart
 have g:=BM (w:=w) (r:=br) (j:=18) (u:=.func (.func I.fn) I.fre.toArray I.cap.toArray)
 have hn:∀ b,¬ X b->¬ (Ow.mk (O none 0 0) X).at b:=fun b hb hx=>by
  rcases hx with hx | hx
  ·simp [Value.ownBlock] at hx
  ·exact hb hx
 constructor
 ·refine ⟨?_,?_,?_,h.first.other p4,World.ownsRow_nil _ _ _ _,fun k=>A9.trans (h.z0 k),fun k=>A9.trans (h.z1 k),fun k=>A9.trans (h.z2 k),h.apart,⟨hn _ (fun q=>(I.lt hI _ q).2 (Or.inl rfl)),hn _ (fun q=>(I.lt hI _ q).2 (Or.inr (Or.inl rfl))),hn _ (fun q=>(I.lt hI _ q).2 (Or.inr (Or.inr (Or.inl rfl)))),hn _ hx3⟩,⟨h.lo.1,h.lo.2.1,h.lo.2.2.1⟩,by simpa [World.setCell] using h.hi,?_,hlo,hok⟩
  ·have:=h.row.set (j:=18) (v:=.func (.func I.fn) I.fre.toArray I.cap.toArray) (by simp)
   simpa [st0] using this
  ·have:=h.vars.other (j:=18) (v:=.func (.func I.fn) I.fre.toArray I.cap.toArray) (Ne.symm p1)
   simpa [st0] using this
  ·have:=h.taken.other (j:=18) (v:=.func (.func I.fn) I.fre.toArray I.cap.toArray) (Ne.symm p2)
   simpa [st0] using this
  ·exact I.kept hI g.os g.tape g.output g.size (fun k hk hy=>g.block k hk (fun q=>hy (Or.inl (Option.some.inj q)))) (fun k hk=>Or.inl hk) (fun k hk=>Nat.lt_of_lt_of_le (Km (World.ownsRow_nil w 0 0 0) h.hi.1 h.hi.2.1 h.hi.2.2.1 k hk) g.size)
 ·exact ⟨g.os,g.tape,g.output,g.size,fun k hk h0 _ _ _=>g.block k hk (by simpa using h0),fun k hk=>Or.inl hk⟩
def OI (K kf:Nat) (m:Int) (ga:Option Addr) (gn gc:Nat) (sa:Option Addr) (sn sc:Nat) (ya:Option Addr) (yn yc:Nat) (oa:Option Addr) (on oc:Nat) (va:Option Addr) (vn vc:Nat) (fa:Option Addr) (fn fc:Nat) (ba:Option Addr) (bn bc:Nat) (xa:Option Addr) (xn xc:Nat) (ins:List (List Int)) (fuel:Int) (gs:List (Int × Int)) (sp:List Int) (ls ms:List Lab) (vs:List (Bool × Lab)) (fs:List FnD) (l:List D) (w:World) (e:Ending) (w':World):Prop:=
 ∃ why:Int,OG why K kf m vn yn on sn gs sp ls ms vs fs l ins fuel/\Ov w w'/\((why≠0/\e=zj (zk #[zi none,U zd why]))\/(why=0/\∃ br b1 b2 b3 c3,e=zj (zk #[zi (some ⟨br,0,none⟩),U zd 0])/\GH w.heap.size [U zd m,O ga gn gc,O sa sn sc,O ya yn yc,O oa on oc,O va vn vc,O fa fn fc,O ba bn bc,O xa xn xc,U zd fuel,O (some ⟨b3,0,none⟩) (fs.length+1) c3] br b1 b2 b3 (Dc kf fs fs.length) vn yn w'))
theorem KH (K kf:Nat) (m:Int) (ga gn gc sa sn sc ya yn yc oa on oc va vn vc fa fn fc ba bn bc) (xa xn xc) (ins) (fuel:Int) (gs sp ls ms vs fs l) (w:World) (h:Br K kf m ga gn gc sa sn sc ya yn yc oa on oc va vn vc fa fn fc ba bn bc gs sp ls ms vs fs l w) (hx:Bi w (O xa xn xc) ins) :
  Calls Tryz.prog 61 #[zh #[U zd m,O ga gn gc,O sa sn sc,O ya yn yc,O oa on oc,O va vn vc,O fa fn fc,O ba bn bc],O xa xn xc,U zd fuel] w (OI K kf m ga gn gc sa sn sc ya yn yc oa on oc va vn vc fa fn fc ba bn bc xa xn xc ins fuel gs sp ls ms vs fs l w):=by
 have hbel:Ov w (w.alloc (ze #[U zd m,O ga gn gc,O sa sn sc,O ya yn yc,O oa on oc,O va vn vc,O fa fn fc,O ba bn bc] 31)):=bA w _
 have HP:=Aa (h.over hbel)
 have K1:=Aa (Hy K kf m ga gn gc sa sn sc ya yn yc oa on oc va vn vc fa fn fc ba bn bc xa xn xc ins fuel gs sp ls ms vs fs l _ HP.o (hx.over hbel))
 obtain ⟨c0,c1,c2,c3,c4,c5,c6,c7⟩:=rc8 (BC w [U zd m,O ga gn gc,O sa sn sc,O ya yn yc,O oa on oc,O va vn vc,O fa fn fc,O ba bn bc] 31)
 have hfl:fn=fs.length:=by obtain ⟨-,a,c,he,-⟩:=h.funcs;injection he
 have HFL:=Aa hfl
 clear h hx hfl
 go_enter Tryz.func61,Tryz.ntmps61
 go_wp2_with fail
 refine (K1.o).mono ?_
 rintro e w1 ⟨why,rfl,hok,hb1⟩
 obtain ⟨d0,d1,d2,d3,d4,d5,d6,d7⟩:=co8 hb1 c0 c1 c2 c3 c4 c5 c6 c7
 have HP1:=Aa (HP.o.over hb1)
 have hB1:=hbel.trans (hb1.mono hbel.size)
 have HB1:=Aa hB1
 have HOK:=Aa hok
 clear K1 c0 c1 c2 c3 c4 c5 c6 c7 hb1 HP hok hbel
 by_cases hw:why=0
 rotate_left
 ·have hwb:(why == 0)=false:=by simpa using hw
  clear hB1
  go_wp2_with fail
  go_ret2
  exact ⟨why,HOK.o,HB1.o,Or.inl ⟨hw,rfl⟩⟩
 subst hw
 have hok:=HOK.o.1 rfl
 have hpk:=hok.prog.ok
 have hcnt:=hpk.many
 have hv16:=hpk.vars
 have hy5:=hpk.ins
 have KF:=Aa (JN K kf m ga gn gc sa sn sc ya yn yc oa on oc va vn vc fa fn fc ba bn bc fs w1.drew (HP1.o.funcs.over (below_drewN (Below.refl _ _) 1)) (by omega) (by rw [HFL.o];exact hpk.funcs))
 have mk1:=Ph vn (by omega)
 have mk2:=Ph yn (by omega)
 have hbel1:=hB1.drew
 clear hok hpk hcnt hv16 hy5 hB1
 go_wp2_with fail
 go_region_held3 (fun W=>W.cell? ⟨w.heap.size,0,none⟩=some (U zd m)/\W.cell? ⟨w.heap.size,1,none⟩=some (O ga gn gc)/\W.cell? ⟨w.heap.size,2,none⟩=some (O sa sn sc)/\W.cell? ⟨w.heap.size,3,none⟩=some (O ya yn yc)/\W.cell? ⟨w.heap.size,4,none⟩=some (O oa on oc)/\W.cell? ⟨w.heap.size,5,none⟩=some (O va vn vc)/\W.cell? ⟨w.heap.size,6,none⟩=some (O fa fn fc)/\W.cell? ⟨w.heap.size,7,none⟩=some (O ba bn bc)/\Ov w W) (first | assumption | exact ⟨d0,d1,d2,d3,d4,d5,d6,d7,hbel1⟩ | exact Nc (by assumption) hbp | exact Nc (by assumption) (bA _ _) | fail) (first | (go_at_call 118;refine (KF.o).mono ?_;rintro e wp ⟨g,cap,rfl,hg,hgl,hgc,hbp⟩))
 obtain ⟨e3,e5⟩:=co2 hbp d3 d5
 have hlt:=bL e3
 have hne:w.heap.size≠wp.heap.size:=Nat.ne_of_lt hlt
 have hBp:=hbel1.trans (hbp.mono hbel1.size)
 have HR:=Aa (GH.new w.heap.size [U zd m,O ga gn gc,O sa sn sc,O ya yn yc,O oa on oc,O va vn vc,O fa fn fc,O ba bn bc,O xa xn xc,U zd fuel,O (some ⟨g,0,none⟩) (fs.length+1) cap] wp g (Dc kf fs fs.length) vn yn hBp.size hgl (Nat.le_trans hbel1.size hg) hgc)
 have HBP:=Aa hBp
 clear d0 d1 d2 d3 d4 d5 d6 d7 hbp hbel1 hgc hBp KF
 go_wp2_with fail
 go_ret2
 have hs:=HBP.o.size
 refine ⟨0,by simpa using HOK.o,?_,Or.inr ⟨rfl,wp.heap.size,wp.heap.size+1,wp.heap.size+1+1,g,cap,rfl,?_⟩⟩
 ·exact (((HBP.o).alloc (by omega) _).alloc (by simp;omega) _).alloc (by simp;omega) _
 ·exact HR.o
def JO (r:Bool × RSt):RSt:=if r.1=true then { r.2 with en:=1 } else r.2
def CP (K kf:Nat) (fs:List FnD) (F:Nat) (ins:List (List Int)) (ob:Ob) (l:List D) (vn yn:Nat) (o:WSt):RSt:=JO (rn K kf fs F ins ob 6001 0 kf l (AV kf fs:Nat) 0 (st0 vn yn o))
theorem Oq (kf:Nat) (fs):(Dc kf fs fs.length)[fs.length]? = some ((AV kf fs:Nat):Int):=by
 rw [Fl,List.take_length]
theorem doR (I:BS) (K kf:Nat) (m:Int) (ga gn gc sa sn sc ya yn yc oa on oc va vn vc fa fn fc) (ba bn bc) (xa xn xc) (F fln c3:Nat) (br b1 b2 b3:Nat) (fl fs ins l) (o:WSt) (X0:Nat->Prop) (w0 w:World) (X:L5 I K kf m ga gn gc sa sn sc ya yn yc oa on oc va vn vc fa fn fc ba bn bc xa xn xc F fln c3 br b1 b2 b3 fl fs ins w0) (hl:Bd w0 K kf (O ba bn bc) l) (hok:∀ s∈l,okS K vn yn on (fs.length:Int) fs kf s) (hcn:AV kf fs+AC kf l<=50)
  (h:GH w0.heap.size [U zd m,O ga gn gc,O sa sn sc,O ya yn yc,O oa on oc,O va vn vc,O fa fn fc,O ba bn bc,O xa xn xc,U zd (F:Int),O (some ⟨b3,0,none⟩) fln c3] br b1 b2 b3 fl vn yn w) (hB0:Ov w0 w) (hI:I.In (Yb br b1 b2 (O none 0 0)) o X0 w) (hlo:∀ k,X0 k->w0.heap.size<=k) (hx3:¬ X0 b3) (hok0:I.ok 0 o) :
  Calls Tryz.prog 63 #[zi (some ⟨br,0,none⟩),.func (.func I.fn) I.fre.toArray I.cap.toArray] w fun e w'=>e=zj (zk #[])/\∃ ev,RnG I w0.heap.size [U zd m,O ga gn gc,O sa sn sc,O ya yn yc,O oa on oc,O va vn vc,O fa fn fc,O ba bn bc,O xa xn xc,U zd (F:Int),O (some ⟨b3,0,none⟩) fln c3] br b1 b2 b3 fl 0 (CP K kf fs F ins I.ob l vn yn o) ev w'/\Fr br b1 b2 ⟨O none 0 0,X0⟩ ev w w'/\Bc vn yn F (CP K kf fs F ins I.ob l vn yn o):=by
 obtain ⟨h2,hf2⟩:=h.begin I o X0 hI hlo hx3 hok0
 have hF:=X.fuel
 have hB2:Ov w0 (w.setCell ⟨br,18,none⟩ (.func (.func I.fn) I.fre.toArray I.cap.toArray)):=hB0.trans ⟨hf2.os,hf2.tape,hf2.output,hf2.size,fun k hk=>hf2.block k (Nat.lt_of_lt_of_le hk hB0.size) (by have:=h.lo;omega) (by have:=h.lo;omega) (by have:=h.lo;omega) (fun hx=>by have:=(h2.ev' k hx).1;omega)⟩
 have hfl:fl=Dc kf fs fs.length:=X.flE
 have hat:fl[fs.length]? = some ((AV kf fs:Nat):Int):=by rw [hfl];exact Oq kf fs
 have KS:=Aa (La I K kf m ga gn gc sa sn sc ya yn yc oa on oc va vn vc fa fn fc ba bn bc xa xn xc F fln c3 br b1 b2 b3 fl fs ins w0 X 6001 kf _ l (fs.length:Int) (AV kf fs:Nat) 0 (st0 vn yn o) _ (w.setCell ⟨br,18,none⟩ (.func (.func I.fn) I.fre.toArray I.cap.toArray)).drew hl (Int.le_refl _) hok (by omega) (by omega) (by omega) hB2.drew (h2.drewN 1) (PW vn yn F o) (by show 3*(F - 0)+1<=6001;omega))
 have c18:=h.row 18 _ rfl
 have z18:=h.z0 18
 have l0:=h.hi.1
 have a12:=h2.row 12 _ rfl
 have a13:=h2.row 13 _ rfl
 have a16:=h2.row 16 _ rfl
 have ab3:CE (w.setCell ⟨br,18,none⟩ (.func (.func I.fn) I.fre.toArray I.cap.toArray)) b3 fs.length (U zd ((AV kf fs:Nat):Int)):=h2.first fs.length _ (by simp [hat])
 have hfn:=X.fnE
 subst hfn
 have hfln:=X.flN
 have hfi:(fs.length:Int) < (fln:Int):=by omega
 have HF0:=Aa hf2
 have hrun:CP K kf fs F ins I.ob l vn yn o=JO (rn K kf fs F ins I.ob 6001 0 kf l (AV kf fs:Nat) 0 (st0 vn yn o)):=rfl
 rw [hrun]
 obtain ⟨T,hT⟩:=nm (rn K kf fs F ins I.ob 6001 0 kf l (AV kf fs:Nat) 0 (st0 vn yn o))
 rw [<-hT] at KS ⊢
 have HK:Hx (∀ W st ev,RnG I w0.heap.size [U zd m,O ga gn gc,O sa sn sc,O ya yn yc,O oa on oc,O va vn vc,O fa fs.length fc,O ba bn bc,O xa xn xc,U zd (F:Int),O (some ⟨b3,0,none⟩) fln c3] br b1 b2 b3 fl 0 st ev W->(CE W br 12 (O fa fs.length fc)/\CE W br 13 (O ba bn bc)/\CE W br 16 (O (some ⟨b3,0,none⟩) fln c3)/\CE W b3 fs.length (U zd ((AV kf fs:Nat):Int)))):=fun W st ev hr=>⟨hr.row 12 _ rfl,hr.row 13 _ rfl,hr.row 16 _ rfl,hr.first fs.length _ (by simp [hat])⟩
 obtain ⟨C,hC⟩:∃ C:Int,C=((AV kf fs:Nat):Int):=⟨_,rfl⟩
 rw [<-hC] at KS HK ab3
 obtain ⟨fnn,hfnn⟩:=nm fs.length
 rw [<-hfnn] at KS HK ab3 a12 hfi ⊢
 clear h2 hf2 hB2 hfl hat hT hC hl hok hcn hfln X h hfnn hrun hI hlo hx3 hok0
 obtain ⟨tb,ts⟩:=T
 cases tb with
 | false=>
  go_enter Tryz.func63,Tryz.ntmps63
  go_wp2_with fail
  go_region_held3 (fun W=>W.cell? ⟨br,12,none⟩=some (O fa fnn fc)/\W.cell? ⟨br,13,none⟩=some (O ba bn bc)/\W.cell? ⟨br,16,none⟩=some (O (some ⟨b3,0,none⟩) fln c3)/\W.cell? ⟨b3,fnn,none⟩=some (U zd C)) (first | assumption | exact ⟨a12,a13,a16,ab3⟩ | exact HK.o _ _ _ hr2 | fail) (first | (go_at_call 119;refine (KS.o).mono ?_;rintro e wp ⟨he,⟨ev2,hr2,hf2⟩,hno2⟩;dsimp only at he;subst he))
  have hr2':RnG I w0.heap.size [U zd m,O ga gn gc,O sa sn sc,O ya yn yc,O oa on oc,O va vn vc,O fa fnn fc,O ba bn bc,O xa xn xc,U zd (F:Int),O (some ⟨b3,0,none⟩) fln c3] br b1 b2 b3 fl 0 ts ev2 wp:=hr2
  have d4:=hr2'.row 4 _ rfl
  have y4:=hr2'.z0 4
  have y0:=hr2'.hi.1
  have HN:=Aa (show Bc vn yn F ts from hno2)
  have HF2:=Aa ((HF0.o.over (below_drewN (Below.refl _ _) 1)).trans hf2)
  have HR2:=Aa hr2'
  clear hr2 hr2' hf2 hno2 KS HK a12 a13 a16 ab3
  go_wp2_with fail
  go_end0
  exact ⟨rfl,ev2,HR2.o,HF2.o,HN.o⟩
 | true=>
  go_enter Tryz.func63,Tryz.ntmps63
  go_wp2_with fail
  go_region_held3 (fun W=>W.cell? ⟨br,12,none⟩=some (O fa fnn fc)/\W.cell? ⟨br,13,none⟩=some (O ba bn bc)/\W.cell? ⟨br,16,none⟩=some (O (some ⟨b3,0,none⟩) fln c3)/\W.cell? ⟨b3,fnn,none⟩=some (U zd C)) (first | assumption | exact ⟨a12,a13,a16,ab3⟩ | exact HK.o _ _ _ hr2 | fail) (first | (go_at_call 119;refine (KS.o).mono ?_;rintro e wp ⟨he,⟨ev2,hr2,hf2⟩,hno2⟩;dsimp only at he;subst he))
  have hr2':RnG I w0.heap.size [U zd m,O ga gn gc,O sa sn sc,O ya yn yc,O oa on oc,O va vn vc,O fa fnn fc,O ba bn bc,O xa xn xc,U zd (F:Int),O (some ⟨b3,0,none⟩) fln c3] br b1 b2 b3 fl 0 ts ev2 wp:=hr2
  have d4:=hr2'.row 4 _ rfl
  have y4:=hr2'.z0 4
  have y0:=hr2'.hi.1
  have HN:=Aa (show Bc vn yn F ts from hno2)
  have HF2:=Aa ((HF0.o.over (below_drewN (Below.refl _ _) 1)).trans hf2)
  have HR2:=Aa hr2'
  clear hr2 hr2' hf2 hno2 KS HK a12 a13 a16 ab3
  go_wp2_with fail
  go_end0
  exact ⟨rfl,ev2,HR2.o.setEnd 1,HF2.o.trans (DA HR2.o _ _),⟨HN.o.vl,HN.o.tl,HN.o.i32,HN.o.tk,HN.o.el,HN.o.sb⟩⟩
def RSt.as (st:RSt) (o:WSt) (en sp:Int):RSt:={ st with o:=o,en:=en,sp:=sp }
def Sim (st st':RSt):Prop:=∃ o en sp,st'=st.as o en sp
theorem Sim.step {st st':RSt} (h:Sim st st'):Sim st.step st'.step:=by
 obtain ⟨o,en,sp,rfl⟩:=h
 exact ⟨o,en,sp,rfl⟩
theorem Sim.setv {st st':RSt} (h:Sim st st') (v x:Int):Sim (st.setv v x) (st'.setv v x):=by
 obtain ⟨o,en,sp,rfl⟩:=h
 exact ⟨o,en,sp,rfl⟩
theorem Sim.args {st st':RSt} (h:Sim st st') (K:Nat) (fs d):Sim (st.args K fs d) (st'.args K fs d):=by
 obtain ⟨o,en,sp,rfl⟩:=h
 exact ⟨o,en,sp,rfl⟩
theorem Sim.o {st st':RSt} (h:Sim st st'):Sim st.out st'.out:=by
 obtain ⟨o,en,sp,rfl⟩:=h
 exact ⟨o,2,sp,rfl⟩
theorem Sim.one {st st':RSt} (h:Sim st st') (K:Nat) (ins d) (a:Int):Sim (Da K ins d a st) (Da K ins d a st'):=by
 obtain ⟨o,en,sp,rfl⟩:=h
 refine ⟨o,en,sp,?_⟩
 unfold Da
 split
 ·rfl
 ·split
  ·rfl
  ·split
   ·rfl
   ·split
    ·rfl
    ·split
     ·rfl
     ·rfl
theorem Sim.vars {st st':RSt} (h:Sim st st'):st'.vars=st.vars:=by
 obtain ⟨o,en,sp,rfl⟩:=h
 rfl
theorem Sim.steps {st st':RSt} (h:Sim st st'):st'.steps=st.steps:=by
 obtain ⟨o,en,sp,rfl⟩:=h
 rfl
def Beg (a b:Bool × RSt):Prop:=
 (a.1=true/\b.1=true/\Sim a.2 b.2)\/(a.1=false/\a.2.en=2/\b.1=false/\b.2.en=2/\Sim a.2 b.2)\/(a.1=false/\a.2.en=3/\a.2.ev <+: b.2.ev/\a.2.steps<=b.2.steps)
theorem LO {a b:Bool × RSt} {f f':RSt->Bool × RSt} (h:Beg a b) (hf:a.1=true->Sim a.2 b.2->Beg (f a.2) (f' b.2)) (hg:∀ st',Gr st' (f' st').2):Beg (A2 a f) (A2 b f'):=by
 rcases h with ⟨h1,h2,h3⟩ | ⟨h1,h2,h3,h4,h5⟩ | ⟨h1,h2,h3,h4⟩
 ·unfold A2
  rw [if_pos h1,if_pos h2]
  exact hf h1 h3
 ·have ea:A2 a f=a:=by unfold A2;rw [if_neg (by simp [h1])]
  have eb:A2 b f'=b:=by unfold A2;rw [if_neg (by simp [h3])]
  rw [ea,eb]
  exact Or.inr (Or.inl ⟨h1,h2,h3,h4,h5⟩)
 ·have ea:A2 a f=a:=by unfold A2;rw [if_neg (by simp [h1])]
  rw [ea]
  refine Or.inr (Or.inr ⟨h1,h2,?_,?_⟩)
  ·unfold A2
   split
   ·exact h3.trans (hg _).ev
   ·exact h3
  ·unfold A2
   split
   ·exact Nat.le_trans h4 (hg _).steps
   ·exact h4
theorem F5 (ob:Ob) (kind:Nat) (a:Int) (dp:Nat) (d) {st st':RSt} (h:Sim st st'):Beg (Bm ob kind a dp d st) (Bm BJ kind a dp d st'):=by
 have e:Bm BJ kind a dp d st'=(true,st'.held st'.o):=by
  unfold Bm BJ
  rfl
 rw [e]
 obtain ⟨o,en,sp,rfl⟩:=h
 unfold Bm
 split
 ·exact Or.inl ⟨rfl,rfl,o,en,sp,rfl⟩
 ·exact Or.inr (Or.inr ⟨rfl,rfl,List.prefix_rfl,Nat.le_refl _⟩)
theorem Lj (K kf:Nat) (fs) (F:Nat) (ins) (ob:Ob):∀ (g m k:Nat) (l:List D) (a:Int) (dp:Nat) (st st':RSt),Sim st st'->st.steps<=F->3*(F - st.steps)+CO m<=g ->
  (rn K kf fs F ins ob g m k l a dp st).2.steps<=F/\Beg (rn K kf fs F ins ob g m k l a dp st) (rn K kf fs F ins BJ g m k l a dp st'):=by
 intro g
 induction g with
 | zero=>intro m k l a dp st st' _ _ h;exfalso;match m,h with
  | 0,h=>simp [CO] at h
  | 1,h=>simp [CO] at h
  | m+2,h=>simp [CO] at h
 | succ g ih=>
  intro m k l a dp st st' hS hs h
  have same:∀ {u u':RSt},Sim u u'->u.steps<=F->((true,u):Bool × RSt).2.steps<=F/\Beg (true,u) (true,u'):=fun hu hl=>⟨hl,Or.inl ⟨rfl,rfl,hu⟩⟩
  have cont:∀ {x y:Bool × RSt} {f f':RSt->Bool × RSt},x.2.steps<=F->Beg x y->(x.1=true->x.2.steps<=F->Sim x.2 y.2->(f x.2).2.steps<=F/\Beg (f x.2) (f' y.2))->(∀ st',Gr st' (f' st').2)->(A2 x f).2.steps<=F/\Beg (A2 x f) (A2 y f'):=fun {x y f f'} hx hb hf hg=>by
   refine ⟨?_,LO hb (fun h1 h2=>(hf h1 hx h2).2) hg⟩
   unfold A2
   split
   ·rename_i h1
    rcases hb with ⟨-,-,h3⟩ | ⟨h3,-⟩ | ⟨h3,-⟩
    ·exact (hf h1 hx h3).1
    ·rw [h1] at h3;cases h3
    ·rw [h1] at h3;cases h3
   ·exact hx
  match m,l with
  | 0,[]=>exact same hS hs
  | 0,d::r=>
   simp only [CO] at h
   simp only [rn]
   rw [hS.steps]
   by_cases h0:st.steps=F
   ·rw [if_pos h0,if_pos h0]
    exact ⟨hs,Or.inr (Or.inl ⟨rfl,rfl,rfl,rfl,hS.o⟩)⟩
   ·rw [if_neg h0,if_neg h0]
    have hst:st.step.steps=st.steps+1:=rfl
    have hp:=CW ob 1 a dp d st.step
    rw [hst] at hp
    refine cont (by rw [hp];omega) (F5 ob 1 a dp d hS.step) (fun h1 h2 h3=>?_) (fun st1=>Cx (EQ K kf fs F ins BJ _ _ _ _ _ _ _) (fun st'=>EQ K kf fs F ins BJ _ _ _ _ _ _ _))
    have hi:=ih 1 k [d] a dp _ _ h3 h2 (by rw [hp];simp only [CO];omega)
    refine cont hi.1 hi.2 (fun h4 h5 h6=>?_) (fun st'=>EQ K kf fs F ins BJ _ _ _ _ _ _ _)
    have hg:=(EQ K kf fs F ins ob g 1 k [d] a dp (Bm ob 1 a dp d st.step).2).steps
    rw [hp] at hg
    exact ih 0 k r _ dp _ _ h6 h5 (by simp only [CO];omega)
  | 1,[]=>exact same hS hs
  | 1,d::r=>
   simp only [CO] at h
   simp only [rn]
   rw [hS.vars]
   split
   ·have hi:=ih 0 kf (Cv fs (Ae d)).body (AV kf (fs.take (Ae d).toNat)) dp _ _ (hS.args K fs d) hs (by show 3*(F - st.steps)+CO 0<=g;simp only [CO];omega)
    refine cont hi.1 hi.2 (fun h1 h2 h3=>?_) (fun st1=>Cx (Gr.pass _ _ _ _ _ _) (fun st'=>Gr.setv _ _ _))
    have hp:=CW ob 3 a dp d (rn K kf fs F ins ob g 0 kf (Cv fs (Ae d)).body (AV kf (fs.take (Ae d).toNat)) dp (st.args K fs d)).2
    refine cont (by rw [hp];exact h2) (F5 ob 3 a dp d h3) (fun h4 h5 h6=>?_) (fun st'=>Gr.setv _ _ _)
    refine same ?_ h5
    rw [h6.vars]
    exact h6.setv _ _
   ·split
    ·split
     ·exact ih _ _ _ _ _ _ _ hS hs (by simp only [CO];omega)
     ·exact ih _ _ _ _ _ _ _ hS hs (by simp only [CO];omega)
    ·split
     ·exact ih _ _ _ _ _ _ _ hS hs (by simp only [CO];omega)
     ·refine same (hS.one K ins d a) ?_
      have:(Da K ins d a st).steps=st.steps:=by
       unfold Da
       split
       ·rfl
       ·split
        ·rfl
        ·split
         ·rfl
         ·split
          ·rfl
          ·split <;> rfl
      rw [this];exact hs
  | m+2,[]=>exact same hS hs
  | m+2,d::r=>
   simp only [CO] at h
   simp only [rn]
   rw [hS.vars]
   split
   ·exact same hS hs
   ·have hi:=ih 0 (k - 1) (Ai d) (a+1) (dp+1) _ _ hS hs (by simp only [CO];omega)
    have hg:=(EQ K kf fs F ins ob g 0 (k - 1) (Ai d) (a+1) (dp+1) st).steps
    refine cont hi.1 hi.2 (fun h1 h2 h3=>?_) (fun st'=>?_)
    ·generalize (rn K kf fs F ins ob g 0 (k - 1) (Ai d) (a+1) (dp+1) st).2=s2 at h2 h3 hg ⊢
     generalize (rn K kf fs F ins BJ g 0 (k - 1) (Ai d) (a+1) (dp+1) st').2=s2' at h3 ⊢
     rw [h3.steps]
     by_cases h0:s2.steps=F
     ·rw [if_pos h0,if_pos h0]
      exact ⟨h2,Or.inr (Or.inl ⟨rfl,rfl,rfl,rfl,h3.o⟩)⟩
     ·rw [if_neg h0,if_neg h0]
      have hst:s2.step.steps=s2.steps+1:=rfl
      have hp:=CW ob 2 a dp d s2.step
      rw [hst] at hp
      refine cont (by rw [hp];omega) (F5 ob 2 a dp d h3.step) (fun h4 h5 h6=>?_) (fun st1=>EQ K kf fs F ins BJ _ _ _ _ _ _ _)
      exact ih 2 k [d] a dp _ _ h6 h5 (by rw [hp];simp only [CO];omega)
    ·split
     ·exact Gr.out _
     ·exact Cx ((Gr.step st').trans (Gr.pass _ _ _ _ _ _)) (fun st1=>EQ K kf fs F ins BJ _ _ _ _ _ _ _)
def LX (st:RSt) (r:Bool × RSt):Prop:=r.2.sp=st.sp\/(r.1=false/\r.2.en=3)
theorem Dl {st:RSt} {r:Bool × RSt} {f:RSt->Bool × RSt} (h:LX st r) (hf:∀ u,LX u (f u)):LX st (A2 r f):=by
 unfold A2
 split
 ·rename_i h1
  rcases h with h | ⟨h,-⟩
  ·rcases hf r.2 with h2 | h2
   ·exact Or.inl (h2.trans h)
   ·exact Or.inr h2
  ·rw [h1] at h;cases h
 ·exact h
theorem H3 (ob:Ob) (kind:Nat) (a:Int) (dp:Nat) (d) (st:RSt):LX st (Bm ob kind a dp d st):=by
 unfold Bm
 split
 ·exact Or.inl rfl
 ·exact Or.inr ⟨rfl,rfl⟩
theorem Qb (K:Nat) (ins d) (a:Int) (st:RSt):(Da K ins d a st).sp=st.sp:=by
 unfold Da
 split
 ·rfl
 ·split
  ·rfl
  ·split
   ·rfl
   ·split
    ·rfl
    ·split <;> rfl
theorem Pf (K kf:Nat) (fs) (F:Nat) (ins) (ob:Ob):∀ (g m k:Nat) (l:List D) (a:Int) (dp:Nat) (st:RSt),LX st (rn K kf fs F ins ob g m k l a dp st):=by
 intro g
 induction g with
 | zero=>intro m k l a dp st;exact Or.inl rfl
 | succ g ih=>
  intro m k l a dp st
  match m,l with
  | 0,[]=>exact Or.inl rfl
  | 0,d::r=>
   simp only [rn]
   split
   ·exact Or.inl rfl
   ·refine Dl (st:=st) (H3 ob 1 a dp d st.step) (fun u=>Dl (ih _ _ _ _ _ _) (fun u'=>ih _ _ _ _ _ _))
  | 1,[]=>exact Or.inl rfl
  | 1,d::r=>
   simp only [rn]
   split
   ·refine Dl (st:=st) (ih _ _ _ _ _ (st.args K fs d)) (fun u=>Dl (H3 _ _ _ _ _ _) (fun u'=>Or.inl rfl))
   ·split
    ·split
     ·exact ih _ _ _ _ _ _
     ·exact ih _ _ _ _ _ _
    ·split
     ·exact ih _ _ _ _ _ _
     ·exact Or.inl (Qb K ins d a st)
  | m+2,[]=>exact Or.inl rfl
  | m+2,d::r=>
   simp only [rn]
   split
   ·exact Or.inl rfl
   ·refine Dl (ih _ _ _ _ _ _) (fun u=>?_)
    split
    ·exact Or.inl rfl
    ·exact Dl (st:=u) (H3 ob 2 a dp d u.step) (fun u'=>ih _ _ _ _ _ _)
theorem IG (K kf:Nat) (fs) (F:Nat) (ins) (ob:Ob) (l) (vn yn:Nat) (o o':WSt) (hF:F<=2000) :
  ((CP K kf fs F ins ob l vn yn o).en≠3->∃ u,CP K kf fs F ins BJ l vn yn o'={ CP K kf fs F ins ob l vn yn o with o:=u })/\(CP K kf fs F ins ob l vn yn o).ev <+: (CP K kf fs F ins BJ l vn yn o').ev/\(CP K kf fs F ins ob l vn yn o).steps<=(CP K kf fs F ins BJ l vn yn o').steps:=by
 have hb:=(Lj K kf fs F ins ob 6001 0 kf l (AV kf fs:Nat) 0 (st0 vn yn o) (st0 vn yn o') ⟨o',0,0,rfl⟩ (Nat.zero_le _) (by show 3*(F - 0)+1<=6001;omega)).2
 have s1:=Pf K kf fs F ins ob 6001 0 kf l (AV kf fs:Nat) 0 (st0 vn yn o)
 have s2:=Pf K kf fs F ins BJ 6001 0 kf l (AV kf fs:Nat) 0 (st0 vn yn o')
 unfold CP
 generalize rn K kf fs F ins ob 6001 0 kf l (AV kf fs:Nat) 0 (st0 vn yn o)=A at hb s1 ⊢
 generalize rn K kf fs F ins BJ 6001 0 kf l (AV kf fs:Nat) 0 (st0 vn yn o')=C at hb s2 ⊢
 obtain ⟨a1,a2⟩:=A
 obtain ⟨c1,c2⟩:=C
 have z1:(st0 vn yn o).sp=0:=rfl
 have z2:(st0 vn yn o').sp=0:=rfl
 unfold LX at s1 s2
 rw [z1] at s1
 rw [z2] at s2
 dsimp only at s1 s2 hb
 rcases hb with ⟨h1,h2,u,en,sp,h3⟩ | ⟨h1,h2,h3,h4,u,en,sp,h5⟩ | ⟨h1,h2,h3,h4⟩
 ·dsimp only at h1 h2 h3
  subst h1 h2 h3
  have p1:a2.sp=0:=by
   rcases s1 with s | ⟨s,-⟩
   ·exact s
   ·cases s
  have p2:sp=0:=by
   rcases s2 with s | ⟨s,-⟩
   ·exact s
   ·cases s
  subst p2
  refine ⟨fun _=>⟨u,?_⟩,List.prefix_rfl,Nat.le_refl _⟩
  unfold JO
  simp only [if_true]
  unfold RSt.as
  rw [p1]
 ·dsimp only at h1 h2 h3 h4 h5
  subst h1 h3 h5
  have h4':en=2:=h4
  have p1:a2.sp=0:=by
   rcases s1 with s | ⟨-,s⟩
   ·exact s
   ·rw [h2] at s;cases s
  have p2:sp=0:=by
   rcases s2 with s | ⟨-,s⟩
   ·exact s
   ·have s':en=3:=s
    omega
  subst p2 h4'
  refine ⟨fun _=>⟨u,?_⟩,List.prefix_rfl,Nat.le_refl _⟩
  unfold JO
  simp only [Bool.false_eq_true,if_false]
  unfold RSt.as
  rw [p1,h2]
 ·dsimp only at h1 h2 h3 h4
  subst h1
  refine ⟨fun h=>absurd h2 (by simpa [JO] using h),?_,?_⟩
  ·unfold JO
   simp only [Bool.false_eq_true,if_false]
   split
   ·exact h3
   ·exact h3
  ·unfold JO
   simp only [Bool.false_eq_true,if_false]
   split
   ·exact h4
   ·exact h4
structure WK where
 n:Nat
 K:Nat
 ins:List Lev
 outs:List Lev
 known:List Bool
 bound:List Lev
 fs:List FnD
 fl:List (Int × Int)
section
variable (c:WK)
def WSt.enter (s:WSt) (dp:Nat) (p:Lev):WSt:=⟨s.vs,s.ps.take (dp+1)++[p]⟩
def EV (s:WSt) (p:Lev) (v:Int) (l:Lev):Bool:=AE p (s.vs.getD v.toNat AU) c.n && (!c.known.getD v.toNat false || AE l (c.bound.getD v.toNat AU) c.n)
def CM (s:WSt) (p:Lev) (v:Int) (l:Lev):Bool × WSt:=if EV c s p v l=true then (true,⟨s.vs.set v.toNat l,s.ps⟩) else (false,s)
def CN (s:WSt) (p:Lev) (e:D):Lev:=A4 c.n s.vs p (AD c.K e)
def GW (a:Int) (d:D):Bool:=c.known.getD (Ao d).toNat false && !c.fl.any (fun f=>decide (f.1=a) && (decide (f.2=6) || decide (f.2=7)))
def Gy (s:WSt) (p:Lev) (d:D):List (Int × Lev):=(Cv c.fs (Ae d)).ps.zip ((Ah d).map (CN c s p))
def setLev (vs:List Lev) (q:List (Int × Lev)):List Lev:=q.foldl (fun vs x=>vs.set x.1.toNat x.2) vs
def Gx (s:WSt) (p:Lev) (d:D):Bool × WSt:=if (Gy c s p d).all (fun x=>EV c s p x.1 x.2)=true then (true,⟨setLev s.vs (Gy c s p d),s.ps⟩) else (false,s)
def doX (s:WSt) (a:Int) (d:D) (p:Lev):Bool × WSt:=
 if Ag d=2 then Gx c s p d
 else if Ag d=3 then (if AE p (c.ins.getD (Ae d).toNat AU) c.n=true then CM c s p (Ao d) (BE (c.ins.getD (Ae d).toNat AU) p c.n) else (false,s))
 else if Ag d=4 then (AE (CN c s p (Ap d)) (c.outs.getD (Ae d).toNat AU) c.n,s)
 else if Ag d=5 then (if GW c a d=true then CM c s p (Ao d) ⟨(c.bound.getD (Ao d).toNat AU).r,(CN c s p (Ap d)).w⟩ else (false,s))
 else if Ag d=6 then (if GW c a d=true then CM c s p (Ao d) ⟨(CN c s p (Ap d)).r,(c.bound.getD (Ao d).toNat AU).w⟩ else (false,s))
 else CM c s p (Ao d) (CN c s p (Ap d))
def obW:Ob:=fun kind a dp d s=>
 if kind=2 then (true,s.enter dp (CN c s (s.ps.getD (dp+1) AU) (Ap d)))
 else if kind=3 then CM c s (s.ps.getD dp AU) (Ao d) (CN c s (s.ps.getD dp AU) (Cv c.fs (Ae d)).res)
 else if Ag d=7\/Ag d=8 then (true,s.enter dp (CN c s (s.ps.getD dp AU) (Ap d)))
 else doX c s a d (s.ps.getD dp AU)
end
section
variable {c:WK}
theorem DY (s:WSt) (p) (v:Int) (l):(CM c s p v l).2.vs.length=s.vs.length:=by
 unfold CM
 split
 ·simp
 ·rfl
end
theorem Ax {W W':World} {B e s n:Nat} {v:Value} {xs:List Value} (h:W.ownsRow B e s v n xs) (hb:∀ g,v.ownBlock=some g->W'.heap[g]? = W.heap[g]?):W'.ownsRow B e s v n xs:=by
 refine ⟨h.1,?_⟩
 rcases h.2 with h2 | ⟨g,cap,cur,hv,hB,hg,r⟩
 ·exact Or.inl h2
 ·exact Or.inr ⟨g,cap,cur,hv,hB,(hb g (by rw [hv];rfl)).trans hg,r⟩
def Bq (n:Nat) (X:World->Nat->Prop) (B:Nat) (W:World) (v:Value) (Ls:List Lev):Prop:=
 ∃ us:List Value,W.ownsRow B 50 2 v Ls.length us/\∀ i (h:i < Ls.length),∃ x y,us[i*2]? = some x/\us[i*2+1]? = some y/\Ar n X W (zh #[x,y]) Ls[i]
section
variable {n B:Nat} {X:World->Nat->Prop} {W W':World} {v:Value} {Ls:List Lev}
theorem Lq (n:Nat) (X:World->Nat->Prop) (B:Nat) (W:World):Bq n X B W (O none 0 0) []:=⟨[],World.ownsRow_nil ..,fun i h=>absurd h (by simp)⟩
theorem Bq.lt (h:Bq n X B W v Ls):∀ g,v.ownBlock=some g->B<=g/\g < W.heap.size:=by
 obtain ⟨us,ho,-⟩:=h
 exact ho.lt
theorem Bq.keep (n1:1<=n) (h:Bq n X B W v Ls) (hf:FrW X W W') (hb:∀ g,v.ownBlock=some g->W'.heap[g]? = W.heap[g]?):Bq n X B W' v Ls:=by
 obtain ⟨us,ho,hel⟩:=h
 refine ⟨us,Ax ho hb,fun i hi=>?_⟩
 obtain ⟨x,y,e0,e1,hl⟩:=hel i hi
 exact ⟨x,y,e0,e1,hl.keep n1 hf⟩
theorem Bq.over (hX:XOk X) (h:Bq n X B W v Ls) (hb:Ov W W'):Bq n X B W' v Ls:=by
 obtain ⟨us,ho,hel⟩:=id h
 refine ⟨us,Ax ho (fun g hg=>hb.block g (h.lt g hg).2),fun i hi=>?_⟩
 obtain ⟨x,y,e0,e1,hl⟩:=hel i hi
 exact ⟨x,y,e0,e1,hl.over hX hb⟩
theorem Bq.form (h:Bq n X B W v Ls) (hne:0 < Ls.length):∃ g cap,v=O (some ⟨g,0,none⟩) Ls.length cap/\cap<=maxLen:=by
 obtain ⟨us,ho,-⟩:=h
 rcases ho.2 with ⟨-,h⟩ | ⟨g,cap,cur,hv,-,-,-,hc,-⟩
 ·omega
 ·exact ⟨g,cap,hv,hc⟩
theorem Bq.cells (h:Bq n X B W v Ls) {i:Nat} (hi:i < Ls.length):∃ g cap a1 a2 a3 a4 a5 a6,v=O (some ⟨g,0,none⟩) Ls.length cap/\W.cell? ⟨g,i*2,none⟩=some (O a1 a2 a3)/\W.cell? ⟨g,i*2+1,none⟩=some (O a4 a5 a6)/\Ar n X W (zh #[O a1 a2 a3,O a4 a5 a6]) Ls[i]:=by
 obtain ⟨g,cap,hv,-⟩:=h.form (by omega)
 obtain ⟨us,ho,hel⟩:=h
 obtain ⟨x,y,e0,e1,hl⟩:=hel i hi
 obtain ⟨a1,a2,a3,a4,a5,a6,rfl,rfl⟩:=AR hl.at_
 rw [hv] at ho
 exact ⟨g,cap,a1,a2,a3,a4,a5,a6,hv,(ho.cellAt _ (by omega)).trans e0,(ho.cellAt _ (by omega)).trans e1,hl⟩
theorem Bq.levs (h:Bq n X B W v Ls):A1 n X W v Ls:=by
 by_cases hne:0 < Ls.length
 ·obtain ⟨g,cap,hv,-⟩:=h.form hne
  refine ⟨some ⟨g,0,none⟩,cap,hv,fun _=>⟨g,0,rfl,fun i hi=>?_⟩⟩
  obtain ⟨g',cap',a1,a2,a3,a4,a5,a6,hv',c0,c1,hl⟩:=h.cells hi
  rw [hv] at hv'
  injection hv' with e1 e2 e3
  injection e1 with e1
  injection e1 with e1
  subst e1
  exact ⟨_,_,by rw [Nat.zero_add];exact c0,by rw [Nat.zero_add];exact c1,hl⟩
 ·have h0:Ls=[]:=List.length_eq_zero_iff.1 (by omega)
  subst h0
  obtain ⟨us,ho,-⟩:=h
  rcases ho.2 with ⟨hv,-⟩ | ⟨g,cap,cur,hv,-⟩
  ·exact ⟨none,0,hv,fun h=>absurd rfl h⟩
  ·exact ⟨some ⟨g,0,none⟩,cap,hv,fun h=>absurd rfl h⟩
theorem Bq.take {g cap m:Nat} (h:Bq n X B W (O (some ⟨g,0,none⟩) Ls.length cap) Ls) (hm:m<=Ls.length):Bq n X B W (O (some ⟨g,0,none⟩) m cap) (Ls.take m):=by
 obtain ⟨us,ho,hel⟩:=h
 have hl:(Ls.take m).length=m:=by simp;omega
 refine ⟨us.take (m*2),⟨by rw [List.length_take,ho.1,hl];omega,Or.inr ?_⟩,fun i hi=>?_⟩
 ·rcases ho.2 with ⟨h,-⟩ | ⟨g',cap',cur,hv,hB,hg,hc,hcm,hcs,ht⟩
  ·cases h
  ·injection hv with e1 e2 e3
   injection e1 with e1
   injection e1 with e1
   subst e1 e3
   refine ⟨g,cap,cur,by rw [hl],hB,hg,by omega,hcm,hcs,?_⟩
   rw [hl,<-ht,List.take_take]
   congr 1
   omega
 ·have hi':i < m:=by omega
  obtain ⟨x,y,e0,e1,hl⟩:=hel i (by omega)
  refine ⟨x,y,by rw [List.getElem?_take_of_lt (by omega)];exact e0,by rw [List.getElem?_take_of_lt (by omega)];exact e1,?_⟩
  rw [List.getElem_take]
  exact hl
theorem Bq.set {g cap i:Nat} {x y:Value} {l:Lev} (n1:1<=n) (h:Bq n X B W (O (some ⟨g,0,none⟩) Ls.length cap) Ls) (hi:i < Ls.length) (hf:FrW X W ((W.setCell ⟨g,i*2,none⟩ x).setCell ⟨g,i*2+1,none⟩ y)) (hl:Ar n X W (zh #[x,y]) l) :
  Bq n X B ((W.setCell ⟨g,i*2,none⟩ x).setCell ⟨g,i*2+1,none⟩ y) (O (some ⟨g,0,none⟩) (Ls.set i l).length cap) (Ls.set i l):=by
 obtain ⟨us,ho,hel⟩:=h
 rw [List.length_set]
 have hlen:=ho.1
 refine ⟨(us.set (i*2) x).set (i*2+1) y,by rw [List.length_set];exact ((ho.stored _ _).1.stored _ _).1,fun j hj=>?_⟩
 have hj':j < Ls.length:=by simpa using hj
 by_cases hij:i=j
 ·subst hij
  refine ⟨x,y,?_,?_,?_⟩
  ·rw [List.getElem?_set_ne (by omega),List.getElem?_set_self (by omega)]
  ·rw [List.getElem?_set_self (by rw [List.length_set];omega)]
  ·rw [List.getElem_set_self]
   exact hl.keep n1 hf
 ·obtain ⟨x',y',e0,e1,hl'⟩:=hel j hj'
  refine ⟨x',y',?_,?_,?_⟩
  ·rw [List.getElem?_set_ne (by omega),List.getElem?_set_ne (by omega)];exact e0
  ·rw [List.getElem?_set_ne (by omega),List.getElem?_set_ne (by omega)];exact e1
  ·rw [List.getElem_set_ne hij]
   exact hl'.keep n1 hf
theorem Bq.snoc {v':Value} {x y:Value} {l:Lev} {us:List Value} (n1:1<=n) (hel:∀ i (h:i < Ls.length),∃ x y,us[i*2]? = some x/\us[i*2+1]? = some y/\Ar n X W (zh #[x,y]) Ls[i]) (hus:us.length=Ls.length*2) (hl:Ar n X W (zh #[x,y]) l) (ho':W'.ownsRow B 50 2 v' (Ls.length+1) (us++[x,y])) (hf:FrW X W W'):Bq n X B W' v' (Ls++[l]):=by
 refine ⟨us++[x,y],by rw [List.length_append];exact ho',fun i hi=>?_⟩
 rw [List.length_append,List.length_singleton] at hi
 by_cases hii:i < Ls.length
 ·obtain ⟨x',y',e0,e1,hl'⟩:=hel i hii
  refine ⟨x',y',?_,?_,?_⟩
  ·rw [List.getElem?_append_left (by omega)];exact e0
  ·rw [List.getElem?_append_left (by omega)];exact e1
  ·rw [List.getElem_append_left hii];exact hl'.keep n1 hf
 ·have hie:i=Ls.length:=by omega
  subst hie
  refine ⟨x,y,?_,?_,?_⟩
  ·rw [List.getElem?_append_right (by omega),hus,Nat.sub_self];rfl
  ·rw [List.getElem?_append_right (by omega),hus,show Ls.length*2+1 - Ls.length*2=1 by omega];rfl
  ·rw [List.getElem_append_right (by omega)]
   simp
   exact hl.keep n1 hf
end
structure WX where
 c:WC
 bw:Nat
 rv:Value
 fv:Value
 fl:List (Int × Int)
 Y:Nat->Prop
abbrev WX.lv (x:WX):Value:=O x.c.la x.c.ln x.c.lc
def XV (x:WX) (W:World) (k:Nat):Prop:=W.heap.size<=x.bw\/k=x.bw\/x.lv.ownBlock=some k\/∃ v,W.cell? ⟨x.bw,11,none⟩=some v/\v.ownBlock=some k
def XW (x:WX) (W:World) (k:Nat):Prop:=x.Y k\/XV x W k
theorem Bl (x):XOk (XV x):=⟨fun W W' hb k h=>by
 by_cases hlt:W.heap.size<=x.bw
 ·exact Or.inl hlt
 ·rcases h with h | h | h | ⟨v,hv,ho⟩
  ·exact absurd (Nat.le_trans hb.size h) hlt
  ·exact Or.inr (Or.inl h)
  ·exact Or.inr (Or.inr (Or.inl h))
  ·refine Or.inr (Or.inr (Or.inr ⟨v,?_,ho⟩))
   rw [<-hv]
   exact (World.cell?_of_block (a:=⟨x.bw,11,none⟩) (hb.block x.bw (by omega))).symm⟩
theorem A0 (x):XOk (XW x):=⟨fun W W' hb k h=>h.imp id ((Bl x).below W W' hb k)⟩
theorem JM {x:WX} {W W':World} (h:FrW (XV x) W W'):FrW (XW x) W W':=⟨h.os,h.tape,h.output,h.size,fun k hk hx=>h.block k hk (fun e=>hx (Or.inr e)),fun k hk hx=>hx.imp id (h.mov k hk)⟩
structure WtI (x:WX) (w0:World) (s:WSt) (pv:Value) (W:World):Prop where
 below:Ov w0 W
 row:Ad (x.rv::(x.c.cs++[pv,x.fv])) W x.bw
 fz:∀ j,W.frozen? ⟨x.bw,j,none⟩=false
 lo:w0.heap.size<=x.bw/\x.bw < W.heap.size
 yk:∀ k,x.Y k->w0.heap.size<=k/\k < W.heap.size
 yb:¬ x.Y x.bw
 lev:Bq x.c.n (XW x) w0.heap.size W x.lv s.vs
 pls:Bq x.c.n (XW x) w0.heap.size W pv s.ps
 flt:W.ownsRow w0.heap.size 89 2 x.fv x.fl.length (BX x.fl)
 apL:x.lv.ownBlock≠some x.bw
 apP:pv.ownBlock≠some x.bw
 apLP:∀ g,x.lv.ownBlock=some g->pv.ownBlock≠some g
 apF:∀ g,x.fv.ownBlock=some g->g≠x.bw/\x.lv.ownBlock≠some g/\pv.ownBlock≠some g/\¬ x.Y g
 yL:∀ g,x.lv.ownBlock=some g->¬ x.Y g
 yP:∀ g,pv.ownBlock=some g->¬ x.Y g
section
variable {x:WX} {w0 W W':World} {s:WSt} {pv:Value}
theorem WtI.cw (h:WtI x w0 s pv W) {j:Nat} {u:Value} (hj:x.c.cs[j]? = some u):W.cell? ⟨x.bw,j+1,none⟩=some u:=h.row (j+1) u (by rw [List.getElem?_cons_succ,List.getElem?_append_left (List.getElem?_eq_some_iff.1 hj).1];exact hj)
theorem WtI.c11 (h:WtI x w0 s pv W):W.cell? ⟨x.bw,11,none⟩=some pv:=h.row 11 _ rfl
theorem WtI.c12 (h:WtI x w0 s pv W):W.cell? ⟨x.bw,12,none⟩=some x.fv:=h.row 12 _ rfl
theorem WtI.over (h:WtI x w0 s pv W) (hb:Ov W W'):WtI x w0 s pv W':=
 ⟨h.below.trans (hb.mono h.below.size),h.row.over hb,fun j=>((Am hb).2 _ _ h.lo.2).trans (h.fz j),⟨h.lo.1,Nat.lt_of_lt_of_le h.lo.2 hb.size⟩,fun k hk=>⟨(h.yk k hk).1,Nat.lt_of_lt_of_le (h.yk k hk).2 hb.size⟩,h.yb,h.lev.over (A0 x) hb,h.pls.over (A0 x) hb,Ax h.flt (fun g hg=>hb.block g (h.flt.lt g hg).2),h.apL,h.apP,h.apLP,h.apF,h.yL,h.yP⟩
theorem WtI.xv (h:WtI x w0 s pv W) {k:Nat}:XV x W k ↔ (k=x.bw\/x.lv.ownBlock=some k\/pv.ownBlock=some k):=by
 constructor
 ·rintro (e | e | e | ⟨v,hv,e⟩)
  ·exact absurd h.lo.2 (by omega)
  ·exact Or.inl e
  ·exact Or.inr (Or.inl e)
  ·rw [h.c11] at hv
   injection hv with hv
   subst hv
   exact Or.inr (Or.inr e)
 ·rintro (e | e | e)
  ·exact Or.inr (Or.inl e)
  ·exact Or.inr (Or.inr (Or.inl e))
  ·exact Or.inr (Or.inr (Or.inr ⟨pv,h.c11,e⟩))
theorem WtI.vlt (h:WtI x w0 s pv W):∀ k,XV x W k->w0.heap.size<=k/\k < W.heap.size:=fun k hk=>by
 rcases h.xv.1 hk with e | e | e
 ·rw [e];exact h.lo
 ·exact h.lev.lt k e
 ·exact h.pls.lt k e
theorem WtI.xlt (h:WtI x w0 s pv W):∀ k,XW x W k->w0.heap.size<=k/\k < W.heap.size:=fun k hk=>hk.elim (h.yk k) (h.vlt k)
theorem WtI.setLev (n1:1<=x.c.n) (h:WtI x w0 s pv W) {g:Nat} (hg:x.c.la=some ⟨g,0,none⟩) {i:Nat} (hi:i < s.vs.length) {u v:Value} {l:Lev} (hl:Ar x.c.n (XW x) W (zh #[u,v]) l) :
  WtI x w0 ⟨s.vs.set i l,s.ps⟩ pv ((W.setCell ⟨g,i*2,none⟩ u).setCell ⟨g,i*2+1,none⟩ v)/\FrW (XV x) W ((W.setCell ⟨g,i*2,none⟩ u).setCell ⟨g,i*2+1,none⟩ v):=by
 have hlb:x.lv.ownBlock=some g:=by unfold WX.lv;rw [hg];rfl
 have hgb:g≠x.bw:=fun e=>h.apL (by rw [hlb,e])
 have hk:∀ k,k≠g->((W.setCell ⟨g,i*2,none⟩ u).setCell ⟨g,i*2+1,none⟩ v).heap[k]? = W.heap[k]?:=fun k hk=>by rw [Aq (Ne.symm hk),Aq (Ne.symm hk)]
 have hsz:((W.setCell ⟨g,i*2,none⟩ u).setCell ⟨g,i*2+1,none⟩ v).heap.size=W.heap.size:=by simp [World.setCell]
 have hF:FrW (XV x) W ((W.setCell ⟨g,i*2,none⟩ u).setCell ⟨g,i*2+1,none⟩ v):=by
  refine ⟨rfl,rfl,rfl,by rw [hsz];exact Nat.le_refl _,fun k _ hx=>hk k (fun e=>hx (Or.inr (Or.inr (Or.inl (by rw [hlb,e]))))),fun k _ hx=>?_⟩
  rcases hx with e | e | e | ⟨q,hq,e⟩
  ·rw [hsz] at e;exact Or.inl e
  ·exact Or.inr (Or.inl e)
  ·exact Or.inr (Or.inr (Or.inl e))
  ·exact Or.inr (Or.inr (Or.inr ⟨q,(World.cell?_of_block (a:=⟨x.bw,11,none⟩) (hk x.bw (Ne.symm hgb))).symm.trans hq,e⟩))
 have hF2:=JM hF
 refine ⟨⟨h.below.trans ((Below.refl _ W).mono h.below.size |>.setCell (h.lev.lt g hlb).1 _ |>.setCell (h.lev.lt g hlb).1 _),fun j q hq=>(World.cell?_of_block (a:=⟨x.bw,j,none⟩) (hk x.bw (Ne.symm hgb))).trans (h.row j q hq),fun j=>(World.frozen?_of_block (a:=⟨x.bw,j,none⟩) (hk x.bw (Ne.symm hgb))).trans (h.fz j),by rw [hsz];exact h.lo,by rw [hsz];exact h.yk,h.yb,?_,h.pls.keep n1 hF2 (fun q hq=>hk q (fun e=>h.apLP g hlb (by rw [<-e];exact hq))),Ax h.flt (fun q hq=>hk q (fun e=>(h.apF q hq).2.1 (by rw [hlb,e]))),h.apL,h.apP,h.apLP,h.apF,h.yL,h.yP⟩,hF⟩
 have hlev:=h.lev
 obtain ⟨us,ho,hel⟩:=id hlev
 have hln:x.c.ln=s.vs.length:=by
  rcases ho.2 with ⟨e,-⟩ | ⟨g',cap,cur,e,-⟩
  ·unfold WX.lv at e;rw [hg] at e;cases e
  ·unfold WX.lv at e;injection e
 have e1:x.lv=O (some ⟨g,0,none⟩) s.vs.length x.c.lc:=by unfold WX.lv;rw [hg,hln]
 have e2:x.lv=O (some ⟨g,0,none⟩) (s.vs.set i l).length x.c.lc:=by rw [List.length_set];exact e1
 rw [e2]
 rw [e1] at hlev
 exact hlev.set n1 hi hF2 hl
theorem WtI.newPls (n1:1<=x.c.n) (h:WtI x w0 s pv W) {v' u v:Value} {ps:List Lev} {us:List Value} {l:Lev} (hel:∀ i (h:i < ps.length),∃ a b,us[i*2]? = some a/\us[i*2+1]? = some b/\Ar x.c.n (XW x) W (zh #[a,b]) ps[i]) (hus:us.length=ps.length*2) (hl:Ar x.c.n (XW x) W (zh #[u,v]) l) (ho:W'.ownsRow w0.heap.size 50 2 v' (ps.length+1) (us++[u,v])) (hg:W.grownBy W' pv.ownBlock) (hat:v'.ownBlock=pv.ownBlock\/v'.ownBlock=some W.heap.size) :
  WtI x w0 ⟨s.vs,ps++[l]⟩ v' (W'.setCell ⟨x.bw,11,none⟩ v')/\FrW (XV x) W (W'.setCell ⟨x.bw,11,none⟩ v'):=by
 have hbw:W'.heap[x.bw]? = W.heap[x.bw]?:=hg.block x.bw h.lo.2 (fun e=>h.apP e.symm)
 have hsz:(W'.setCell ⟨x.bw,11,none⟩ v').heap.size=W'.heap.size:=by simp [World.setCell]
 have hnew:∀ g,v'.ownBlock=some g->pv.ownBlock=some g\/g=W.heap.size:=fun g e=>by
  rcases hat with e1 | e1
  ·exact Or.inl (by rw [<-e1];exact e)
  ·rw [e1] at e;injection e with e;exact Or.inr e.symm
 have hk:∀ k,k < W.heap.size->k≠x.bw->pv.ownBlock≠some k->(W'.setCell ⟨x.bw,11,none⟩ v').heap[k]? = W.heap[k]?:=fun k hk h1 h2=>by rw [Aq (Ne.symm h1)];exact hg.block k hk (fun e=>h2 e.symm)
 have hrow':Ad (x.rv::(x.c.cs++[pv,x.fv])) W' x.bw:=fun j u hu=>(World.cell?_of_block (a:=⟨x.bw,j,none⟩) hbw).trans (h.row j u hu)
 have hrow2:Ad (x.rv::(x.c.cs++[v',x.fv])) (W'.setCell ⟨x.bw,11,none⟩ v') x.bw:=by
  have r:=Bv (j:=11) (v:=v') hrow' (by simp)
  simpa using r
 have hc2:CE (W'.setCell ⟨x.bw,11,none⟩ v') x.bw 11 v':=hrow2 11 _ rfl
 have hF:FrW (XV x) W (W'.setCell ⟨x.bw,11,none⟩ v'):=by
  refine ⟨hg.os,hg.tape,hg.output,by rw [hsz];exact hg.size,fun k hlt hx=>hk k hlt (fun e=>hx (Or.inr (Or.inl e))) (fun e=>hx (h.xv.2 (Or.inr (Or.inr e)))),fun k hlt hx=>h.xv.2 ?_⟩
  rcases hx with e | e | e | ⟨q,hq,e⟩
  ·rw [hsz] at e;have:=hg.size;have:=h.lo.2;omega
  ·exact Or.inl e
  ·exact Or.inr (Or.inl e)
  ·rw [hc2] at hq
   injection hq with hq
   subst hq
   rcases hnew k e with e | e
   ·exact Or.inr (Or.inr e)
   ·omega
 have hF2:=JM hF
 have hs:=hg.size
 have hv':v'.ownBlock≠some x.bw:=fun e=>by
  rcases hnew _ e with e | e
  ·exact h.apP e
  ·have:=h.lo.2;omega
 have hbelow:Ov w0 (W'.setCell ⟨x.bw,11,none⟩ v'):=h.below.trans ⟨hF.os,hF.tape,hF.output,hF.size,fun k hlt=>hF.block k (Nat.lt_of_lt_of_le hlt h.below.size) (fun e=>by have:=(h.vlt k e).1;omega)⟩
 refine ⟨⟨hbelow,hrow2,fun j=>?_,⟨h.lo.1,by rw [hsz];have:=h.lo.2;omega⟩,fun k e=>⟨(h.yk k e).1,by rw [hsz];have:=(h.yk k e).2;omega⟩,h.yb,h.lev.keep n1 hF2 (fun g e=>hk g (h.lev.lt g e).2 (fun q=>h.apL (by rw [e,q])) (fun q=>h.apLP g e q)),?_,Ax h.flt (fun g e=>hk g (h.flt.lt g e).2 (h.apF g e).1 (h.apF g e).2.2.1),h.apL,hv',fun g e q=>?_,fun g e=>⟨(h.apF g e).1,(h.apF g e).2.1,fun q=>?_,(h.apF g e).2.2.2⟩,h.yL,fun g e q=>?_⟩,hF⟩
 ·have e1:(W'.setCell ⟨x.bw,11,none⟩ v').frozen? ⟨x.bw,j,none⟩=W'.frozen? ⟨x.bw,j,none⟩:=by simp [go_sem]
  rw [e1,World.frozen?_of_block (a:=⟨x.bw,j,none⟩) hbw]
  exact h.fz j
 ·exact Bq.snoc n1 hel hus hl (Ax ho (fun g e=>Aq (fun q=>hv' (by rw [e,q])) v')) hF2
 ·rcases hnew g q with q | q
  ·exact h.apLP g e q
  ·have:=(h.lev.lt g e).2;omega
 ·rcases hnew g q with q | q
  ·exact (h.apF g e).2.2.1 q
  ·have:=(h.flt.lt g e).2;omega
 ·rcases hnew g e with e | e
  ·exact h.yP g e q
  ·have:=(h.yk g q).2;omega
end
structure WtS (x:WX) (w0:World) (K kf:Nat) (gs:List (Int × Int)) (ls ms:List Lab) (vs:List (Bool × Lab)) (fs:List FnD):Prop where
 n1:1<=x.c.n
 n6:x.c.n<=6
 gr:AF w0 (O x.c.ga x.c.gn x.c.gc) gs
 chk:AL x.c.n gs=0
 vars:Bh w0 (O x.c.va x.c.vn x.c.vc) vs
 ins:AW w0 (O x.c.ya x.c.yn x.c.yc) ls
 outs:AW w0 (O x.c.oa x.c.on x.c.oc) ms
 funcs:Bk w0 K kf (O x.c.fa x.c.fn x.c.fc) fs
 vchk:∀ v∈vs,A3 x.c.n gs v.2=0
 ichk:∀ b∈ls,A3 x.c.n gs b=0
 ochk:∀ b∈ms,A3 x.c.n gs b=0
 v16:vs.length<=16
 i5:ls.length<=5
 o5:ms.length<=5
 f5:fs.length<=5
 fl:x.fl.length<=1000
 body:∀ i (h:i < fs.length),okF K vs.length ls.length ms.length (i:Int) fs kf fs[i]
theorem Kn {x:WX} {W:World} {b:Nat} {u v:Value} (hne:x.bw≠b) {k:Nat} (h:XW x (Bp W b u v) k):XW x W k:=by
 rcases h with h | h | h | h | ⟨q,hq,ho⟩
 ·exact Or.inl h
 ·rw [Gu] at h;exact Or.inr (Or.inl h)
 ·exact Or.inr (Or.inr (Or.inl h))
 ·exact Or.inr (Or.inr (Or.inr (Or.inl h)))
 ·exact Or.inr (Or.inr (Or.inr (Or.inr ⟨q,(World.cell?_of_block (a:=⟨x.bw,11,none⟩) (B6 hne)).symm.trans hq,ho⟩)))
theorem CY {x:WX} {n b:Nat} {W:World} {v:Value} {l:Lev} (h:Ar n (XW x) W v l) (hz:ZB b W) (hne:x.bw≠b) (u q:Value):Ar n (XW x) (Bp W b u q) v l:=by
 obtain ⟨y,w,hv,hu,hw⟩:=h.off
 have c1':(W.setCell ⟨b,0,none⟩ u).cell? ⟨b,1,none⟩=some (O none 0 0):=by rw [World.cell?_setCell_other _ _ _ _ (by simp)];exact hz.c1
 exact ⟨Ci c1' (Ci hz.c0 h.at_ _) _,h.len,y,w,hv,fun a m c e p=>hu a m c e (Kn hne p),fun a m c e p=>hw a m c e (Kn hne p)⟩
abbrev O0 (x:WX) (bv ov i:Nat) (pa1:Option Addr) (pn1 pc1:Nat) (pa2:Option Addr) (pn2 pc2:Nat) (Wz:World):Prop:=Wz.cell? ⟨x.bw,1,none⟩=some (U zd (x.c.n:Int))/\Wz.cell? ⟨x.bw,2,none⟩=some (O x.c.ga x.c.gn x.c.gc)/\Wz.cell? ⟨x.bw,3,none⟩=some (O x.c.sa x.c.sn x.c.sc)/\Wz.cell? ⟨x.bw,4,none⟩=some (O x.c.ya x.c.yn x.c.yc)/\Wz.cell? ⟨x.bw,5,none⟩=some (O x.c.oa x.c.on x.c.oc)/\Wz.cell? ⟨x.bw,6,none⟩=some (O (some ⟨bv,ov,none⟩) x.c.vn x.c.vc)/\Wz.cell? ⟨x.bw,7,none⟩=some (O x.c.fa x.c.fn x.c.fc)/\Wz.cell? ⟨x.bw,8,none⟩=some (O x.c.ba x.c.bn x.c.bc)/\Wz.cell? ⟨x.bw,9,none⟩=some (O x.c.la x.c.ln x.c.lc)/\Wz.cell? ⟨x.bw,10,none⟩=some (O x.c.ka x.c.kn x.c.kc)/\Wz.cell? ⟨bv,ov+i*3+1,none⟩=some (O pa1 pn1 pc1)/\Wz.cell? ⟨bv,ov+i*3+2,none⟩=some (O pa2 pn2 pc2)
theorem J6 (x) (w0:World) (K kf:Nat) (gs ls ms vs fs) (S:WtS x w0 K kf gs ls ms vs fs) (s:WSt) (pv:Value) (W:World) (h:WtI x w0 s pv W) (i:Nat) (hi:i < vs.length) :
  Calls Tryz.prog 188 #[zi (some ⟨x.bw,0,none⟩),U zd (i:Int)] W fun e W'=>∃ a1 a2 a3 a4 a5 a6,e=zj (zh #[O a1 a2 a3,O a4 a5 a6])/\Ar x.c.n (XW x) W' (zh #[O a1 a2 a3,O a4 a5 a6]) (Av (Ay gs) x.c.n vs[i].2)/\Ov W W':=by
 obtain ⟨hym,va',vc',hve,hvel⟩:=S.vars
 injection hve with v1 v2 v3
 obtain ⟨bv,ov,hvo,hvel⟩:=hvel (by rintro rfl;simp at hi)
 obtain ⟨pr,pw,g0,g1,g2,hpr,hpw⟩:=hvel i hi
 obtain ⟨pa1,pn1,pc1,rfl⟩:=Aw hpr
 obtain ⟨pa2,pn2,pc2,rfl⟩:=Aw hpw
 have hva:x.c.va=some ⟨bv,ov,none⟩:=v1.trans hvo
 have hvn2:x.c.vn=vs.length:=v2
 have hv16:=S.v16
 have gi1:(i:Int) < (x.c.vn:Int):=by omega
 have gi2:x.c.vn<=16:=by omega
 have hcv:x.c.v=(zh #[U zd (x.c.n:Int),O x.c.ga x.c.gn x.c.gc,O x.c.sa x.c.sn x.c.sc,O x.c.ya x.c.yn x.c.yc,O x.c.oa x.c.on x.c.oc,O (some ⟨bv,ov,none⟩) x.c.vn x.c.vc,O x.c.fa x.c.fn x.c.fc,O x.c.ba x.c.bn x.c.bc,O x.c.la x.c.ln x.c.lc,O x.c.ka x.c.kn x.c.kc]):=by show Value.agg #[U zd (x.c.n:Int),O x.c.ga x.c.gn x.c.gc,O x.c.sa x.c.sn x.c.sc,O x.c.ya x.c.yn x.c.yc,O x.c.oa x.c.on x.c.oc,O x.c.va x.c.vn x.c.vc,O x.c.fa x.c.fn x.c.fc,O x.c.ba x.c.bn x.c.bc,O x.c.la x.c.ln x.c.lc,O x.c.ka x.c.kn x.c.kc]=_;rw [hva]
 have hlk:=S.vchk vs[i] (List.getElem_mem hi)
 have HLEN:Hx ((Av (Ay gs) x.c.n vs[i].2).len x.c.n):=Dx _ _ _
 generalize vs[i]=vb at hlk hpr hpw g0 HLEN ⊢
 have hb0:Ov W (W.alloc (ze #[O none 0 0,O none 0 0] 50)):=bA W _
 have HI:=Aa h
 have HB0:Hx (Ov W (W.alloc (ze #[O none 0 0,O none 0 0] 50)).drew):=hb0.drew
 have KL:Hx (∀ (W2:World),Ov W W2->Calls Tryz.prog 114 #[(zh #[U zd (x.c.n:Int),O x.c.ga x.c.gn x.c.gc,O x.c.sa x.c.sn x.c.sc,O x.c.ya x.c.yn x.c.yc,O x.c.oa x.c.on x.c.oc,O (some ⟨bv,ov,none⟩) x.c.vn x.c.vc,O x.c.fa x.c.fn x.c.fc,O x.c.ba x.c.bn x.c.bc,O x.c.la x.c.ln x.c.lc,O x.c.ka x.c.kn x.c.kc]),zh #[O pa1 pn1 pc1,O pa2 pn2 pc2]] W2 fun e w'=>∃ vj,e=zj vj/\AY W2 w' vj (Av (Ay gs) x.c.n vb.2)/\Ov W2 w'):=fun W2 hb2=>by
  have h2:=h.over hb2
  have:=Gb x.c gs (O pa1 pn1 pc1) (O pa2 pn2 pc2) vb.2 W2 (Af S.gr h2.below) (Ak hpr h2.below) (Ak hpw h2.below) hlk
  rw [hcv] at this
  exact this
 have HS:Hx (∀ (W2:World),Ov W W2->O0 x bv ov i pa1 pn1 pc1 pa2 pn2 pc2 W2):=fun W2 hb2=>by
  have h2:=h.over hb2
  exact ⟨h2.cw (j:=0) rfl,h2.cw (j:=1) rfl,h2.cw (j:=2) rfl,h2.cw (j:=3) rfl,h2.cw (j:=4) rfl,by rw [<-hva];exact h2.cw (j:=5) rfl,h2.cw (j:=6) rfl,h2.cw (j:=7) rfl,h2.cw (j:=8) rfl,h2.cw (j:=9) rfl,Ab h2.below _ _ g1,Ab h2.below _ _ g2⟩
 generalize Av (Ay gs) x.c.n vb.2=lb at KL HLEN ⊢
 clear hb0 h S hym hvel v1 v2 v3 hvo hva hvn2 hv16 g0 g1 g2 hpr hpw hcv hlk hi
 go_enter Tryz.func188,Tryz.ntmps188
 go_wp2_with fail
 refine gS (O0 x bv ov i pa1 pn1 pc1 pa2 pn2 pc2) (HS.o _ HB0.o) fun hHeld=>?_
 refine kT 0 ?_
 refine kT 1 ?_
 refine kT 2 ?_
 refine kT 3 ?_
 refine kT 4 ?_
 refine kT 5 ?_
 refine kT 6 ?_
 refine kT 7 ?_
 refine kT 8 ?_
 refine kT 9 ?_
 refine kT 10 ?_
 refine kT 11 ?_
 refine kT 12 ?_
 refine kT 13 ?_
 refine rdA 14 rfl fun K hK=>?_
 go_simp
 refine (KL.o _ HB0.o).mono ?_
 rintro e W2 ⟨vj,rfl,hL2,hb2⟩
 have hN2:=Be hL2
 have hA2:=An hL2
 obtain ⟨v1,v2,rfl,ho1,ho2,-⟩:=hL2
 obtain ⟨y21,y22,y23,rfl⟩:=AG ho1
 obtain ⟨y24,y25,y26,rfl⟩:=AG ho2
 have HB2:=Aa (Ac HB0.o hb2)
 have HL2:=Aa (⟨hA2,HLEN.o,BR (A0 x) HB2.o (fun k hk=>(HI.o.xlt k hk).2) (Ed hN2 HB0.o.size)⟩:Ar x.c.n (XW x) W2 _ lb)
 clear hN2 hA2 ho1 ho2
 have hz2:=(Hp (Dq 50 W)).over hb2
 have d0:=hz2.c0
 have d1:=hz2.c1
 have z0:=hz2.z0
 have z1:=hz2.z1
 have HZ2:=Aa hz2
 clear hb2 hz2
 go_simp
 refine xK hK (HS.o _ HB2.o) fun hHeld=>?_
 clear hK K
 refine rdA 15 rfl fun K hK=>?_
 obtain ⟨W3,hW3⟩:=nm (Bp W2 W.heap.size (O y21 y22 y23) (O y24 y25 y26))
 have HB3:Hx (Ov W W3):=by rw [hW3];exact BQ HB2.o (Nat.le_refl _) _ _
 have HR3:Hx (Ad [O y21 y22 y23,O y24 y25 y26] W3 W.heap.size):=by rw [hW3];exact HZ2.o.fill _ _
 have HL3:Hx (Ar x.c.n (XW x) W3 (zh #[O y21 y22 y23,O y24 y25 y26]) lb):=by rw [hW3];exact CY HL2.o HZ2.o (by have:=HI.o.lo.2;omega) _ _
 unfold Bp at hW3
 go_simp
 rw [<-hW3]
 clear hW3 d0 d1 z0 z1
 refine xK hK (HS.o _ HB3.o) fun hHeld=>?_
 clear hK K
 refine gE ?_
 have r0:=HR3.o 0 _ rfl
 have r1:=HR3.o 1 _ rfl
 go_wp2_with fail
 exact bodyPost_ret (v:=zh #[O y21 y22 y23,O y24 y25 y26]) (by simp [results,Tryz.results188,go_sem,r0,r1]) rfl ⟨_,_,_,_,_,_,rfl,HL3.o,HB3.o⟩
abbrev OZ (x:WX) (bv ov bl:Nat) (W:World) (p1:Option Addr) (q1 r1:Nat) (p2:Option Addr) (q2 r2:Nat) (m1:Option Addr) (m2 m3:Nat) (m4:Option Addr) (m5 m6 i:Nat) (a1:Option Addr) (a2 a3:Nat) (a4:Option Addr) (a5 a6:Nat) (kn:Bool) (Wz:World):Prop:=Wz.cell? ⟨x.bw,1,none⟩=some (U zd (x.c.n:Int))/\Wz.cell? ⟨x.bw,2,none⟩=some (O x.c.ga x.c.gn x.c.gc)/\Wz.cell? ⟨x.bw,3,none⟩=some (O x.c.sa x.c.sn x.c.sc)/\Wz.cell? ⟨x.bw,4,none⟩=some (O x.c.ya x.c.yn x.c.yc)/\Wz.cell? ⟨x.bw,5,none⟩=some (O x.c.oa x.c.on x.c.oc)/\Wz.cell? ⟨x.bw,6,none⟩=some (O (some ⟨bv,ov,none⟩) x.c.vn x.c.vc)/\Wz.cell? ⟨x.bw,7,none⟩=some (O x.c.fa x.c.fn x.c.fc)/\Wz.cell? ⟨x.bw,8,none⟩=some (O x.c.ba x.c.bn x.c.bc)/\Wz.cell? ⟨x.bw,9,none⟩=some (O (some ⟨bl,0,none⟩) x.c.ln x.c.lc)/\Wz.cell? ⟨x.bw,10,none⟩=some (O x.c.ka x.c.kn x.c.kc)/\Wz.cell? ⟨W.heap.size,0,none⟩=some (O p1 q1 r1)/\Wz.cell? ⟨W.heap.size,1,none⟩=some (O p2 q2 r2)/\Wz.cell? ⟨W.heap.size+1,0,none⟩=some (O m1 m2 m3)/\Wz.cell? ⟨W.heap.size+1,1,none⟩=some (O m4 m5 m6)/\Wz.cell? ⟨bl,i*2,none⟩=some (O a1 a2 a3)/\Wz.cell? ⟨bl,i*2+1,none⟩=some (O a4 a5 a6)/\Wz.cell? ⟨bv,ov+i*3,none⟩=some (zg kn)
theorem Ga (x) (w0:World) (K kf:Nat) (gs ls ms vs fs) (S:WtS x w0 K kf gs ls ms vs fs) (s:WSt) (pv:Value) (W:World) (h:WtI x w0 s pv W) (hvl:s.vs.length=vs.length) (v u:Value) (p l) (hp:Ar x.c.n (XW x) W v p) (hl:Ar x.c.n (XW x) W u l) (i:Nat) (hi:i < vs.length) :
  Calls Tryz.prog 186 #[zi (some ⟨x.bw,0,none⟩),v,U zd (i:Int),u] W fun e W'=>e=zj (zg (AE p (s.vs.getD i AU) x.c.n && (!vs[i].1 || AE l (Av (Ay gs) x.c.n vs[i].2) x.c.n)))/\Ov W W':=by
 obtain ⟨p1,q1,r1,p2,q2,r2,rfl⟩:=hp.form
 obtain ⟨m1,m2,m3,m4,m5,m6,rfl⟩:=hl.form
 have his:i < s.vs.length:=by omega
 have hgd:s.vs.getD i AU=s.vs[i]:=by simp [List.getD_eq_getElem?_getD,his]
 rw [hgd]
 obtain ⟨bl,lcap,a1,a2,a3,a4,a5,a6,hlv,k0,k1,hlz⟩:=h.lev.cells his
 have hla:x.c.la=some ⟨bl,0,none⟩:=by unfold WX.lv at hlv;injection hlv
 have hln:x.c.ln=s.vs.length:=by unfold WX.lv at hlv;injection hlv
 obtain ⟨hym,va',vc',hve,hvel⟩:=S.vars
 injection hve with v1 v2 v3
 obtain ⟨bv,ov,hvo,hvel⟩:=hvel (by rintro rfl;simp at hi)
 obtain ⟨pr,pw,g0,g1,g2,hpr,hpw⟩:=hvel i hi
 obtain ⟨pa1,pn1,pc1,rfl⟩:=Aw hpr
 obtain ⟨pa2,pn2,pc2,rfl⟩:=Aw hpw
 have hva:x.c.va=some ⟨bv,ov,none⟩:=v1.trans hvo
 have hvn2:x.c.vn=vs.length:=v2
 have hv16:=S.v16
 have gi1:(i:Int) < (x.c.vn:Int):=by omega
 have gi2:x.c.vn<=16:=by omega
 have gj1:(i:Int) < (x.c.ln:Int):=by omega
 have gj2:x.c.ln<=16:=by omega
 have hcv:x.c.v=(zh #[U zd (x.c.n:Int),O x.c.ga x.c.gn x.c.gc,O x.c.sa x.c.sn x.c.sc,O x.c.ya x.c.yn x.c.yc,O x.c.oa x.c.on x.c.oc,O (some ⟨bv,ov,none⟩) x.c.vn x.c.vc,O x.c.fa x.c.fn x.c.fc,O x.c.ba x.c.bn x.c.bc,O (some ⟨bl,0,none⟩) x.c.ln x.c.lc,O x.c.ka x.c.kn x.c.kc]):=by show Value.agg #[U zd (x.c.n:Int),O x.c.ga x.c.gn x.c.gc,O x.c.sa x.c.sn x.c.sc,O x.c.ya x.c.yn x.c.yc,O x.c.oa x.c.on x.c.oc,O x.c.va x.c.vn x.c.vc,O x.c.fa x.c.fn x.c.fc,O x.c.ba x.c.bn x.c.bc,O x.c.la x.c.ln x.c.lc,O x.c.ka x.c.kn x.c.kc]=_;rw [hva,hla]
 obtain ⟨V1,hV1⟩:=nm (((W.alloc (ze #[O p1 q1 r1,O p2 q2 r2] 50)).alloc (ze #[O m1 m2 m3,O m4 m5 m6] 50)))
 have hb1:Ov W V1:=by rw [hV1];exact (bA W _).alloc (by simp) _
 have ra:Ad [O p1 q1 r1,O p2 q2 r2] V1 W.heap.size:=by
  rw [hV1]
  exact (Ad.new [O p1 q1 r1,O p2 q2 r2] 50 W).over (bA _ _)
 have rb:Ad [O m1 m2 m3,O m4 m5 m6] V1 (W.heap.size+1):=by
  rw [hV1]
  have r:=Ad.new [O m1 m2 m3,O m4 m5 m6] 50 (W.alloc (ze #[O p1 q1 r1,O p2 q2 r2] 50))
  simpa using r
 have HB1:=Aa hb1
 have HB0:Hx (Ov V1 V1.drew):=(bD _)
 obtain ⟨f1,hf1⟩:=nm (AE p s.vs[i] x.c.n)
 obtain ⟨f2,hf2⟩:=nm (AE l (Av (Ay gs) x.c.n vs[i].2) x.c.n)
 have KF1:Hx (∀ (W2:World),Ov V1 W2->Calls Tryz.prog 57 #[(zh #[U zd (x.c.n:Int),O x.c.ga x.c.gn x.c.gc,O x.c.sa x.c.sn x.c.sc,O x.c.ya x.c.yn x.c.yc,O x.c.oa x.c.on x.c.oc,O (some ⟨bv,ov,none⟩) x.c.vn x.c.vc,O x.c.fa x.c.fn x.c.fc,O x.c.ba x.c.bn x.c.bc,O (some ⟨bl,0,none⟩) x.c.ln x.c.lc,O x.c.ka x.c.kn x.c.kc]),zh #[O p1 q1 r1,O p2 q2 r2],zh #[O a1 a2 a3,O a4 a5 a6]] W2 fun e w'=>e=zj (zg f1)/\Ov W2 w'):=fun W2 hb2=>by
  have hb3:=Ac hb1 hb2
  have h2:=h.over hb3
  have hp2:=hp.over (A0 x) hb3
  have hz2:=hlz.over (A0 x) hb3
  have:=DB x.c gs _ _ _ _ W2 (Af S.gr h2.below) S.chk hp2.at_ hp2.len hz2.at_ hz2.len
  rw [hcv,<-hf1] at this
  exact this
 have KBd:Hx (∀ (W2:World),Ov V1 W2->Calls Tryz.prog 188 #[zi (some ⟨x.bw,0,none⟩),U zd (i:Int)] W2 fun e W'=>∃ a1 a2 a3 a4 a5 a6,e=zj (zh #[O a1 a2 a3,O a4 a5 a6])/\Ar x.c.n (XW x) W' (zh #[O a1 a2 a3,O a4 a5 a6]) (Av (Ay gs) x.c.n vs[i].2)/\Ov W2 W'):=fun W2 hb2=>J6 x w0 K kf gs ls ms vs fs S s pv W2 (h.over (Ac hb1 hb2)) i hi
 have KF2:Hx (∀ (W2:World) {y:Value},Ov V1 W2->Ar x.c.n (XW x) W2 y (Av (Ay gs) x.c.n vs[i].2)->Calls Tryz.prog 57 #[(zh #[U zd (x.c.n:Int),O x.c.ga x.c.gn x.c.gc,O x.c.sa x.c.sn x.c.sc,O x.c.ya x.c.yn x.c.yc,O x.c.oa x.c.on x.c.oc,O (some ⟨bv,ov,none⟩) x.c.vn x.c.vc,O x.c.fa x.c.fn x.c.fc,O x.c.ba x.c.bn x.c.bc,O (some ⟨bl,0,none⟩) x.c.ln x.c.lc,O x.c.ka x.c.kn x.c.kc]),zh #[O m1 m2 m3,O m4 m5 m6],y] W2 fun e w'=>e=zj (zg f2)/\Ov W2 w'):=fun W2 y hb2 hy=>by
  have hb3:=Ac hb1 hb2
  have h2:=h.over hb3
  have hp2:=hl.over (A0 x) hb3
  have:=DB x.c gs _ y _ _ W2 (Af S.gr h2.below) S.chk hp2.at_ hp2.len hy.at_ hy.len
  rw [hcv,<-hf2] at this
  exact this
 obtain ⟨kn,hkn⟩:=nm (vs[i].1)
 rw [<-hkn] at g0
 have HS:Hx (∀ (W2:World),Ov V1 W2->OZ x bv ov bl W p1 q1 r1 p2 q2 r2 m1 m2 m3 m4 m5 m6 i a1 a2 a3 a4 a5 a6 kn W2):=fun W2 hb2=>by
  have hb3:=Ac hb1 hb2
  have h2:=h.over hb3
  exact ⟨h2.cw (j:=0) rfl,h2.cw (j:=1) rfl,h2.cw (j:=2) rfl,h2.cw (j:=3) rfl,h2.cw (j:=4) rfl,by rw [<-hva];exact h2.cw (j:=5) rfl,h2.cw (j:=6) rfl,h2.cw (j:=7) rfl,by rw [<-hla];exact h2.cw (j:=8) rfl,h2.cw (j:=9) rfl,(ra.over hb2) 0 _ rfl,(ra.over hb2) 1 _ rfl,(rb.over hb2) 0 _ rfl,(rb.over hb2) 1 _ rfl,Ab hb3 _ _ k0,Ab hb3 _ _ k1,Ab h2.below _ _ g0⟩
 rw [<-hf1,<-hf2,<-hkn]
 generalize Av (Ay gs) x.c.n vs[i].2=lb at KBd KF2
 clear ra rb hb1 h S hym hvel v1 v2 v3 hvo hva hvn2 hv16 g0 g1 g2 hpr hpw hcv hi his hgd hla hln hlv k0 k1 hlz hp hl hvl hf1 hf2 hkn
 cases f1 with
 | false=>
  go_enter Tryz.func186,Tryz.ntmps186
  go_wp2_with fail
  rw [<-hV1]
  clear hV1
  refine gS (OZ x bv ov bl W p1 q1 r1 p2 q2 r2 m1 m2 m3 m4 m5 m6 i a1 a2 a3 a4 a5 a6 kn) (HS.o _ HB0.o) fun hHeld=>?_
  refine kT 0 ?_
  refine kT 1 ?_
  refine kT 2 ?_
  refine kT 3 ?_
  refine kT 4 ?_
  refine kT 5 ?_
  refine kT 6 ?_
  refine kT 7 ?_
  refine kT 8 ?_
  refine kT 9 ?_
  refine kT 10 ?_
  refine kT 11 ?_
  refine kT 12 ?_
  refine kT 13 ?_
  refine rdA 14 rfl fun K hK=>?_
  go_simp
  refine (KF1.o _ HB0.o).mono ?_
  rintro e W2 ⟨rfl,hb2⟩
  have HB2:=Aa (Ac HB0.o hb2)
  clear hb2
  go_simp
  refine xK hK (HS.o _ HB2.o) fun hHeld=>?_
  clear hK K
  refine kT 15 ?_
  refine kU 16 ?_
  refine kU 17 ?_
  refine kU 18 ?_
  refine kU 19 ?_
  refine kU 20 ?_
  refine kU 21 ?_
  refine kU 22 ?_
  refine kU 23 ?_
  refine kU 24 ?_
  refine kU 25 ?_
  refine kU 26 ?_
  refine kU 27 ?_
  refine kU 28 ?_
  refine kU 29 ?_
  refine kU 30 ?_
  refine kU 31 ?_
  refine kU 32 ?_
  refine kU 33 ?_
  refine kU 34 ?_
  refine kU 35 ?_
  refine kU 36 ?_
  refine kU 37 ?_
  refine kT 38 ?_
  refine kT 39 ?_
  refine gE ?_
  go_wp2_with fail
  go_ret
  exact ⟨by simp,Ac HB1.o HB2.o⟩
 | true=>
  cases kn with
  | false=>
   go_enter Tryz.func186,Tryz.ntmps186
   go_wp2_with fail
   rw [<-hV1]
   clear hV1
   refine gS (fun Wz=>Wz.cell? ⟨x.bw,1,none⟩=some (U zd (x.c.n:Int))/\Wz.cell? ⟨x.bw,2,none⟩=some (O x.c.ga x.c.gn x.c.gc)/\Wz.cell? ⟨x.bw,3,none⟩=some (O x.c.sa x.c.sn x.c.sc)/\Wz.cell? ⟨x.bw,4,none⟩=some (O x.c.ya x.c.yn x.c.yc)/\Wz.cell? ⟨x.bw,5,none⟩=some (O x.c.oa x.c.on x.c.oc)/\Wz.cell? ⟨x.bw,6,none⟩=some (O (some ⟨bv,ov,none⟩) x.c.vn x.c.vc)/\Wz.cell? ⟨x.bw,7,none⟩=some (O x.c.fa x.c.fn x.c.fc)/\Wz.cell? ⟨x.bw,8,none⟩=some (O x.c.ba x.c.bn x.c.bc)/\Wz.cell? ⟨x.bw,9,none⟩=some (O (some ⟨bl,0,none⟩) x.c.ln x.c.lc)/\Wz.cell? ⟨x.bw,10,none⟩=some (O x.c.ka x.c.kn x.c.kc)/\Wz.cell? ⟨W.heap.size,0,none⟩=some (O p1 q1 r1)/\Wz.cell? ⟨W.heap.size,1,none⟩=some (O p2 q2 r2)/\Wz.cell? ⟨W.heap.size+1,0,none⟩=some (O m1 m2 m3)/\Wz.cell? ⟨W.heap.size+1,1,none⟩=some (O m4 m5 m6)/\Wz.cell? ⟨bl,i*2,none⟩=some (O a1 a2 a3)/\Wz.cell? ⟨bl,i*2+1,none⟩=some (O a4 a5 a6)/\Wz.cell? ⟨bv,ov+i*3,none⟩=some (zg false)) (HS.o _ HB0.o) fun hHeld=>?_
   refine kT 0 ?_
   refine kT 1 ?_
   refine kT 2 ?_
   refine kT 3 ?_
   refine kT 4 ?_
   refine kT 5 ?_
   refine kT 6 ?_
   refine kT 7 ?_
   refine kT 8 ?_
   refine kT 9 ?_
   refine kT 10 ?_
   refine kT 11 ?_
   refine kT 12 ?_
   refine kT 13 ?_
   refine rdA 14 rfl fun K hK=>?_
   go_simp
   refine (KF1.o _ HB0.o).mono ?_
   rintro e W2 ⟨rfl,hb2⟩
   have HB2:=Aa (Ac HB0.o hb2)
   clear hb2
   go_simp
   refine xK hK (HS.o _ HB2.o) fun hHeld=>?_
   clear hK K
   refine kT 15 ?_
   refine kT 16 ?_
   refine kT 17 ?_
   refine kT 18 ?_
   refine kT 19 ?_
   refine kT 20 ?_
   refine kT 21 ?_
   refine kT 22 ?_
   refine kT 23 ?_
   refine kT 24 ?_
   refine kT 25 ?_
   refine kT 26 ?_
   refine kT 27 ?_
   refine kU 28 ?_
   refine kU 29 ?_
   refine kU 30 ?_
   refine kU 31 ?_
   refine kU 32 ?_
   refine kU 33 ?_
   refine kU 34 ?_
   refine kU 35 ?_
   refine kU 36 ?_
   refine kT 37 ?_
   refine kT 38 ?_
   refine kT 39 ?_
   refine gE ?_
   go_wp2_with fail
   go_ret
   exact ⟨by simp,Ac HB1.o HB2.o⟩
  | true=>
   go_enter Tryz.func186,Tryz.ntmps186
   go_wp2_with fail
   rw [<-hV1]
   clear hV1
   refine gS (fun Wz=>Wz.cell? ⟨x.bw,1,none⟩=some (U zd (x.c.n:Int))/\Wz.cell? ⟨x.bw,2,none⟩=some (O x.c.ga x.c.gn x.c.gc)/\Wz.cell? ⟨x.bw,3,none⟩=some (O x.c.sa x.c.sn x.c.sc)/\Wz.cell? ⟨x.bw,4,none⟩=some (O x.c.ya x.c.yn x.c.yc)/\Wz.cell? ⟨x.bw,5,none⟩=some (O x.c.oa x.c.on x.c.oc)/\Wz.cell? ⟨x.bw,6,none⟩=some (O (some ⟨bv,ov,none⟩) x.c.vn x.c.vc)/\Wz.cell? ⟨x.bw,7,none⟩=some (O x.c.fa x.c.fn x.c.fc)/\Wz.cell? ⟨x.bw,8,none⟩=some (O x.c.ba x.c.bn x.c.bc)/\Wz.cell? ⟨x.bw,9,none⟩=some (O (some ⟨bl,0,none⟩) x.c.ln x.c.lc)/\Wz.cell? ⟨x.bw,10,none⟩=some (O x.c.ka x.c.kn x.c.kc)/\Wz.cell? ⟨W.heap.size,0,none⟩=some (O p1 q1 r1)/\Wz.cell? ⟨W.heap.size,1,none⟩=some (O p2 q2 r2)/\Wz.cell? ⟨W.heap.size+1,0,none⟩=some (O m1 m2 m3)/\Wz.cell? ⟨W.heap.size+1,1,none⟩=some (O m4 m5 m6)/\Wz.cell? ⟨bl,i*2,none⟩=some (O a1 a2 a3)/\Wz.cell? ⟨bl,i*2+1,none⟩=some (O a4 a5 a6)/\Wz.cell? ⟨bv,ov+i*3,none⟩=some (zg true)) (HS.o _ HB0.o) fun hHeld=>?_
   refine kT 0 ?_
   refine kT 1 ?_
   refine kT 2 ?_
   refine kT 3 ?_
   refine kT 4 ?_
   refine kT 5 ?_
   refine kT 6 ?_
   refine kT 7 ?_
   refine kT 8 ?_
   refine kT 9 ?_
   refine kT 10 ?_
   refine kT 11 ?_
   refine kT 12 ?_
   refine kT 13 ?_
   refine rdA 14 rfl fun K hK=>?_
   go_simp
   refine (KF1.o _ HB0.o).mono ?_
   rintro e W2 ⟨rfl,hb2⟩
   have HB2:=Aa (Ac HB0.o hb2)
   clear hb2
   go_simp
   refine xK hK (HS.o _ HB2.o) fun hHeld=>?_
   clear hK K
   refine kT 15 ?_
   refine kT 16 ?_
   refine kT 17 ?_
   refine kT 18 ?_
   refine kT 19 ?_
   refine kT 20 ?_
   refine kT 21 ?_
   refine kT 22 ?_
   refine kT 23 ?_
   refine kT 24 ?_
   refine kT 25 ?_
   refine kT 26 ?_
   refine kT 27 ?_
   refine kT 28 ?_
   refine kT 29 ?_
   refine kT 30 ?_
   refine kT 31 ?_
   refine kT 32 ?_
   refine kT 33 ?_
   refine kT 34 ?_
   refine rdA 35 rfl fun K hK=>?_
   go_simp
   refine (KBd.o _ HB2.o).mono ?_
   rintro e W3 ⟨b1,b2,b3,b4,b5,b6,rfl,hL3,hb3⟩
   have HB3:=Aa (Ac HB2.o hb3)
   have HL3:=Aa hL3
   clear hb3 hL3
   go_simp
   refine xK hK (HS.o _ HB3.o) fun hHeld=>?_
   clear hK K
   refine rdA 36 rfl fun K hK=>?_
   go_simp
   refine (KF2.o _ HB3.o HL3.o).mono ?_
   rintro e W4 ⟨rfl,hb4⟩
   have HB4:=Aa (Ac HB3.o hb4)
   clear hb4
   go_simp
   refine xK hK (HS.o _ HB4.o) fun hHeld=>?_
   clear hK K
   refine kT 37 ?_
   refine kT 38 ?_
   refine kT 39 ?_
   refine gE ?_
   go_wp2_with fail
   go_ret
   exact ⟨by simp,Ac HB1.o HB4.o⟩
def A7 (x:WX) (K:Nat) (gs:List (Int × Int)) (ls ms:List Lab) (vs:List (Bool × Lab)) (fs:List FnD):WK:=⟨x.c.n,K,ls.map (Av (Ay gs) x.c.n),ms.map (Av (Ay gs) x.c.n),vs.map Prod.fst,vs.map (fun v=>Av (Ay gs) x.c.n v.2),fs,x.fl⟩
theorem IY (x) (K:Nat) (gs ls ms) (vs:List (Bool × Lab)) (fs) (s:WSt) (p l:Lev) {i:Nat} (hi:i < vs.length):EV (A7 x K gs ls ms vs fs) s p (i:Int) l=(AE p (s.vs.getD i AU) x.c.n && (!vs[i].1 || AE l (Av (Ay gs) x.c.n vs[i].2) x.c.n)):=by
 unfold EV A7
 simp [List.getD_eq_getElem?_getD,hi]
abbrev Mh (x:WX) (bl:Nat) (W:World) (m1:Option Addr) (m2 m3:Nat) (m4:Option Addr) (m5 m6:Nat) (Wz:World):Prop:=Wz.cell? ⟨x.bw,9,none⟩=some (O (some ⟨bl,0,none⟩) x.c.ln x.c.lc)/\CE Wz (W.heap.size+1) 0 (O m1 m2 m3)/\CE Wz (W.heap.size+1) 1 (O m4 m5 m6)
theorem E3 (x) (w0:World) (K kf:Nat) (gs ls ms vs fs) (S:WtS x w0 K kf gs ls ms vs fs) (s:WSt) (pv:Value) (W:World) (h:WtI x w0 s pv W) (hvl:s.vs.length=vs.length) (v u:Value) (p l) (hp:Ar x.c.n (XW x) W v p) (hl:Ar x.c.n (XW x) W u l) (i:Nat) (hi:i < vs.length) :
  Calls Tryz.prog 121 #[zi (some ⟨x.bw,0,none⟩),v,U zd (i:Int),u] W fun e W'=>e=zj (zg (CM (A7 x K gs ls ms vs fs) s p (i:Int) l).1)/\WtI x w0 (CM (A7 x K gs ls ms vs fs) s p (i:Int) l).2 pv W'/\FrW (XV x) W W':=by
 obtain ⟨p1,q1,r1,p2,q2,r2,rfl⟩:=hp.form
 obtain ⟨m1,m2,m3,m4,m5,m6,rfl⟩:=hl.form
 unfold CM
 rw [IY x K gs ls ms vs fs s p l hi]
 have his:i < s.vs.length:=by omega
 obtain ⟨bl,lcap,a1,a2,a3,a4,a5,a6,hlv,k0,k1,hlz⟩:=h.lev.cells his
 have hla:x.c.la=some ⟨bl,0,none⟩:=by unfold WX.lv at hlv;injection hlv
 have hln:x.c.ln=s.vs.length:=by unfold WX.lv at hlv;injection hlv
 have hv16:=S.v16
 have gj1:(i:Int) < (x.c.ln:Int):=by omega
 have gj2:x.c.ln<=16:=by omega
 obtain ⟨V1,hV1⟩:=nm (((W.alloc (ze #[O p1 q1 r1,O p2 q2 r2] 50)).alloc (ze #[O m1 m2 m3,O m4 m5 m6] 50)))
 have hb1:Ov W V1:=by rw [hV1];exact (bA W _).alloc (by simp) _
 have ra:Ad [O p1 q1 r1,O p2 q2 r2] V1 W.heap.size:=by
  rw [hV1]
  exact (Ad.new [O p1 q1 r1,O p2 q2 r2] 50 W).over (bA _ _)
 have rb:Ad [O m1 m2 m3,O m4 m5 m6] V1 (W.heap.size+1):=by
  rw [hV1]
  have r:=Ad.new [O m1 m2 m3,O m4 m5 m6] 50 (W.alloc (ze #[O p1 q1 r1,O p2 q2 r2] 50))
  simpa using r
 have HB1:=Aa hb1
 have HI:=Aa h
 have HN1:=Aa S.n1
 have HLU:=Aa hl
 have HRB:=Aa rb
 have HLA:=Aa hla
 have HIS:=Aa his
 have KM:=Aa (Ga x w0 K kf gs ls ms vs fs S s pv V1 (h.over hb1) hvl _ _ p l (hp.over (A0 x) hb1) (hl.over (A0 x) hb1) i hi)
 obtain ⟨b,hb⟩:=nm ((AE p (s.vs.getD i AU) x.c.n && (!vs[i].1 || AE l (Av (Ay gs) x.c.n vs[i].2) x.c.n)))
 rw [<-hb] at KM ⊢
 have u0:=ra 0 _ rfl
 have u1:=ra 1 _ rfl
 have u2:=rb 0 _ rfl
 have u3:=rb 1 _ rfl
 rw [hV1] at u0 u1 u2 u3
 clear hb ra rb hb1 h S hi his hla hln hlv k0 k1 hlz hp hl hvl hv16
 cases b with
 | false=>
  go_enter Tryz.func121,Tryz.ntmps121
  go_wp2_with fail
  rw [<-hV1]
  clear hV1 u0 u1 u2 u3
  refine (KM.o).mono ?_
  rintro e W2 ⟨rfl,hb2⟩
  have HB2:=Aa (Ac HB1.o hb2)
  clear hb2
  go_wp2_with fail
  go_ret
  exact ⟨rfl,HI.o.over HB2.o,FrW.of_below (Bl x) HB2.o⟩
 | true=>
  go_enter Tryz.func121,Tryz.ntmps121
  go_wp2_with fail
  rw [<-hV1]
  clear hV1 u0 u1 u2 u3
  refine (KM.o).mono ?_
  rintro e W2 ⟨rfl,hb2⟩
  have hB3:Ov W W2.drew:=(Ac HB1.o hb2).drew
  have h2:=HI.o.over (Ac HB1.o hb2)
  have h3:=HI.o.over hB3
  have rb3:=(HRB.o.over hb2).over (bD _)
  have u9:CE W2 x.bw 9 (O (some ⟨bl,0,none⟩) x.c.ln x.c.lc):=by rw [<-HLA.o];exact h2.cw (j:=8) rfl
  have HS3:Hx (Mh x bl W m1 m2 m3 m4 m5 m6 W2.drew):=⟨u9,rb3 0 _ rfl,rb3 1 _ rfl⟩
  have hset:=h3.setLev HN1.o HLA.o HIS.o (HLU.o.over (A0 x) hB3)
  obtain ⟨W4,hW4⟩:=nm (((W2.setCell ⟨bl,i*2,none⟩ (O m1 m2 m3)).setCell ⟨bl,i*2+1,none⟩ (O m4 m5 m6)).drew)
  have hcm:(W2.drew.setCell ⟨bl,i*2,none⟩ (O m1 m2 m3)).setCell ⟨bl,i*2+1,none⟩ (O m4 m5 m6)=W4:=by rw [hW4];rfl
  rw [hcm] at hset
  clear hcm
  have HI4:=Aa hset.1
  have HF4:=Aa ((FrW.of_below (Bl x) hB3).trans hset.2)
  have HS4:Hx (Mh x bl W m1 m2 m3 m4 m5 m6 W4):=⟨by rw [<-HLA.o];exact hset.1.cw (j:=8) rfl,hset.2.row rb3 (fun e=>by have:=(HI.o.vlt _ ((Bl x).below _ _ hB3 _ e)).2;omega) 0 _ rfl,hset.2.row rb3 (fun e=>by have:=(HI.o.vlt _ ((Bl x).below _ _ hB3 _ e)).2;omega) 1 _ rfl⟩
  obtain ⟨us,ho,hel⟩:=h2.lev
  have hol:x.lv=O (some ⟨bl,0,none⟩) s.vs.length x.c.lc:=by
   rcases ho.2 with ⟨e,-⟩ | ⟨g',cap,cur,e,-⟩
   ·unfold WX.lv at e;rw [HLA.o] at e;cases e
   ·unfold WX.lv at e ⊢;injection e with e1 e2 e3;rw [HLA.o,e2]
  rw [hol] at ho
  have hul:=ho.1
  have hlt:=HIS.o
  have d0:=(ho.cellAt (i*2) (by omega)).trans (List.getElem?_eq_getElem (by omega))
  have d1:=(ho.cellAt (i*2+1) (by omega)).trans (List.getElem?_eq_getElem (by omega))
  have z0:=ho.frozenAt (i*2)
  have z1:=ho.frozenAt (i*2+1)
  generalize us[i*2]=d0v at d0
  generalize us[i*2+1]=d1v at d1
  clear hB3 h2 h3 rb3 hset hb2 ho hel hol hul hlt KM
  go_wp2_with fail
  refine gS (Mh x bl W m1 m2 m3 m4 m5 m6) (HS3.o) fun hHeld=>?_
  refine kT 0 ?_
  refine kT 1 ?_
  refine kT 2 ?_
  refine kT 3 ?_
  refine kT 4 ?_
  refine kT 5 ?_
  refine kT 6 ?_
  refine kT 7 ?_
  refine kT 8 ?_
  refine rdA 9 rfl fun K hK=>?_
  go_simp
  rw [<-hW4]
  clear hW4
  refine xK hK (HS4.o) fun hHeld=>?_
  clear hK K
  refine gE ?_
  go_wp2_with fail
  go_ret
  exact ⟨rfl,HI4.o,HF4.o⟩
theorem Tryz.infoLk:(Tryz.prog.info? 50).map (fun i=>(i.zero,i.size,i.bytes))=some (some (zh #[O none 0 0,O none 0 0]),2,48):=by kernel_rfl
theorem Np (x:WX) (w0:World) (n1:1<=x.c.n) (s:WSt) (pv:Value) (W:World) (h:WtI x w0 s pv W) (v:Value) (p) (hp:Ar x.c.n (XW x) W v p) (dp:Nat) (hd:dp < s.ps.length) (hd9:dp<=9000) :
  Calls Tryz.prog 120 #[zi (some ⟨x.bw,0,none⟩),U zd (dp:Int),v] W fun e W'=>e=zj (zk #[])/\(∃ pv',WtI x w0 (s.enter dp p) pv' W')/\FrW (XV x) W W':=by
 obtain ⟨p1,q1,r1,p2,q2,r2,rfl⟩:=hp.form
 obtain ⟨g,cap,hpv,hcap⟩:=h.pls.form (by omega)
 obtain ⟨m1,hm1⟩:=nm (dp+1)
 have hwr:IntKind.i64.wrap ((dp:Int)+1)=(m1:Int):=by rw [IntKind.wrap_i64];omega
 subst hpv
 obtain ⟨V1,hV1⟩:=nm (W.alloc (ze #[O p1 q1 r1,O p2 q2 r2] 50))
 have hb1:Ov W V1:=by rw [hV1];exact bA W _
 have ra:Ad [O p1 q1 r1,O p2 q2 r2] V1 W.heap.size:=by rw [hV1];exact Ad.new _ _ _
 have hb2:Ov W (V1.drew.alloc (ze #[O p1 q1 r1,O p2 q2 r2] 50)):=(hb1.drew).alloc (by have:=hb1.size;exact this) _
 have h2:=h.over hb2
 have hp2:=hp.over (A0 x) hb2
 obtain ⟨i0,hi,hz0,hz1,hz2⟩:=info_parts Tryz.infoLk
 have htk:=h2.pls.take (m:=m1) (by omega)
 obtain ⟨us,hown,hel⟩:=htk
 have hlen:(s.ps.take m1).length=m1:=by simp;omega
 rw [hlen] at hown
 have hN:=Ad.new [O p1 q1 r1,O p2 q2 r2] 50 V1.drew
 obtain ⟨v2,w2,hrun,hown2,hgr2,-,hat⟩:=run_append_own_at (P:=Tryz.prog) (w:=(V1.drew.alloc (ze #[O p1 q1 r1,O p2 q2 r2] 50))) w0.heap.size 42 42 50 i0 (zh #[O none 0 0,O none 0 0]) 2 48 Tryz.underlying42 hi hz0 hz1 hz2 rfl (by decide) _ _ _ hown ⟨V1.drew.heap.size,0,none⟩ 1 1 [O p1 q1 r1,O p2 q2 r2] rfl (fun jj u hu=>by rw [Addr.add_lit,Nat.zero_add];exact hN jj u hu) (by simp [Value.oneCell']) (by unfold maxLen;omega) (by omega) (Nat.le_trans h2.below.size (Nat.le_refl _))
 obtain ⟨va2,vn2,vc2,rfl⟩:=AG hown2
 have hfin:=h2.newPls n1 hel (by rw [hown.1,hlen]) hp2 (by rw [hlen];exact hown2) hgr2 hat
 have e11:=(h.over hb1).c11
 have e12:CE (V1.alloc (ze #[O p1 q1 r1,O p2 q2 r2] 50)) x.bw 11 (O (some ⟨g,0,none⟩) s.ps.length cap):=h2.c11
 have hbw2:w2.heap[x.bw]? = (V1.drew.alloc (ze #[O p1 q1 r1,O p2 q2 r2] 50)).heap[x.bw]?:=hgr2.block x.bw h2.lo.2 (fun e=>h2.apP e.symm)
 have d2:CE w2 x.bw 11 (O (some ⟨g,0,none⟩) s.ps.length cap):=(World.cell?_of_block (a:=⟨x.bw,11,none⟩) hbw2).trans h2.c11
 have f2:w2.frozen? ⟨x.bw,11,none⟩=false:=(World.frozen?_of_block (a:=⟨x.bw,11,none⟩) hbw2).trans (h2.fz 11)
 have hF2:=(FrW.of_below (Bl x) hb2).trans hfin.2
 have hnW:∀ (W3:World),Ov W W3->¬ XV x W3 W.heap.size:=fun W3 hb3 e=>by have:=(h.vlt _ ((Bl x).below _ _ hb3 _ e)).2;omega
 have HS1:Hx (CE V1.drew W.heap.size 0 (O p1 q1 r1)/\CE V1.drew W.heap.size 1 (O p2 q2 r2)):=⟨ra 0 _ rfl,ra 1 _ rfl⟩
 have ra2:Ad [O p1 q1 r1,O p2 q2 r2] (V1.drew.alloc (ze #[O p1 q1 r1,O p2 q2 r2] 50)) W.heap.size:=(ra.over (bD _)).over (bA _ _)
 have HS2:Hx (CE (V1.drew.alloc (ze #[O p1 q1 r1,O p2 q2 r2] 50)) W.heap.size 0 (O p1 q1 r1)/\CE (V1.drew.alloc (ze #[O p1 q1 r1,O p2 q2 r2] 50)) W.heap.size 1 (O p2 q2 r2)):=⟨ra2 0 _ rfl,ra2 1 _ rfl⟩
 have hgW:(Value.slice (some ⟨g,0,none⟩) m1 cap).ownBlock≠some W.heap.size:=fun e=>by simp [Value.ownBlock] at e;have:=(h.pls.lt g (by simp [Value.ownBlock])).2;omega
 have ra3:Ad [O p1 q1 r1,O p2 q2 r2] w2 W.heap.size:=fun j u hu=>(World.cell?_of_block (a:=⟨W.heap.size,j,none⟩) (hgr2.block _ (bL (ra2 j u hu)) (fun e=>hgW e.symm))).trans (ra2 j u hu)
 have HS3:Hx (CE w2 W.heap.size 0 (O p1 q1 r1)/\CE w2 W.heap.size 1 (O p2 q2 r2)):=⟨ra3 0 _ rfl,ra3 1 _ rfl⟩
 have ra4:=hfin.2.row ra2 (hnW _ hb2)
 obtain ⟨W4,hW4⟩:=nm (w2.setCell ⟨x.bw,11,none⟩ (O va2 vn2 vc2))
 rw [<-hW4] at hfin hF2 ra4
 have HS4:Hx (CE W4 W.heap.size 0 (O p1 q1 r1)/\CE W4 W.heap.size 1 (O p2 q2 r2)):=⟨ra4 0 _ rfl,ra4 1 _ rfl⟩
 have HFIN:Hx (WtI x w0 (s.enter dp p) (O va2 vn2 vc2) W4/\FrW (XV x) W W4):=⟨by have e:=hfin.1;rw [hm1] at e;exact e,hF2⟩
 have gd1:m1<=cap:=by
  obtain ⟨us',ho',-⟩:=h.pls
  rcases ho'.2 with ⟨e,-⟩ | ⟨g',c',cur,e,-,-,hc,-⟩
  ·cases e
  ·injection e with e1 e2 e3;omega
 have gd2:cap<=9223372036854775807:=hcap
 clear h h2 hp hp2 hb1 hb2 hN hel hown hown2 hgr2 hat hfin hF2 hnW ra ra2 ra3 ra4 hgW hbw2 hi hz0 hz1 hz2 hlen hcap hm1
 go_enter Tryz.func120,Tryz.ntmps120
 go_wp2_with fail
 rw [<-hV1]
 clear hV1
 refine gS (fun Wz=>CE Wz W.heap.size 0 (O p1 q1 r1)/\CE Wz W.heap.size 1 (O p2 q2 r2)) (HS1.o) fun hHeld=>?_
 refine kT 0 ?_
 refine kT 1 ?_
 refine kT 2 ?_
 refine kT 3 ?_
 refine kT 5 ?_
 refine kT 6 ?_
 refine kT 8 ?_
 refine rdB 4 9 rfl (fun K hK=>?_) rfl fun K hK=>?_
 ·go_simp
  refine xK hK (HS1.o) fun hHeld=>?_
  clear hK K
  refine kT 7 ?_
  refine rdA 9 rfl fun K hK=>?_
  go_simp
  refine xK hK (HS2.o) fun hHeld=>?_
  clear hK K
  refine rdA 10 rfl fun K hK=>?_
  refine CS rfl _ _ _ rfl _ _ _ _ rfl rfl hrun ?_
  refine xK hK (HS3.o) fun hHeld=>?_
  clear hK K
  refine kT 11 ?_
  refine kT 12 ?_
  refine rdA 13 rfl fun K hK=>?_
  go_simp
  rw [<-hW4]
  refine xK hK (HS4.o) fun hHeld=>?_
  clear hK K
  refine gE ?_
  go_end0
  exact ⟨rfl,⟨_,HFIN.o.1⟩,HFIN.o.2⟩
 ·go_simp
  refine xK hK (HS2.o) fun hHeld=>?_
  clear hK K
  refine rdA 4 rfl fun K hK=>?_
  go_simp
  refine xK hK (HS2.o) fun hHeld=>?_
  clear hK K
  refine kT 7 ?_
  refine rdA 10 rfl fun K hK=>?_
  refine CS rfl _ _ _ rfl _ _ _ _ rfl rfl hrun ?_
  refine xK hK (HS3.o) fun hHeld=>?_
  clear hK K
  refine kT 11 ?_
  refine kT 12 ?_
  refine rdA 13 rfl fun K hK=>?_
  go_simp
  rw [<-hW4]
  refine xK hK (HS4.o) fun hHeld=>?_
  clear hK K
  refine gE ?_
  go_end0
  exact ⟨rfl,⟨_,HFIN.o.1⟩,HFIN.o.2⟩
def NC (w:World) (v:Value) (l:List (Int × Int)):Prop:=
 ∃ ao cap,v=O ao l.length cap/\(l≠[]->∃ b,ao=some ⟨b,0,none⟩/\∀ i (h:i < l.length),w.cell? ⟨b,i*2,none⟩=some (U zd l[i].1)/\w.cell? ⟨b,i*2+1,none⟩=some (U zd l[i].2))
theorem Gp:∀ (l:List (Int × Int)) (i:Nat) (h:i < l.length),(BX l)[i*2]? = some (U zd l[i].1)/\(BX l)[i*2+1]? = some (U zd l[i].2)
 | [],i,h=>absurd h (by simp)
 | f::l,0,h=>⟨rfl,rfl⟩
 | f::l,i+1,h=>by
  have e:BX (f::l)=U zd f.1::U zd f.2::BX l:=rfl
  have r:=Gp l i (by simpa using h)
  rw [e,show (i+1)*2=i*2+1+1 by omega]
  simpa using r
theorem LH {W:World} {B e:Nat} {v:Value} {l:List (Int × Int)} (h:W.ownsRow B e 2 v l.length (BX l)):NC W v l:=by
 rcases id h.2 with ⟨hv,h0⟩ | ⟨g,cap,cur,hv,-⟩
 ·exact ⟨none,0,by rw [hv,h0],fun hne=>absurd (List.length_eq_zero_iff.1 h0) hne⟩
 ·refine ⟨some ⟨g,0,none⟩,cap,hv,fun _=>⟨g,rfl,fun i hi=>?_⟩⟩
  rw [hv] at h
  obtain ⟨e0,e1⟩:=Gp l i hi
  exact ⟨(h.cellAt _ (by omega)).trans e0,(h.cellAt _ (by omega)).trans e1⟩
theorem N3 (F:FuncId) (cap:List Value) (p:Int × Int->Bool) (v:Value) (l) (w:World) (hv:NC w v l) (hn:l.length<=1000)
  (hF:Hx (∀ (i:Nat) (h:i < l.length) (w1:World),Ov w w1->Calls Tryz.prog F (zh #[U zd l[i].1,U zd l[i].2]::cap).toArray w1 fun e w2=>e=zj (zg (p l[i]))/\Ov w1 w2))
  (hC:∀ (args:Array Value) (w:World),(callFunc F args).run Tryz.prog w=.ok (.enter F args) w) :
  Calls Tryz.prog 245 #[v,.func (.func F) #[] cap.toArray] w fun e w'=>e=zj (U zd (FI p l))/\Ov w w':=by
 obtain ⟨ao,cp,rfl,hcc⟩:=hv
 go_enter Tryz.func245,Tryz.ntmps245
 go_wp2_with fail
 go_loopw [8] (fun i wr=>∃ k:Nat,k<=l.length/\i=U zd k/\(l.take k).all (fun g=>!p g)=true/\Ov w wr) (fun i _=>l.length - (intOf i).toNat)
 case atStart=>exact ⟨0,Nat.zero_le _,rfl,rfl,Below.refl _ w⟩
 case round=>
  obtain ⟨k,hk,rfl,hall,hbel⟩:=hrel
  by_cases hkl:k < l.length
  ·obtain ⟨b,rfl,hcl⟩:=hcc (by rintro rfl;simp at hkl)
   obtain ⟨q0,q1⟩:=hcl k hkl
   obtain ⟨q0,q1⟩:=co2 hbel q0 q1
   have hcall:=fun (w1:World) (hb:Ov w w1)=>hF.o k hkl w1 hb
   have hat:=fun (hp:p l[k]=true)=>Ig hkl hall hp
   have htk:p l[k]=false->(l.take (k+1)).all (fun g=>!p g)=true:=fun hp=>by
    rw [List.take_succ_eq_append_getElem hkl,List.all_append,hall]
    simp [hp]
   obtain ⟨r,hr⟩:=nm (p l[k])
   rw [<-hr] at hcall hat htk
   obtain ⟨g0,hg0⟩:=nm (l[k].1)
   obtain ⟨g1,hg1⟩:=nm (l[k].2)
   rw [<-hg0,<-hg1] at hcall
   rw [<-hg0] at q0
   rw [<-hg1] at q1
   clear hg0 hg1
   have HC:=Aa hcall
   have HA:=Aa hat
   have HT:=Aa htk
   clear hr hcall hat htk hcl hcc hF
   cases r with
   | true=>
    go_wp2_with fail
    refine (HC.o _ hbel).mono ?_
    rintro e w2 ⟨rfl,hb2⟩
    have hbel2:Ov w w2:=hbel.trans (hb2.mono hbel.size)
    go_wp2_with fail
    go_ret
    exact ⟨by rw [HA.o (by first | rfl | trivial)];rfl,hbel2⟩
   | false=>
    go_wp2_with fail
    refine (HC.o _ hbel).mono ?_
    rintro e w2 ⟨rfl,hb2⟩
    have hbel2:Ov w w2:=hbel.trans (hb2.mono hbel.size)
    go_wp2_with fail
    exact ⟨⟨k+1,by omega,by go_num,HT.o (by first | rfl | trivial),hbel2⟩,by simp [intOf];omega⟩
  ·have hke:k=l.length:=by omega
   rw [hke,List.take_length] at hall
   have hx:=Fi hall
   clear hall hcc hF
   go_wp2_with fail
   go_ret
   exact ⟨by rw [hx];rfl,hbel⟩
theorem JU (F:FuncId) (cap:List Value) (p:Int × Int->Bool) (v:Value) (l) (w:World) (hv:NC w v l) (hn:l.length<=1000)
  (hF:Hx (∀ (i:Nat) (h:i < l.length) (w1:World),Ov w w1->Calls Tryz.prog F (zh #[U zd l[i].1,U zd l[i].2]::cap).toArray w1 fun e w2=>e=zj (zg (p l[i]))/\Ov w1 w2))
  (hC:∀ (args:Array Value) (w:World),(callFunc F args).run Tryz.prog w=.ok (.enter F args) w) :
  Calls Tryz.prog 229 #[v,.func (.func F) #[] cap.toArray] w fun e w'=>e=zj (zg (l.any p))/\Ov w w':=by
 have hI:=N3 F cap p v l w hv hn hF hC
 have hx:=Gl p l
 obtain ⟨r,hr⟩:=nm (FI p l)
 rw [<-hr] at hI hx
 rw [<-hx]
 have HI:=Aa hI
 clear hI hx hr hv hC hF
 go_enter Tryz.func229,Tryz.ntmps229
 go_wp2_with fail
 refine (HI.o).mono ?_
 rintro e w1 ⟨rfl,hb1⟩
 go_wp2_with fail
 go_ret
 exact ⟨by simp,hb1⟩
theorem Nu (args:Array Value) (w:World):(callFunc 228 args).run Tryz.prog w=.ok (.enter 228 args) w:=by simp [go_sem]
theorem mt1 (a f1 f2:Int) (b:Nat) (W:World) (hb:W.cell? ⟨b,0,none⟩=some (U zd a)) :
  Calls Tryz.prog 228 #[zh #[U zd f1,U zd f2],zi (some ⟨b,0,none⟩)] W fun e W'=>e=zj (zg (decide (f1=a) && (decide (f2=6) || decide (f2=7))))/\Ov W W':=by
 have hbel:Ov W (W.alloc (ze #[U zd f1,U zd f2] 89)):=bA W _
 have e0:=Ab hbel _ _ hb
 have HB:=Aa hbel
 clear hbel hb
 by_cases h1:f1=a
 ·subst h1
  by_cases h2:f2=6
  ·subst h2
   go_enter Tryz.func228,Tryz.ntmps228
   go_wp2_with fail
   go_ret
   exact ⟨by simp,HB.o⟩
  ·by_cases h3:f2=7
   ·subst h3
    go_enter Tryz.func228,Tryz.ntmps228
    go_wp2_with fail
    go_ret
    exact ⟨by simp,HB.o⟩
   ·have d2:decide (f2=6)=false:=by simp [h2]
    have d3:decide (f2=7)=false:=by simp [h3]
    rw [d2,d3]
    go_enter Tryz.func228,Tryz.ntmps228
    go_wp2_with fail
    go_ret
    exact ⟨by simp [h2,h3],HB.o⟩
 ·have d1:decide (f1=a)=false:=by simp [h1]
  rw [d1]
  go_enter Tryz.func228,Tryz.ntmps228
  go_wp2_with fail
  go_ret
  exact ⟨by simp,HB.o⟩
theorem IZ (x) (w0:World) (K kf:Nat) (gs ls ms vs fs) (S:WtS x w0 K kf gs ls ms vs fs) (s:WSt) (pv:Value) (W:World) (h:WtI x w0 s pv W) (a kd ot ek en:Int) (xa xl xc aa al ac ta tl tc ea el ec) (i:Nat) (hi:i < vs.length) :
  Calls Tryz.prog 189 #[zi (some ⟨x.bw,0,none⟩),zh #[U zd kd,U zd (i:Int),U zd ot,U zd ek,U zd en,O xa xl xc,O aa al ac,O ta tl tc,O ea el ec],U zd a] W fun e W'=>e=zj (zg (vs[i].1 && !x.fl.any (fun f=>decide (f.1=a) && (decide (f.2=6) || decide (f.2=7)))))/\Ov W W':=by
 obtain ⟨hym,va',vc',hve,hvel⟩:=S.vars
 injection hve with v1 v2 v3
 obtain ⟨bv,ov,hvo,hvel⟩:=hvel (by rintro rfl;simp at hi)
 obtain ⟨pr,pw,g0,-⟩:=hvel i hi
 have hva:x.c.va=some ⟨bv,ov,none⟩:=v1.trans hvo
 have hvn2:x.c.vn=vs.length:=v2
 have hv16:=S.v16
 have gi1:(i:Int) < (x.c.vn:Int):=by omega
 have gi2:x.c.vn<=16:=by omega
 obtain ⟨V1,hV1⟩:=nm (((W.alloc (ze #[U zd kd,U zd (i:Int),U zd ot,U zd ek,U zd en,O xa xl xc,O aa al ac,O ta tl tc,O ea el ec] 130)).alloc (ze #[U zd a] 3)))
 have hb1:Ov W V1:=by rw [hV1];exact (bA W _).alloc (by simp) _
 have ra:Ad [U zd kd,U zd (i:Int),U zd ot,U zd ek,U zd en,O xa xl xc,O aa al ac,O ta tl tc,O ea el ec] V1 W.heap.size:=by
  rw [hV1]
  exact (Ad.new [U zd kd,U zd (i:Int),U zd ot,U zd ek,U zd en,O xa xl xc,O aa al ac,O ta tl tc,O ea el ec] 130 W).over (bA _ _)
 have rb:V1.cell? ⟨W.heap.size+1,0,none⟩=some (U zd a):=by rw [hV1];simp [go_sem]
 have HB1:=Aa hb1
 have HB0:Hx (Ov V1 V1.drew):=(bD _)
 obtain ⟨r,hr⟩:=nm (x.fl.any (fun f=>decide (f.1=a) && (decide (f.2=6) || decide (f.2=7))))
 obtain ⟨kn,hkn⟩:=nm (vs[i].1)
 rw [<-hr,<-hkn]
 rw [<-hkn] at g0
 have KC:Hx (∀ (W2:World),Ov V1 W2->Calls Tryz.prog 229 #[x.fv,.func (.func 228) #[] #[zi (some ⟨W.heap.size+1,0,none⟩)]] W2 fun e W'=>e=zj (zg r)/\Ov W2 W'):=fun W2 hb2=>by
  have h2:=h.over (Ac hb1 hb2)
  rw [hr]
  exact JU 228 [zi (some ⟨W.heap.size+1,0,none⟩)] _ x.fv x.fl W2 (LH h2.flt) S.fl (fun j hj w1 hb3=>mt1 a x.fl[j].1 x.fl[j].2 _ w1 (Ab hb3 _ _ (Ab hb2 _ _ rb))) Nu
 have HS:Hx (∀ (W2:World),Ov V1 W2->W2.cell? ⟨x.bw,6,none⟩=some (O (some ⟨bv,ov,none⟩) x.c.vn x.c.vc)/\W2.cell? ⟨x.bw,12,none⟩=some (x.fv)/\W2.cell? ⟨W.heap.size,1,none⟩=some (U zd (i:Int))/\W2.cell? ⟨bv,ov+i*3,none⟩=some (zg kn)):=fun W2 hb2=>by
  have h2:=h.over (Ac hb1 hb2)
  exact ⟨by rw [<-hva];exact h2.cw (j:=5) rfl,h2.c12,(ra.over hb2) 1 _ rfl,Ab h2.below _ _ g0⟩
 clear hr hkn ra rb hb1 h S hym hvel v1 v2 v3 hvo hva hvn2 hv16 g0 hi
 cases kn with
 | false=>
  go_enter Tryz.func189,Tryz.ntmps189
  go_wp2_with fail
  rw [<-hV1]
  clear hV1
  refine gS (fun Wz=>Wz.cell? ⟨x.bw,6,none⟩=some (O (some ⟨bv,ov,none⟩) x.c.vn x.c.vc)/\Wz.cell? ⟨x.bw,12,none⟩=some (x.fv)/\Wz.cell? ⟨W.heap.size,1,none⟩=some (U zd (i:Int))/\Wz.cell? ⟨bv,ov+i*3,none⟩=some (zg false)) (HS.o _ HB0.o) fun hHeld=>?_
  refine kT 0 ?_
  refine kT 1 ?_
  refine kT 2 ?_
  refine kT 3 ?_
  refine kT 4 ?_
  refine kT 5 ?_
  refine kT 6 ?_
  refine kT 7 ?_
  refine kT 8 ?_
  refine kT 9 ?_
  refine kT 10 ?_
  refine kT 11 ?_
  refine kU 12 ?_
  refine kU 13 ?_
  refine kU 14 ?_
  refine kU 15 ?_
  refine kU 16 ?_
  refine kU 17 ?_
  refine kU 18 ?_
  refine kT 19 ?_
  refine kT 20 ?_
  refine gE ?_
  go_wp2_with fail
  go_ret
  exact ⟨by simp,Ac HB1.o HB0.o⟩
 | true=>
  go_enter Tryz.func189,Tryz.ntmps189
  go_wp2_with fail
  rw [<-hV1]
  clear hV1
  refine gS (fun Wz=>Wz.cell? ⟨x.bw,6,none⟩=some (O (some ⟨bv,ov,none⟩) x.c.vn x.c.vc)/\Wz.cell? ⟨x.bw,12,none⟩=some (x.fv)/\Wz.cell? ⟨W.heap.size,1,none⟩=some (U zd (i:Int))/\Wz.cell? ⟨bv,ov+i*3,none⟩=some (zg true)) (HS.o _ HB0.o) fun hHeld=>?_
  refine kT 0 ?_
  refine kT 1 ?_
  refine kT 2 ?_
  refine kT 3 ?_
  refine kT 4 ?_
  refine kT 5 ?_
  refine kT 6 ?_
  refine kT 7 ?_
  refine kT 8 ?_
  refine kT 9 ?_
  refine kT 10 ?_
  refine kT 11 ?_
  refine kT 12 ?_
  refine kT 13 ?_
  refine kT 14 ?_
  refine kT 15 ?_
  refine kT 16 ?_
  refine rdA 17 rfl fun K hK=>?_
  go_simp
  refine (KC.o _ HB0.o).mono ?_
  rintro e W2 ⟨rfl,hb2⟩
  have HB2:=Aa (Ac HB0.o hb2)
  clear hb2
  go_simp
  refine xK hK (HS.o _ HB2.o) fun hHeld=>?_
  clear hK K
  refine kT 18 ?_
  refine kT 19 ?_
  refine kT 20 ?_
  refine gE ?_
  go_wp2_with fail
  go_ret
  exact ⟨by simp,Ac HB1.o HB2.o⟩
theorem Q5 (n:Nat) (hn:n<=6) (w:World):(Instr.makeSlice 42 (U zd n) (U zd n)).run Tryz.prog w=.ok (O (some ⟨w.heap.size,0,none⟩) n n) (w.alloc (.cells (List.replicate (n*2) (Value.slice none 0 0)).toArray 50)):=by
 obtain ⟨i,hi,hz,h1,h2⟩:=info_parts Tryz.infoLk
 have:=run_make (P:=Tryz.prog) w 42 50 i _ Tryz.underlying42 hi hz zd zd (n:Int) (n:Int) (by omega) (by omega) (by rw [h2];omega) (by omega)
 rw [this,h1]
 simp only [Int.toNat_natCast]
 have e:madeCells (Value.agg #[O none 0 0,O none 0 0]).cells (n*2)=(List.replicate (n*2) (Value.slice none 0 0)).toArray:=by
  apply Array.ext
  ·simp [madeCells]
  ·intro j h1 h2
   rcases Nat.mod_two_eq_zero_or_one j with h | h <;> simp [madeCells,Value.cells,h]
 rw [e]
theorem Cl {x:WX} {n b j:Nat} {W:World} {v:Value} {l:Lev} {a:Option Addr} {m c:Nat} (h:Ar n (XW x) W v l) (hc:W.cell? ⟨b,j,none⟩=some (O a m c)) (hne:x.bw≠b) (u:Value):Ar n (XW x) (W.setCell ⟨b,j,none⟩ u) v l:=by
 obtain ⟨y,w,hv,hu,hw⟩:=h.off
 have hx:∀ k,XW x (W.setCell ⟨b,j,none⟩ u) k->XW x W k:=by
  have hsz:(W.setCell ⟨b,j,none⟩ u).heap.size=W.heap.size:=by simp [World.setCell]
  rintro k (h | h | h | h | ⟨q,hq,ho⟩)
  ·exact Or.inl h
  ·rw [hsz] at h;exact Or.inr (Or.inl h)
  ·exact Or.inr (Or.inr (Or.inl h))
  ·exact Or.inr (Or.inr (Or.inr (Or.inl h)))
  ·exact Or.inr (Or.inr (Or.inr (Or.inr ⟨q,(World.cell?_of_block (a:=⟨x.bw,11,none⟩) (Aq (Ne.symm hne) u)).symm.trans hq,ho⟩)))
 exact ⟨Ci hc h.at_ _,h.len,y,w,hv,fun a m c e q=>hu a m c e (hx _ q),fun a m c e q=>hw a m c e (hx _ q)⟩
def Dp (x:WX) (B ba n:Nat) (Ls:List Lev) (W:World):Prop:=
 ∃ us:List Value,W.ownsRow B 50 2 (O (some ⟨ba,0,none⟩) n n) n us/\(∀ j,j < n*2->∃ a b c,us[j]? = some (O a b c))/\∀ i (h:i < Ls.length),∃ u v,us[i*2]? = some u/\us[i*2+1]? = some v/\Ar x.c.n (XW x) W (zh #[u,v]) Ls[i]
section
variable {x:WX} {B ba n:Nat} {Ls:List Lev} {W W':World}
theorem Nw (x) (B n:Nat) (W:World) (hn:n<=6) (hB:B<=W.heap.size):Dp x B W.heap.size n [] (W.alloc (.cells (Array.replicate (n*2) (Value.slice none 0 0)) 50)):=by
 refine ⟨List.replicate (n*2) (O none 0 0),?_,fun j hj=>⟨none,0,0,by simp [hj]⟩,fun i h=>absurd h (by simp)⟩
 have:=World.ownsRow_lit (base:=B) (e:=50) (size:=2) W (Array.replicate (n*2) (Value.slice none 0 0)) n hB (by unfold maxLen;omega) (by simp)
 simpa using this
theorem Dp.lt (h:Dp x B ba n Ls W):B<=ba/\ba < W.heap.size:=by
 obtain ⟨us,ho,-⟩:=h
 exact ho.lt ba rfl
theorem Dp.over (h:Dp x B ba n Ls W) (hb:Ov W W'):Dp x B ba n Ls W':=by
 have hlt:=h.lt
 obtain ⟨us,ho,hs,hel⟩:=h
 refine ⟨us,Ax ho (fun g hg=>hb.block g (ho.lt g hg).2),hs,fun i hi=>?_⟩
 obtain ⟨u,v,e0,e1,hl⟩:=hel i hi
 exact ⟨u,v,e0,e1,hl.over (A0 x) hb⟩
theorem Dp.keep (n1:1<=x.c.n) (h:Dp x B ba n Ls W) (hf:FrW (XV x) W W') (hx:¬ XV x W ba):Dp x B ba n Ls W':=by
 have hlt:=h.lt
 obtain ⟨us,ho,hs,hel⟩:=h
 refine ⟨us,Ax ho (fun g hg=>?_),hs,fun i hi=>?_⟩
 ·simp [Value.ownBlock] at hg
  subst hg
  exact hf.block _ hlt.2 hx
 ·obtain ⟨u,v,e0,e1,hl⟩:=hel i hi
  exact ⟨u,v,e0,e1,hl.keep n1 (JM hf)⟩
theorem Dp.cell (h:Dp x B ba n Ls W) {j:Nat} (hj:j < n*2):∃ a b c,W.cell? ⟨ba,j,none⟩=some (O a b c)/\W.frozen? ⟨ba,j,none⟩=false:=by
 obtain ⟨us,ho,hs,-⟩:=h
 obtain ⟨a,b,c,e⟩:=hs j hj
 exact ⟨a,b,c,(ho.cellAt j hj).trans e,ho.frozenAt j⟩
theorem Dp.get (h:Dp x B ba n Ls W) {i:Nat} (hi:i < Ls.length) (hn:i < n):∃ o1 o2 o3 o4 o5 o6,W.cell? ⟨ba,i*2,none⟩=some (O o1 o2 o3)/\W.cell? ⟨ba,i*2+1,none⟩=some (O o4 o5 o6)/\Ar x.c.n (XW x) W (zh #[O o1 o2 o3,O o4 o5 o6]) Ls[i]:=by
 obtain ⟨us,ho,hs,hel⟩:=h
 obtain ⟨u,v,e0,e1,hl⟩:=hel i hi
 obtain ⟨a1,a2,a3,a4,a5,a6,rfl,rfl⟩:=AR hl.at_
 exact ⟨_,_,_,_,_,_,(ho.cellAt _ (by omega)).trans e0,(ho.cellAt _ (by omega)).trans e1,hl⟩
theorem Dp.set {m:Nat} {o1:Option Addr} {o2 o3:Nat} {o4:Option Addr} {o5 o6:Nat} {l:Lev} (h:Dp x B ba n Ls W) (hm:m=Ls.length) (hn:m < n) (hne:x.bw≠ba) (hl:Ar x.c.n (XW x) W (zh #[O o1 o2 o3,O o4 o5 o6]) l):Dp x B ba n (Ls++[l]) ((W.setCell ⟨ba,m*2,none⟩ (O o1 o2 o3)).setCell ⟨ba,m*2+1,none⟩ (O o4 o5 o6)):=by
 obtain ⟨e1,e2,e3,d0,-⟩:=h.cell (j:=m*2) (by omega)
 obtain ⟨e4,e5,e6,d1,-⟩:=h.cell (j:=m*2+1) (by omega)
 have d1':(W.setCell ⟨ba,m*2,none⟩ (O o1 o2 o3)).cell? ⟨ba,m*2+1,none⟩=some (O e4 e5 e6):=by rw [World.cell?_setCell_other _ _ _ _ (by simp)];exact d1
 have hk:∀ {v:Value} {l:Lev},Ar x.c.n (XW x) W v l->Ar x.c.n (XW x) ((W.setCell ⟨ba,m*2,none⟩ (O o1 o2 o3)).setCell ⟨ba,m*2+1,none⟩ (O o4 o5 o6)) v l:=fun hv=>Cl (Cl hv d0 hne _) d1' hne _
 obtain ⟨us,ho,hs,hel⟩:=h
 have hlen:=ho.1
 refine ⟨(us.set (m*2) (O o1 o2 o3)).set (m*2+1) (O o4 o5 o6),((ho.stored _ _).1.stored _ _).1,fun j hj=>?_,fun i hi=>?_⟩
 ·by_cases h1:m*2+1=j
  ·exact ⟨o4,o5,o6,by rw [<-h1,List.getElem?_set_self (by rw [List.length_set];omega)]⟩
  ·by_cases h2:m*2=j
   ·exact ⟨o1,o2,o3,by rw [List.getElem?_set_ne h1,<-h2,List.getElem?_set_self (by omega)]⟩
   ·obtain ⟨a,b,c,e⟩:=hs j hj
    exact ⟨a,b,c,by rw [List.getElem?_set_ne h1,List.getElem?_set_ne h2];exact e⟩
 ·by_cases hii:i < Ls.length
  ·obtain ⟨u,v,e0,e1',hl'⟩:=hel i hii
   refine ⟨u,v,by rw [List.getElem?_set_ne (by omega),List.getElem?_set_ne (by omega)];exact e0,by rw [List.getElem?_set_ne (by omega),List.getElem?_set_ne (by omega)];exact e1',?_⟩
   rw [List.getElem_append_left hii]
   exact hk hl'
  ·have hie:i=m:=by rw [List.length_append,List.length_singleton] at hi;omega
   subst hie
   refine ⟨_,_,by rw [List.getElem?_set_ne (by omega),List.getElem?_set_self (by omega)],by rw [List.getElem?_set_self (by rw [List.length_set];omega)],?_⟩
   rw [List.getElem_append_right (by omega)]
   simp
   exact hk hl
end
theorem Gc {n:Nat} {X:World->Nat->Prop} {B:Nat} {W:World} {v:Value} {Ls:List Lev} {g c:Nat} (h:Bq n X B W v Ls) (hv:v=O (some ⟨g,0,none⟩) Ls.length c) (j:Nat):W.frozen? ⟨g,j,none⟩=false:=by
 obtain ⟨us,ho,-⟩:=h
 rw [hv] at ho
 exact ho.frozenAt j
theorem IE (vs) (q:List (Int × Lev)) (y:Int × Lev):setLev vs (q++[y])=(setLev vs q).set y.1.toNat y.2:=by simp [setLev]
theorem Ds:∀ (q:List (Int × Lev)) (vs:List Lev),(setLev vs q).length=vs.length
 | [],vs=>rfl
 | y::q,vs=>by
  show (setLev (vs.set y.1.toNat y.2) q).length=vs.length
  rw [Ds q];simp
abbrev OY (x:WX) (b8 z8:Nat) (W:World) (j:Nat) (pa:Option Addr) (pn pc:Nat) (Wz:World):Prop:=Wz.cell? ⟨x.bw,7,none⟩=some (O (some ⟨b8,z8,none⟩) x.c.fn x.c.fc)/\Wz.cell? ⟨W.heap.size,2,none⟩=some (U zd (j:Int))/\Wz.cell? ⟨b8,z8+j*5,none⟩=some (O pa pn pc)
abbrev OX (x:WX) (W:World) (p1:Option Addr) (q1 r1:Nat) (p2:Option Addr) (q2 r2 b6 z6 al ac m:Nat) (k1 k2:Int) (k3:Option Addr) (k4 k5:Nat) (Wz:World):Prop:=Wz.cell? ⟨x.bw,1,none⟩=some (U zd (x.c.n:Int))/\Wz.cell? ⟨x.bw,2,none⟩=some (O x.c.ga x.c.gn x.c.gc)/\Wz.cell? ⟨x.bw,3,none⟩=some (O x.c.sa x.c.sn x.c.sc)/\Wz.cell? ⟨x.bw,4,none⟩=some (O x.c.ya x.c.yn x.c.yc)/\Wz.cell? ⟨x.bw,5,none⟩=some (O x.c.oa x.c.on x.c.oc)/\Wz.cell? ⟨x.bw,6,none⟩=some (O x.c.va x.c.vn x.c.vc)/\Wz.cell? ⟨x.bw,7,none⟩=some (O x.c.fa x.c.fn x.c.fc)/\Wz.cell? ⟨x.bw,8,none⟩=some (O x.c.ba x.c.bn x.c.bc)/\Wz.cell? ⟨x.bw,9,none⟩=some (O x.c.la x.c.ln x.c.lc)/\Wz.cell? ⟨x.bw,10,none⟩=some (O x.c.ka x.c.kn x.c.kc)/\Wz.cell? ⟨W.heap.size+1,0,none⟩=some (O p1 q1 r1)/\Wz.cell? ⟨W.heap.size+1,1,none⟩=some (O p2 q2 r2)/\Wz.cell? ⟨W.heap.size,6,none⟩=some (O (some ⟨b6,z6,none⟩) al ac)/\Wz.cell? ⟨b6,z6+m*3,none⟩=some (U zd k1)/\Wz.cell? ⟨b6,z6+m*3+1,none⟩=some (U zd k2)/\Wz.cell? ⟨b6,z6+m*3+2,none⟩=some (O k3 k4 k5)
abbrev Mg (W:World) (p1:Option Addr) (q1 r1:Nat) (p2:Option Addr) (q2 r2 ba m:Nat) (o1:Option Addr) (o2 o3:Nat) (o4:Option Addr) (o5 o6:Nat) (Wz:World):Prop:=Wz.cell? ⟨W.heap.size+1,0,none⟩=some (O p1 q1 r1)/\Wz.cell? ⟨W.heap.size+1,1,none⟩=some (O p2 q2 r2)/\Wz.cell? ⟨ba,m*2,none⟩=some (O o1 o2 o3)/\Wz.cell? ⟨ba,m*2+1,none⟩=some (O o4 o5 o6)
abbrev Mf (x:WX) (bl ba m:Nat) (o1:Option Addr) (o2 o3:Nat) (o4:Option Addr) (o5 o6:Nat) (Wz:World):Prop:=Wz.cell? ⟨x.bw,9,none⟩=some (O (some ⟨bl,0,none⟩) x.c.ln x.c.lc)/\Wz.cell? ⟨ba,m*2,none⟩=some (O o1 o2 o3)/\Wz.cell? ⟨ba,m*2+1,none⟩=some (O o4 o5 o6)
theorem MX (x) (w0:World) (K kf:Nat) (gs ls ms vs fs) (S:WtS x w0 K kf gs ls ms vs fs) (s:WSt) (pv:Value) (W:World) (h:WtI x w0 s pv W) (hvl:s.vs.length=vs.length) (k:Nat) (cs:List Value) (d) (v:Value) (p) (funcs:Int) (hrs:RS w0 K (k+1) cs d) (hfn:funcs<=fs.length) (hok:Cq K vs.length ls.length ms.length funcs fs d) (hp:Ar x.c.n (XW x) W v p) (hk:Ag d=2) :
  Calls Tryz.prog 187 #[zi (some ⟨x.bw,0,none⟩),.agg cs.toArray,v] W fun e W'=>e=zj (zg (Gx (A7 x K gs ls ms vs fs) s p d).1)/\WtI x w0 (Gx (A7 x K gs ls ms vs fs) s p d).2 pv W'/\FrW (XV x) W W':=by
 obtain ⟨p1,q1,r1,p2,q2,r2,rfl⟩:=hp.form
 obtain ⟨ek,en,xa,xl,xc,aa,ac,ta,tc,ea,ec,rfl,i0,i1,i2,hX,hA,hT,hE,-,-,-⟩:=hrs.form
 have hkd:sC (Ag d) (Ao d) (Ae d) ek en xa xl xc aa (Ah d).length ac ta (Ai d).length tc ea (Al d).length ec=sC 2 (Ao d) (Ae d) ek en xa xl xc aa (Ah d).length ac ta (Ai d).length tc ea (Al d).length ec:=by rw [hk]
 rw [hkd]
 clear hkd
 obtain ⟨⟨hj0,hj1⟩,hps,hck⟩:=hok.2.2.1 hk
 obtain ⟨j,hj⟩:∃ j:Nat,Ae d=(j:Int):=⟨(Ae d).toNat,by omega⟩
 have hj2:j < fs.length:=by omega
 have hjt:(Ae d).toNat=j:=by omega
 have hpsl:fs[j].ps.length=(Ah d).length:=hps fs[j] (by rw [hjt];exact List.getElem?_eq_getElem hj2)
 have hfat:Cv fs (Ae d)=fs[j]:=by unfold Cv;rw [hjt];simp [List.getD_eq_getElem?_getD,hj2]
 have hcall:Gx (A7 x K gs ls ms vs fs) s p d=if ((fs[j].ps.zip ((Ah d).map (CN (A7 x K gs ls ms vs fs) s p))).all fun y=>EV (A7 x K gs ls ms vs fs) s p y.1 y.2)=true then (true,⟨setLev s.vs (fs[j].ps.zip ((Ah d).map (CN (A7 x K gs ls ms vs fs) s p))),s.ps⟩) else (false,s):=by
  unfold Gx Gy
  have:(A7 x K gs ls ms vs fs).fs=fs:=rfl
  rw [this,hfat]
 rw [hcall,hj]
 obtain ⟨hfm,fa',fc',hfe,hfc⟩:=S.funcs
 injection hfe with y1 y2 y3
 obtain ⟨b8,z8,hfo,hfel⟩:=hfc (by intro h;rw [h] at hj2;simp at hj2)
 obtain ⟨vP,vB,e0,e1,e2,g80,g81,g82,g83,g84,hints,-,hbody,hres⟩:=hfel j hj2
 have hfa:x.c.fa=some ⟨b8,z8,none⟩:=y1.trans hfo
 obtain ⟨pa,pc,rfl,hpel⟩:=hints
 have hfo5:=S.body j hj2
 obtain ⟨f,hf⟩:=nm (fs[j])
 rw [<-hf] at hpsl g80 hpel hfo5 ⊢
 obtain ⟨As,hAs⟩:=nm ((Ah d).map (CN (A7 x K gs ls ms vs fs) s p))
 rw [<-hAs]
 have hAl:As.length=(Ah d).length:=by rw [hAs];simp
 obtain ⟨vr,hvr⟩:=nm (Ao d)
 obtain ⟨al,hal⟩:=nm ((Ah d).length)
 obtain ⟨tl,htl⟩:=nm ((Ai d).length)
 obtain ⟨el,hel⟩:=nm ((Al d).length)
 obtain ⟨pn,hpn⟩:=nm f.ps.length
 rw [<-hpn] at g80
 rw [<-hvr,<-hal,<-htl,<-hel]
 obtain ⟨V1,hV1⟩:=nm (((W.alloc (ze #[U zd 2,U zd vr,U zd (j:Int),U zd ek,U zd en,O xa xl xc,O aa al ac,O ta tl tc,O ea el ec] 130)).alloc (ze #[O p1 q1 r1,O p2 q2 r2] 50)))
 have hb1:Ov W V1:=by rw [hV1];exact (bA W _).alloc (by simp) _
 have rowS:Ad [U zd 2,U zd vr,U zd (j:Int),U zd ek,U zd en,O xa xl xc,O aa al ac,O ta tl tc,O ea el ec] V1 W.heap.size:=by rw [hV1];exact (Ad.new _ _ _).over (bA _ _)
 have rowP:Ad [O p1 q1 r1,O p2 q2 r2] V1 (W.heap.size+1):=by
  rw [hV1]
  have r:=Ad.new [O p1 q1 r1,O p2 q2 r2] 50 (W.alloc (ze #[U zd 2,U zd vr,U zd (j:Int),U zd ek,U zd en,O xa xl xc,O aa al ac,O ta tl tc,O ea el ec] 130))
  simpa using r
 have h1:=h.over hb1
 have HS1:Hx (OY x b8 z8 W j pa pn pc V1.drew):=⟨by rw [<-hfa];exact h1.cw (j:=6) rfl,rowS 2 _ rfl,Ab h1.below _ _ g80⟩
 obtain ⟨V2,hV2⟩:=nm V1.drew
 have hb2:Ov W V2:=by rw [hV2];exact hb1.drew
 have HBW2:=Aa hb2
 have HI0:=Aa h
 have HPV:=Aa hp
 have rowS2:Ad [U zd 2,U zd vr,U zd (j:Int),U zd ek,U zd en,O xa xl xc,O aa al ac,O ta tl tc,O ea el ec] V2 W.heap.size:=by rw [hV2];exact rowS.over (bD _)
 have HPL:Hx (V2.cell? ⟨W.heap.size+1,0,none⟩=some (O p1 q1 r1)/\V2.cell? ⟨W.heap.size+1,1,none⟩=some (O p2 q2 r2)):=by
  rw [hV2]
  exact ⟨rowP 0 _ rfl,rowP 1 _ rfl⟩
 have HRS:=Aa rowS2
 have HA:=Aa hA
 have HPEL:=Aa hpel
 have HCK:=Aa hck
 have HPR:=Aa hfo5.2.1
 have HPSL:=Aa hpsl
 have HPN:=Aa hpn
 have HAL:=Aa hal
 have HALL:=Aa hAl
 have HAS:=Aa hAs
 have HSS:=Aa S
 have HVL:=Aa hvl
 have hjf:(j:Int) < (x.c.fn:Int):=by omega
 have hfn5:x.c.fn<=5:=by have:=S.f5;omega
 have hpn4:pn<=4:=by rw [hpn];exact hfo5.1
 have hmk:=fun w=>Q5 pn (by omega) w
 obtain ⟨wk,hwk⟩:=nm (A7 x K gs ls ms vs fs)
 have HWK:=Aa hwk
 rw [<-hwk] at HAS ⊢
 obtain ⟨R,hR⟩:∃ q:Bool × WSt,q=(if ((f.ps.zip As).all fun y=>EV wk s p y.1 y.2)=true then (true,(⟨setLev s.vs (f.ps.zip As),s.ps⟩:WSt)) else (false,s)):=⟨_,rfl⟩
 rw [<-hR]
 have HR:=Aa hR
 clear hR
 clear hX hA hpel hck hfo5 hpsl hpn hok hal hfa hrs hT hE h hp rowS rowP hb1 hj0 hj1 hps hj hjt hfat hfm hfc y1 y2 y3 hfo hfel g80 g81 g82 g83 g84 htl hel hk i0 i1 i2 hfn h1 hb2 rowS2 hAs hAl S hvl hcall hbody hres hwk hvr hf hj2
 go_enter Tryz.func187,Tryz.ntmps187
 go_wp2_with fail
 rw [<-hV1]
 clear hV1
 refine gS (OY x b8 z8 W j pa pn pc) (HS1.o) fun hHeld=>?_
 refine kT 0 ?_
 refine kT 1 ?_
 refine kT 2 ?_
 refine kT 3 ?_
 refine kT 4 ?_
 refine kT 5 ?_
 refine kT 6 ?_
 refine kT 7 ?_
 refine kT 8 ?_
 refine kT 9 ?_
 refine kT 10 ?_
 refine kT 11 ?_
 refine gE ?_
 rw [<-hV2]
 clear hV2
 obtain ⟨ba,hba⟩:=nm V2.heap.size
 have HBA:=Aa hba
 have hA0:Dp x V2.heap.size ba pn [] (V2.alloc (.cells (Array.replicate (pn*2) (Value.slice none 0 0)) 50)):=by rw [hba];exact Nw x V2.heap.size pn V2 (by omega) (Nat.le_refl _)
 have hB0:Ov V2 (V2.alloc (.cells (Array.replicate (pn*2) (Value.slice none 0 0)) 50)):=bA _ _
 have HA0:=Aa hA0
 have HB0:=Aa hB0
 clear hA0 hB0
 go_wp2_with fail
 rw [<-hba]
 clear hba
 go_loopw [29] (fun i wr=>∃ m:Nat,m<=pn/\i=U zd m/\Dp x V2.heap.size ba pn (As.take m) wr/\(∀ i (h1:i < f.ps.length) (h2:i < As.length),i < m->EV wk s p f.ps[i] As[i]=true)/\Ov V2 wr) (fun i _=>pn - (intOf i).toNat)
 case atStart=>exact ⟨0,Nat.zero_le _,rfl,HA0.o,fun i h1 h2 h3=>absurd h3 (by omega),HB0.o⟩
 case round=>
  obtain ⟨m,hm,rfl,hAr,hall,hBr⟩:=hrel
  have HAr:=Aa hAr
  have HALR:=Aa hall
  have HBA1:=HBA.o
  by_cases hlt:m < pn
  ·have hm1:m < f.ps.length:=by rw [<-HPN.o];exact hlt
   have hm2:m < (Ah d).length:=by rw [<-HPSL.o];exact hm1
   have hAm:m < As.length:=by rw [HALL.o];exact hm2
   have hIr:=HI0.o.over (Ac HBW2.o hBr)
   obtain ⟨bp,zp,hpo,hpe⟩:=HPEL.o (by intro h;rw [h] at hm1;simp at hm1)
   subst hpo
   have q0:=Ab hIr.below _ _ (hpe m hm1)
   have hvm2:=HPR.o f.ps[m] (List.getElem_mem hm1)
   obtain ⟨vm,hvm⟩:∃ q:Nat,f.ps[m]=(q:Int):=⟨f.ps[m].toNat,by omega⟩
   have hvl:vm < vs.length:=by omega
   obtain ⟨ham,aa',ac',hae,hac⟩:=HA.o
   injection hae with x1 x2 x3
   obtain ⟨b6,z6,hao,hael⟩:=hac (by intro h;rw [h] at hm2;simp at hm2)
   obtain ⟨acs,hal3,hacs,har⟩:=hael m (Ah d)[m] (List.getElem?_eq_getElem hm2)
   obtain ⟨k3,k5,rfl⟩:=har.form
   obtain ⟨k1,hk1⟩:=nm (AK (Ah d)[m])
   obtain ⟨k2,hk2⟩:=nm (A6 (Ah d)[m])
   obtain ⟨k4,hk4⟩:=nm ((AX (Ah d)[m]).length)
   rw [<-hk1,<-hk2,<-hk4] at hacs har
   have haa:aa=some ⟨b6,z6,none⟩:=x1.trans hao
   have hAt:As[m]=A4 x.c.n s.vs p (AD K (Ah d)[m]):=by
    have e:=HAS.o
    subst e
    rw [List.getElem_map]
    have e2:=HWK.o
    subst e2
    rfl
   have KW:Hx (∀ (W2:World),Ov V2 W2->Ar x.c.n (XW x) W2 (zh #[O p1 q1 r1,O p2 q2 r2]) p->Calls Tryz.prog 103 #[(zh #[U zd (x.c.n:Int),O x.c.ga x.c.gn x.c.gc,O x.c.sa x.c.sn x.c.sc,O x.c.ya x.c.yn x.c.yc,O x.c.oa x.c.on x.c.oc,O x.c.va x.c.vn x.c.vc,O x.c.fa x.c.fn x.c.fc,O x.c.ba x.c.bn x.c.bc,O x.c.la x.c.ln x.c.lc,O x.c.ka x.c.kn x.c.kc]),zh #[O p1 q1 r1,O p2 q2 r2],zh #[U zd k1,U zd k2,O k3 k4 k5]] W2 fun e w'=>(∃ p1 q1 r1 p2 q2 r2,e=zj (zh #[O p1 q1 r1,O p2 q2 r2])/\Ar x.c.n (XW x) w' (zh #[O p1 q1 r1,O p2 q2 r2]) As[m])/\Ov W2 w'):=fun W2 hb2 hl2=>by
    have h2:=HI0.o.over (Ac HBW2.o hb2)
    rw [hAt]
    exact CU x.c HSS.o.n1 HSS.o.n6 gs s.vs (XW x) (A0 x) _ p K _ (Ah d)[m] W2 (Af HSS.o.gr h2.below) HSS.o.chk h2.lev.levs hl2 (by rw [HVL.o];exact HSS.o.v16) (fun k hk=>(h2.xlt k hk).2) (har.over h2.below) (by rw [HVL.o];exact B0 (HCK.o (Ah d)[m] (List.getElem_mem hm2)))
   have HPr:Hx (∀ (W2:World),Ov V2 W2->Ar x.c.n (XW x) W2 (zh #[O p1 q1 r1,O p2 q2 r2]) p):=fun W2 hb2=>HPV.o.over (A0 x) (Ac HBW2.o hb2)
   obtain ⟨r,hr⟩:=nm (EV wk s p f.ps[m] As[m])
   have hrv:r=(AE p (s.vs.getD vm AU) x.c.n && (!vs[vm].1 || AE As[m] (Av (Ay gs) x.c.n vs[vm].2) x.c.n)):=by
    have e2:=HWK.o
    rw [hr,hvm,e2]
    exact IY x K gs ls ms vs fs s p As[m] hvl
   have KM:Hx (∀ (W2:World) {y:Value},Ov V2 W2->Ar x.c.n (XW x) W2 y As[m]->Calls Tryz.prog 186 #[zi (some ⟨x.bw,0,none⟩),zh #[O p1 q1 r1,O p2 q2 r2],U zd (vm:Int),y] W2 fun e W'=>e=zj (zg r)/\Ov W2 W'):=fun W2 y hb2 hy=>by
    rw [hrv]
    exact Ga x w0 K kf gs ls ms vs fs HSS.o s pv W2 (HI0.o.over (Ac HBW2.o hb2)) HVL.o _ _ p As[m] (HPr.o W2 hb2) hy vm hvl
   have HSr:Hx (∀ W2,Ov V2 W2->OX x W p1 q1 r1 p2 q2 r2 b6 z6 al ac m k1 k2 k3 k4 k5 W2):=fun W2 hb2=>by
    have h2:=HI0.o.over (Ac HBW2.o hb2)
    exact ⟨h2.cw (j:=0) rfl,h2.cw (j:=1) rfl,h2.cw (j:=2) rfl,h2.cw (j:=3) rfl,h2.cw (j:=4) rfl,h2.cw (j:=5) rfl,h2.cw (j:=6) rfl,h2.cw (j:=7) rfl,h2.cw (j:=8) rfl,h2.cw (j:=9) rfl,Ab hb2 _ _ HPL.o.1,Ab hb2 _ _ HPL.o.2,by rw [<-haa];exact Ab hb2 _ _ (HRS.o 6 _ rfl),Ab h2.below _ _ (hacs 0 _ rfl),Ab h2.below _ _ (hacs 1 _ rfl),Ab h2.below _ _ (hacs 2 _ rfl)⟩
   have HIr:Hx (x.bw < ba):=by rw [HBA1];have:=(HI0.o.over HBW2.o).lo.2;exact this
   have HNX:Hx (r=true->∀ i (h1:i < f.ps.length) (h2:i < As.length),i < m+1->EV wk s p f.ps[i] As[i]=true):=fun hrt i h1 h2 h3=>by
    by_cases hi:i=m
    ·subst hi;rw [<-hr];exact hrt
    ·exact HALR.o i h1 h2 (by omega)
   have HNO:Hx (r=false->R=(false,s)):=fun hrf=>by
    rw [HR.o,if_neg]
    rw [Bool.not_eq_true,List.all_eq_false]
    refine ⟨(f.ps[m],As[m]),?_,by rw [<-hr,hrf];simp⟩
    have:=List.getElem_mem (l:=f.ps.zip As) (n:=m) (by simp;omega)
    simpa using this
   rw [hvm] at q0
   have hma:(m:Int) < (al:Int):=by rw [HAL.o];omega
   have hmp:(m:Int) < (pn:Int):=by omega
   have hal4:al<=4:=by rw [HAL.o,<-HPSL.o,<-HPN.o];exact hpn4
   have hba1:V2.heap.size<=ba:=by omega
   clear hr hrv hvm hvm2 hvl har hacs hal3 x1 x2 x3 hao hael hac ham haa hk1 hk2 hk4 hpe hall hm1 hAt hAr hIr HBA1
   go_wp2_with fail
   refine gS (OX x W p1 q1 r1 p2 q2 r2 b6 z6 al ac m k1 k2 k3 k4 k5) (HSr.o _ hBr.drew) fun hHeld=>?_
   refine kT 0 ?_
   refine kT 1 ?_
   refine kT 2 ?_
   refine kT 3 ?_
   refine kT 4 ?_
   refine kT 5 ?_
   refine kT 6 ?_
   refine kT 7 ?_
   refine kT 8 ?_
   refine kT 9 ?_
   refine kT 10 ?_
   refine kT 11 ?_
   refine rdA 12 rfl fun K hK=>?_
   go_simp
   refine (KW.o _ (hBr.drew) (HPr.o _ hBr.drew)).mono ?_
   rintro e W6 ⟨⟨o1,o2,o3,o4,o5,o6,rfl,hL6⟩,hb6⟩
   have hb6':=Ac (bD _) hb6
   have hA6:=HAr.o.over hb6'
   have hB6:=hBr.trans (hb6'.mono hBr.size)
   have HB6:=Aa hB6
   obtain ⟨e1,e2,e3,d0,z0⟩:=hA6.cell (j:=m*2) (by omega)
   obtain ⟨e4,e5,e6,d1,z1⟩:=hA6.cell (j:=m*2+1) (by omega)
   obtain ⟨W7,hW7⟩:=nm ((W6.setCell ⟨ba,m*2,none⟩ (O o1 o2 o3)).setCell ⟨ba,m*2+1,none⟩ (O o4 o5 o6))
   have HB7:Hx (Ov V2 W7):=by rw [hW7];exact (hB6.setCell (p:=⟨ba,m*2,none⟩) (by show V2.heap.size<=ba;omega) _).setCell (p:=⟨ba,m*2+1,none⟩) (by show V2.heap.size<=ba;omega) _
   have HA7:Hx (Dp x V2.heap.size ba pn (As.take (m+1)) W7):=by
    rw [hW7,List.take_succ_eq_append_getElem hAm]
    exact hA6.set (by rw [List.length_take];omega) hlt (by have:=HIr.o;omega) hL6
   have HL7:Hx (Ar x.c.n (XW x) W7 (zh #[O o1 o2 o3,O o4 o5 o6]) As[m]):=by
    rw [hW7]
    have c1':(W6.setCell ⟨ba,m*2,none⟩ (O o1 o2 o3)).cell? ⟨ba,m*2+1,none⟩=some (O e4 e5 e6):=by rw [World.cell?_setCell_other _ _ _ _ (by simp)];exact d1
    exact Cl (Cl hL6 d0 (by have:=HIr.o;omega) _) c1' (by have:=HIr.o;omega) _
   clear hL6 hb6 hb6' hA6 hB6
   go_simp
   refine xK hK (HSr.o _ HB6.o) fun hHeld=>?_
   clear hK K
   refine kT 13 ?_
   refine rdA 14 rfl fun K hK=>?_
   have HC7:Hx (W7.cell? ⟨ba,m*2,none⟩=some (O o1 o2 o3)/\W7.cell? ⟨ba,m*2+1,none⟩=some (O o4 o5 o6)):=by
    rw [hW7]
    have q1:(W6.setCell ⟨ba,m*2,none⟩ (O o1 o2 o3)).cell? ⟨ba,m*2+1,none⟩=some (O e4 e5 e6):=by rw [World.cell?_setCell_other _ _ _ _ (by simp)];exact d1
    exact ⟨by rw [World.cell?_setCell_other _ _ _ _ (by simp)];exact World.cell?_setCell_same _ _ _ d0,World.cell?_setCell_same _ _ _ q1⟩
   go_simp
   rw [<-hW7]
   clear hW7 d0 d1 z0 z1
   refine xK hK (HSr.o _ HB7.o) fun hHeld=>?_
   clear hK K
   refine gE ?_
   have HS7:Hx (∀ W9,Ov W7 W9->Mg W p1 q1 r1 p2 q2 r2 ba m o1 o2 o3 o4 o5 o6 W9):=fun W9 hb9=>⟨Ab (HB7.o.trans (hb9.mono HB7.o.size)) _ _ HPL.o.1,Ab (HB7.o.trans (hb9.mono HB7.o.size)) _ _ HPL.o.2,Ab hb9 _ _ HC7.o.1,Ab hb9 _ _ HC7.o.2⟩
   have KMB:=Aa (KM.o W7.drew (HB7.o.drew) (HL7.o.over (A0 x) (bD _)))
   cases r with
   | true=>
    go_wp2_with fail
    refine gS (Mg W p1 q1 r1 p2 q2 r2 ba m o1 o2 o3 o4 o5 o6) (HS7.o _ (bD _)) fun hHeld=>?_
    refine kT 0 ?_
    refine kT 1 ?_
    refine kT 2 ?_
    refine kT 3 ?_
    refine kT 4 ?_
    refine kT 5 ?_
    refine kT 6 ?_
    refine rdA 7 rfl fun K hK=>?_
    go_simp
    refine (KMB.o).mono ?_
    rintro e W8 ⟨rfl,hb8⟩
    have hb8':=Ac (bD _) hb8
    have HS8:=Aa (HS7.o W8 hb8')
    have HA8:=Aa (HA7.o.over hb8')
    have HB8:=Aa (HB7.o.trans (hb8'.mono HB7.o.size))
    clear hb8 hb8'
    go_simp
    refine xK hK (HS8.o) fun hHeld=>?_
    clear hK K
    refine kT 8 ?_
    refine gE ?_
    go_wp2_with fail
    exact ⟨⟨m+1,by omega,by go_num,HA8.o,HNX.o (by first | rfl | trivial),HB8.o⟩,by simp [intOf];omega⟩
   | false=>
    go_wp2_with fail
    refine gS (Mg W p1 q1 r1 p2 q2 r2 ba m o1 o2 o3 o4 o5 o6) (HS7.o _ (bD _)) fun hHeld=>?_
    refine kT 0 ?_
    refine kT 1 ?_
    refine kT 2 ?_
    refine kT 3 ?_
    refine kT 4 ?_
    refine kT 5 ?_
    refine kT 6 ?_
    refine rdA 7 rfl fun K hK=>?_
    go_simp
    refine (KMB.o).mono ?_
    rintro e W8 ⟨rfl,hb8⟩
    have hb8':=Ac (bD _) hb8
    have HS8:=Aa (HS7.o W8 hb8')
    have HA8:=Aa (HA7.o.over hb8')
    have HB8:=Aa (HB7.o.trans (hb8'.mono HB7.o.size))
    clear hb8 hb8'
    go_simp
    refine xK hK (HS8.o) fun hHeld=>?_
    clear hK K
    refine kT 8 ?_
    refine gE ?_
    go_wp2_with fail
    go_ret
    exact ⟨by rw [HNO.o (by first | rfl | trivial)];rfl,by rw [HNO.o (by first | rfl | trivial)];exact HI0.o.over (Ac HBW2.o HB8.o),FrW.of_below (Bl x) (Ac HBW2.o HB8.o)⟩
  ·have hme:m=pn:=by omega
   have HTA:Hx (As.take m=As):=by have:=HALL.o;have:=HPSL.o;have:=HPN.o;exact List.take_of_length_le (by omega)
   have HYES:Hx (R=(true,⟨setLev s.vs (f.ps.zip As),s.ps⟩)):=by
    rw [HR.o,if_pos]
    ·exact Aa rfl
    rw [List.all_eq_true]
    intro q hq
    obtain ⟨i,hi,rfl⟩:=List.getElem_of_mem hq
    have hz:(f.ps.zip As).length=min f.ps.length As.length:=List.length_zip
    have hi1:i < f.ps.length:=by omega
    have hi2:i < As.length:=by omega
    have:=HALR.o i hi1 hi2 (by rw [hme,HPN.o];exact hi1)
    simpa using this
   have hmp:¬ (m:Int) < (pn:Int):=by omega
   rw [HTA.o] at HAr
   have HI1:=Aa (HI0.o.over (Ac HBW2.o hBr))
   have HF1:=Aa (FrW.of_below (Bl x) (Ac HBW2.o hBr))
   clear hall hAr hme HALR HTA HBA1
   go_wp2_with fail
   go_loopw [60] (fun i w9=>∃ m:Nat,m<=pn/\i=U zd m/\WtI x w0 ⟨setLev s.vs ((f.ps.zip As).take m),s.ps⟩ pv w9/\Dp x V2.heap.size ba pn As w9/\FrW (XV x) W w9) (fun i _=>pn - (intOf i).toNat)
   case atStart=>exact ⟨0,Nat.zero_le _,rfl,HI1.o,HAr.o,HF1.o⟩
   case round=>
    obtain ⟨m,hm,rfl,hI9,hA9,hF9⟩:=hrel
    by_cases hlt:m < pn
    ·have hm1:m < f.ps.length:=by rw [<-HPN.o];exact hlt
     have hAm:m < As.length:=by rw [HALL.o,<-HPSL.o];exact hm1
     obtain ⟨bp,zp,hpo,hpe⟩:=HPEL.o (by intro h;rw [h] at hm1;simp at hm1)
     subst hpo
     have q0:=Ab hI9.below _ _ (hpe m hm1)
     have hvm2:=HPR.o f.ps[m] (List.getElem_mem hm1)
     obtain ⟨vm,hvm⟩:∃ q:Nat,f.ps[m]=(q:Int):=⟨f.ps[m].toNat,by omega⟩
     have hvs:vm < (setLev s.vs ((f.ps.zip As).take m)).length:=by rw [Ds,HVL.o];omega
     obtain ⟨o1,o2,o3,o4,o5,o6,c0,c1,hL9⟩:=hA9.get hAm hlt
     obtain ⟨bl,lcap,a1,a2,a3,a4,a5,a6,hlv,k0,k1,-⟩:=hI9.lev.cells hvs
     have hla:x.c.la=some ⟨bl,0,none⟩:=by unfold WX.lv at hlv;injection hlv
     have hln:x.c.ln=(setLev s.vs ((f.ps.zip As).take m)).length:=by unfold WX.lv at hlv;injection hlv
     have hln16:x.c.ln<=16:=by rw [hln,Ds,HVL.o];exact HSS.o.v16
     have hvn:(vm:Int) < (x.c.ln:Int):=by rw [hln];omega
     have hbd:Ov wr wr.drew:=(bD _)
     have h3:=hI9.over hbd
     have hset:=h3.setLev HSS.o.n1 hla hvs (hL9.over (A0 x) hbd)
     obtain ⟨W4,hW4⟩:=nm (((wr.setCell ⟨bl,vm*2,none⟩ (O o1 o2 o3)).setCell ⟨bl,vm*2+1,none⟩ (O o4 o5 o6)).drew)
     have hcm:(wr.drew.setCell ⟨bl,vm*2,none⟩ (O o1 o2 o3)).setCell ⟨bl,vm*2+1,none⟩ (O o4 o5 o6)=W4:=by rw [hW4];rfl
     rw [hcm] at hset
     clear hcm
     have hnx:¬ XV x wr ba:=fun e=>by
      rcases hI9.xv.1 e with e | e | e
      ·have:=(HI0.o.over HBW2.o).lo.2;have:=HBA.o;omega
      ·have:=((HI0.o.over HBW2.o).lev.lt ba e).2;have:=HBA.o;omega
      ·have:=((HI0.o.over HBW2.o).pls.lt ba e).2;have:=HBA.o;omega
     have hnx3:¬ XV x wr.drew ba:=fun e=>hnx ((Bl x).below _ _ hbd _ e)
     have HI4:Hx (WtI x w0 ⟨setLev s.vs ((f.ps.zip As).take (m+1)),s.ps⟩ pv W4):=by
      have hzl:m < (f.ps.zip As).length:=by rw [List.length_zip];omega
      rw [List.take_succ_eq_append_getElem hzl,IE,List.getElem_zip]
      have e:=hset.1
      have hvt:f.ps[m].toNat=vm:=by omega
      show WtI x w0 ⟨(setLev s.vs ((f.ps.zip As).take m)).set f.ps[m].toNat As[m],s.ps⟩ pv W4
      rw [hvt]
      exact e
     have HA4:=Aa ((hA9.over hbd).keep HSS.o.n1 hset.2 hnx3)
     have HF4:=Aa ((hF9.trans (FrW.of_below (Bl x) hbd)).trans hset.2)
     have u9:wr.cell? ⟨x.bw,9,none⟩=some (O (some ⟨bl,0,none⟩) x.c.ln x.c.lc):=by rw [<-hla];exact hI9.cw (j:=8) rfl
     have HSr:Hx (Mf x bl ba m o1 o2 o3 o4 o5 o6 wr.drew):=⟨u9,c0,c1⟩
     have HS4:Hx (Mf x bl ba m o1 o2 o3 o4 o5 o6 W4):=⟨by rw [<-hla];exact hset.1.cw (j:=8) rfl,hset.2.cell (show wr.drew.cell? _=_ from c0) hnx3,hset.2.cell (show wr.drew.cell? _=_ from c1) hnx3⟩
     have z0:wr.frozen? ⟨bl,vm*2,none⟩=false:=Gc hI9.lev hlv _
     have z1:wr.frozen? ⟨bl,vm*2+1,none⟩=false:=Gc hI9.lev hlv _
     rw [hvm] at q0
     have hmp:(m:Int) < (pn:Int):=by omega
     clear hset h3 hbd hnx hnx3 hL9 hI9 hA9 hF9 hlv hla hln hvs hvm hvm2 hpe hm1 hAm
     go_wp2_with fail
     refine gS (Mf x bl ba m o1 o2 o3 o4 o5 o6) (HSr.o) fun hHeld=>?_
     refine kT 0 ?_
     refine kT 1 ?_
     refine kT 2 ?_
     refine kT 3 ?_
     refine kT 4 ?_
     refine kT 5 ?_
     refine kT 6 ?_
     refine kT 7 ?_
     refine kT 8 ?_
     refine kT 9 ?_
     refine kT 10 ?_
     refine kT 11 ?_
     refine rdA 12 rfl fun K hK=>?_
     go_simp
     rw [<-hW4]
     clear hW4
     refine xK hK (HS4.o) fun hHeld=>?_
     clear hK K
     refine gE ?_
     go_wp2_with fail
     exact ⟨⟨m+1,by omega,by go_num,HI4.o,HA4.o,HF4.o⟩,by simp [intOf];omega⟩
    ·have hme:m=pn:=by omega
     have hz:(f.ps.zip As).take m=f.ps.zip As:=List.take_of_length_le (by rw [List.length_zip];have:=HPN.o;omega)
     rw [hz] at hI9
     have hmp:¬ (m:Int) < (pn:Int):=by omega
     have HI9:=Aa hI9
     have HF9:=Aa hF9
     clear hI9 hA9 hF9 hme hz
     go_wp2_with fail
     go_ret
     exact ⟨by rw [HYES.o];rfl,by rw [HYES.o];exact HI9.o,HF9.o⟩
end Go.Proofs.YtfffpjkcfnekaaaGreat.Ex
