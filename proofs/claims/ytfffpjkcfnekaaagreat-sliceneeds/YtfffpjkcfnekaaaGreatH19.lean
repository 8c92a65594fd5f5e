/- Calls. -/
import Derived.Test.YtfffpjkcfnekaaaGreatH18
set_option linter.unusedVariables false
set_option maxHeartbeats 8000000
set_option maxRecDepth 100000
namespace Go.Proofs.YtfffpjkcfnekaaaGreat.Ex
open Go.RowKit
open Go.Value renaming slice -> O, int -> zd, bool -> ze, agg -> zg, pointer -> zi, tuple -> zj
open Go.IntKind renaming i64 -> U
open Go.Obj renaming cells -> zf
open Go.Ending renaming returned -> zh
theorem Tryz.infoI:(Tryz.prog.info? 3).map (fun i=>(i.zero,i.size,i.bytes))=some (some (zd U 0),1,8):=by kernel_rfl
theorem Dm {w w':World} {B e s:Nat} {v:Value} {n:Nat} {xs:List Value} (h:w.ownsRow B e s v n xs) (hb:Ov w w'):w'.ownsRow B e s v n xs:=
 h.kept (row:=none) ⟨hb.os,hb.tape,hb.output,hb.size,fun k hk _=>hb.block k hk⟩ (by cases hv:v.ownBlock <;> simp)
theorem DB (vs):∀ (l:List (Int × Int)),(A6 vs l).length=vs.length:=by
 intro l
 induction l generalizing vs with
 | nil=>rfl
 | cons a l ih=>exact (ih (vs.set a.1.toNat a.2)).trans (by simp)
theorem IC {vs:List Int} (hv:∀ x∈vs,I32 x):∀ (l:List (Int × Int)),(∀ q∈l,I32 q.2)->∀ x∈A6 vs l,I32 x:=by
 intro l
 induction l generalizing vs with
 | nil=>intro _;exact hv
 | cons a l ih=>
  intro hl
  refine ih (vs:=vs.set a.1.toNat a.2) (fun x hx=>?_) (fun q hq=>hl q (List.mem_cons_of_mem _ hq))
  rcases FN hx with rfl | hx
  ·exact hl a (List.mem_cons_self ..)
  ·exact hv x hx
abbrev LW (b j0:Nat) (v0:Value) (c j1:Nat) (v1:Value) (e j2:Nat) (v2:Value) (j3:Nat) (v3:Value) (j4:Nat) (v4:Value) (Wz:World):Prop:=Wz.cell? ⟨b,j0,none⟩=some v0/\Wz.cell? ⟨c,j1,none⟩=some v1/\Wz.cell? ⟨e,j2,none⟩=some v2/\Wz.cell? ⟨e,j3,none⟩=some v3/\Wz.cell? ⟨e,j4,none⟩=some v4
theorem Mu {w w':World} {r b c e j0 j1 j2 j3 j4:Nat} {v0 v1 v2 v3 v4:Value} (h:LW b j0 v0 c j1 v1 e j2 v2 j3 v3 j4 v4 w) (hg:w.grownBy w' (some r)) (hb:b≠r) (hc:c≠r) (he:e≠r) :
  LW b j0 v0 c j1 v1 e j2 v2 j3 v3 j4 v4 w':=⟨Bb hg h.1 hb,Bb hg h.2.1 hc,Bb hg h.2.2.1 he,Bb hg h.2.2.2.1 he,Bb hg h.2.2.2.2 he⟩
theorem BJ {w w':World} {B:Nat} (hb:Below B w w') (hB:w.heap.size<=B) {a:Addr} {u:Value} (h:w.cell? a=some u):w'.cell? a=some u:=by
 rw [hb.cell (Nat.lt_of_lt_of_le (bL h) hB)]
 exact h
abbrev Ht (w:World) (za:Option Addr) (zl zc br b3 fln c3 c:Nat) (fst:Int) (n:Nat) (ek ex:Int) (pa:Option Addr) (pl pc:Nat) (aa:Option Addr) (j ac:Nat) (ta:Option Addr) (tl tc:Nat) (ea:Option Addr) (el ec:Nat) (Wz:World):Prop:=Wz.cell? ⟨w.heap.size+1,1,none⟩=some (O za zl zc)/\Wz.cell? ⟨br,16,none⟩=some (O (some ⟨b3,0,none⟩) fln c3)/\Wz.cell? ⟨w.heap.size,2,none⟩=some (zd U (c:Int))/\Wz.cell? ⟨b3,c,none⟩=some (zd U fst)/\Wz.cell? ⟨w.heap.size,0,none⟩=some (zd U 2)/\Wz.cell? ⟨w.heap.size,1,none⟩=some (zd U (n:Int))/\Wz.cell? ⟨w.heap.size,3,none⟩=some (zd U ek)/\Wz.cell? ⟨w.heap.size,4,none⟩=some (zd U ex)/\Wz.cell? ⟨w.heap.size,5,none⟩=some (O pa pl pc)/\Wz.cell? ⟨w.heap.size,6,none⟩=some (O aa j ac)/\Wz.cell? ⟨w.heap.size,7,none⟩=some (O ta tl tc)/\Wz.cell? ⟨w.heap.size,8,none⟩=some (O ea el ec)
theorem Nb (m:Int) (ga gn gc sa sn sc ya yn yc oa on oc) (va:Option Addr) (vn vc:Nat) (fn fc:Nat) (ba bn bc xa xn xc) (F fln c3:Nat) (br b1 b2 b3:Nat) (fl:List Int) {I:BE} (dp:Nat) (d) (K kf g:Nat) (ps) (asl:List D) (res) (fst:Int) (n c fb foff:Nat) (ek ex:Int) (pa pl pc aa al ac ta tl tc ea el ec) (a:Int) (qa ql qc za zl zc) (rk rN:Int) (ra rl rc) (w0:World) (rr:RSt->Bool × RSt)
  (hc:c < fn) (hn:n < vn) (hvn:vn<=16) (hfn:fn<=5)
  (f0:w0.cell? ⟨fb,foff+c*5,none⟩=some (O qa ql qc)) (f1:w0.cell? ⟨fb,foff+c*5+1,none⟩=some (O za zl zc)) (f2:w0.cell? ⟨fb,foff+c*5+2,none⟩=some (zd U rk)) (f3:w0.cell? ⟨fb,foff+c*5+3,none⟩=some (zd U rN)) (f4:w0.cell? ⟨fb,foff+c*5+4,none⟩=some (O ra rl rc))
  (hps:Aq w0 (O qa ql qc) ps) (hpb:∀ p∈ps,0<=p/\p < (vn:Int)) (hpl:ps.length=asl.length) (has:XS 3 (RX w0 K) w0 (O aa al ac) asl) (hok:∀ x∈asl,okX vn K x) (hal:asl.length<=5)
  (hres:RX w0 K [zd U rk,zd U rN,O ra rl rc] res) (hro:okX vn K res) (hfl:fl[c]? = some fst) (hfll:fl.length=fln)
  (HS:Hx (∀ st ev W,RnG I w0.heap.size [zd U m,O ga gn gc,O sa sn sc,O ya yn yc,O oa on oc,O va vn vc,O (some ⟨fb,foff,none⟩) fn fc,O ba bn bc,O xa xn xc,zd U (F:Int),O (some ⟨b3,0,none⟩) fln c3] br b1 b2 b3 fl dp st ev W->Ov w0 W->A9 vn yn F st->3*(F - st.steps)+1<=g->Calls Tryz.prog 119 #[zi (some ⟨br,0,none⟩),O za zl zc,zd U fst] W (Eg I m ga gn gc sa sn sc ya yn yc oa on oc va vn vc (some ⟨fb,foff,none⟩) fn fc ba bn bc xa xn xc F fln c3 w0.heap.size br b1 b2 b3 fl dp (rr st) ev W)))
  (KP:Hx (∀ st ev W,RnG I w0.heap.size [zd U m,O ga gn gc,O sa sn sc,O ya yn yc,O oa on oc,O va vn vc,O (some ⟨fb,foff,none⟩) fn fc,O ba bn bc,O xa xn xc,zd U (F:Int),O (some ⟨b3,0,none⟩) fln c3] br b1 b2 b3 fl dp st ev W->Ov w0 W->Calls Tryz.prog 183 #[zi (some ⟨br,0,none⟩),zd U 3,zg #[zd U 2,zd U (n:Int),zd U (c:Int),zd U ek,zd U ex,O pa pl pc,O aa al ac,O ta tl tc,O ea el ec],zd U a] W (It I w0.heap.size [zd U m,O ga gn gc,O sa sn sc,O ya yn yc,O oa on oc,O va vn vc,O (some ⟨fb,foff,none⟩) fn fc,O ba bn bc,O xa xn xc,zd U (F:Int),O (some ⟨b3,0,none⟩) fln c3] br b1 b2 b3 fl dp 3 d (Bo I.ob 3 a dp d st) ev W)))
  (st:RSt) (ev:Ow) (w:World) (h:RnG I w0.heap.size [zd U m,O ga gn gc,O sa sn sc,O ya yn yc,O oa on oc,O va vn vc,O (some ⟨fb,foff,none⟩) fn fc,O ba bn bc,O xa xn xc,zd U (F:Int),O (some ⟨b3,0,none⟩) fln c3] br b1 b2 b3 fl dp st ev w) (hB0:Ov w0 w) (hno:A9 vn yn F st) (hg:3*(F - st.steps)+1<=g) :
  Calls Tryz.prog 223 #[zi (some ⟨br,0,none⟩),zg #[zd U 2,zd U (n:Int),zd U (c:Int),zd U ek,zd U ex,O pa pl pc,O aa al ac,O ta tl tc,O ea el ec],zd U a] w (Eg I m ga gn gc sa sn sc ya yn yc oa on oc va vn vc (some ⟨fb,foff,none⟩) fn fc ba bn bc xa xn xc F fln c3 w0.heap.size br b1 b2 b3 fl dp (AU (rr { st with vars:=A6 st.vars (ps.zip (asl.map (Aw st.vars K))) }) (fun st1=>AU (Bo I.ob 3 a dp d st1) (fun st'=>(true,st'.setv (n:Int) (Aw st'.vars K res))))) ev w):=by
 have hbel:Ov w (w.alloc (zf #[zd U 2,zd U (n:Int),zd U (c:Int),zd U ek,zd U ex,O pa pl pc,O aa al ac,O ta tl tc,O ea el ec] 130)):=bA w _
 have H0:=Aa h
 have HB0:=Aa hB0
 have hB2:=hB0.trans (hbel.mono hB0.size)
 have zr:=Ay w [zd U 2,zd U (n:Int),zd U (c:Int),zd U ek,zd U ex,O pa pl pc,O aa al ac,O ta tl tc,O ea el ec] 130
 have s1:=zr 1 _ rfl
 have s2:=zr 2 _ rfl
 have s6:=zr 6 _ rfl
 clear zr
 have q12:=Ab hbel _ _ (h.row 12 _ rfl)
 obtain ⟨g0,g1,g2,g3,g4⟩:=co5 hB2 f0 f1 f2 f3 f4
 have hcn:(c:Int) < (fn:Int):=by omega
 have hlr:=h.hi.1
 clear f0 f1 f2 f3 f4
 have hbz:=(Below.refl _ (w.alloc (zf #[zd U 2,zd U (n:Int),zd U (c:Int),zd U ek,zd U ex,O pa pl pc,O aa al ac,O ta tl tc,O ea el ec] 130))).alloc (Nat.le_refl _) (zf #[O none 0 0,O none 0 0,zd U 0,zd U 0,O none 0 0] 105)
 obtain ⟨q12z,s2z,g0z,g1z,g2z,g3z,g4z⟩:=co7 hbz q12 s2 g0 g1 g2 g3 g4
 have hbA:Ov w (((w.alloc (zf #[zd U 2,zd U (n:Int),zd U (c:Int),zd U ek,zd U ex,O pa pl pc,O aa al ac,O ta tl tc,O ea el ec] 130)).alloc (zf #[O qa ql qc,O za zl zc,zd U rk,zd U rN,O ra rl rc] 105)).drew):=(hbel.alloc (by simp) _).drew
 have HBA:=Aa hbA
 have p0:(((w.alloc (zf #[zd U 2,zd U (n:Int),zd U (c:Int),zd U ek,zd U ex,O pa pl pc,O aa al ac,O ta tl tc,O ea el ec] 130)).alloc (zf #[O qa ql qc,O za zl zc,zd U rk,zd U rN,O ra rl rc] 105)).drew).cell? ⟨w.heap.size+1,0,none⟩=some (O qa ql qc):=by simp [go_sem]
 have p1:(((w.alloc (zf #[zd U 2,zd U (n:Int),zd U (c:Int),zd U ek,zd U ex,O pa pl pc,O aa al ac,O ta tl tc,O ea el ec] 130)).alloc (zf #[O qa ql qc,O za zl zc,zd U rk,zd U rN,O ra rl rc] 105)).drew).cell? ⟨w.heap.size+1,1,none⟩=some (O za zl zc):=by simp [go_sem]
 have p2:(((w.alloc (zf #[zd U 2,zd U (n:Int),zd U (c:Int),zd U ek,zd U ex,O pa pl pc,O aa al ac,O ta tl tc,O ea el ec] 130)).alloc (zf #[O qa ql qc,O za zl zc,zd U rk,zd U rN,O ra rl rc] 105)).drew).cell? ⟨w.heap.size+1,2,none⟩=some (zd U rk):=by simp [go_sem]
 have p3:(((w.alloc (zf #[zd U 2,zd U (n:Int),zd U (c:Int),zd U ek,zd U ex,O pa pl pc,O aa al ac,O ta tl tc,O ea el ec] 130)).alloc (zf #[O qa ql qc,O za zl zc,zd U rk,zd U rN,O ra rl rc] 105)).drew).cell? ⟨w.heap.size+1,3,none⟩=some (zd U rN):=by simp [go_sem]
 have p4:(((w.alloc (zf #[zd U 2,zd U (n:Int),zd U (c:Int),zd U ek,zd U ex,O pa pl pc,O aa al ac,O ta tl tc,O ea el ec] 130)).alloc (zf #[O qa ql qc,O za zl zc,zd U rk,zd U rN,O ra rl rc] 105)).drew).cell? ⟨w.heap.size+1,4,none⟩=some (O ra rl rc):=by simp [go_sem]
 have r1:(((w.alloc (zf #[zd U 2,zd U (n:Int),zd U (c:Int),zd U ek,zd U ex,O pa pl pc,O aa al ac,O ta tl tc,O ea el ec] 130)).alloc (zf #[O qa ql qc,O za zl zc,zd U rk,zd U rN,O ra rl rc] 105)).drew).cell? ⟨w.heap.size,1,none⟩=some (zd U (n:Int)):=by simp [go_sem]
 have r2:(((w.alloc (zf #[zd U 2,zd U (n:Int),zd U (c:Int),zd U ek,zd U ex,O pa pl pc,O aa al ac,O ta tl tc,O ea el ec] 130)).alloc (zf #[O qa ql qc,O za zl zc,zd U rk,zd U rN,O ra rl rc] 105)).drew).cell? ⟨w.heap.size,2,none⟩=some (zd U (c:Int)):=by simp [go_sem]
 have r6:(((w.alloc (zf #[zd U 2,zd U (n:Int),zd U (c:Int),zd U ek,zd U ex,O pa pl pc,O aa al ac,O ta tl tc,O ea el ec] 130)).alloc (zf #[O qa ql qc,O za zl zc,zd U rk,zd U rN,O ra rl rc] 105)).drew).cell? ⟨w.heap.size,6,none⟩=some (O aa al ac):=by simp [go_sem]
 have hszA:(((w.alloc (zf #[zd U 2,zd U (n:Int),zd U (c:Int),zd U ek,zd U ex,O pa pl pc,O aa al ac,O ta tl tc,O ea el ec] 130)).alloc (zf #[O qa ql qc,O za zl zc,zd U rk,zd U rN,O ra rl rc] 105)).drew).heap.size=w.heap.size+2:=by simp
 have HP:=Aa (And.intro p0 (And.intro p1 (And.intro p2 (And.intro p3 (And.intro p4 (And.intro r1 r2))))))
 have HSZ:=Aa hszA
 have hrw:Ad [zd U 2,zd U (n:Int),zd U (c:Int),zd U ek,zd U ex,O pa pl pc,O aa al ac,O ta tl tc,O ea el ec] (((w.alloc (zf #[zd U 2,zd U (n:Int),zd U (c:Int),zd U ek,zd U ex,O pa pl pc,O aa al ac,O ta tl tc,O ea el ec] 130)).alloc (zf #[O qa ql qc,O za zl zc,zd U rk,zd U rN,O ra rl rc] 105)).drew) w.heap.size:=((Ad.newA #[zd U 2,zd U (n:Int),zd U (c:Int),zd U ek,zd U ex,O pa pl pc,O aa al ac,O ta tl tc,O ea el ec] 130 w).over (bA _ _)).drew
 have HRW:=Aa hrw
 clear hrw
 have hali:al=asl.length:=by obtain ⟨-,a,c,he,-⟩:=has;injection he
 have HAL:=Aa hali
 have hal2:al<=5:=by rw [hali];exact hal
 have HAS:=Aa has
 have HOK:=Aa hok
 have HNO:=Aa hno
 have HPS:=Aa hps
 have HPB:=Aa hpb
 have HPL:=Aa hpl
 have HRES:=Aa hres
 have HRO:=Aa hro
 have HFL:=Aa hfl
 have HFLL:=Aa hfll
 have HG:=Aa hg
 obtain ⟨i0,hi,hz0,hz1,hz2⟩:=info_parts Tryz.infoI
 have hst0:Hx ((((w.alloc (zf #[zd U 2,zd U (n:Int),zd U (c:Int),zd U ek,zd U ex,O pa pl pc,O aa al ac,O ta tl tc,O ea el ec] 130)).alloc (zf #[O qa ql qc,O za zl zc,zd U rk,zd U rN,O ra rl rc] 105)).drew).ownsRow (w.heap.size+2) 3 1 (O none 0 0) 0 []):=World.ownsRow_nil _ _ _ _
 clear hpl hali hal hps hpb hres hro hfl hfll has hok hno hB0 hszA h p0 p1 p2 p3 p4 r1 r2 hg
 go_enter Tryz.func223,Tryz.ntmps223
 go_wp2_with fail
 go_region
 go_wp2_with fail
 obtain ⟨WX,hWX⟩:=nm ((((w.alloc (zf #[zd U 2,zd U (n:Int),zd U (c:Int),zd U ek,zd U ex,O pa pl pc,O aa al ac,O ta tl tc,O ea el ec] 130)).alloc (zf #[O qa ql qc,O za zl zc,zd U rk,zd U rN,O ra rl rc] 105)).drew))
 rw [<-hWX] at HBA HP HSZ HRW hst0 r6 hbA ⊢
 clear q12 q12z s1 s2 s6 s2z g0 g0z g1 g1z g2 g2z g3 g3z g4 g4z hbz hbel hB2 hWX hcn
 go_loopw [8,25] (fun v i wr=>∃ j:Nat,j<=al/\i=zd U j/\wr.ownsRow (w.heap.size+2) 3 1 v j (Ba ((asl.take j).map (Aw st.vars K)))/\Below (w.heap.size+2) WX wr) (fun _ i _=>al - (intOf i).toNat)
 case atStart=>exact ⟨0,Nat.zero_le _,rfl,hst0.o,Below.refl _ _⟩
 case round=>
  obtain ⟨j,hj,rfl,hown,hB⟩:=hrel
  have hBw:Ov w wr:=hbA.trans (hB.mono (by omega))
  have hB0r:Ov w0 wr:=HB0.o.trans (hBw.mono HB0.o.size)
  have HOWN:=Aa hown
  have HB:=Aa hB
  have HBW:=Aa hBw
  by_cases hjl:j < al
  ·obtain ⟨hal0,aa',ac',hae,hel⟩:=HAS.o
   injection hae with e1 e2 e3
   have hjd:j < asl.length:=by omega
   obtain ⟨eb,eoff,heb,hel2⟩:=hel (by intro hq;rw [hq] at hjd;simp at hjd)
   obtain ⟨cs,hcl,hcs,hrx⟩:=hel2 j asl[j] (List.getElem?_eq_getElem hjd)
   have e1':=e1.trans heb
   subst e1'
   obtain ⟨k0,n0,x0,l0,c0,rfl⟩:∃ k0 n0 x0 l0 c0,cs=[zd U k0,zd U n0,O x0 l0 c0]:=by
    obtain ⟨a,c,hf⟩:=hrx.form
    exact ⟨_,_,_,_,_,hf⟩
   have m0:wr.cell? ⟨eb,eoff+j*3,none⟩=_:=Ab hB0r _ _ (hcs 0 _ rfl)
   have m1:=Ab hB0r _ _ (hcs 1 _ rfl)
   have m2:=Ab hB0r _ _ (hcs 2 _ rfl)
   have hba:=bA wr (zf #[zd U k0,zd U n0,O x0 l0 c0] 94)
   have hBa:=hBw.trans (hba.mono hBw.size)
   have hB0a:=hB0r.trans (hba.mono hB0r.size)
   have hno:=HNO.o
   have KV:=Aa (BF m ga gn gc sa sn sc ya yn yc oa on oc va vn vc (some ⟨fb,foff,none⟩) fn fc ba bn bc xa xn xc F fln c3 w0.heap.size br b1 b2 b3 fl dp st ev K _ asl[j] (wr.alloc (zf #[zd U k0,zd U n0,O x0 l0 c0] 94)) (H0.o.over hBa) (hrx.over hB0a) (by rw [hno.vl];exact HOK.o _ (List.getElem_mem hjd)) hno.i32)
   have htk:(asl.take (j+1)).map (Aw st.vars K)=(asl.take j).map (Aw st.vars K)++[Aw st.vars K asl[j]]:=by rw [List.take_succ_eq_append_getElem hjd,List.map_append];rfl
   obtain ⟨x,hx⟩:=nm (Aw st.vars K asl[j])
   rw [<-hx] at KV htk
   have HTK:=Aa htk
   have hs2:w.heap.size+2<=wr.heap.size:=by rw [<-HSZ.o];exact hB.size
   have hownB:=Dm hown hba
   clear hel hel2 hcs hcl hrx e1 e2 e3 heb hno htk hx hown hBa hB0a
   go_wp2_with fail
   refine (KV.o).mono ?_
   rintro e w2 ⟨rfl,hb2⟩
   have hsz2:w.heap.size+2<=w2.heap.size:=Nat.le_trans hs2 (Nat.le_trans hba.size hb2.size)
   have hb3:=bA w2 (zf #[zd U x] 3)
   have hownC:=Dm (Dm hownB hb2) hb3
   have hB3:=Ag (Ag hba hb2) hb3
   have HN:=Aa (Ad.newA #[zd U x] 3 w2)
   have hs3:w.heap.size+2<=(w2.alloc (zf #[zd U x] 3)).heap.size:=Nat.le_trans hsz2 hb3.size
   clear KV hba hb2 hb3 hownB m0 m1 m2
   go_wp2_with (at_builtin;refine wpList_append_own _ rfl _ _ 25 rfl (w.heap.size+2) 3 i0 (zd U 0) 1 8 Tryz.underlying25 hi hz0 hz1 hz2 rfl (by decide) _ _ _ rfl hownC ⟨w2.heap.size,0,none⟩ 1 1 [zd U x] rfl rfl (fun jj u hu=>by rw [Addr.add_lit,Nat.zero_add];exact HN.o jj u hu) (by simp [Value.oneCell']) (by unfold maxLen;omega) (by omega) hs3 ?_)
   intro v3 w3 hown3 hgr3 _
   have hbl3:=AG hownC hgr3 hs3
   have HF:=Aa (And.intro hown3 ((HB.o.trans (hB3.mono hs2)).trans hbl3))
   clear hownC hown3 hgr3 hbl3 hB3
   go_wp2_with fail
   refine ⟨⟨j+1,by omega,by go_num,?_,HF.o.2⟩,by simp [intOf];omega⟩
   have:=HF.o.1
   rw [HTK.o]
   simpa [Ba] using this
  ·have hjE:j=al:=by omega
   subst hjE
   have htl:asl.take j=asl:=List.take_of_length_le (by have:=HAL.o;omega)
   rw [htl] at HOWN
   obtain ⟨ao,cap,hu8,hao⟩:∃ ao cap,u8=O ao j cap/\(0 < j->∃ g,ao=some ⟨g,0,none⟩/\w.heap.size+2<=g/\Ad (Ba (asl.map (Aw st.vars K))) wr g):=by
    rcases HOWN.o.2 with ⟨h1,h2⟩ | ⟨g,cap,cur,h1,h2,h3,h4,h5,h6,h7⟩
    ·exact ⟨none,0,by rw [h1,h2],fun hz=>by omega⟩
    ·refine ⟨_,cap,h1,fun _=>⟨g,rfl,h2,fun jj u hu=>?_⟩⟩
     have:=HOWN.o.cells (g:=g) (by rw [h1];rfl) jj u hu
     rwa [Addr.add_lit,Nat.zero_add] at this
   subst hu8
   have HAO:=Aa hao
   obtain ⟨P0,P1,P2,P3,P4,P5,P6⟩:=HP.o
   have pw0:=BJ HB.o (by rw [HSZ.o];exact Nat.le_refl _) P0
   have HPW:=Aa (And.intro (BJ HB.o (by rw [HSZ.o];exact Nat.le_refl _) P1) (And.intro (BJ HB.o (by rw [HSZ.o];exact Nat.le_refl _) P2) (And.intro (BJ HB.o (by rw [HSZ.o];exact Nat.le_refl _) P3) (And.intro (BJ HB.o (by rw [HSZ.o];exact Nat.le_refl _) P4) (And.intro (BJ HB.o (by rw [HSZ.o];exact Nat.le_refl _) P5) (BJ HB.o (by rw [HSZ.o];exact Nat.le_refl _) P6))))))
   have hrw1:Ad [zd U 2,zd U (n:Int),zd U (c:Int),zd U ek,zd U ex,O pa pl pc,O aa j ac,O ta tl tc,O ea el ec] wr w.heap.size:=fun jj u hu=>BJ HB.o (by rw [HSZ.o];exact Nat.le_refl _) (HRW.o jj u hu)
   have HRW1:=Aa hrw1
   clear hrw1
   have hqp:ql=ps.length:=by obtain ⟨a,c,he,-⟩:=HPS.o;injection he
   have hqj:ql=j:=by have:=HPL.o;have:=HAL.o;omega
   have HQP:=Aa hqp
   have HQJ:=Aa hqj
   have hq5:ql<=5:=by omega
   obtain ⟨xs,hxs⟩:=nm (asl.map (Aw st.vars K))
   have hxl:xs.length=j:=by rw [hxs];simp;exact HAL.o.symm
   have hxi:∀ x∈xs,I32 x:=by
    intro x hx
    rw [hxs] at hx
    obtain ⟨y,hy,rfl⟩:=List.mem_map.1 hx
    exact DQ HNO.o.i32 K y (by rw [HNO.o.vl];exact HOK.o y hy)
   rw [<-hxs] at HAO
   have HXS:=Aa hxs
   have HXL:=Aa hxl
   have HXI:=Aa hxi
   have HST2:Hx (RnG I w0.heap.size [zd U m,O ga gn gc,O sa sn sc,O ya yn yc,O oa on oc,O va vn vc,O (some ⟨fb,foff,none⟩) fn fc,O ba bn bc,O xa xn xc,zd U (F:Int),O (some ⟨b3,0,none⟩) fln c3] br b1 b2 b3 fl dp ({ st with vars:=A6 st.vars ((ps.zip xs).take 0) }) ev wr/\Fr br b1 b2 ev ev wr wr):=⟨by simpa [A6] using H0.o.over hBw,Fr.refl _ _ _ _ _⟩
   clear hjl hB hBw hB0r hbA hown htl hao P0 P1 P2 P3 P4 P5 P6 hqp hqj hxs hxl hxi HOWN hst0 r6
   obtain ⟨w1,hw1⟩:=nm wr
   rw [<-hw1] at pw0 HAO HPW HRW1 HST2 HB HBW ⊢
   clear hw1
   go_wp2_with fail
   go_loopw [39] (fun i wq=>∃ q:Nat,q<=ql/\i=zd U q/\RnG I w0.heap.size [zd U m,O ga gn gc,O sa sn sc,O ya yn yc,O oa on oc,O va vn vc,O (some ⟨fb,foff,none⟩) fn fc,O ba bn bc,O xa xn xc,zd U (F:Int),O (some ⟨b3,0,none⟩) fln c3] br b1 b2 b3 fl dp ({ st with vars:=A6 st.vars ((ps.zip xs).take q) }) ev wq/\Fr br b1 b2 ev ev w1 wq) (fun i _=>ql - (intOf i).toNat)
   case atStart=>exact ⟨0,Nat.zero_le _,rfl,HST2.o⟩
   case round=>
    obtain ⟨q,hq,rfl,hr,hf⟩:=hrel
    have HR:=Aa hr
    have HF:=Aa hf
    have hfw:Fr br b1 b2 ev ev w wr:=(Fr.of_below HBW.o).trans hf
    have hB0q:Ov w0 wr:=HB0.o.trans (H0.o.below hfw)
    have hvl:(A6 st.vars ((ps.zip xs).take q)).length=vn:=by rw [DB];exact HNO.o.vl
    by_cases hql:q < ql
    ·obtain ⟨qa',qc',hqe,hqel⟩:=HPS.o
     injection hqe with e1 e2 e3
     have hqd:q < ps.length:=by omega
     have hqx:q < xs.length:=by have:=HXL.o;have:=HQJ.o;omega
     obtain ⟨pb,poff,hpb,hqel2⟩:=hqel (by intro hz;rw [hz] at hqd;simp at hqd)
     have e1':=e1.trans hpb
     subst e1'
     have m0:=Ab hB0q _ _ (hqel2 q hqd)
     obtain ⟨pv0,pv1⟩:=HPB.o ps[q] (List.getElem_mem hqd)
     have htk:A6 st.vars ((ps.zip xs).take (q+1))=(A6 st.vars ((ps.zip xs).take q)).set ps[q].toNat xs[q]:=by
      have hz:q < (ps.zip xs).length:=by rw [List.length_zip];omega
      rw [List.take_succ_eq_append_getElem hz]
      simp [A6,List.foldl_append]
     obtain ⟨g,hg1,hg2,hg3⟩:=HAO.o (by have:=HQJ.o;omega)
     have m1:=H0.o.box hf (by omega:w.heap.size<=g) (hg3 q (zd U xs[q]) (by simp [hqx]))
     subst hg1
     obtain ⟨x,hx⟩:=nm (xs[q])
     obtain ⟨pz,hpz⟩:=nm (ps[q])
     rw [<-hx] at m1 htk
     rw [<-hpz] at m0 pv0 pv1 htk
     obtain ⟨pn,rfl⟩:=Int.eq_ofNat_of_zero_le pv0
     rw [Int.toNat_natCast] at htk
     have hpn:pn < vn:=by omega
     have m2:=hr.row 1 _ rfl
     have m3:wr.cell? ⟨b1,pn,none⟩=some (zd U ((A6 st.vars ((ps.zip xs).take q))[pn]'(by rw [hvl];exact hpn))):=hr.vars pn _ (by simp [hvl,hpn])
     have m4:=hr.z1 pn
     have m5:=hr.hi.2.1
     have m6:=hr.hi.1
     have hset:=hr.setVar (pn:Int) x (by show pn < (A6 st.vars ((ps.zip xs).take q)).length;rw [hvl];exact hpn)
     have HSET:Hx (RnG I w0.heap.size [zd U m,O ga gn gc,O sa sn sc,O ya yn yc,O oa on oc,O va vn vc,O (some ⟨fb,foff,none⟩) fn fc,O ba bn bc,O xa xn xc,zd U (F:Int),O (some ⟨b3,0,none⟩) fln c3] br b1 b2 b3 fl dp ({ st with vars:=A6 st.vars ((ps.zip xs).take (q+1)) }) ev (wr.setCell ⟨b1,pn,none⟩ (zd U x))/\Fr br b1 b2 ev ev w1 (wr.setCell ⟨b1,pn,none⟩ (zd U x))):=by
      refine ⟨?_,hf.trans (Dt hr _ _)⟩
      rw [htk]
      exact hset
     obtain ⟨y,hy⟩:=nm ((A6 st.vars ((ps.zip xs).take q))[pn]'(by rw [hvl];exact hpn))
     rw [<-hy] at m3
     have m2':wr.cell? ⟨br,1,none⟩=some (O (some ⟨b1,0,none⟩) vn vn):=by
      have:(A6 st.vars ((ps.zip xs).take q)).length=vn:=hvl
      simp only [this] at m2
      exact m2
     have hpi:(pn:Int) < (vn:Int):=by omega
     have hqi:(q:Int) < (j:Int):=by have:=HQJ.o;omega
     clear hqel hqel2 e1 e2 e3 hpb hx hpz hg3 htk hset hy hr hf hfw hB0q hvl m2 HAO hqx hqd
     go_wp2_with fail
     go_region
     go_wp2_with fail
     exact ⟨⟨q+1,by omega,by go_num,HSET.o.1.drewN 1,HSET.o.2.over (below_drewN (Below.refl _ _) 1)⟩,by simp [intOf];omega⟩
    ·have hqE:q=ql:=by omega
     subst hqE
     have htz:(ps.zip xs).take q=ps.zip xs:=List.take_of_length_le (by rw [List.length_zip];have:=HQP.o;omega)
     rw [htz] at hr
     have hfull:=hr
     obtain ⟨st2,hst2⟩:=nm (({ st with vars:=A6 st.vars (ps.zip xs) }:RSt))
     have hstx:({ st with vars:=A6 st.vars (ps.zip (asl.map (Aw st.vars K))) }:RSt)=st2:=by rw [hst2,HXS.o]
     rw [<-hst2] at hfull
     have hno2:A9 vn yn F st2:=by
      rw [hst2]
      refine ⟨by show (A6 _ _).length=vn;rw [DB];exact HNO.o.vl,HNO.o.tl,IC HNO.o.i32 _ (fun z hz=>HXI.o _ (List.of_mem_zip hz).2),HNO.o.tk,HNO.o.el,HNO.o.sb⟩
     have hg2:3*(F - st2.steps)+1<=g:=by rw [hst2];exact HG.o
     have hB0q2:Ov w0 wr.drew:=hB0q.drew
     have KS:=Aa (HS.o st2 ev wr.drew (hfull.drewN 1) hB0q2 hno2 hg2)
     obtain ⟨y1,y2,y3,y4,y5,y6⟩:=HPW.o
     have z1:=H0.o.box hf (by omega) y1
     have z2:=H0.o.box hf (by omega) y2
     have z3:=H0.o.box hf (by omega) y3
     have z4:=H0.o.box hf (by omega) y4
     have z5:=H0.o.box hf (by omega) y5
     have z6:=H0.o.box hf (by omega) y6
     have HRW2:Hx (Ad [zd U 2,zd U (n:Int),zd U (c:Int),zd U ek,zd U ex,O pa pl pc,O aa j ac,O ta tl tc,O ea el ec] wr.drew w.heap.size):=fun jj u hu=>(H0.o.box hf (Nat.le_refl _) (HRW1.o jj u hu):wr.cell? ⟨w.heap.size,jj,none⟩=some u)
     have z16:=hfull.row 16 _ rfl
     have zb3:wr.cell? ⟨b3,c,none⟩=some (zd U fst):=hfull.first c _ (by simp [HFL.o])
     have hcl:c < fl.length:=(List.getElem?_eq_some_iff.1 HFL.o).1
     have hci:(c:Int) < (fln:Int):=by have:=HFLL.o;omega
     have KEEP:Hx (∀ W ev2 st3,RnG I w0.heap.size [zd U m,O ga gn gc,O sa sn sc,O ya yn yc,O oa on oc,O va vn vc,O (some ⟨fb,foff,none⟩) fn fc,O ba bn bc,O xa xn xc,zd U (F:Int),O (some ⟨b3,0,none⟩) fln c3] br b1 b2 b3 fl dp st3 ev2 W->Fr br b1 b2 ev ev2 wr.drew W->(Ht w za zl zc br b3 fln c3 c fst n ek ex pa pl pc aa j ac ta tl tc ea el ec W)):=fun W ev2 st3 hr3 hf3=>
      ⟨H0.o.box hf3 (by omega) z1,hr3.row 16 _ rfl,H0.o.box hf3 (by omega) z6,hr3.first c _ (by simp [HFL.o]),H0.o.box hf3 (Nat.le_refl _) (HRW2.o 0 _ rfl),H0.o.box hf3 (Nat.le_refl _) (HRW2.o 1 _ rfl),H0.o.box hf3 (Nat.le_refl _) (HRW2.o 3 _ rfl),H0.o.box hf3 (Nat.le_refl _) (HRW2.o 4 _ rfl),H0.o.box hf3 (Nat.le_refl _) (HRW2.o 5 _ rfl),H0.o.box hf3 (Nat.le_refl _) (HRW2.o 6 _ rfl),H0.o.box hf3 (Nat.le_refl _) (HRW2.o 7 _ rfl),H0.o.box hf3 (Nat.le_refl _) (HRW2.o 8 _ rfl)⟩
     have z01:=KEEP.o wr.drew ev _ (hfull.drewN 1) (Fr.refl _ _ _ _ _)
     have Z01:=Aa z01
     have KEEP5:Hx (∀ W ev2,Fr br b1 b2 ev ev2 wr.drew W->(W.cell? ⟨w.heap.size,1,none⟩=some (zd U (n:Int))/\W.cell? ⟨w.heap.size+1,2,none⟩=some (zd U rk)/\W.cell? ⟨w.heap.size+1,3,none⟩=some (zd U rN)/\W.cell? ⟨w.heap.size+1,4,none⟩=some (O ra rl rc))):=fun W ev2 hf3=>
      ⟨H0.o.box hf3 (by omega) z5,H0.o.box hf3 (by omega) z2,H0.o.box hf3 (by omega) z3,H0.o.box hf3 (by omega) z4⟩
     have HFW:=Aa hfw
     have HB0Q:=Aa hB0q2
     have HFULL:=Aa hfull
     clear z01
     obtain ⟨T,hT⟩:=nm (rr st2)
     have HRR:Hx (rr ({ st with vars:=A6 st.vars (ps.zip (asl.map (Aw st.vars K))) }:RSt)=T):=by rw [hT];exact congrArg rr hstx
     rw [<-hT] at KS
     clear hT
     clear hr hf hfw hB0q hvl hql hq htz hfull hst2 hstx hno2 hg2 hB0q2 y1 y2 y3 y4 y5 y6 z2 z3 z4 z5 HPW HAO HXS HST2 HS hcl
     obtain ⟨tb,ts⟩:=T
     cases tb with
     | false=>
      go_wp2_with fail
      refine gS (Ht w za zl zc br b3 fln c3 c fst n ek ex pa pl pc aa j ac ta tl tc ea el ec) (Z01.o) fun hHeld=>?_
      refine kT 0 ?_
      refine kT 1 ?_
      refine kT 2 ?_
      refine kT 3 ?_
      refine kT 4 ?_
      refine kT 5 ?_
      refine kT 6 ?_
      refine kT 7 ?_
      refine kT 8 ?_
      refine kT 9 ?_
      refine kT 10 ?_
      refine rdA 11 rfl fun K hK=>?_
      go_simp
      refine (KS.o).mono ?_
      rintro e wt ⟨he,⟨ev2,hr2,hf2⟩,hno2⟩
      dsimp only at he
      subst he
      go_simp
      refine xK hK (KEEP.o _ _ _ hr2 hf2) fun hHeld=>?_
      clear hK K
      refine kT 12 ?_
      refine kT 13 ?_
      refine kU 14 ?_
      refine kU 15 ?_
      refine kU 16 ?_
      refine kU 17 ?_
      refine kU 18 ?_
      refine kT 19 ?_
      refine gE ?_
      have HF2:=Aa (And.intro hr2 ((HFW.o.over (below_drewN (Below.refl _ _) 1)).trans hf2))
      have HN2:=Aa hno2
      clear hr2 hf2 hno2
      go_wp2_with fail
      go_ret
      rw [HRR.o]
      exact ⟨rfl,⟨ev2,HF2.o⟩,HN2.o⟩
     | true=>
      have KPT:=Aa (KP.o ts)
      obtain ⟨qb,qs,hpp⟩:∃ qb qs,Bo I.ob 3 a dp d ts=(qb,qs):=⟨_,_,rfl⟩
      have HNP:Hx (A9 vn yn F ts->A9 vn yn F qs):=fun hq=>by
       have:=hq.pass I.ob 3 a dp d
       rw [hpp] at this
       exact this
      rw [hpp] at KPT
      have e9:AU (true,ts) (fun st1=>AU (Bo I.ob 3 a dp d st1) (fun st'=>(true,st'.setv (n:Int) (Aw st'.vars K res))))=AU (qb,qs) (fun st'=>(true,st'.setv (n:Int) (Aw st'.vars K res))):=by
       show AU (Bo I.ob 3 a dp d ts) (fun st'=>(true,st'.setv (n:Int) (Aw st'.vars K res)))=_
       rw [hpp]
      have HE9:=Aa e9
      clear hpp e9 KP z1 z16 z6 zb3
      cases qb with
      | false=>
       go_wp2_with fail
       refine gS (Ht w za zl zc br b3 fln c3 c fst n ek ex pa pl pc aa j ac ta tl tc ea el ec) (Z01.o) fun hHeld=>?_
       refine kT 0 ?_
       refine kT 1 ?_
       refine kT 2 ?_
       refine kT 3 ?_
       refine kT 4 ?_
       refine kT 5 ?_
       refine kT 6 ?_
       refine kT 7 ?_
       refine kT 8 ?_
       refine kT 9 ?_
       refine kT 10 ?_
       refine rdA 11 rfl fun K hK=>?_
       go_simp
       refine (KS.o).mono ?_
       rintro e wt ⟨he,⟨ev2,hr2,hf2⟩,hno2⟩
       dsimp only at he
       subst he
       go_simp
       refine xK hK (KEEP.o _ _ _ hr2 hf2) fun hHeld=>?_
       clear hK K
       refine kT 12 ?_
       refine kT 13 ?_
       refine kT 14 ?_
       refine kT 15 ?_
       refine kT 16 ?_
       refine rdA 17 rfl fun K hK=>?_
       go_simp
       refine (KPT.o ev2 _ hr2 (HB0Q.o.trans ((HFULL.o.drewN 1).below hf2))).mono ?_
       rintro e w4 ⟨he4,ev4,hr4,hf4,hn4⟩
       dsimp only at he4
       subst he4
       go_simp
       refine xK hK (KEEP.o _ _ _ hr4 (hf2.trans hf4)) fun hHeld=>?_
       clear hK K
       refine kT 18 ?_
       refine kT 19 ?_
       refine gE ?_
       have HF4:=Aa (And.intro hr4 (((HFW.o.over (below_drewN (Below.refl _ _) 1)).trans hf2).trans hf4))
       have HN4:=Aa (HNP.o hno2)
       clear hr2 hf2 hno2 hr4 hf4 hn4
       go_wp2_with fail
       go_ret
       rw [HRR.o,HE9.o]
       exact ⟨rfl,⟨ev4,HF4.o⟩,HN4.o⟩
      | true=>
       go_wp2_with fail
       refine gS (Ht w za zl zc br b3 fln c3 c fst n ek ex pa pl pc aa j ac ta tl tc ea el ec) (Z01.o) fun hHeld=>?_
       refine kT 0 ?_
       refine kT 1 ?_
       refine kT 2 ?_
       refine kT 3 ?_
       refine kT 4 ?_
       refine kT 5 ?_
       refine kT 6 ?_
       refine kT 7 ?_
       refine kT 8 ?_
       refine kT 9 ?_
       refine kT 10 ?_
       refine rdA 11 rfl fun K hK=>?_
       go_simp
       refine (KS.o).mono ?_
       rintro e wt ⟨he,⟨ev2,hr2,hf2⟩,hno2⟩
       dsimp only at he
       subst he
       go_simp
       refine xK hK (KEEP.o _ _ _ hr2 hf2) fun hHeld=>?_
       clear hK K
       refine kT 12 ?_
       refine kT 13 ?_
       refine kT 14 ?_
       refine kT 15 ?_
       refine kT 16 ?_
       refine rdA 17 rfl fun K hK=>?_
       go_simp
       refine (KPT.o ev2 _ hr2 (HB0Q.o.trans ((HFULL.o.drewN 1).below hf2))).mono ?_
       rintro e w4 ⟨he4,ev4,hr4,hf4,hn4⟩
       dsimp only at he4
       subst he4
       go_simp
       refine xK hK (KEEP.o _ _ _ hr4 (hf2.trans hf4)) fun hHeld=>?_
       clear hK K
       refine kT 18 ?_
       refine kT 19 ?_
       refine gE ?_
       have HNP2:=Aa (HNP.o hno2)
       have HFt:=Aa hf2
       clear hr2 hf2 hno2 hn4
       dsimp only at hr4
       have hft4:=HFt.o.trans hf4
       obtain ⟨x5,x2,x3,x4⟩:=KEEP5.o _ _ hft4
       have hno2':A9 vn yn F qs:=HNP2.o
       have HF2:=Aa ((HFW.o.over (below_drewN (Below.refl _ _) 1)).trans hft4)
       have hB0t:Ov w0 w4:=HB0Q.o.trans ((HFULL.o.drewN 1).below hft4)
       have h':=hr4.drewN 1
       have KV:=Aa (BF m ga gn gc sa sn sc ya yn yc oa on oc va vn vc (some ⟨fb,foff,none⟩) fn fc ba bn bc xa xn xc F fln c3 w0.heap.size br b1 b2 b3 fl dp qs ev4 K _ res w4.drew h' (HRES.o.over hB0t.drew) (by rw [hno2'.vl];exact HRO.o) hno2'.i32)
       have x1:=h'.row 1 _ rfl
       rw [hno2'.vl] at x1
       have hnl:n < qs.vars.length:=by rw [hno2'.vl];exact hn
       have HRF:Hx (∀ W,Ov w4.drew W->RnG I w0.heap.size [zd U m,O ga gn gc,O sa sn sc,O ya yn yc,O oa on oc,O va vn vc,O (some ⟨fb,foff,none⟩) fn fc,O ba bn bc,O xa xn xc,zd U (F:Int),O (some ⟨b3,0,none⟩) fln c3] br b1 b2 b3 fl dp (qs.setv (n:Int) (Aw qs.vars K res)) ev4 (W.setCell ⟨b1,n,none⟩ (zd U (Aw qs.vars K res)))/\Fr br b1 b2 ev ev4 w (W.setCell ⟨b1,n,none⟩ (zd U (Aw qs.vars K res)))):=fun W hW=>by
        have r:=(h'.over hW).setVar (n:Int) (Aw qs.vars K res) (by simpa using hnl)
        exact ⟨by simpa using r,(HF2.o.over (below_drewN (Below.refl _ _) 1)).trans ((Fr.of_below hW).trans (Dt (h'.over hW) _ _))⟩
       have hvw:∀ W,Ov w4.drew W->W.cell? ⟨b1,n,none⟩=some (zd U qs.vars[n])/\W.frozen? ⟨b1,n,none⟩=false/\b1 < W.heap.size:=fun W hW=>⟨(h'.over hW).vars n _ (by simp [hnl]),(h'.over hW).z1 n,(h'.over hW).hi.2.1⟩
       obtain ⟨y,hy⟩:=nm (qs.vars[n])
       rw [<-hy] at hvw
       have HVW:=Aa hvw
       have hI:=DQ hno2'.i32 K res (by rw [hno2'.vl];exact HRO.o)
       have HNF:=Aa (hno2'.setv (v:=(n:Int)) hI)
       have nb:w.heap.size≠b1:=by have:=H0.o.hi;omega
       have nb1:w.heap.size+1≠b1:=by have:=H0.o.hi;omega
       have nr:br≠b1:=H0.o.apart.1
       have hni:(n:Int) < (vn:Int):=by omega
       obtain ⟨vx,hvx⟩:=nm (Aw qs.vars K res)
       have HVX:=Aa hvx
       rw [<-hvx] at KV HRF
       clear hr4 hf4 hft4 hno2' h' hB0t hnl hvw hy hI hvx
       go_wp2_with fail
       go_region_held3 (fun W=>W.cell? ⟨br,1,none⟩=some (O (some ⟨b1,0,none⟩) vn vn)/\W.cell? ⟨w.heap.size,1,none⟩=some (zd U (n:Int))/\W.cell? ⟨w.heap.size+1,2,none⟩=some (zd U rk)/\W.cell? ⟨w.heap.size+1,3,none⟩=some (zd U rN)/\W.cell? ⟨w.heap.size+1,4,none⟩=some (O ra rl rc)) (first | assumption | exact ⟨x1,x5,x2,x3,x4⟩ | exact FP (by assumption) hbp | exact Mu (by assumption) (Cr (n:=0)) nr nb nb1 | fail) (first | (go_at_call 222;refine (KV.o).mono ?_;rintro e wp ⟨rfl,hbp⟩;obtain ⟨u0,uz,ul⟩:=HVW.o _ hbp))
       have HE:=Aa (HRF.o _ hbp)
       go_wp2_with fail
       go_ret
       rw [HRR.o,HE9.o]
       have hvx:=HVX.o
       subst hvx
       exact ⟨rfl,⟨ev4,HE.o⟩,HNF.o⟩
structure Kn (I:BE) (K kf:Nat) (m:Int) (ga:Option Addr) (gn gc:Nat) (sa:Option Addr) (sn sc:Nat) (ya:Option Addr) (yn yc:Nat) (oa:Option Addr) (on oc:Nat) (va:Option Addr) (vn vc:Nat) (fa:Option Addr) (fn fc:Nat) (ba:Option Addr) (bn bc:Nat) (xa:Option Addr) (xn xc:Nat) (F fln c3:Nat) (br b1 b2 b3:Nat) (fl:List Int) (fs:List FnD) (ins:List (List Int)) (w0:World):Prop where
 funcs:AL w0 K kf (O fa fn fc) fs
 lists:Bm w0 (O xa xn xc) ins
 many:ins.length=yn
 long:∀ x∈ins,x.length<=100
 num:∀ x∈ins,∀ y∈x,I32 y
 fuel:F<=2000
 vars:vn<=16
 fnE:fn=fs.length
 fn5:fs.length<=5
 flE:fl=(List.range (fs.length+1)).map (fun i=>((An kf (fs.take i):Nat):Int))
 flN:fln=fs.length+1
 cnt:An kf fs<=50
 may:Km I w0 K vn yn on fs
 body:∀ i (h:i < fs.length),okF K vn yn on (i:Int) fs kf fs[i]
def Hp (I:BE) (K kf:Nat) (m:Int) (ga:Option Addr) (gn gc:Nat) (sa:Option Addr) (sn sc:Nat) (ya:Option Addr) (yn yc:Nat) (oa:Option Addr) (on oc:Nat) (va:Option Addr) (vn vc:Nat) (fa:Option Addr) (fn fc:Nat) (ba:Option Addr) (bn bc:Nat) (xa:Option Addr) (xn xc:Nat) (F fln c3:Nat) (br b1 b2 b3:Nat) (fl:List Int) (fs:List FnD) (ins:List (List Int)) (w0:World) (g:Nat):Prop:=∀ (k:Nat) (v:Value) (l:List D) (c a:Int) (dp:Nat) (st:RSt) (ev:Ow) (w:World),AD w0 K k v l->c<=fs.length->(∀ s∈l,okS K vn yn on c fs k s)->0<=a->a+(Aj k l:Nat)<=100->dp+g<=9000->Ov w0 w->RnG I w0.heap.size [zd U m,O ga gn gc,O sa sn sc,O ya yn yc,O oa on oc,O va vn vc,O fa fn fc,O ba bn bc,O xa xn xc,zd U (F:Int),O (some ⟨b3,0,none⟩) fln c3] br b1 b2 b3 fl dp st ev w->A9 vn yn F st->3*(F - st.steps)+1<=g ->
 Calls Tryz.prog 119 #[zi (some ⟨br,0,none⟩),v,zd U a] w (Eg I m ga gn gc sa sn sc ya yn yc oa on oc va vn vc fa fn fc ba bn bc xa xn xc F fln c3 w0.heap.size br b1 b2 b3 fl dp (rn K kf fs F ins I.ob g 0 k l a dp st) ev w)
def L5 (I:BE) (K kf:Nat) (m:Int) (ga:Option Addr) (gn gc:Nat) (sa:Option Addr) (sn sc:Nat) (ya:Option Addr) (yn yc:Nat) (oa:Option Addr) (on oc:Nat) (va:Option Addr) (vn vc:Nat) (fa:Option Addr) (fn fc:Nat) (ba:Option Addr) (bn bc:Nat) (xa:Option Addr) (xn xc:Nat) (F fln c3:Nat) (br b1 b2 b3:Nat) (fl:List Int) (fs:List FnD) (ins:List (List Int)) (w0:World) (g:Nat):Prop:=∀ (k:Nat) (cs:List Value) (d:D) (c a:Int) (dp:Nat) (st:RSt) (ev:Ow) (w:World),RS w0 K k cs d->c<=fs.length->okS K vn yn on c fs k d->0<=a->a+(Bi k d:Nat)<=100->dp+g<=9000->Ov w0 w->RnG I w0.heap.size [zd U m,O ga gn gc,O sa sn sc,O ya yn yc,O oa on oc,O va vn vc,O fa fn fc,O ba bn bc,O xa xn xc,zd U (F:Int),O (some ⟨b3,0,none⟩) fln c3] br b1 b2 b3 fl dp st ev w->Eh vn yn F st->((Ae d=7\/Ae d=8)->I.ok (dp+1) st.o)->3*(F - st.steps)+3<=g ->
 Calls Tryz.prog 184 #[zi (some ⟨br,0,none⟩),.agg cs.toArray,zd U a] w (Eg I m ga gn gc sa sn sc ya yn yc oa on oc va vn vc fa fn fc ba bn bc xa xn xc F fln c3 w0.heap.size br b1 b2 b3 fl dp (rn K kf fs F ins I.ob g 1 k [d] a dp st) ev w)
theorem AD.at {w:World} {K k:Nat} {ao:Option Addr} {cap n:Nat} {l:List D} (h:AD w K k (O ao n cap) l) {j:Nat} (hj:j < l.length) :
  ∃ b off cs,ao=some ⟨b,off,none⟩/\(∀ (i:Nat) (u:Value),cs[i]? = some u->w.cell? ⟨b,off+j*9+i,none⟩=some u)/\RS w K k cs l[j]:=by
 obtain ⟨-,ao',cap',he,hc⟩:=h
 injection he with e1 e2 e3
 obtain ⟨b,off,hb,hel⟩:=hc (by intro hz;rw [hz] at hj;simp at hj)
 obtain ⟨cs,-,hcs,hr⟩:=hel j l[j] (List.getElem?_eq_getElem hj)
 exact ⟨b,off,cs,e1.trans hb,hcs,hr⟩
theorem Jc {k:Nat} {l:List D} {j:Nat} (hj:j < l.length):Aj k (l.drop j)=Bi k l[j] + Aj k (l.drop (j+1)):=by
 unfold Aj
 rw [List.drop_eq_getElem_cons hj,List.map_cons,List.sum_cons]
theorem L7 (I:BE) (K kf:Nat) (m:Int) (ga gn gc sa sn sc ya yn yc oa on oc va vn vc fa fn fc ba bn bc xa xn xc) (F fln c3:Nat) (br b1 b2 b3:Nat) (fl fs ins) (w0:World) (g:Nat) (X:Kn I K kf m ga gn gc sa sn sc ya yn yc oa on oc va vn vc fa fn fc ba bn bc xa xn xc F fln c3 br b1 b2 b3 fl fs ins w0) (HM:Hx (∀ g',g' < g->L5 I K kf m ga gn gc sa sn sc ya yn yc oa on oc va vn vc fa fn fc ba bn bc xa xn xc F fln c3 br b1 b2 b3 fl fs ins w0 g')):Hp I K kf m ga gn gc sa sn sc ya yn yc oa on oc va vn vc fa fn fc ba bn bc xa xn xc F fln c3 br b1 b2 b3 fl fs ins w0 g:=by
 intro k v l c a dp st ev w hl hc hok ha hac hdp hB0 h hno hg
 have hlen:l.length<=9223372036854775807:=hl.1
 obtain ⟨ao,cap,rfl,-⟩:=hl.2
 have HL:=Aa hl
 have HOK:=Aa hok
 have H0:=Aa h
 have HB0:=Aa hB0
 have HC:=Aa hc
 have hF:=X.fuel
 obtain ⟨T,hT⟩:=nm (rn K kf fs F ins I.ob g 0 k l a dp st)
 rw [<-hT]
 have HST:Hx (∃ (j g':Nat) (st':RSt) (ev':Ow),j<=l.length/\0<=a/\a+(Aj k (l.drop j):Nat)<=100/\RnG I w0.heap.size [zd U m,O ga gn gc,O sa sn sc,O ya yn yc,O oa on oc,O va vn vc,O fa fn fc,O ba bn bc,O xa xn xc,zd U (F:Int),O (some ⟨b3,0,none⟩) fln c3] br b1 b2 b3 fl dp st' ev' w/\Fr br b1 b2 ev ev' w w/\A9 vn yn F st'/\3*(F - st'.steps)+1<=g'/\g'<=g/\rn K kf fs F ins I.ob g' 0 k (l.drop j) a dp st'=T/\j=0):=⟨0,g,st,ev,Nat.zero_le _,ha,by simpa using hac,h,Fr.refl _ _ _ _ _,hno,hg,Nat.le_refl _,by rw [List.drop_zero];exact hT.symm,rfl⟩
 clear hl hok hB0 hno hg hT hac ha hc h
 go_enter Tryz.func119,Tryz.ntmps119
 go_wp2_with fail
 go_loopw [2,6,11] (fun z s i wr=>∃ (j g':Nat) (st':RSt) (ev':Ow) (a':Int),z=zd U a'/\s=ze false/\i=zd U j/\j<=l.length/\0<=a'/\a' + (Aj k (l.drop j):Nat)<=100/\RnG I w0.heap.size [zd U m,O ga gn gc,O sa sn sc,O ya yn yc,O oa on oc,O va vn vc,O fa fn fc,O ba bn bc,O xa xn xc,zd U (F:Int),O (some ⟨b3,0,none⟩) fln c3] br b1 b2 b3 fl dp st' ev' wr/\Fr br b1 b2 ev ev' w wr/\A9 vn yn F st'/\3*(F - st'.steps)+1<=g'/\g'<=g/\rn K kf fs F ins I.ob g' 0 k (l.drop j) a' dp st'=T) (fun _ _ i _=>l.length - (intOf i).toNat)
 case atStart=>
  obtain ⟨j,g',st',ev',i1,i2,i3,i4,i5,i6,i7,i8,i9,rfl⟩:=HST.o
  exact ⟨0,g',st',ev',a,rfl,rfl,rfl,i1,i2,i3,i4,i5,i6,i7,i8,i9⟩
 case round=>
  clear HST
  obtain ⟨j,g',st',ev',a',rfl,rfl,rfl,hj,ha,hac,hr,hf,hno,hg',hgg,hrn⟩:=hrel
  have hB0r:Ov w0 wr:=HB0.o.trans (H0.o.below hf)
  obtain ⟨g2,rfl⟩:∃ g2,g'=g2+1:=⟨g' - 1,by omega⟩
  have HR:=Aa hr
  have HFR:=Aa hf
  have HNO:=Aa hno
  by_cases hjl:j < l.length
  ·obtain ⟨b,off,cs,hao,hcs,hrs⟩:=HL.o.at hjl
   subst hao
   have hdr:=Jc (k:=k) hjl
   have hun:rn K kf fs F ins I.ob (g2+1) 0 k (l.drop j) a' dp st'=if st'.steps=F then (false,st'.out) else AU (Bo I.ob 1 a' dp l[j] st'.step) (fun st1=>AU (rn K kf fs F ins I.ob g2 1 k [l[j]] a' dp st1) (fun st''=>rn K kf fs F ins I.ob g2 0 k (l.drop (j+1)) (a' + Bi k l[j]) dp st'')):=by
    rw [List.drop_eq_getElem_cons hjl]
    simp only [rn]
   rw [hun] at hrn
   have hokj:=HOK.o l[j] (List.getElem_mem hjl)
   obtain ⟨k',rfl⟩:∃ k',k=k' + 1:=by
    cases k with
    | zero=>exact hrs.elim
    | succ k=>exact ⟨k,rfl⟩
   obtain ⟨d,hd⟩:=nm (l[j])
   rw [<-hd] at hrs hdr hrn hokj
   have hrs0:=hrs
   obtain ⟨ek,ex,pa,pl,pc,aa,ac,ta,tc,ea,ec,hcse,-,-,-,-,-,-,-,-,-,-⟩:=hrs0.form
   obtain ⟨kd,hkd⟩:=nm (Ae d)
   obtain ⟨sv,hsv⟩:=nm (Av d)
   obtain ⟨so,hso⟩:=nm (Ac d)
   obtain ⟨al,hal⟩:=nm ((Ah d).length)
   obtain ⟨tl,htl⟩:=nm ((Af d).length)
   obtain ⟨el,hel⟩:=nm ((Al d).length)
   rw [<-hkd,<-hsv,<-hso,<-hal,<-htl,<-hel] at hcse
   subst hcse
   clear hkd hsv hso hal htl hel hd hun
   have q0:wr.cell? ⟨b,off+j*9,none⟩=_:=Ab hB0r _ _ (hcs 0 _ rfl)
   have q1:=Ab hB0r _ _ (hcs 1 _ rfl)
   have q2:=Ab hB0r _ _ (hcs 2 _ rfl)
   have q3:=Ab hB0r _ _ (hcs 3 _ rfl)
   have q4:=Ab hB0r _ _ (hcs 4 _ rfl)
   have q5:=Ab hB0r _ _ (hcs 5 _ rfl)
   have q6:=Ab hB0r _ _ (hcs 6 _ rfl)
   have q7:=Ab hB0r _ _ (hcs 7 _ rfl)
   have q8:=Ab hB0r _ _ (hcs 8 _ rfl)
   have hba:Ov wr (wr.alloc (zf #[zd U kd,zd U sv,zd U so,zd U ek,zd U ex,O pa pl pc,O aa al ac,O ta tl tc,O ea el ec] 130)):=bA wr _
   have hrb:=hr.over hba
   have hB0b:=hB0r.trans (hba.mono hB0r.size)
   by_cases hsF:st'.steps=F
   ·rw [if_pos hsF] at hrn
    have KN:=Aa (Hy m ga gn gc sa sn sc ya yn yc oa on oc va vn vc fa fn fc ba bn bc xa xn xc F fln c3 w0.heap.size br b1 b2 b3 fl dp st' ev' (wr.alloc (zf #[zd U kd,zd U sv,zd U so,zd U ek,zd U ex,O pa pl pc,O aa al ac,O ta tl tc,O ea el ec] 130)) hrb hsF)
    have HRN:=Aa hrn
    clear hrn hsF hr hf hno hg' hrb hB0b hB0r hcs hrs hokj hdr HM
    go_wp2_with fail
    refine (KN.o).mono ?_
    rintro e w3 ⟨rfl,hr3,hf3⟩
    have HF3:=Aa (And.intro hr3 ((HFR.o.over hba).trans hf3))
    clear hr3 hf3
    go_wp2_with fail
    go_ret
    rw [<-HRN.o]
    exact ⟨rfl,⟨ev',HF3.o⟩,HNO.o.o⟩
   ·rw [if_neg hsF] at hrn
    have hsL:st'.steps < F:=by have:st'.steps<=F:=hno.sb;omega
    have KN:=Aa (F8 m ga gn gc sa sn sc ya yn yc oa on oc va vn vc fa fn fc ba bn bc xa xn xc F fln c3 w0.heap.size br b1 b2 b3 fl dp st' ev' (wr.alloc (zf #[zd U kd,zd U sv,zd U so,zd U ek,zd U ex,O pa pl pc,O aa al ac,O ta tl tc,O ea el ec] 130)) hrb hsL hF)
    obtain ⟨qb,s1,hpp⟩:∃ qb qs,Bo I.ob 1 a' dp d st'.step=(qb,qs):=⟨_,_,rfl⟩
    have hps:s1.steps=st'.steps+1:=by
     have:=C2 I.ob 1 a' dp d st'.step
     rw [hpp] at this
     exact this
    have hns:Eh vn yn F s1:=by
     have:=(hno.stepS hsL).pass I.ob 1 a' dp d
     rw [hpp] at this
     exact this
    have KP:=Aa fun W (hW:RnG I w0.heap.size [zd U m,O ga gn gc,O sa sn sc,O ya yn yc,O oa on oc,O va vn vc,O fa fn fc,O ba bn bc,O xa xn xc,zd U (F:Int),O (some ⟨b3,0,none⟩) fln c3] br b1 b2 b3 fl dp st'.step ev' W) (hBW:Ov w0 W)=>DH m ga gn gc sa sn sc ya yn yc oa on oc va vn vc fa fn fc ba bn bc xa xn xc F fln c3 w0.heap.size br b1 b2 b3 fl dp st'.step ev' K (k' + 1) fs w0 1 a' kd sv so ek ex pa pl pc aa al ac ta tl tc ea el ec d c W X.may hBW hW hrs HC.o hokj ha (by omega) (by omega) (Or.inl rfl)
    have KM:=Aa fun W ev1 (hW:RnG I w0.heap.size [zd U m,O ga gn gc,O sa sn sc,O ya yn yc,O oa on oc,O va vn vc,O fa fn fc,O ba bn bc,O xa xn xc,zd U (F:Int),O (some ⟨b3,0,none⟩) fln c3] br b1 b2 b3 fl dp s1 ev1 W) (hBW:Ov w0 W) hk7=>HM.o g2 (by omega) (k' + 1) _ d c a' dp s1 ev1 W hrs HC.o hokj ha (by omega) (by omega) hBW hW hns hk7 (by rw [hps];omega)
    have KZ:=Aa fun W (hBW:Ov w0 W)=>Ju K (k' + 1) _ d W (RS.mono (Ab hBW) _ _ _ _ (Nat.le_refl _) hrs) (by omega)
    have hgr:=(B5 K kf fs F ins I.ob g2 1 (k' + 1) [d] a' dp s1).steps
    rw [hpp] at KP hrn
    obtain ⟨N,hN⟩:∃ N:Nat,N=Bi (k' + 1) d:=⟨_,rfl⟩
    rw [<-hN] at KZ hdr hrn
    have hrn2:qb=true->AU (rn K kf fs F ins I.ob g2 1 (k' + 1) [d] a' dp s1) (fun st''=>rn K kf fs F ins I.ob g2 0 (k' + 1) (l.drop (j+1)) (a' + N) dp st'')=T:=fun hq=>by rw [hq] at hrn;exact hrn
    have hrn1:qb=false->(false,s1)=T:=fun hq=>by rw [hq] at hrn;exact hrn
    obtain ⟨R1,hR1⟩:=nm (rn K kf fs F ins I.ob g2 1 (k' + 1) [d] a' dp s1)
    rw [<-hR1] at KM hgr hrn2
    have HRN1:=Aa hrn1
    have HRN2:=Aa hrn2
    have HPS:=Aa hps
    have HNS:=Aa hns
    have HGR:=Aa hgr
    have HB0B:=Aa hB0b
    have HG':=Aa hg'
    have HRB:=Aa hrb
    have hN100:N<=100:=by omega
    have HDR:=Aa hdr
    have HAC:=Aa hac
    have HGG:=Aa hgg
    obtain ⟨e0,e1,e2,e3,e4,e5,e6,e7,e8⟩:=rc9 (Ay wr [zd U kd,zd U sv,zd U so,zd U ek,zd U ex,O pa pl pc,O aa al ac,O ta tl tc,O ea el ec] 130)
    clear hrn hrn1 hrn2 hps hns hpp hsF hr hf hno hg' hgg hrb hB0b hB0r hcs hrs hokj hdr HM hgr hR1 hN hac
    have HE0:=Aa e0
    have HE1:=Aa e1
    have HE2:=Aa e2
    have HE3:=Aa e3
    have HE4:=Aa e4
    have HE5:=Aa e5
    have HE6:=Aa e6
    have HE7:=Aa e7
    have HE8:=Aa e8
    obtain ⟨rb,rs⟩:=R1
    cases qb with
    | false=>
     go_wp2_with fail
     refine (KN.o).mono ?_
     rintro e w3 ⟨rfl,hr3,hf3⟩
     have hB3:Ov w0 w3:=HB0B.o.trans (HRB.o.below hf3)
     have KP':=Aa (KP.o w3 hr3 hB3)
     have i0:=HR.o.box hf3 (Nat.le_refl _) e0
     have i1:=HR.o.box hf3 (Nat.le_refl _) e1
     have i2:=HR.o.box hf3 (Nat.le_refl _) e2
     have i3:=HR.o.box hf3 (Nat.le_refl _) e3
     have i4:=HR.o.box hf3 (Nat.le_refl _) e4
     have i5:=HR.o.box hf3 (Nat.le_refl _) e5
     have i6:=HR.o.box hf3 (Nat.le_refl _) e6
     have i7:=HR.o.box hf3 (Nat.le_refl _) e7
     have i8:=HR.o.box hf3 (Nat.le_refl _) e8
     have HF3:=Aa hf3
     clear KN KM KP hr3 hf3 hB3 e0 e1 e2 e3 e4 e5 e6 e7 e8 q0 q1 q2 q3 q4 q5 q6 q7 q8
     go_wp2_with fail
     refine (KP'.o).mono ?_
     rintro e w4 ⟨he,ev4,hr4,hf4,-⟩
     dsimp only at he
     subst he
     have HF4:=Aa (And.intro hr4 (((HFR.o.over hba).trans HF3.o).trans hf4))
     clear hr4 hf4
     go_wp2_with fail
     go_ret
     rw [<-HRN1.o (by first | rfl | trivial)]
     exact ⟨rfl,⟨ev4,HF4.o⟩,HNS.o.ok⟩
    | true=>
    go_wp2_with fail
    refine (KN.o).mono ?_
    rintro e w3 ⟨rfl,hr3,hf3⟩
    have hB3:Ov w0 w3:=HB0B.o.trans (HRB.o.below hf3)
    have KP':=Aa (KP.o w3 hr3 hB3)
    have x0:=HR.o.box hf3 (Nat.le_refl _) e0
    have x1:=HR.o.box hf3 (Nat.le_refl _) e1
    have x2:=HR.o.box hf3 (Nat.le_refl _) e2
    have x3:=HR.o.box hf3 (Nat.le_refl _) e3
    have x4:=HR.o.box hf3 (Nat.le_refl _) e4
    have x5:=HR.o.box hf3 (Nat.le_refl _) e5
    have x6:=HR.o.box hf3 (Nat.le_refl _) e6
    have x7:=HR.o.box hf3 (Nat.le_refl _) e7
    have x8:=HR.o.box hf3 (Nat.le_refl _) e8
    have HR2:=Aa hr3
    have HF2:=Aa hf3
    have HB2:=Aa hB3
    clear KN KP hr3 hf3 hB3 e0 e1 e2 e3 e4 e5 e6 e7 e8 q0 q1 q2 q3 q4 q5 q6 q7 q8
    go_wp2_with fail
    refine (KP'.o).mono ?_
    rintro e w2 ⟨he,ev2,hr2,hf2,hk2⟩
    dsimp only at he hr2 hk2
    subst he
    have hB2:Ov w0 w2:=HB2.o.trans (HR2.o.below hf2)
    have KM':=Aa (KM.o w2 ev2 hr2 hB2 (fun hk=>hk2 rfl (Or.inl ⟨rfl,hk⟩)))
    have i0:=HR.o.box hf2 (Nat.le_refl _) x0
    have i1:=HR.o.box hf2 (Nat.le_refl _) x1
    have i2:=HR.o.box hf2 (Nat.le_refl _) x2
    have i3:=HR.o.box hf2 (Nat.le_refl _) x3
    have i4:=HR.o.box hf2 (Nat.le_refl _) x4
    have i5:=HR.o.box hf2 (Nat.le_refl _) x5
    have i6:=HR.o.box hf2 (Nat.le_refl _) x6
    have i7:=HR.o.box hf2 (Nat.le_refl _) x7
    have i8:=HR.o.box hf2 (Nat.le_refl _) x8
    have HR3:=Aa hr2
    have HF3:=Aa (HF2.o.trans hf2)
    have HB3:=Aa hB2
    clear KP' KM hr2 hf2 hB2 hk2 HF2 HR2 HB2 x0 x1 x2 x3 x4 x5 x6 x7 x8
    cases rb with
    | false=>
     go_wp2_with fail
     refine (KM'.o).mono ?_
     rintro e w4 ⟨he,⟨ev4,hr4,hf4⟩,hno4⟩
     dsimp only at he
     subst he
     have HF4:=Aa (And.intro hr4 (((HFR.o.over hba).trans HF3.o).trans hf4))
     have HN4:=Aa hno4
     clear hr4 hf4 hno4
     go_wp2_with fail
     go_ret
     rw [<-HRN2.o (by first | rfl | trivial)]
     exact ⟨rfl,⟨ev4,HF4.o⟩,HN4.o⟩
    | true=>
     go_wp2_with fail
     refine (KM'.o).mono ?_
     rintro e w4 ⟨he,⟨ev4,hr4,hf4⟩,hno4⟩
     dsimp only at he
     subst he
     have hr4':RnG I w0.heap.size [zd U m,O ga gn gc,O sa sn sc,O ya yn yc,O oa on oc,O va vn vc,O fa fn fc,O ba bn bc,O xa xn xc,zd U (F:Int),O (some ⟨b3,0,none⟩) fln c3] br b1 b2 b3 fl dp rs ev4 w4:=hr4
     have hno4':A9 vn yn F rs:=hno4
     have HF34:=Aa (HF3.o.trans hf4)
     have hB4:Ov w0 w4:=HB3.o.trans (HR3.o.below hf4)
     have KZ':=Aa (KZ.o w4 hB4)
     have j0:=HR.o.box (HF3.o.trans hf4) (Nat.le_refl _) HE0.o
     have j1:=HR.o.box (HF3.o.trans hf4) (Nat.le_refl _) HE1.o
     have j2:=HR.o.box (HF3.o.trans hf4) (Nat.le_refl _) HE2.o
     have j3:=HR.o.box (HF3.o.trans hf4) (Nat.le_refl _) HE3.o
     have j4:=HR.o.box (HF3.o.trans hf4) (Nat.le_refl _) HE4.o
     have j5:=HR.o.box (HF3.o.trans hf4) (Nat.le_refl _) HE5.o
     have j6:=HR.o.box (HF3.o.trans hf4) (Nat.le_refl _) HE6.o
     have j7:=HR.o.box (HF3.o.trans hf4) (Nat.le_refl _) HE7.o
     have j8:=HR.o.box (HF3.o.trans hf4) (Nat.le_refl _) HE8.o
     have HR4:=Aa hr4'
     have HN4:=Aa hno4'
     clear KM' KZ hr4 hr4' hf4 hno4 hno4' hB4 i0 i1 i2 i3 i4 i5 i6 i7 i8
     go_wp2_with fail
     refine (KZ'.o).mono ?_
     rintro e w5 ⟨rfl,hb5⟩
     have HB5:=Aa hb5
     clear hb5 KZ' j0 j1 j2 j3 j4 j5 j6 j7 j8
     go_wp2_with fail
     have hdr:=HDR.o
     have hac:=HAC.o
     have hgr:s1.steps<=rs.steps:=HGR.o
     have hst:s1.steps=st'.steps+1:=HPS.o
     have hg':=HG'.o
     have hwr:wrap64 (a' + (N:Int))=a' + N:=by unfold wrap64;omega
     refine ⟨⟨j+1,g2,rs,ev4,a' + N,by rw [hwr],rfl,by go_num,by omega,by omega,by omega,HR4.o.over HB5.o,((HFR.o.over hba).trans HF34.o).over HB5.o,HN4.o,by omega,by have:=HGG.o;omega,?_⟩,by simp [intOf];omega⟩
     rw [<-HRN2.o (by first | rfl | trivial)]
     rfl
  ·have hd:l.drop j=[]:=List.drop_eq_nil_of_le (by omega)
   have hun:rn K kf fs F ins I.ob (g2+1) 0 k (l.drop j) a' dp st'=(true,st'):=by rw [hd];simp only [rn]
   rw [hun] at hrn
   have HRN:=Aa hrn
   clear hun hrn hd hr hf hno hg' hgg hac hB0r
   go_wp2_with fail
   go_ret
   rw [<-HRN.o]
   exact ⟨rfl,⟨ev',HR.o,HFR.o⟩,HNO.o⟩
end Go.Proofs.YtfffpjkcfnekaaaGreat.Ex
