/- Commands of one step, done. -/
import Derived.Test.YtfffpjkcfnekaaaGreatH17
set_option linter.unusedVariables false
set_option maxHeartbeats 8000000
set_option maxRecDepth 100000
namespace Go.Proofs.YtfffpjkcfnekaaaGreat.Ex
open Go.RowKit
open Go.Value renaming slice -> O, int -> zd, bool -> ze, agg -> zg, pointer -> zi, tuple -> zj
open Go.IntKind renaming i64 -> U
open Go.Obj renaming cells -> zf
open Go.Ending renaming returned -> zh
theorem FP {w w':World} {a0 a1 a2 a3 a4:Addr} {v0 v1 v2 v3 v4:Value} (h:w.cell? a0=some v0/\w.cell? a1=some v1/\w.cell? a2=some v2/\w.cell? a3=some v3/\w.cell? a4=some v4) (hb:Ov w w') :
  w'.cell? a0=some v0/\w'.cell? a1=some v1/\w'.cell? a2=some v2/\w'.cell? a3=some v3/\w'.cell? a4=some v4:=⟨Ab hb _ _ h.1,Ab hb _ _ h.2.1,Ab hb _ _ h.2.2.1,Ab hb _ _ h.2.2.2.1,Ab hb _ _ h.2.2.2.2⟩
abbrev LY (b j0:Nat) (v0:Value) (c j1:Nat) (v1:Value) (j2:Nat) (v2:Value) (j3:Nat) (v3:Value) (j4:Nat) (v4:Value) (Wz:World):Prop:=Wz.cell? ⟨b,j0,none⟩=some v0/\CE Wz c j1 v1/\CE Wz c j2 v2/\CE Wz c j3 v3/\CE Wz c j4 v4
theorem Hb {w w':World} {r b c j0 j1 j2 j3 j4:Nat} {v0 v1 v2 v3 v4:Value} (h:LY b j0 v0 c j1 v1 j2 v2 j3 v3 j4 v4 w) (hg:w.grownBy w' (some r)) (hb:b≠r) (hc:c≠r) :
  LY b j0 v0 c j1 v1 j2 v2 j3 v3 j4 v4 w':=⟨Bb hg h.1 hb,Bb hg h.2.1 hc,Bb hg h.2.2.1 hc,Bb hg h.2.2.2.1 hc,Bb hg h.2.2.2.2 hc⟩
abbrev Jk (br b1 vl:Nat) (w:World) (n:Nat) (ek ex:Int) (pa:Option Addr) (pl pc:Nat) (Wz:World):Prop:=Wz.cell? ⟨br,1,none⟩=some (O (some ⟨b1,0,none⟩) vl vl)/\CE Wz w.heap.size 1 (zd U (n:Int))/\CE Wz w.heap.size 3 (zd U ek)/\CE Wz w.heap.size 4 (zd U ex)/\CE Wz w.heap.size 5 (O pa pl pc)
theorem Mf (m:Int) (ga gn gc sa sn sc ya yn yc oa on oc va vn vc fa fn fc ba bn bc xa xn xc) (F fln c3:Nat) (B br b1 b2 b3:Nat) (fl) {I:BE} (dp:Nat) (st:RSt) (ev:Ow) (K:Nat) (d) (n:Nat) (so ek ex:Int) (pa pl pc) (aa al ac ta tl tc ea el ec) (a:Int) (w:World) (h:RnG I B [zd U m,O ga gn gc,O sa sn sc,O ya yn yc,O oa on oc,O va vn vc,O fa fn fc,O ba bn bc,O xa xn xc,zd U (F:Int),O (some ⟨b3,0,none⟩) fln c3] br b1 b2 b3 fl dp st ev w) (hx:RX w K [zd U ek,zd U ex,O pa pl pc] d) (ho:okX st.vars.length K d) (hi:∀ x∈st.vars,I32 x) (hn:n < st.vars.length) (hm:st.vars.length<=16) :
  Calls Tryz.prog 184 #[zi (some ⟨br,0,none⟩),zg #[zd U 1,zd U (n:Int),zd U so,zd U ek,zd U ex,O pa pl pc,O aa al ac,O ta tl tc,O ea el ec],zd U a] w fun e w'=>e=zh (ze true)/\RnG I B [zd U m,O ga gn gc,O sa sn sc,O ya yn yc,O oa on oc,O va vn vc,O fa fn fc,O ba bn bc,O xa xn xc,zd U (F:Int),O (some ⟨b3,0,none⟩) fln c3] br b1 b2 b3 fl dp (st.setv (n:Int) (Aw st.vars K d)) ev w'/\Fr br b1 b2 ev ev w w':=by
 have hbel:Ov w (w.alloc (zf #[zd U 1,zd U (n:Int),zd U so,zd U ek,zd U ex,O pa pl pc,O aa al ac,O ta tl tc,O ea el ec] 130)):=bA w _
 have h':=(h.over hbel).drewN 1
 have KV:=Aa (BF m ga gn gc sa sn sc ya yn yc oa on oc va vn vc fa fn fc ba bn bc xa xn xc F fln c3 B br b1 b2 b3 fl dp st ev K _ d (w.alloc (zf #[zd U 1,zd U (n:Int),zd U so,zd U ek,zd U ex,O pa pl pc,O aa al ac,O ta tl tc,O ea el ec] 130)).drew h' (hx.over hbel.drew) ho hi)
 have HR:Hx (∀ W,Below (w.alloc (zf #[zd U 1,zd U (n:Int),zd U so,zd U ek,zd U ex,O pa pl pc,O aa al ac,O ta tl tc,O ea el ec] 130)).drew.heap.size (w.alloc (zf #[zd U 1,zd U (n:Int),zd U so,zd U ek,zd U ex,O pa pl pc,O aa al ac,O ta tl tc,O ea el ec] 130)).drew W->RnG I B [zd U m,O ga gn gc,O sa sn sc,O ya yn yc,O oa on oc,O va vn vc,O fa fn fc,O ba bn bc,O xa xn xc,zd U (F:Int),O (some ⟨b3,0,none⟩) fln c3] br b1 b2 b3 fl dp (st.setv (n:Int) (Aw st.vars K d)) ev (W.setCell ⟨b1,n,none⟩ (zd U (Aw st.vars K d)))/\Fr br b1 b2 ev ev w (W.setCell ⟨b1,n,none⟩ (zd U (Aw st.vars K d)))):=fun W hW=>by
  have r:=(h'.over hW).setVar (n:Int) (Aw st.vars K d) (by simpa using hn)
  exact ⟨by simpa using r,(Fr.of_below hbel.drew).trans ((Fr.of_below hW).trans (Dt (h'.over hW) _ _))⟩
 have c1:=h'.row 1 _ rfl
 have HO:=Aa h'
 have hnv:(n:Int) < (st.vars.length:Int):=by omega
 have nb:w.heap.size≠b1:=by have:=h.hi;omega
 have nr:br≠b1:=h.apart.1
 obtain ⟨s0,s1,s2,s3,s4,s5,s6,s7,s8⟩:=rc9 (Ay w [zd U 1,zd U (n:Int),zd U so,zd U ek,zd U ex,O pa pl pc,O aa al ac,O ta tl tc,O ea el ec] 130)
 obtain ⟨vl,hvl⟩:=nm st.vars.length
 obtain ⟨vx,hvx⟩:=nm (Aw st.vars K d)
 have hvw:∀ W,Below (w.alloc (zf #[zd U 1,zd U (n:Int),zd U so,zd U ek,zd U ex,O pa pl pc,O aa al ac,O ta tl tc,O ea el ec] 130)).drew.heap.size (w.alloc (zf #[zd U 1,zd U (n:Int),zd U so,zd U ek,zd U ex,O pa pl pc,O aa al ac,O ta tl tc,O ea el ec] 130)).drew W->CE W b1 n (zd U st.vars[n])/\W.frozen? ⟨b1,n,none⟩=false/\b1 < W.heap.size:=fun W hW=>⟨(h'.over hW).vars n _ (by simp [hn]),(h'.over hW).z1 n,(h'.over hW).hi.2.1⟩
 obtain ⟨y,hy⟩:=nm (st.vars[n])
 rw [<-hy] at hvw
 have HVW:=Aa hvw
 rw [<-hvl] at c1 hnv
 rw [<-hvx] at KV HR ⊢
 clear h h' hx ho hi hvl hvx hvw hy hn hm
 go_enter Tryz.func184,Tryz.ntmps184
 go_wp2_with fail
 go_region_held3 (Jk br b1 vl w n ek ex pa pl pc) (first | assumption | exact ⟨c1,s1,s3,s4,s5⟩ | exact FP (by assumption) hbp | exact Hb (by assumption) (Cr (n:=0)) nr nb | fail) (first | (go_at_call 222;refine (KV.o).mono ?_;rintro e wp ⟨rfl,hbp⟩;obtain ⟨u0,uz,ul⟩:=HVW.o _ hbp))
 have HE:=Aa (HR.o _ hbp)
 go_wp2_with fail
 go_ret
 exact ⟨rfl,HE.o⟩
theorem Md (m:Int) (ga gn gc sa sn sc ya yn yc oa on oc va vn vc fa fn fc ba bn bc xa xn xc) (F fln c3:Nat) (B br b1 b2 b3:Nat) (fl) {I:BE} (dp:Nat) (st:RSt) (ev:Ow) (n:Nat) (so ek ex:Int) (pa pl pc aa al ac ta tl tc ea el ec) (a:Int) (ins) (w0 w:World) (h:RnG I B [zd U m,O ga gn gc,O sa sn sc,O ya yn yc,O oa on oc,O va vn vc,O fa fn fc,O ba bn bc,O xa xn xc,zd U (F:Int),O (some ⟨b3,0,none⟩) fln c3] br b1 b2 b3 fl dp st ev w) (hB0:Ov w0 w) (hBB:w0.heap.size<=b2) (hl:Bm w0 (O xa xn xc) ins) (h0:0<=so) (h1:so < ins.length) (h2:ins.length=st.taken.length) (h3:∀ x∈st.taken,0<=x/\x<=2000) (h4:∀ x∈ins,x.length<=100) (hn:n < st.vars.length) (hm:st.vars.length<=16) :
  Calls Tryz.prog 184 #[zi (some ⟨br,0,none⟩),zg #[zd U 3,zd U (n:Int),zd U so,zd U ek,zd U ex,O pa pl pc,O aa al ac,O ta tl tc,O ea el ec],zd U a] w fun e w'=>e=zh (ze true)/\RnG I B [zd U m,O ga gn gc,O sa sn sc,O ya yn yc,O oa on oc,O va vn vc,O fa fn fc,O ba bn bc,O xa xn xc,zd U (F:Int),O (some ⟨b3,0,none⟩) fln c3] br b1 b2 b3 fl dp ((st.took so).setv (n:Int) (Cz ins st so)) ev w'/\Fr br b1 b2 ev ev w w':=by
 have hbel:Ov w (w.alloc (zf #[zd U 3,zd U (n:Int),zd U so,zd U ek,zd U ex,O pa pl pc,O aa al ac,O ta tl tc,O ea el ec] 130)):=bA w _
 have h':=(h.over hbel).drewN 1
 have KV:=Aa (IU m ga gn gc sa sn sc ya yn yc oa on oc va vn vc fa fn fc ba bn bc xa xn xc F fln c3 B br b1 b2 b3 fl dp st ev ins so w0 (w.alloc (zf #[zd U 3,zd U (n:Int),zd U so,zd U ek,zd U ex,O pa pl pc,O aa al ac,O ta tl tc,O ea el ec] 130)).drew (hB0.trans (hbel.drew.mono hB0.size)) h' hBB hl h0 h1 h2 h3 h4)
 have hvl2:(st.took so).vars=st.vars:=rfl
 have HR:Hx (∀ W,RnG I B [zd U m,O ga gn gc,O sa sn sc,O ya yn yc,O oa on oc,O va vn vc,O fa fn fc,O ba bn bc,O xa xn xc,zd U (F:Int),O (some ⟨b3,0,none⟩) fln c3] br b1 b2 b3 fl dp (st.took so) ev W->Fr br b1 b2 ev ev (w.alloc (zf #[zd U 3,zd U (n:Int),zd U so,zd U ek,zd U ex,O pa pl pc,O aa al ac,O ta tl tc,O ea el ec] 130)).drew W->RnG I B [zd U m,O ga gn gc,O sa sn sc,O ya yn yc,O oa on oc,O va vn vc,O fa fn fc,O ba bn bc,O xa xn xc,zd U (F:Int),O (some ⟨b3,0,none⟩) fln c3] br b1 b2 b3 fl dp ((st.took so).setv (n:Int) (Cz ins st so)) ev (W.setCell ⟨b1,n,none⟩ (zd U (Cz ins st so)))/\Fr br b1 b2 ev ev w (W.setCell ⟨b1,n,none⟩ (zd U (Cz ins st so)))):=fun W hW hF=>by
  have r:=hW.setVar (n:Int) (Cz ins st so) (by rw [hvl2];simpa using hn)
  exact ⟨by simpa using r,(Fr.of_below hbel.drew).trans (hF.trans (Dt hW _ _))⟩
 have c1:=h'.row 1 _ rfl
 have hnv:(n:Int) < (st.vars.length:Int):=by omega
 have nb:w.heap.size≠b1:=by have:=h.hi;omega
 have nb2:w.heap.size≠b2:=by have:=h.hi;omega
 have nr:br≠b1:=h.apart.1
 have nr2:br≠b2:=h.apart.2.1
 obtain ⟨s0,s1,s2,s3,s4,s5,s6,s7,s8⟩:=rc9 (Ay w [zd U 3,zd U (n:Int),zd U so,zd U ek,zd U ex,O pa pl pc,O aa al ac,O ta tl tc,O ea el ec] 130)
 obtain ⟨vl,hvl⟩:=nm st.vars.length
 obtain ⟨vx,hvx⟩:=nm (Cz ins st so)
 have hvw:∀ W,RnG I B [zd U m,O ga gn gc,O sa sn sc,O ya yn yc,O oa on oc,O va vn vc,O fa fn fc,O ba bn bc,O xa xn xc,zd U (F:Int),O (some ⟨b3,0,none⟩) fln c3] br b1 b2 b3 fl dp (st.took so) ev W->CE W b1 n (zd U st.vars[n])/\W.frozen? ⟨b1,n,none⟩=false/\b1 < W.heap.size:=fun W hW=>⟨hW.vars n _ (by simp [hvl2,hn]),hW.z1 n,hW.hi.2.1⟩
 obtain ⟨y,hy⟩:=nm (st.vars[n])
 rw [<-hy] at hvw
 have HVW:=Aa hvw
 rw [<-hvl] at c1 hnv
 rw [<-hvx] at KV HR ⊢
 clear h h' hl h0 h1 h2 h3 h4 hvl hvx hvw hy hn hm hB0 hBB hvl2
 go_enter Tryz.func184,Tryz.ntmps184
 go_wp2_with fail
 go_region_held3 (fun W=>W.cell? ⟨br,1,none⟩=some (O (some ⟨b1,0,none⟩) vl vl)/\W.cell? ⟨w.heap.size,1,none⟩=some (zd U (n:Int))/\W.cell? ⟨w.heap.size,2,none⟩=some (zd U so)) (first | assumption | exact ⟨c1,s1,s2⟩ | exact JV (by assumption) hgp nr2 nb2 | exact JV (by assumption) (Cr (n:=0)) nr nb | fail) (first | (go_at_call 224;refine (KV.o).mono ?_;rintro e wp ⟨rfl,hrn,hfr,hgp⟩;obtain ⟨u0,uz,ul⟩:=HVW.o _ hrn))
 have HE:=Aa (HR.o _ hrn hfr)
 go_wp2_with fail
 go_ret
 exact ⟨rfl,HE.o⟩
abbrev LX (b j0:Nat) (v0:Value) (j1:Nat) (v1:Value) (j2:Nat) (v2:Value) (j3:Nat) (v3:Value) (Wz:World):Prop:=Wz.cell? ⟨b,j0,none⟩=some v0/\CE Wz b j1 v1/\CE Wz b j2 v2/\CE Wz b j3 v3
theorem Mv {B:Nat} {R:List Value} {br b1 b2 b3:Nat} {fl:List Int} {I:BE} {dp:Nat} {st:RSt} {ev ev':Ow} {w0 w w':World} {b j0 j1 j2 j3:Nat} {v0 v1 v2 v3:Value} (hR:RnG I B R br b1 b2 b3 fl dp st ev w0) (hb:w0.heap.size<=b) (f:Fr br b1 b2 ev ev' w w')
  (h:LX b j0 v0 j1 v1 j2 v2 j3 v3 w):LX b j0 v0 j1 v1 j2 v2 j3 v3 w':=
 ⟨hR.box f hb h.1,hR.box f hb h.2.1,hR.box f hb h.2.2.1,hR.box f hb h.2.2.2⟩
theorem Mc (m:Int) (ga gn gc sa sn sc ya yn yc oa on oc va vn vc fa fn fc ba bn bc xa xn xc) (F fln c3:Nat) (B br b1 b2 b3:Nat) (fl) {I:BE} (dp:Nat) (st:RSt) (ev:Ow) (K:Nat) (d) (sv:Int) (so ek ex:Int) (pa pl pc) (aa al ac ta tl tc ea el ec) (a:Int) (w:World) (h:RnG I B [zd U m,O ga gn gc,O sa sn sc,O ya yn yc,O oa on oc,O va vn vc,O fa fn fc,O ba bn bc,O xa xn xc,zd U (F:Int),O (some ⟨b3,0,none⟩) fln c3] br b1 b2 b3 fl dp st ev w) (hx:RX w K [zd U ek,zd U ex,O pa pl pc] d) (ho:okX st.vars.length K d) (hi:∀ x∈st.vars,I32 x) (hl:st.ev.length<=2000) :
  Calls Tryz.prog 184 #[zi (some ⟨br,0,none⟩),zg #[zd U 4,zd U sv,zd U so,zd U ek,zd U ex,O pa pl pc,O aa al ac,O ta tl tc,O ea el ec],zd U a] w fun e w'=>e=zh (ze true)/\∃ ev',RnG I B [zd U m,O ga gn gc,O sa sn sc,O ya yn yc,O oa on oc,O va vn vc,O fa fn fc,O ba bn bc,O xa xn xc,zd U (F:Int),O (some ⟨b3,0,none⟩) fln c3] br b1 b2 b3 fl dp (st.tell (1,a,so,Aw st.vars K d)) ev' w'/\Fr br b1 b2 ev ev' w w':=by
 have hbel:Ov w (w.alloc (zf #[zd U 4,zd U sv,zd U so,zd U ek,zd U ex,O pa pl pc,O aa al ac,O ta tl tc,O ea el ec] 130)):=bA w _
 have h':=(h.over hbel).drewN 1
 have KV:=Aa (BF m ga gn gc sa sn sc ya yn yc oa on oc va vn vc fa fn fc ba bn bc xa xn xc F fln c3 B br b1 b2 b3 fl dp st ev K _ d (w.alloc (zf #[zd U 4,zd U sv,zd U so,zd U ek,zd U ex,O pa pl pc,O aa al ac,O ta tl tc,O ea el ec] 130)).drew h' (hx.over hbel.drew) ho hi)
 have KT:=Aa fun W (hW:RnG I B [zd U m,O ga gn gc,O sa sn sc,O ya yn yc,O oa on oc,O va vn vc,O fa fn fc,O ba bn bc,O xa xn xc,zd U (F:Int),O (some ⟨b3,0,none⟩) fln c3] br b1 b2 b3 fl dp st ev W)=>D7 m ga gn gc sa sn sc ya yn yc oa on oc va vn vc fa fn fc ba bn bc xa xn xc F fln c3 B br b1 b2 b3 fl dp st ev 1 a so (Aw st.vars K d) W hW hl
 have H0:=Aa h
 have HO:=Aa h'
 obtain ⟨s0,s1,s2,s3,s4,s5,s6,s7,s8⟩:=rc9 (Ay w [zd U 4,zd U sv,zd U so,zd U ek,zd U ex,O pa pl pc,O aa al ac,O ta tl tc,O ea el ec] 130)
 obtain ⟨vx,hvx⟩:=nm (Aw st.vars K d)
 rw [<-hvx] at KV KT ⊢
 clear h h' hx ho hi hvx hl
 go_enter Tryz.func184,Tryz.ntmps184
 go_wp2_with fail
 go_region_held3 (fun W=>W.cell? ⟨w.heap.size,2,none⟩=some (zd U so)/\W.cell? ⟨w.heap.size,3,none⟩=some (zd U ek)/\W.cell? ⟨w.heap.size,4,none⟩=some (zd U ex)/\W.cell? ⟨w.heap.size,5,none⟩=some (O pa pl pc)) (first | assumption | exact ⟨s2,s3,s4,s5⟩ | exact Mw (by assumption) hbp | exact Mv H0.o (Nat.le_refl _) hft (by assumption) | fail) (first | (go_at_call 222;refine (KV.o).mono ?_;rintro e wp ⟨rfl,hbp⟩) | (go_at_call 225;refine (KT.o _ (HO.o.over hbp)).mono ?_;rintro e wt ⟨rfl,ev',hrt,hft⟩))
 have HE:=Aa (And.intro hrt ((Fr.of_below (ev:=ev) (br:=br) (b1:=b1) (b2:=b2) hbel.drew).trans ((Fr.of_below hbp).trans hft)))
 go_wp2_with fail
 go_ret
 exact ⟨rfl,ev',HE.o⟩
abbrev Hu (b1 n:Nat) (vx:Int) (br vl:Nat) (w:World) (Wz:World):Prop:=Wz.cell? ⟨b1,n,none⟩=some (zd U vx)/\CE Wz br 1 (O (some ⟨b1,0,none⟩) vl vl)/\CE Wz w.heap.size 1 (zd U (n:Int))
theorem Mb (m:Int) (ga gn gc sa sn sc ya yn yc oa on oc va vn vc fa fn fc ba bn bc xa xn xc) (F fln c3:Nat) (B br b1 b2 b3:Nat) (fl) {I:BE} (dp:Nat) (st:RSt) (ev:Ow) (K:Nat) (d) (n:Nat) (so ek ex:Int) (pa pl pc) (aa al ac ta tl tc ea el ec) (a:Int) (w:World) (h:RnG I B [zd U m,O ga gn gc,O sa sn sc,O ya yn yc,O oa on oc,O va vn vc,O fa fn fc,O ba bn bc,O xa xn xc,zd U (F:Int),O (some ⟨b3,0,none⟩) fln c3] br b1 b2 b3 fl dp st ev w) (hx:RX w K [zd U ek,zd U ex,O pa pl pc] d) (ho:okX st.vars.length K d) (hi:∀ x∈st.vars,I32 x) (hn:n < st.vars.length) (hm:st.vars.length<=16) (hl:st.ev.length<=2000) :
  Calls Tryz.prog 184 #[zi (some ⟨br,0,none⟩),zg #[zd U 5,zd U (n:Int),zd U so,zd U ek,zd U ex,O pa pl pc,O aa al ac,O ta tl tc,O ea el ec],zd U a] w fun e w'=>e=zh (ze true)/\∃ ev',RnG I B [zd U m,O ga gn gc,O sa sn sc,O ya yn yc,O oa on oc,O va vn vc,O fa fn fc,O ba bn bc,O xa xn xc,zd U (F:Int),O (some ⟨b3,0,none⟩) fln c3] br b1 b2 b3 fl dp ((st.setv (n:Int) (Aw st.vars K d)).tell (2,a,(n:Int),Aw st.vars K d)) ev' w'/\Fr br b1 b2 ev ev' w w':=by
 have hbel:Ov w (w.alloc (zf #[zd U 5,zd U (n:Int),zd U so,zd U ek,zd U ex,O pa pl pc,O aa al ac,O ta tl tc,O ea el ec] 130)):=bA w _
 have h':=(h.over hbel).drewN 1
 have KV:=Aa (BF m ga gn gc sa sn sc ya yn yc oa on oc va vn vc fa fn fc ba bn bc xa xn xc F fln c3 B br b1 b2 b3 fl dp st ev K _ d (w.alloc (zf #[zd U 5,zd U (n:Int),zd U so,zd U ek,zd U ex,O pa pl pc,O aa al ac,O ta tl tc,O ea el ec] 130)).drew h' (hx.over hbel.drew) ho hi)
 have KT:=Aa fun W (hW:RnG I B [zd U m,O ga gn gc,O sa sn sc,O ya yn yc,O oa on oc,O va vn vc,O fa fn fc,O ba bn bc,O xa xn xc,zd U (F:Int),O (some ⟨b3,0,none⟩) fln c3] br b1 b2 b3 fl dp (st.setv (n:Int) (Aw st.vars K d)) ev W)=>D7 m ga gn gc sa sn sc ya yn yc oa on oc va vn vc fa fn fc ba bn bc xa xn xc F fln c3 B br b1 b2 b3 fl dp (st.setv (n:Int) (Aw st.vars K d)) ev 2 a (n:Int) (Aw st.vars K d) W hW hl
 have hvs:(st.setv (n:Int) (Aw st.vars K d)).vars.length=st.vars.length:=by simp [RSt.setv]
 have HR:Hx (∀ W,Below (w.alloc (zf #[zd U 5,zd U (n:Int),zd U so,zd U ek,zd U ex,O pa pl pc,O aa al ac,O ta tl tc,O ea el ec] 130)).drew.heap.size (w.alloc (zf #[zd U 5,zd U (n:Int),zd U so,zd U ek,zd U ex,O pa pl pc,O aa al ac,O ta tl tc,O ea el ec] 130)).drew W->RnG I B [zd U m,O ga gn gc,O sa sn sc,O ya yn yc,O oa on oc,O va vn vc,O fa fn fc,O ba bn bc,O xa xn xc,zd U (F:Int),O (some ⟨b3,0,none⟩) fln c3] br b1 b2 b3 fl dp (st.setv (n:Int) (Aw st.vars K d)) ev (W.setCell ⟨b1,n,none⟩ (zd U (Aw st.vars K d)))/\Fr br b1 b2 ev ev w (W.setCell ⟨b1,n,none⟩ (zd U (Aw st.vars K d)))/\CE (W.setCell ⟨b1,n,none⟩ (zd U (Aw st.vars K d))) b1 n (zd U (Aw st.vars K d))/\CE (W.setCell ⟨b1,n,none⟩ (zd U (Aw st.vars K d))) br 1 (O (some ⟨b1,0,none⟩) st.vars.length st.vars.length)):=fun W hW=>by
  have r:=(h'.over hW).setVar (n:Int) (Aw st.vars K d) (by simpa using hn)
  rw [Int.toNat_natCast] at r
  refine ⟨r,(Fr.of_below hbel.drew).trans ((Fr.of_below hW).trans (Dt (h'.over hW) _ _)),r.vars n _ (by simp [RSt.setv,hn]),?_⟩
  have r1:=r.row 1 _ rfl
  rw [hvs] at r1
  exact r1
 have H0:=Aa h
 have c1:=h'.row 1 _ rfl
 have hnv:(n:Int) < (st.vars.length:Int):=by omega
 have nb:w.heap.size≠b1:=by have:=h.hi;omega
 have nr:br≠b1:=h.apart.1
 obtain ⟨s0,s1,s2,s3,s4,s5,s6,s7,s8⟩:=rc9 (Ay w [zd U 5,zd U (n:Int),zd U so,zd U ek,zd U ex,O pa pl pc,O aa al ac,O ta tl tc,O ea el ec] 130)
 obtain ⟨vl,hvl⟩:=nm st.vars.length
 obtain ⟨vx,hvx⟩:=nm (Aw st.vars K d)
 have hvw:∀ W,Below (w.alloc (zf #[zd U 5,zd U (n:Int),zd U so,zd U ek,zd U ex,O pa pl pc,O aa al ac,O ta tl tc,O ea el ec] 130)).drew.heap.size (w.alloc (zf #[zd U 5,zd U (n:Int),zd U so,zd U ek,zd U ex,O pa pl pc,O aa al ac,O ta tl tc,O ea el ec] 130)).drew W->CE W b1 n (zd U st.vars[n])/\W.frozen? ⟨b1,n,none⟩=false/\b1 < W.heap.size:=fun W hW=>⟨(h'.over hW).vars n _ (by simp [hn]),(h'.over hW).z1 n,(h'.over hW).hi.2.1⟩
 obtain ⟨y,hy⟩:=nm (st.vars[n])
 rw [<-hy] at hvw
 have HVW:=Aa hvw
 have HKK:Hx (∀ W ev' w3,RnG I B [zd U m,O ga gn gc,O sa sn sc,O ya yn yc,O oa on oc,O va vn vc,O fa fn fc,O ba bn bc,O xa xn xc,zd U (F:Int),O (some ⟨b3,0,none⟩) fln c3] br b1 b2 b3 fl dp ((st.setv (n:Int) (Aw st.vars K d)).tell (2,a,(n:Int),Aw st.vars K d)) ev' W->Fr br b1 b2 ev ev' (World.drew w3) W->CE w3 w.heap.size 1 (zd U (n:Int))->(CE W b1 n (zd U (Aw st.vars K d))/\CE W br 1 (O (some ⟨b1,0,none⟩) st.vars.length st.vars.length)/\CE W w.heap.size 1 (zd U (n:Int)))):=fun W ev' w3 hr hf ht=>by
  refine ⟨hr.vars n _ (by simp [RSt.tell,RSt.setv,hn]),?_,H0.o.box hf (Nat.le_refl _) ht⟩
  have r1:=hr.row 1 _ rfl
  have e2:((st.setv (n:Int) (Aw st.vars K d)).tell (2,a,(n:Int),Aw st.vars K d)).vars.length=st.vars.length:=hvs
  rw [e2] at r1
  exact r1
 rw [<-hvl] at c1 hnv HR HKK
 rw [<-hvx] at KV HR KT HKK ⊢
 clear h h' hx ho hi hvl hvx hvw hy hn hm hl hvs
 go_enter Tryz.func184,Tryz.ntmps184
 go_wp2_with fail
 go_region_held3 (Jk br b1 vl w n ek ex pa pl pc) (first | assumption | exact ⟨c1,s1,s3,s4,s5⟩ | exact FP (by assumption) hbp | exact Hb (by assumption) (Cr (n:=0)) nr nb | fail) (first | (go_at_call 222;refine (KV.o).mono ?_;rintro e wp ⟨rfl,hbp⟩;obtain ⟨u0,uz,ul⟩:=HVW.o _ hbp))
 obtain ⟨h1,h2,h3,h4⟩:=HR.o _ hbp
 have hs5:=(by assumption:_/\_/\_/\_/\_)
 have t1:=hs5.2.1
 have H1:=Aa h1
 have H2:=Aa h2
 clear h1 h2 hs5 u0 uz
 obtain ⟨w3,hw3⟩:=nm (wp.setCell ⟨b1,n,none⟩ (zd U vx))
 simp only [<-hw3] at h3 h4 t1 H1 H2 ⊢
 clear hw3
 have KK:Hx (∀ W ev',RnG I B [zd U m,O ga gn gc,O sa sn sc,O ya yn yc,O oa on oc,O va vn vc,O fa fn fc,O ba bn bc,O xa xn xc,zd U (F:Int),O (some ⟨b3,0,none⟩) fln c3] br b1 b2 b3 fl dp ((st.setv (n:Int) vx).tell (2,a,(n:Int),vx)) ev' W->Fr br b1 b2 ev ev' w3.drew W->(Hu b1 n vx br vl w W)):=fun W ev' hr hf=>HKK.o W ev' w3 hr hf t1
 go_wp2_with fail
 go_region_held3 (Hu b1 n vx br vl w) (first | assumption | exact ⟨h3,h4,t1⟩ | exact KK.o _ _ hrt hft | fail) (first | (go_at_call 225;refine (KT.o _ (by first | exact H1.o | exact H1.o.drewN 1)).mono ?_;rintro e wt ⟨rfl,ev',hrt,hft⟩))
 go_wp2_with fail
 go_ret
 exact ⟨rfl,ev',hrt,H2.o.trans (Fr.drewN 1 hft)⟩
theorem Ma (m:Int) (ga gn gc sa sn sc ya yn yc oa on oc va vn vc fa fn fc ba bn bc xa xn xc) (F fln c3:Nat) (B br b1 b2 b3:Nat) (fl) {I:BE} (dp:Nat) (st:RSt) (ev:Ow) (K:Nat) (d) (n:Nat) (so ek ex:Int) (pa pl pc) (aa al ac ta tl tc ea el ec) (a:Int) (w:World) (h:RnG I B [zd U m,O ga gn gc,O sa sn sc,O ya yn yc,O oa on oc,O va vn vc,O fa fn fc,O ba bn bc,O xa xn xc,zd U (F:Int),O (some ⟨b3,0,none⟩) fln c3] br b1 b2 b3 fl dp st ev w) (hx:RX w K [zd U ek,zd U ex,O pa pl pc] d) (ho:okX st.vars.length K d) (hi:∀ x∈st.vars,I32 x) (hn:n < st.vars.length) (hm:st.vars.length<=16) (hl:st.ev.length<=2000) :
  Calls Tryz.prog 184 #[zi (some ⟨br,0,none⟩),zg #[zd U 6,zd U (n:Int),zd U so,zd U ek,zd U ex,O pa pl pc,O aa al ac,O ta tl tc,O ea el ec],zd U a] w fun e w'=>e=zh (ze true)/\∃ ev',RnG I B [zd U m,O ga gn gc,O sa sn sc,O ya yn yc,O oa on oc,O va vn vc,O fa fn fc,O ba bn bc,O xa xn xc,zd U (F:Int),O (some ⟨b3,0,none⟩) fln c3] br b1 b2 b3 fl dp ((st.setv (n:Int) (Aw st.vars K d)).tell (3,a,(n:Int),Aw st.vars K d)) ev' w'/\Fr br b1 b2 ev ev' w w':=by
 have hbel:Ov w (w.alloc (zf #[zd U 6,zd U (n:Int),zd U so,zd U ek,zd U ex,O pa pl pc,O aa al ac,O ta tl tc,O ea el ec] 130)):=bA w _
 have h':=(h.over hbel).drewN 1
 have KV:=Aa (BF m ga gn gc sa sn sc ya yn yc oa on oc va vn vc fa fn fc ba bn bc xa xn xc F fln c3 B br b1 b2 b3 fl dp st ev K _ d (w.alloc (zf #[zd U 6,zd U (n:Int),zd U so,zd U ek,zd U ex,O pa pl pc,O aa al ac,O ta tl tc,O ea el ec] 130)).drew h' (hx.over hbel.drew) ho hi)
 have KT:=Aa fun W (hW:RnG I B [zd U m,O ga gn gc,O sa sn sc,O ya yn yc,O oa on oc,O va vn vc,O fa fn fc,O ba bn bc,O xa xn xc,zd U (F:Int),O (some ⟨b3,0,none⟩) fln c3] br b1 b2 b3 fl dp (st.setv (n:Int) (Aw st.vars K d)) ev W)=>D7 m ga gn gc sa sn sc ya yn yc oa on oc va vn vc fa fn fc ba bn bc xa xn xc F fln c3 B br b1 b2 b3 fl dp (st.setv (n:Int) (Aw st.vars K d)) ev 3 a (n:Int) (Aw st.vars K d) W hW hl
 have hvs:(st.setv (n:Int) (Aw st.vars K d)).vars.length=st.vars.length:=by simp [RSt.setv]
 have HR:Hx (∀ W,Below (w.alloc (zf #[zd U 6,zd U (n:Int),zd U so,zd U ek,zd U ex,O pa pl pc,O aa al ac,O ta tl tc,O ea el ec] 130)).drew.heap.size (w.alloc (zf #[zd U 6,zd U (n:Int),zd U so,zd U ek,zd U ex,O pa pl pc,O aa al ac,O ta tl tc,O ea el ec] 130)).drew W->RnG I B [zd U m,O ga gn gc,O sa sn sc,O ya yn yc,O oa on oc,O va vn vc,O fa fn fc,O ba bn bc,O xa xn xc,zd U (F:Int),O (some ⟨b3,0,none⟩) fln c3] br b1 b2 b3 fl dp (st.setv (n:Int) (Aw st.vars K d)) ev (W.setCell ⟨b1,n,none⟩ (zd U (Aw st.vars K d)))/\Fr br b1 b2 ev ev w (W.setCell ⟨b1,n,none⟩ (zd U (Aw st.vars K d)))/\CE (W.setCell ⟨b1,n,none⟩ (zd U (Aw st.vars K d))) b1 n (zd U (Aw st.vars K d))/\CE (W.setCell ⟨b1,n,none⟩ (zd U (Aw st.vars K d))) br 1 (O (some ⟨b1,0,none⟩) st.vars.length st.vars.length)):=fun W hW=>by
  have r:=(h'.over hW).setVar (n:Int) (Aw st.vars K d) (by simpa using hn)
  rw [Int.toNat_natCast] at r
  refine ⟨r,(Fr.of_below hbel.drew).trans ((Fr.of_below hW).trans (Dt (h'.over hW) _ _)),r.vars n _ (by simp [RSt.setv,hn]),?_⟩
  have r1:=r.row 1 _ rfl
  rw [hvs] at r1
  exact r1
 have H0:=Aa h
 have c1:=h'.row 1 _ rfl
 have hnv:(n:Int) < (st.vars.length:Int):=by omega
 have nb:w.heap.size≠b1:=by have:=h.hi;omega
 have nr:br≠b1:=h.apart.1
 obtain ⟨s0,s1,s2,s3,s4,s5,s6,s7,s8⟩:=rc9 (Ay w [zd U 6,zd U (n:Int),zd U so,zd U ek,zd U ex,O pa pl pc,O aa al ac,O ta tl tc,O ea el ec] 130)
 obtain ⟨vl,hvl⟩:=nm st.vars.length
 obtain ⟨vx,hvx⟩:=nm (Aw st.vars K d)
 have hvw:∀ W,Below (w.alloc (zf #[zd U 6,zd U (n:Int),zd U so,zd U ek,zd U ex,O pa pl pc,O aa al ac,O ta tl tc,O ea el ec] 130)).drew.heap.size (w.alloc (zf #[zd U 6,zd U (n:Int),zd U so,zd U ek,zd U ex,O pa pl pc,O aa al ac,O ta tl tc,O ea el ec] 130)).drew W->CE W b1 n (zd U st.vars[n])/\W.frozen? ⟨b1,n,none⟩=false/\b1 < W.heap.size:=fun W hW=>⟨(h'.over hW).vars n _ (by simp [hn]),(h'.over hW).z1 n,(h'.over hW).hi.2.1⟩
 obtain ⟨y,hy⟩:=nm (st.vars[n])
 rw [<-hy] at hvw
 have HVW:=Aa hvw
 have HKK:Hx (∀ W ev' w3,RnG I B [zd U m,O ga gn gc,O sa sn sc,O ya yn yc,O oa on oc,O va vn vc,O fa fn fc,O ba bn bc,O xa xn xc,zd U (F:Int),O (some ⟨b3,0,none⟩) fln c3] br b1 b2 b3 fl dp ((st.setv (n:Int) (Aw st.vars K d)).tell (3,a,(n:Int),Aw st.vars K d)) ev' W->Fr br b1 b2 ev ev' (World.drew w3) W->CE w3 w.heap.size 1 (zd U (n:Int))->(CE W b1 n (zd U (Aw st.vars K d))/\CE W br 1 (O (some ⟨b1,0,none⟩) st.vars.length st.vars.length)/\CE W w.heap.size 1 (zd U (n:Int)))):=fun W ev' w3 hr hf ht=>by
  refine ⟨hr.vars n _ (by simp [RSt.tell,RSt.setv,hn]),?_,H0.o.box hf (Nat.le_refl _) ht⟩
  have r1:=hr.row 1 _ rfl
  have e2:((st.setv (n:Int) (Aw st.vars K d)).tell (3,a,(n:Int),Aw st.vars K d)).vars.length=st.vars.length:=hvs
  rw [e2] at r1
  exact r1
 rw [<-hvl] at c1 hnv HR HKK
 rw [<-hvx] at KV HR KT HKK ⊢
 clear h h' hx ho hi hvl hvx hvw hy hn hm hl hvs
 go_enter Tryz.func184,Tryz.ntmps184
 go_wp2_with fail
 go_region_held3 (Jk br b1 vl w n ek ex pa pl pc) (first | assumption | exact ⟨c1,s1,s3,s4,s5⟩ | exact FP (by assumption) hbp | exact Hb (by assumption) (Cr (n:=0)) nr nb | fail) (first | (go_at_call 222;refine (KV.o).mono ?_;rintro e wp ⟨rfl,hbp⟩;obtain ⟨u0,uz,ul⟩:=HVW.o _ hbp))
 obtain ⟨h1,h2,h3,h4⟩:=HR.o _ hbp
 have hs5:=(by assumption:_/\_/\_/\_/\_)
 have t1:=hs5.2.1
 have H1:=Aa h1
 have H2:=Aa h2
 clear h1 h2 hs5 u0 uz
 obtain ⟨w3,hw3⟩:=nm (wp.setCell ⟨b1,n,none⟩ (zd U vx))
 simp only [<-hw3] at h3 h4 t1 H1 H2 ⊢
 clear hw3
 have KK:Hx (∀ W ev',RnG I B [zd U m,O ga gn gc,O sa sn sc,O ya yn yc,O oa on oc,O va vn vc,O fa fn fc,O ba bn bc,O xa xn xc,zd U (F:Int),O (some ⟨b3,0,none⟩) fln c3] br b1 b2 b3 fl dp ((st.setv (n:Int) vx).tell (3,a,(n:Int),vx)) ev' W->Fr br b1 b2 ev ev' w3.drew W->(Hu b1 n vx br vl w W)):=fun W ev' hr hf=>HKK.o W ev' w3 hr hf t1
 go_wp2_with fail
 go_region_held3 (Hu b1 n vx br vl w) (first | assumption | exact ⟨h3,h4,t1⟩ | exact KK.o _ _ hrt hft | fail) (first | (go_at_call 225;refine (KT.o _ (by first | exact H1.o | exact H1.o.drewN 1)).mono ?_;rintro e wt ⟨rfl,ev',hrt,hft⟩))
 go_wp2_with fail
 go_ret
 exact ⟨rfl,ev',hrt,H2.o.trans (Fr.drewN 1 hft)⟩
theorem Dr {w:World} {m k:Nat} {cs:List Value} {d:D} (h:RX w k cs d) (hc:Am m k d=0):okX m k d:=by
 unfold Am at hc
 split at hc
 ·omega
 ·exact JB k cs d h (CG hc)
def Eg (I:BE) (m:Int) (ga:Option Addr) (gn gc:Nat) (sa:Option Addr) (sn sc:Nat) (ya:Option Addr) (yn yc:Nat) (oa:Option Addr) (on oc:Nat) (va:Option Addr) (vn vc:Nat) (fa:Option Addr) (fn fc:Nat) (ba:Option Addr) (bn bc:Nat) (xa:Option Addr) (xn xc:Nat) (F fln c3:Nat) (B br b1 b2 b3:Nat) (fl:List Int) (dp:Nat) (r:Bool × RSt) (ev:Ow) (w:World) (e:Ending) (w':World):Prop:=
 e=zh (ze r.1)/\(∃ ev',RnG I B [zd U m,O ga gn gc,O sa sn sc,O ya yn yc,O oa on oc,O va vn vc,O fa fn fc,O ba bn bc,O xa xn xc,zd U (F:Int),O (some ⟨b3,0,none⟩) fln c3] br b1 b2 b3 fl dp r.2 ev' w'/\Fr br b1 b2 ev ev' w w')/\A9 vn yn F r.2
def Nd (I:BE) (m:Int) (ga:Option Addr) (gn gc:Nat) (sa:Option Addr) (sn sc:Nat) (ya:Option Addr) (yn yc:Nat) (oa:Option Addr) (on oc:Nat) (va:Option Addr) (vn vc:Nat) (fa:Option Addr) (fn fc:Nat) (ba:Option Addr) (bn bc:Nat) (xa:Option Addr) (xn xc:Nat) (F fln c3:Nat) (B br b1 b2 b3:Nat) (fl:List Int) (dp:Nat) (r:Bool × RSt) (ev:Ow) (w:World) (e:Ending) (w':World):Prop:=
 e=zh (ze r.1)/\(∃ ev',RnG I B [zd U m,O ga gn gc,O sa sn sc,O ya yn yc,O oa on oc,O va vn vc,O fa fn fc,O ba bn bc,O xa xn xc,zd U (F:Int),O (some ⟨b3,0,none⟩) fln c3] br b1 b2 b3 fl dp r.2 ev' w'/\Fr br b1 b2 ev ev' w w')/\A9 vn yn F r.2/\I.ok (dp+1) r.2.o
theorem FW (m:Int) (ga gn gc sa sn sc ya yn yc oa on oc va vn vc fa fn fc ba bn bc xa xn xc) (F fln c3:Nat) (B br b1 b2 b3:Nat) (fl) {I:BE} (dp:Nat) (st:RSt) (ev:Ow) (ta tl tc) (a:Int) (r:Bool × RSt) (w:World) (hdp:dp<=9000) (hok:I.ok (dp+1) st.o) (h:RnG I B [zd U m,O ga gn gc,O sa sn sc,O ya yn yc,O oa on oc,O va vn vc,O fa fn fc,O ba bn bc,O xa xn xc,zd U (F:Int),O (some ⟨b3,0,none⟩) fln c3] br b1 b2 b3 fl dp st ev w)
  (KT:Hx (∀ W,RnG I B [zd U m,O ga gn gc,O sa sn sc,O ya yn yc,O oa on oc,O va vn vc,O fa fn fc,O ba bn bc,O xa xn xc,zd U (F:Int),O (some ⟨b3,0,none⟩) fln c3] br b1 b2 b3 fl (dp+1) st ev W->Below B w W->Calls Tryz.prog 119 #[zi (some ⟨br,0,none⟩),O ta tl tc,zd U a] W (Eg I m ga gn gc sa sn sc ya yn yc oa on oc va vn vc fa fn fc ba bn bc xa xn xc F fln c3 B br b1 b2 b3 fl (dp+1) r ev W))) :
  Calls Tryz.prog 226 #[zi (some ⟨br,0,none⟩),O ta tl tc,zd U a] w (Nd I m ga gn gc sa sn sc ya yn yc oa on oc va vn vc fa fn fc ba bn bc xa xn xc F fln c3 B br b1 b2 b3 fl dp r ev w):=by
 have hr:∀ n,RnG I B [zd U m,O ga gn gc,O sa sn sc,O ya yn yc,O oa on oc,O va vn vc,O fa fn fc,O ba bn bc,O xa xn xc,zd U (F:Int),O (some ⟨b3,0,none⟩) fln c3] br b1 b2 b3 fl (dp+1) st ev ((w.drewN n).setCell ⟨br,17,none⟩ (zd U ((dp:Int)+1))):=fun n=>(h.drewN n).set0 17 _ rfl rfl rfl rfl hok (by simp) (by simp)
 have hf:∀ n,Fr br b1 b2 ev ev w ((w.drewN n).setCell ⟨br,17,none⟩ (zd U ((dp:Int)+1))):=fun n=>(C6 (h.drewN n) _ _).drewN
 have KS:=Aa (KT.o _ (hr 0) (h.below (hf 0)))
 have HF:=Aa (hf 0)
 have c17:=h.row 17 _ rfl
 have z17:=h.z0 17
 have hl:=h.hi.1
 clear h KT hr hf hok
 obtain ⟨rb,rs⟩:=r
 go_enter Tryz.func226,Tryz.ntmps226
 go_wp2_with fail
 refine (KS.o).mono ?_
 rintro e w1 ⟨he,⟨ev',h1,hf1⟩,hn⟩
 dsimp only at he hn h1
 subst he
 have d17:=h1.row 17 _ rfl
 have y17:=h1.z0 17
 have hl1:=h1.hi.1
 have HOK:=Aa h1.okd
 have HR:Hx (∀ n,RnG I B [zd U m,O ga gn gc,O sa sn sc,O ya yn yc,O oa on oc,O va vn vc,O fa fn fc,O ba bn bc,O xa xn xc,zd U (F:Int),O (some ⟨b3,0,none⟩) fln c3] br b1 b2 b3 fl dp rs ev' ((w1.drewN n).setCell ⟨br,17,none⟩ (zd U (dp:Int)))/\Fr br b1 b2 ev' ev' w1 ((w1.drewN n).setCell ⟨br,17,none⟩ (zd U (dp:Int)))):=fun n=>⟨(h1.drewN n).set0 17 _ rfl rfl rfl rfl (I.less h1.okd) (by simp) (by simp),(C6 (h1.drewN n) _ _).drewN⟩
 have HF1:=Aa hf1
 have HN:=Aa hn
 have d17':CE w1 br 17 (zd U ((dp:Int)+1)):=by simpa using d17
 clear h1 hf1 hn KS d17 c17
 go_wp2_with fail
 go_ret
 have hz:(dp:Int)+1 - 1=dp:=by omega
 exact ⟨rfl,⟨ev',(HR.o 0).1,HF.o.trans (HF1.o.trans (HR.o 0).2)⟩,HN.o,HOK.o⟩
theorem L9 (m:Int) (ga gn gc sa sn sc ya yn yc oa on oc va vn vc fa fn fc ba bn bc xa xn xc) (F fln c3:Nat) (B br b1 b2 b3:Nat) (fl) {I:BE} (dp:Nat) (st:RSt) (ev:Ow) (K:Nat) (d) (sv:Int) (so ek ex:Int) (pa pl pc) (aa al ac ta tl tc ea el ec) (a:Int) (n1:Int) (rT rE:Bool × RSt) (w0 w:World) (h:RnG I B [zd U m,O ga gn gc,O sa sn sc,O ya yn yc,O oa on oc,O va vn vc,O fa fn fc,O ba bn bc,O xa xn xc,zd U (F:Int),O (some ⟨b3,0,none⟩) fln c3] br b1 b2 b3 fl dp st ev w) (hB0:Ov w0 w) (hx:RX w K [zd U ek,zd U ex,O pa pl pc] d) (ho:okX st.vars.length K d) (hi:∀ x∈st.vars,I32 x) (ha:0<=a/\a<=100) (hn1:0<=n1/\n1<=100)
  (KT:Hx (∀ W,RnG I B [zd U m,O ga gn gc,O sa sn sc,O ya yn yc,O oa on oc,O va vn vc,O fa fn fc,O ba bn bc,O xa xn xc,zd U (F:Int),O (some ⟨b3,0,none⟩) fln c3] br b1 b2 b3 fl dp st ev W->Ov w0 W->Calls Tryz.prog 226 #[zi (some ⟨br,0,none⟩),O ta tl tc,zd U (a+1)] W (Eg I m ga gn gc sa sn sc ya yn yc oa on oc va vn vc fa fn fc ba bn bc xa xn xc F fln c3 B br b1 b2 b3 fl dp rT ev W)))
  (KE:Hx (∀ W,RnG I B [zd U m,O ga gn gc,O sa sn sc,O ya yn yc,O oa on oc,O va vn vc,O fa fn fc,O ba bn bc,O xa xn xc,zd U (F:Int),O (some ⟨b3,0,none⟩) fln c3] br b1 b2 b3 fl dp st ev W->Ov w0 W->Calls Tryz.prog 226 #[zi (some ⟨br,0,none⟩),O ea el ec,zd U (a+1+n1)] W (Eg I m ga gn gc sa sn sc ya yn yc oa on oc va vn vc fa fn fc ba bn bc xa xn xc F fln c3 B br b1 b2 b3 fl dp rE ev W)))
  (KM:Hx (∀ W,Ov w0 W->Calls Tryz.prog 181 #[O ta tl tc] W fun e w'=>e=zh (zd U n1)/\Ov W w')) :
  Calls Tryz.prog 184 #[zi (some ⟨br,0,none⟩),zg #[zd U 7,zd U sv,zd U so,zd U ek,zd U ex,O pa pl pc,O aa al ac,O ta tl tc,O ea el ec],zd U a] w (Eg I m ga gn gc sa sn sc ya yn yc oa on oc va vn vc fa fn fc ba bn bc xa xn xc F fln c3 B br b1 b2 b3 fl dp (if Aw st.vars K d=0 then rE else rT) ev w):=by
 have hbel:Ov w (w.alloc (zf #[zd U 7,zd U sv,zd U so,zd U ek,zd U ex,O pa pl pc,O aa al ac,O ta tl tc,O ea el ec] 130)):=bA w _
 have h':=h.over hbel
 have KV:=Aa fun W (hW:Ov w W)=>BF m ga gn gc sa sn sc ya yn yc oa on oc va vn vc fa fn fc ba bn bc xa xn xc F fln c3 B br b1 b2 b3 fl dp st ev K _ d W (h.over hW) (hx.over hW) ho hi
 have H0:=Aa h
 obtain ⟨a1,a2⟩:=ha
 obtain ⟨a3,a4⟩:=hn1
 obtain ⟨s0,s1,s2,s3,s4,s5,s6,s7,s8⟩:=rc9 (Ay w [zd U 7,zd U sv,zd U so,zd U ek,zd U ex,O pa pl pc,O aa al ac,O ta tl tc,O ea el ec] 130)
 obtain ⟨vx,hvx⟩:=nm (Aw st.vars K d)
 rw [<-hvx] at KV ⊢
 clear h h' hx ho hi hvx
 by_cases hz:vx=0
 ·subst hz
  rw [if_pos rfl]
  go_enter Tryz.func184,Tryz.ntmps184
  go_wp2_with fail
  refine (KV.o _ hbel).mono ?_
  rintro e w1 ⟨rfl,hb1⟩
  obtain ⟨t7,t8⟩:=co2 hb1 s7 s8
  have hB1:=Ag hbel hb1
  have HB1:=Aa hB1
  have HM:=Aa (KM.o w1.drew (hB0.trans (hB1.drew.mono hB0.size)))
  have HE:=Aa fun W (hW:Ov w1.drew W)=>KE.o W ((H0.o.over hB1.drew).over hW) ((hB0.trans (hB1.drew.mono hB0.size)).trans (hW.mono (Nat.le_trans hB0.size hB1.size)))
  have HWR:Hx (IntKind.i64.wrap (IntKind.i64.wrap (a+1)+n1)=a+1+n1):=by
   show _=_
   rw [IntWalk.i64_in (a+1) (by omega),IntWalk.i64_in _ (by omega)]
  clear KV s0 s1 s2 s3 s4 s5 s6 s7 s8 hb1 hbel KT KM KE hB1 hB0
  obtain ⟨r1,r2⟩:=rE
  go_wp2_with fail
  go_region_held3 (fun W=>W.cell? ⟨w.heap.size,7,none⟩=some (O ta tl tc)/\W.cell? ⟨w.heap.size,8,none⟩=some (O ea el ec)) (first | assumption | exact ⟨t7,t8⟩ | exact ⟨Ab hbp _ _ (by assumption:_/\_).1,Ab hbp _ _ (by assumption:_/\_).2⟩ | exact ⟨H0.o.box hft (Nat.le_refl _) (by assumption:_/\_).1,H0.o.box hft (Nat.le_refl _) (by assumption:_/\_).2⟩ | fail) (first | (go_at_call 181;refine (HM.o).mono ?_;rintro e wp ⟨rfl,hbp⟩) | (go_at_call 226;rw [HWR.o];refine (HE.o _ hbp).mono ?_;rintro e wt ⟨he,⟨ev',hrt,hft⟩,hno⟩;subst he))
  have HF:=Aa (And.intro hrt ((Fr.of_below (ev:=ev) (br:=br) (b1:=b1) (b2:=b2) HB1.o.drew).trans ((Fr.of_below hbp).trans hft)))
  have HN:=Aa hno
  clear hrt hft hno
  go_wp2_with fail
  go_ret
  exact ⟨rfl,⟨ev',HF.o⟩,HN.o⟩
 ·rw [if_neg hz]
  have hzb:(vx == 0)=false:=by simpa using hz
  go_enter Tryz.func184,Tryz.ntmps184
  go_wp2_with fail
  refine (KV.o _ hbel).mono ?_
  rintro e w1 ⟨rfl,hb1⟩
  have t7:=Ab hb1 _ _ s7
  have hB1:=Ag hbel hb1
  have HE:=Aa (KT.o w1 (H0.o.over hB1) (hB0.trans (hB1.mono hB0.size)))
  have HB1:=Aa hB1
  clear KV s0 s1 s2 s3 s4 s5 s6 s7 s8 hb1 hbel KE KM KT hB1 hB0
  obtain ⟨r1,r2⟩:=rT
  go_wp2_with fail
  refine (HE.o).mono ?_
  rintro e wt ⟨he,⟨ev',hrt,hft⟩,hno⟩
  subst he
  have HF:=Aa (And.intro hrt ((Fr.of_below (ev:=ev) (br:=br) (b1:=b1) (b2:=b2) HB1.o).trans hft))
  have HN:=Aa hno
  clear hrt hft hno
  go_wp2_with fail
  go_ret
  exact ⟨rfl,⟨ev',HF.o⟩,HN.o⟩
theorem L8 (m:Int) (ga gn gc sa sn sc ya yn yc oa on oc va vn vc fa fn fc ba bn bc xa xn xc) (F fln c3:Nat) (B br b1 b2 b3:Nat) (fl) {I:BE} (dp:Nat) (st:RSt) (ev:Ow) (sv:Int) (so ek ex:Int) (pa pl pc aa al ac ta tl tc ea el ec) (a:Int) (r:Bool × RSt) (w0 w:World) (h:RnG I B [zd U m,O ga gn gc,O sa sn sc,O ya yn yc,O oa on oc,O va vn vc,O fa fn fc,O ba bn bc,O xa xn xc,zd U (F:Int),O (some ⟨b3,0,none⟩) fln c3] br b1 b2 b3 fl dp st ev w) (hB0:Ov w0 w)
  (KL:Hx (∀ W,RnG I B [zd U m,O ga gn gc,O sa sn sc,O ya yn yc,O oa on oc,O va vn vc,O fa fn fc,O ba bn bc,O xa xn xc,zd U (F:Int),O (some ⟨b3,0,none⟩) fln c3] br b1 b2 b3 fl dp st ev W->Ov w0 W->Calls Tryz.prog 227 #[zi (some ⟨br,0,none⟩),zg #[zd U 8,zd U sv,zd U so,zd U ek,zd U ex,O pa pl pc,O aa al ac,O ta tl tc,O ea el ec],zd U a] W (Eg I m ga gn gc sa sn sc ya yn yc oa on oc va vn vc fa fn fc ba bn bc xa xn xc F fln c3 B br b1 b2 b3 fl dp r ev W))) :
  Calls Tryz.prog 184 #[zi (some ⟨br,0,none⟩),zg #[zd U 8,zd U sv,zd U so,zd U ek,zd U ex,O pa pl pc,O aa al ac,O ta tl tc,O ea el ec],zd U a] w (Eg I m ga gn gc sa sn sc ya yn yc oa on oc va vn vc fa fn fc ba bn bc xa xn xc F fln c3 B br b1 b2 b3 fl dp r ev w):=by
 have hbel:Ov w (w.alloc (zf #[zd U 8,zd U sv,zd U so,zd U ek,zd U ex,O pa pl pc,O aa al ac,O ta tl tc,O ea el ec] 130)):=bA w _
 have HE:=Aa (KL.o _ (h.over hbel) (hB0.trans (hbel.mono hB0.size)))
 obtain ⟨s0,s1,s2,s3,s4,s5,s6,s7,s8⟩:=rc9 (Ay w [zd U 8,zd U sv,zd U so,zd U ek,zd U ex,O pa pl pc,O aa al ac,O ta tl tc,O ea el ec] 130)
 clear h hB0 KL
 obtain ⟨r1,r2⟩:=r
 go_enter Tryz.func184,Tryz.ntmps184
 go_wp2_with fail
 refine (HE.o).mono ?_
 rintro e wt ⟨he,⟨ev',hrt,hft⟩,hno⟩
 subst he
 have HF:=Aa (And.intro hrt ((Fr.of_below (ev:=ev) (br:=br) (b1:=b1) (b2:=b2) hbel).trans hft))
 have HN:=Aa hno
 clear hrt hft hno
 go_wp2_with fail
 go_ret
 exact ⟨rfl,⟨ev',HF.o⟩,HN.o⟩
theorem Me (m:Int) (ga gn gc sa sn sc ya yn yc oa on oc va vn vc fa fn fc ba bn bc xa xn xc) (F fln c3:Nat) (B br b1 b2 b3:Nat) (fl) {I:BE} (dp:Nat) (st:RSt) (ev:Ow) (sv:Int) (so ek ex:Int) (pa pl pc aa al ac ta tl tc ea el ec) (a:Int) (r:Bool × RSt) (w0 w:World) (h:RnG I B [zd U m,O ga gn gc,O sa sn sc,O ya yn yc,O oa on oc,O va vn vc,O fa fn fc,O ba bn bc,O xa xn xc,zd U (F:Int),O (some ⟨b3,0,none⟩) fln c3] br b1 b2 b3 fl dp st ev w) (hB0:Ov w0 w)
  (KL:Hx (∀ W,RnG I B [zd U m,O ga gn gc,O sa sn sc,O ya yn yc,O oa on oc,O va vn vc,O fa fn fc,O ba bn bc,O xa xn xc,zd U (F:Int),O (some ⟨b3,0,none⟩) fln c3] br b1 b2 b3 fl dp st ev W->Ov w0 W->Calls Tryz.prog 223 #[zi (some ⟨br,0,none⟩),zg #[zd U 2,zd U sv,zd U so,zd U ek,zd U ex,O pa pl pc,O aa al ac,O ta tl tc,O ea el ec],zd U a] W (Eg I m ga gn gc sa sn sc ya yn yc oa on oc va vn vc fa fn fc ba bn bc xa xn xc F fln c3 B br b1 b2 b3 fl dp r ev W))) :
  Calls Tryz.prog 184 #[zi (some ⟨br,0,none⟩),zg #[zd U 2,zd U sv,zd U so,zd U ek,zd U ex,O pa pl pc,O aa al ac,O ta tl tc,O ea el ec],zd U a] w (Eg I m ga gn gc sa sn sc ya yn yc oa on oc va vn vc fa fn fc ba bn bc xa xn xc F fln c3 B br b1 b2 b3 fl dp r ev w):=by
 have hbel:Ov w (w.alloc (zf #[zd U 2,zd U sv,zd U so,zd U ek,zd U ex,O pa pl pc,O aa al ac,O ta tl tc,O ea el ec] 130)):=bA w _
 have HE:=Aa (KL.o _ (h.over hbel) (hB0.trans (hbel.mono hB0.size)))
 obtain ⟨s0,s1,s2,s3,s4,s5,s6,s7,s8⟩:=rc9 (Ay w [zd U 2,zd U sv,zd U so,zd U ek,zd U ex,O pa pl pc,O aa al ac,O ta tl tc,O ea el ec] 130)
 clear h hB0 KL
 obtain ⟨r1,r2⟩:=r
 go_enter Tryz.func184,Tryz.ntmps184
 go_wp2_with fail
 refine (HE.o).mono ?_
 rintro e wt ⟨he,⟨ev',hrt,hft⟩,hno⟩
 subst he
 have HF:=Aa (And.intro hrt ((Fr.of_below (ev:=ev) (br:=br) (b1:=b1) (b2:=b2) hbel).trans hft))
 have HN:=Aa hno
 clear hrt hft hno
 go_wp2_with fail
 go_ret
 exact ⟨rfl,⟨ev',HF.o⟩,HN.o⟩
def DR (br:Nat) (w:World):Nat:=(intOf ((w.cell? ⟨br,3,none⟩).getD undef)).toNat
theorem MT (m:Int) (ga gn gc sa sn sc ya yn yc oa on oc) (va:Option Addr) (vn vc:Nat) (fa fn fc ba bn bc xa xn xc) (F fln c3:Nat) (B br b1 b2 b3:Nat) (fl) {I:BE} (dp:Nat) (K kf k g:Nat) (fs ins d) (sv:Int) (so ek ex:Int) (pa pl pc aa al ac ta tl tc ea el ec) (a:Int) (w0:World) (hF:F<=2000) (ha:0<=a/\a<=100)
  (hx:RX w0 K [zd U ek,zd U ex,O pa pl pc] (Ai d)) (ho:okX vn K (Ai d))
  (HS:Hx (∀ g',g' < g->∀ st ev W,RnG I B [zd U m,O ga gn gc,O sa sn sc,O ya yn yc,O oa on oc,O va vn vc,O fa fn fc,O ba bn bc,O xa xn xc,zd U (F:Int),O (some ⟨b3,0,none⟩) fln c3] br b1 b2 b3 fl dp st ev W->I.ok (dp+1) st.o->Ov w0 W->A9 vn yn F st->3*(F - st.steps)+1<=g'->Calls Tryz.prog 226 #[zi (some ⟨br,0,none⟩),O ta tl tc,zd U (a+1)] W (Nd I m ga gn gc sa sn sc ya yn yc oa on oc va vn vc fa fn fc ba bn bc xa xn xc F fln c3 B br b1 b2 b3 fl dp (rn K kf fs F ins I.ob g' 0 (k - 1) (Af d) (a+1) (dp+1) st) ev W)))
  (KP:Hx (∀ st ev W,RnG I B [zd U m,O ga gn gc,O sa sn sc,O ya yn yc,O oa on oc,O va vn vc,O fa fn fc,O ba bn bc,O xa xn xc,zd U (F:Int),O (some ⟨b3,0,none⟩) fln c3] br b1 b2 b3 fl dp st ev W->I.ok (dp+1) st.o->Ov w0 W->Calls Tryz.prog 183 #[zi (some ⟨br,0,none⟩),zd U 2,zg #[zd U 8,zd U sv,zd U so,zd U ek,zd U ex,O pa pl pc,O aa al ac,O ta tl tc,O ea el ec],zd U a] W (It I B [zd U m,O ga gn gc,O sa sn sc,O ya yn yc,O oa on oc,O va vn vc,O fa fn fc,O ba bn bc,O xa xn xc,zd U (F:Int),O (some ⟨b3,0,none⟩) fln c3] br b1 b2 b3 fl dp 2 d (Bo I.ob 2 a dp d st) ev W)))
  (st:RSt) (ev:Ow) (w:World) (hok:I.ok (dp+1) st.o) (hBB:B=w0.heap.size) (h:RnG I B [zd U m,O ga gn gc,O sa sn sc,O ya yn yc,O oa on oc,O va vn vc,O fa fn fc,O ba bn bc,O xa xn xc,zd U (F:Int),O (some ⟨b3,0,none⟩) fln c3] br b1 b2 b3 fl dp st ev w) (hB0:Ov w0 w) (hno:A9 vn yn F st) (hg:3*(F - st.steps)+2<=g) :
  Calls Tryz.prog 227 #[zi (some ⟨br,0,none⟩),zg #[zd U 8,zd U sv,zd U so,zd U ek,zd U ex,O pa pl pc,O aa al ac,O ta tl tc,O ea el ec],zd U a] w (Eg I m ga gn gc sa sn sc ya yn yc oa on oc va vn vc fa fn fc ba bn bc xa xn xc F fln c3 B br b1 b2 b3 fl dp (rn K kf fs F ins I.ob g 2 k [d] a dp st) ev w):=by
 subst hBB
 have hbel:Ov w (w.alloc (zf #[zd U 8,zd U sv,zd U so,zd U ek,zd U ex,O pa pl pc,O aa al ac,O ta tl tc,O ea el ec] 130)):=bA w _
 have H0:=Aa h
 have HB0:=Aa hB0
 have HX:=Aa hx
 have HOX:=Aa ho
 obtain ⟨a1,a2⟩:=ha
 obtain ⟨s0,s1,s2,s3,s4,s5,s6,s7,s8⟩:=rc9 (Ay w [zd U 8,zd U sv,zd U so,zd U ek,zd U ex,O pa pl pc,O aa al ac,O ta tl tc,O ea el ec] 130)
 have HC0:=Aa s0
 have HC1:=Aa s1
 have HC2:=Aa s2
 have HC3:=Aa s3
 have HC4:=Aa s4
 have HC5:=Aa s5
 have HC6:=Aa s6
 have HC7:=Aa s7
 have HC8:=Aa s8
 clear s0 s1 s2 s6 s8
 obtain ⟨T,hT⟩:=nm (rn K kf fs F ins I.ob g 2 k [d] a dp st)
 have HST:Hx (∃ g' st' ev',RnG I w0.heap.size [zd U m,O ga gn gc,O sa sn sc,O ya yn yc,O oa on oc,O va vn vc,O fa fn fc,O ba bn bc,O xa xn xc,zd U (F:Int),O (some ⟨b3,0,none⟩) fln c3] br b1 b2 b3 fl dp st' ev' (w.alloc (zf #[zd U 8,zd U sv,zd U so,zd U ek,zd U ex,O pa pl pc,O aa al ac,O ta tl tc,O ea el ec] 130))/\Fr br b1 b2 ev ev' (w.alloc (zf #[zd U 8,zd U sv,zd U so,zd U ek,zd U ex,O pa pl pc,O aa al ac,O ta tl tc,O ea el ec] 130)) (w.alloc (zf #[zd U 8,zd U sv,zd U so,zd U ek,zd U ex,O pa pl pc,O aa al ac,O ta tl tc,O ea el ec] 130))/\A9 vn yn F st'/\3*(F - st'.steps)+2<=g'/\g'<=g/\I.ok (dp+1) st'.o/\rn K kf fs F ins I.ob g' 2 k [d] a dp st'=T):=⟨g,st,ev,h.over hbel,Fr.refl _ _ _ _ _,hno,hg,Nat.le_refl _,hok,hT.symm⟩
 rw [<-hT]
 clear h hB0 hno hg hT hx ho hok
 go_enter Tryz.func227,Tryz.ntmps227
 go_wp2_with fail
 go_loopw [6] (fun s wr=>s=ze false/\∃ g' st' ev',RnG I w0.heap.size [zd U m,O ga gn gc,O sa sn sc,O ya yn yc,O oa on oc,O va vn vc,O fa fn fc,O ba bn bc,O xa xn xc,zd U (F:Int),O (some ⟨b3,0,none⟩) fln c3] br b1 b2 b3 fl dp st' ev' wr/\Fr br b1 b2 ev ev' (w.alloc (zf #[zd U 8,zd U sv,zd U so,zd U ek,zd U ex,O pa pl pc,O aa al ac,O ta tl tc,O ea el ec] 130)) wr/\A9 vn yn F st'/\3*(F - st'.steps)+2<=g'/\g'<=g/\I.ok (dp+1) st'.o/\rn K kf fs F ins I.ob g' 2 k [d] a dp st'=T) (fun _ wr=>2001 - DR br wr)
 case atStart=>exact ⟨rfl,HST.o⟩
 case round=>
  clear HST
  obtain ⟨rfl,g',st',ev',hr,hf,hno,hg',hgg,hok,hrn⟩:=hrel
  have t3:=H0.o.box hf (Nat.le_refl _) s3
  have t4:=H0.o.box hf (Nat.le_refl _) s4
  have t5:=H0.o.box hf (Nat.le_refl _) s5
  have t7:=H0.o.box hf (Nat.le_refl _) s7
  clear s3 s4 s5 s7
  have hBr:=H0.o.below ((Fr.of_below hbel).trans hf)
  have hB0r:Ov w0 wr:=HB0.o.trans hBr
  obtain ⟨g2,rfl⟩:∃ g2,g'=g2+1:=⟨g' - 1,by omega⟩
  have hsteps:DR br wr=st'.steps:=by
   have c3:=hr.row 3 _ rfl
   unfold DR
   rw [c3]
   simp [intOf]
  have KV:=Aa (BF m ga gn gc sa sn sc ya yn yc oa on oc va vn vc fa fn fc ba bn bc xa xn xc F fln c3 w0.heap.size br b1 b2 b3 fl dp st' ev' K _ (Ai d) wr hr (HX.o.over hB0r) (by rw [hno.vl];exact HOX.o) hno.i32)
  have hun:rn K kf fs F ins I.ob (g2+1) 2 k [d] a dp st'=if Aw st'.vars K (Ai d)=0 then (true,st') else AU (rn K kf fs F ins I.ob g2 0 (k - 1) (Af d) (a+1) (dp+1) st') (fun st''=>if st''.steps=F then (false,st''.out) else AU (Bo I.ob 2 a dp d st''.step) (fun st1=>rn K kf fs F ins I.ob g2 2 k [d] a dp st1)):=by simp only [rn]
  rw [hun] at hrn
  have HR:=Aa hr
  have HNO:=Aa hno
  have HFR:=Aa hf
  have HG:=Aa hg'
  have HGG:=Aa hgg
  have HSP:=Aa hsteps
  have HB0R:=Aa hB0r
  have HOK:=Aa hok
  clear hok
  by_cases hz:Aw st'.vars K (Ai d)=0
  ·rw [if_pos hz] at hrn
   rw [hz] at KV
   have HRN:=Aa hrn
   clear hrn hun hr hno hf hg' hsteps hz hBr hB0r HS
   go_wp2_with fail
   refine (KV.o).mono ?_
   rintro e w1 ⟨rfl,hb1⟩
   have HB1:=Aa hb1
   clear hb1 KV
   go_wp2_with fail
   go_ret
   rw [<-HRN.o]
   exact ⟨rfl,⟨ev',HR.o.over HB1.o,(Fr.of_below hbel).trans (HFR.o.over HB1.o)⟩,HNO.o⟩
  ·rw [if_neg hz] at hrn
   have KS:=Aa fun W (hW:Ov wr W)=>HS.o g2 (by omega) st' ev' W (hr.over hW) HOK.o (hB0r.trans (hW.mono hB0r.size)) hno (by omega)
   have hgr:=(B5 K kf fs F ins I.ob g2 0 (k - 1) (Af d) (a+1) (dp+1) st').steps
   obtain ⟨r,hrr⟩:=nm (rn K kf fs F ins I.ob g2 0 (k - 1) (Af d) (a+1) (dp+1) st')
   rw [<-hrr] at KS hgr hrn
   obtain ⟨vx,hvx⟩:=nm (Aw st'.vars K (Ai d))
   rw [<-hvx] at KV hz
   have hzb:(vx == 0)=false:=by simpa using hz
   have HRN:=Aa hrn
   have HGR:=Aa hgr
   clear hrn hun hr hno hf hg' hgg hsteps hz hBr hB0r HS hvx hrr hgr HX HOX
   go_wp2_with fail
   refine (KV.o).mono ?_
   rintro e w1 ⟨rfl,hb1⟩
   have u7:=Ab hb1 _ _ t7
   have KS':=Aa (KS.o w1 hb1)
   have HB1:=Aa hb1
   clear hb1 KV KS t3 t4 t5 t7
   obtain ⟨rb,rs⟩:=r
   cases rb with
   | false=>
    go_wp2_with fail
    refine (KS'.o).mono ?_
    rintro e w2 ⟨he,⟨ev2,hr2,hf2⟩,hno2,hok2⟩
    subst he
    have HF2:=Aa (And.intro hr2 ((Fr.of_below hbel).trans ((HFR.o.over HB1.o).trans hf2)))
    have HN2:=Aa hno2
    clear hr2 hf2 hno2
    go_wp2_with fail
    go_ret
    rw [<-HRN.o]
    exact ⟨rfl,⟨ev2,HF2.o⟩,HN2.o⟩
   | true=>
    go_wp2_with fail
    refine (KS'.o).mono ?_
    rintro e w2 ⟨he,⟨ev2,hr2,hf2⟩,hno2,hok2⟩
    subst he
    have HR2:=Aa hr2
    have HF2:=Aa ((HFR.o.over HB1.o).trans hf2)
    have HN2:=Aa hno2
    clear hr2 hf2 hno2 KS'
    have HOK2:=Aa hok2
    clear hok2
    by_cases hs:rs.steps=F
    ·have KN:=Aa (Hy m ga gn gc sa sn sc ya yn yc oa on oc va vn vc fa fn fc ba bn bc xa xn xc F fln c3 w0.heap.size br b1 b2 b3 fl dp rs ev2 w2 HR2.o hs)
     have HHS:=Aa hs
     clear hs
     go_wp2_with fail
     refine (KN.o).mono ?_
     rintro e w3 ⟨rfl,hr3,hf3⟩
     have HF3:=Aa (And.intro hr3 ((Fr.of_below hbel).trans (HF2.o.trans hf3)))
     clear hr3 hf3
     go_wp2_with fail
     go_ret
     rw [<-HRN.o]
     have e2:AU (true,rs) (fun st''=>if st''.steps=F then (false,st''.out) else AU (Bo I.ob 2 a dp d st''.step) (fun st1=>rn K kf fs F ins I.ob g2 2 k [d] a dp st1))=(false,rs.out):=by
      unfold AU
      simp only [if_true,HHS.o]
     rw [e2]
     exact ⟨rfl,⟨ev2,HF3.o⟩,HN2.o.o⟩
    ·have hs2:rs.steps < F:=by have:rs.steps<=F:=HN2.o.sb;omega
     have KN:=Aa (F8 m ga gn gc sa sn sc ya yn yc oa on oc va vn vc fa fn fc ba bn bc xa xn xc F fln c3 w0.heap.size br b1 b2 b3 fl dp rs ev2 w2 HR2.o hs2 hF)
     have HHS:=Aa hs
     clear hs
     go_wp2_with fail
     refine (KN.o).mono ?_
     rintro e w3 ⟨rfl,hr3,hf3⟩
     have HF3:=Aa (And.intro hr3 (HF2.o.trans hf3))
     clear hr3 hf3
     have x0:=H0.o.box HF3.o.2 (Nat.le_refl _) HC0.o
     have x1:=H0.o.box HF3.o.2 (Nat.le_refl _) HC1.o
     have x2:=H0.o.box HF3.o.2 (Nat.le_refl _) HC2.o
     have x3:=H0.o.box HF3.o.2 (Nat.le_refl _) HC3.o
     have x4:=H0.o.box HF3.o.2 (Nat.le_refl _) HC4.o
     have x5:=H0.o.box HF3.o.2 (Nat.le_refl _) HC5.o
     have x6:=H0.o.box HF3.o.2 (Nat.le_refl _) HC6.o
     have x7:=H0.o.box HF3.o.2 (Nat.le_refl _) HC7.o
     have x8:=H0.o.box HF3.o.2 (Nat.le_refl _) HC8.o
     have hB3:Ov w0 w3:=HB0.o.trans (H0.o.below ((Fr.of_below hbel).trans HF3.o.2))
     have KP':=Aa (KP.o rs.step ev2 w3 HF3.o.1 HOK2.o hB3)
     have hps:=C2 I.ob 2 a dp d rs.step
     have hnp:=(HN2.o.step hs2).pass I.ob 2 a dp d
     have e2:AU (true,rs) (fun st''=>if st''.steps=F then (false,st''.out) else AU (Bo I.ob 2 a dp d st''.step) (fun st1=>rn K kf fs F ins I.ob g2 2 k [d] a dp st1))=AU (Bo I.ob 2 a dp d rs.step) (fun st1=>rn K kf fs F ins I.ob g2 2 k [d] a dp st1):=by
      unfold AU
      simp only [if_true,if_neg HHS.o]
     have hrn2:=e2.symm.trans HRN.o
     obtain ⟨pb,ps,hpp⟩:∃ pb ps,Bo I.ob 2 a dp d rs.step=(pb,ps):=⟨_,_,rfl⟩
     rw [hpp] at KP' hps hnp hrn2
     have HPS:=Aa hps
     have HNP:=Aa hnp
     have HRN2:=Aa hrn2
     clear hps hnp hrn2 e2 hpp hB3 KN KP
     cases pb with
     | false=>
      go_wp2_with fail
      refine (KP'.o).mono ?_
      rintro e w4 ⟨he,ev4,hr4,hf4,-⟩
      subst he
      have HF4:=Aa (And.intro hr4 ((Fr.of_below hbel).trans (HF3.o.2.trans hf4)))
      clear hr4 hf4
      go_wp2_with fail
      go_ret
      rw [<-HRN2.o]
      exact ⟨rfl,⟨ev4,HF4.o⟩,HNP.o⟩
     | true=>
      go_wp2_with fail
      refine (KP'.o).mono ?_
      rintro e w4 ⟨he,ev4,hr4,hf4,hn4⟩
      subst he
      have HF4:=Aa (And.intro hr4 (HF3.o.2.trans hf4))
      have HN4:=Aa (hn4 rfl (Or.inr rfl))
      clear hr4 hf4 hn4
      go_wp2_with fail
      have hsp:=HSP.o
      have hgr:st'.steps<=rs.steps:=HGR.o
      have hgg:=HG.o
      have hp4:ps.steps=rs.steps+1:=HPS.o
      have hst:DR br w4=rs.steps+1:=by
       have c3:=HF4.o.1.row 3 _ rfl
       unfold DR
       rw [c3]
       simp [intOf,hp4]
      refine ⟨⟨rfl,g2,ps,ev4,HF4.o.1,HF4.o.2,HNP.o,by rw [hp4];omega,by have:=HGG.o;omega,HN4.o,HRN2.o⟩,?_⟩
      rw [hst,hsp]
      omega
end Go.Proofs.YtfffpjkcfnekaaaGreat.Ex
