/- Commands of one step, done. -/
import Derived.Test.YtfffpjkcfnekaaaGreatB09
set_option linter.unusedVariables false
set_option maxHeartbeats 8000000
set_option maxRecDepth 100000
namespace Go.Proofs.YtfffpjkcfnekaaaGreat.Ex
open Go.RowKit
open Go.Value renaming slice -> O, int -> U, bool -> zg, agg -> zh, pointer -> zi, tuple -> zk
open Go.IntKind renaming i64 -> zd
open Go.Obj renaming cells -> ze
open Go.Ending renaming returned -> zj
theorem H8 {w w':World} {a0 a1 a2 a3 a4:Addr} {v0 v1 v2 v3 v4:Value} (h:w.cell? a0=some v0/\w.cell? a1=some v1/\w.cell? a2=some v2/\w.cell? a3=some v3/\w.cell? a4=some v4) (hb:Ov w w') :
  w'.cell? a0=some v0/\w'.cell? a1=some v1/\w'.cell? a2=some v2/\w'.cell? a3=some v3/\w'.cell? a4=some v4:=⟨Ab hb _ _ h.1,Ab hb _ _ h.2.1,Ab hb _ _ h.2.2.1,Ab hb _ _ h.2.2.2.1,Ab hb _ _ h.2.2.2.2⟩
abbrev Pc (b j0:Nat) (v0:Value) (c j1:Nat) (v1:Value) (j2:Nat) (v2:Value) (j3:Nat) (v3:Value) (j4:Nat) (v4:Value) (Wz:World):Prop:=Wz.cell? ⟨b,j0,none⟩=some v0/\CE Wz c j1 v1/\CE Wz c j2 v2/\CE Wz c j3 v3/\CE Wz c j4 v4
theorem JF {w w':World} {r b c j0 j1 j2 j3 j4:Nat} {v0 v1 v2 v3 v4:Value} (h:Pc b j0 v0 c j1 v1 j2 v2 j3 v3 j4 v4 w) (hg:w.grownBy w' (some r)) (hb:b≠r) (hc:c≠r) :
  Pc b j0 v0 c j1 v1 j2 v2 j3 v3 j4 v4 w':=⟨Bg hg h.1 hb,Bg hg h.2.1 hc,Bg hg h.2.2.1 hc,Bg hg h.2.2.2.1 hc,Bg hg h.2.2.2.2 hc⟩
abbrev Mp (br b1 vl:Nat) (w:World) (n:Nat) (ek ex:Int) (pa:Option Addr) (pl pc:Nat) (Wz:World):Prop:=Wz.cell? ⟨br,1,none⟩=some (O (some ⟨b1,0,none⟩) vl vl)/\CE Wz w.heap.size 1 (U zd (n:Int))/\CE Wz w.heap.size 3 (U zd ek)/\CE Wz w.heap.size 4 (U zd ex)/\CE Wz w.heap.size 5 (O pa pl pc)
theorem PG (m:Int) (ga gn gc sa sn sc ya yn yc oa on oc va vn vc fa fn fc ba bn bc xa xn xc) (F fln c3:Nat) (B br b1 b2 b3:Nat) (fl) {I:BS} (dp:Nat) (st:RSt) (ev:Ow) (K:Nat) (d) (n:Nat) (so ek ex:Int) (pa pl pc) (aa al ac ta tl tc ea el ec) (a:Int) (w:World) (h:RnG I B [U zd m,O ga gn gc,O sa sn sc,O ya yn yc,O oa on oc,O va vn vc,O fa fn fc,O ba bn bc,O xa xn xc,U zd (F:Int),O (some ⟨b3,0,none⟩) fln c3] br b1 b2 b3 fl dp st ev w) (hx:RX w K [U zd ek,U zd ex,O pa pl pc] d) (ho:okX st.vars.length K d) (hi:∀ x∈st.vars,I32 x) (hn:n < st.vars.length) (hm:st.vars.length<=16) :
  Calls Tryz.prog 184 #[zi (some ⟨br,0,none⟩),zh #[U zd 1,U zd (n:Int),U zd so,U zd ek,U zd ex,O pa pl pc,O aa al ac,O ta tl tc,O ea el ec],U zd a] w fun e w'=>e=zj (zg true)/\RnG I B [U zd m,O ga gn gc,O sa sn sc,O ya yn yc,O oa on oc,O va vn vc,O fa fn fc,O ba bn bc,O xa xn xc,U zd (F:Int),O (some ⟨b3,0,none⟩) fln c3] br b1 b2 b3 fl dp (st.setv (n:Int) (AB st.vars K d)) ev w'/\Fr br b1 b2 ev ev w w':=by
 have hbel:Ov w (w.alloc (ze #[U zd 1,U zd (n:Int),U zd so,U zd ek,U zd ex,O pa pl pc,O aa al ac,O ta tl tc,O ea el ec] 130)):=bA w _
 have h':=(h.over hbel).drewN 1
 have KV:=Aa (B1 m ga gn gc sa sn sc ya yn yc oa on oc va vn vc fa fn fc ba bn bc xa xn xc F fln c3 B br b1 b2 b3 fl dp st ev K _ d (w.alloc (ze #[U zd 1,U zd (n:Int),U zd so,U zd ek,U zd ex,O pa pl pc,O aa al ac,O ta tl tc,O ea el ec] 130)).drew h' (hx.over hbel.drew) ho hi)
 have HR:Hx (∀ W,Below (w.alloc (ze #[U zd 1,U zd (n:Int),U zd so,U zd ek,U zd ex,O pa pl pc,O aa al ac,O ta tl tc,O ea el ec] 130)).drew.heap.size (w.alloc (ze #[U zd 1,U zd (n:Int),U zd so,U zd ek,U zd ex,O pa pl pc,O aa al ac,O ta tl tc,O ea el ec] 130)).drew W->RnG I B [U zd m,O ga gn gc,O sa sn sc,O ya yn yc,O oa on oc,O va vn vc,O fa fn fc,O ba bn bc,O xa xn xc,U zd (F:Int),O (some ⟨b3,0,none⟩) fln c3] br b1 b2 b3 fl dp (st.setv (n:Int) (AB st.vars K d)) ev (W.setCell ⟨b1,n,none⟩ (U zd (AB st.vars K d)))/\Fr br b1 b2 ev ev w (W.setCell ⟨b1,n,none⟩ (U zd (AB st.vars K d)))):=fun W hW=>by
  have r:=(h'.over hW).setVar (n:Int) (AB st.vars K d) (by simpa using hn)
  exact ⟨by simpa using r,(Fr.of_below hbel.drew).trans ((Fr.of_below hW).trans (Ei (h'.over hW) _ _))⟩
 have c1:=h'.row 1 _ rfl
 have HO:=Aa h'
 have hnv:(n:Int) < (st.vars.length:Int):=by omega
 have nb:w.heap.size≠b1:=by have:=h.hi;omega
 have nr:br≠b1:=h.apart.1
 obtain ⟨s0,s1,s2,s3,s4,s5,s6,s7,s8⟩:=rc9 (BC w [U zd 1,U zd (n:Int),U zd so,U zd ek,U zd ex,O pa pl pc,O aa al ac,O ta tl tc,O ea el ec] 130)
 obtain ⟨vl,hvl⟩:=nm st.vars.length
 obtain ⟨vx,hvx⟩:=nm (AB st.vars K d)
 have hvw:∀ W,Below (w.alloc (ze #[U zd 1,U zd (n:Int),U zd so,U zd ek,U zd ex,O pa pl pc,O aa al ac,O ta tl tc,O ea el ec] 130)).drew.heap.size (w.alloc (ze #[U zd 1,U zd (n:Int),U zd so,U zd ek,U zd ex,O pa pl pc,O aa al ac,O ta tl tc,O ea el ec] 130)).drew W->CE W b1 n (U zd st.vars[n])/\W.frozen? ⟨b1,n,none⟩=false/\b1 < W.heap.size:=fun W hW=>⟨(h'.over hW).vars n _ (by simp [hn]),(h'.over hW).z1 n,(h'.over hW).hi.2.1⟩
 obtain ⟨y,hy⟩:=nm (st.vars[n])
 rw [<-hy] at hvw
 have HVW:=Aa hvw
 rw [<-hvl] at c1 hnv
 rw [<-hvx] at KV HR ⊢
 clear h h' hx ho hi hvl hvx hvw hy hn hm
 go_enter Tryz.func184,Tryz.ntmps184
 go_wp2_with fail
 go_region_held3 (Mp br b1 vl w n ek ex pa pl pc) (first | assumption | exact ⟨c1,s1,s3,s4,s5⟩ | exact H8 (by assumption) hbp | exact JF (by assumption) (CI (n:=0)) nr nb | fail) (first | (go_at_call 222;refine (KV.o).mono ?_;rintro e wp ⟨rfl,hbp⟩;obtain ⟨u0,uz,ul⟩:=HVW.o _ hbp))
 have HE:=Aa (HR.o _ hbp)
 go_wp2_with fail
 go_ret
 exact ⟨rfl,HE.o⟩
theorem PE (m:Int) (ga gn gc sa sn sc ya yn yc oa on oc va vn vc fa fn fc ba bn bc xa xn xc) (F fln c3:Nat) (B br b1 b2 b3:Nat) (fl) {I:BS} (dp:Nat) (st:RSt) (ev:Ow) (n:Nat) (so ek ex:Int) (pa pl pc aa al ac ta tl tc ea el ec) (a:Int) (ins) (w0 w:World) (h:RnG I B [U zd m,O ga gn gc,O sa sn sc,O ya yn yc,O oa on oc,O va vn vc,O fa fn fc,O ba bn bc,O xa xn xc,U zd (F:Int),O (some ⟨b3,0,none⟩) fln c3] br b1 b2 b3 fl dp st ev w) (hB0:Ov w0 w) (hBB:w0.heap.size<=b2) (hl:Bi w0 (O xa xn xc) ins) (h0:0<=so) (h1:so < ins.length) (h2:ins.length=st.taken.length) (h3:∀ x∈st.taken,0<=x/\x<=2000) (h4:∀ x∈ins,x.length<=100) (hn:n < st.vars.length) (hm:st.vars.length<=16) :
  Calls Tryz.prog 184 #[zi (some ⟨br,0,none⟩),zh #[U zd 3,U zd (n:Int),U zd so,U zd ek,U zd ex,O pa pl pc,O aa al ac,O ta tl tc,O ea el ec],U zd a] w fun e w'=>e=zj (zg true)/\RnG I B [U zd m,O ga gn gc,O sa sn sc,O ya yn yc,O oa on oc,O va vn vc,O fa fn fc,O ba bn bc,O xa xn xc,U zd (F:Int),O (some ⟨b3,0,none⟩) fln c3] br b1 b2 b3 fl dp ((st.took so).setv (n:Int) (Dh ins st so)) ev w'/\Fr br b1 b2 ev ev w w':=by
 have hbel:Ov w (w.alloc (ze #[U zd 3,U zd (n:Int),U zd so,U zd ek,U zd ex,O pa pl pc,O aa al ac,O ta tl tc,O ea el ec] 130)):=bA w _
 have h':=(h.over hbel).drewN 1
 have KV:=Aa (Lv m ga gn gc sa sn sc ya yn yc oa on oc va vn vc fa fn fc ba bn bc xa xn xc F fln c3 B br b1 b2 b3 fl dp st ev ins so w0 (w.alloc (ze #[U zd 3,U zd (n:Int),U zd so,U zd ek,U zd ex,O pa pl pc,O aa al ac,O ta tl tc,O ea el ec] 130)).drew (hB0.trans (hbel.drew.mono hB0.size)) h' hBB hl h0 h1 h2 h3 h4)
 have hvl2:(st.took so).vars=st.vars:=rfl
 have HR:Hx (∀ W,RnG I B [U zd m,O ga gn gc,O sa sn sc,O ya yn yc,O oa on oc,O va vn vc,O fa fn fc,O ba bn bc,O xa xn xc,U zd (F:Int),O (some ⟨b3,0,none⟩) fln c3] br b1 b2 b3 fl dp (st.took so) ev W->Fr br b1 b2 ev ev (w.alloc (ze #[U zd 3,U zd (n:Int),U zd so,U zd ek,U zd ex,O pa pl pc,O aa al ac,O ta tl tc,O ea el ec] 130)).drew W->RnG I B [U zd m,O ga gn gc,O sa sn sc,O ya yn yc,O oa on oc,O va vn vc,O fa fn fc,O ba bn bc,O xa xn xc,U zd (F:Int),O (some ⟨b3,0,none⟩) fln c3] br b1 b2 b3 fl dp ((st.took so).setv (n:Int) (Dh ins st so)) ev (W.setCell ⟨b1,n,none⟩ (U zd (Dh ins st so)))/\Fr br b1 b2 ev ev w (W.setCell ⟨b1,n,none⟩ (U zd (Dh ins st so)))):=fun W hW hF=>by
  have r:=hW.setVar (n:Int) (Dh ins st so) (by rw [hvl2];simpa using hn)
  exact ⟨by simpa using r,(Fr.of_below hbel.drew).trans (hF.trans (Ei hW _ _))⟩
 have c1:=h'.row 1 _ rfl
 have hnv:(n:Int) < (st.vars.length:Int):=by omega
 have nb:w.heap.size≠b1:=by have:=h.hi;omega
 have nb2:w.heap.size≠b2:=by have:=h.hi;omega
 have nr:br≠b1:=h.apart.1
 have nr2:br≠b2:=h.apart.2.1
 obtain ⟨s0,s1,s2,s3,s4,s5,s6,s7,s8⟩:=rc9 (BC w [U zd 3,U zd (n:Int),U zd so,U zd ek,U zd ex,O pa pl pc,O aa al ac,O ta tl tc,O ea el ec] 130)
 obtain ⟨vl,hvl⟩:=nm st.vars.length
 obtain ⟨vx,hvx⟩:=nm (Dh ins st so)
 have hvw:∀ W,RnG I B [U zd m,O ga gn gc,O sa sn sc,O ya yn yc,O oa on oc,O va vn vc,O fa fn fc,O ba bn bc,O xa xn xc,U zd (F:Int),O (some ⟨b3,0,none⟩) fln c3] br b1 b2 b3 fl dp (st.took so) ev W->CE W b1 n (U zd st.vars[n])/\W.frozen? ⟨b1,n,none⟩=false/\b1 < W.heap.size:=fun W hW=>⟨hW.vars n _ (by simp [hvl2,hn]),hW.z1 n,hW.hi.2.1⟩
 obtain ⟨y,hy⟩:=nm (st.vars[n])
 rw [<-hy] at hvw
 have HVW:=Aa hvw
 rw [<-hvl] at c1 hnv
 rw [<-hvx] at KV HR ⊢
 clear h h' hl h0 h1 h2 h3 h4 hvl hvx hvw hy hn hm hB0 hBB hvl2
 go_enter Tryz.func184,Tryz.ntmps184
 go_wp2_with fail
 go_region_held3 (fun W=>W.cell? ⟨br,1,none⟩=some (O (some ⟨b1,0,none⟩) vl vl)/\W.cell? ⟨w.heap.size,1,none⟩=some (U zd (n:Int))/\W.cell? ⟨w.heap.size,2,none⟩=some (U zd so)) (first | assumption | exact ⟨c1,s1,s2⟩ | exact M4 (by assumption) hgp nr2 nb2 | exact M4 (by assumption) (CI (n:=0)) nr nb | fail) (first | (go_at_call 224;refine (KV.o).mono ?_;rintro e wp ⟨rfl,hrn,hfr,hgp⟩;obtain ⟨u0,uz,ul⟩:=HVW.o _ hrn))
 have HE:=Aa (HR.o _ hrn hfr)
 go_wp2_with fail
 go_ret
 exact ⟨rfl,HE.o⟩
abbrev Pb (b j0:Nat) (v0:Value) (j1:Nat) (v1:Value) (j2:Nat) (v2:Value) (j3:Nat) (v3:Value) (Wz:World):Prop:=Wz.cell? ⟨b,j0,none⟩=some v0/\CE Wz b j1 v1/\CE Wz b j2 v2/\CE Wz b j3 v3
theorem Qj {B:Nat} {R:List Value} {br b1 b2 b3:Nat} {fl:List Int} {I:BS} {dp:Nat} {st:RSt} {ev ev':Ow} {w0 w w':World} {b j0 j1 j2 j3:Nat} {v0 v1 v2 v3:Value} (hR:RnG I B R br b1 b2 b3 fl dp st ev w0) (hb:w0.heap.size<=b) (f:Fr br b1 b2 ev ev' w w')
  (h:Pb b j0 v0 j1 v1 j2 v2 j3 v3 w):Pb b j0 v0 j1 v1 j2 v2 j3 v3 w':=
 ⟨hR.box f hb h.1,hR.box f hb h.2.1,hR.box f hb h.2.2.1,hR.box f hb h.2.2.2⟩
theorem PD (m:Int) (ga gn gc sa sn sc ya yn yc oa on oc va vn vc fa fn fc ba bn bc xa xn xc) (F fln c3:Nat) (B br b1 b2 b3:Nat) (fl) {I:BS} (dp:Nat) (st:RSt) (ev:Ow) (K:Nat) (d) (sv:Int) (so ek ex:Int) (pa pl pc) (aa al ac ta tl tc ea el ec) (a:Int) (w:World) (h:RnG I B [U zd m,O ga gn gc,O sa sn sc,O ya yn yc,O oa on oc,O va vn vc,O fa fn fc,O ba bn bc,O xa xn xc,U zd (F:Int),O (some ⟨b3,0,none⟩) fln c3] br b1 b2 b3 fl dp st ev w) (hx:RX w K [U zd ek,U zd ex,O pa pl pc] d) (ho:okX st.vars.length K d) (hi:∀ x∈st.vars,I32 x) (hl:st.ev.length<=2000) :
  Calls Tryz.prog 184 #[zi (some ⟨br,0,none⟩),zh #[U zd 4,U zd sv,U zd so,U zd ek,U zd ex,O pa pl pc,O aa al ac,O ta tl tc,O ea el ec],U zd a] w fun e w'=>e=zj (zg true)/\∃ ev',RnG I B [U zd m,O ga gn gc,O sa sn sc,O ya yn yc,O oa on oc,O va vn vc,O fa fn fc,O ba bn bc,O xa xn xc,U zd (F:Int),O (some ⟨b3,0,none⟩) fln c3] br b1 b2 b3 fl dp (st.tell (1,a,so,AB st.vars K d)) ev' w'/\Fr br b1 b2 ev ev' w w':=by
 have hbel:Ov w (w.alloc (ze #[U zd 4,U zd sv,U zd so,U zd ek,U zd ex,O pa pl pc,O aa al ac,O ta tl tc,O ea el ec] 130)):=bA w _
 have h':=(h.over hbel).drewN 1
 have KV:=Aa (B1 m ga gn gc sa sn sc ya yn yc oa on oc va vn vc fa fn fc ba bn bc xa xn xc F fln c3 B br b1 b2 b3 fl dp st ev K _ d (w.alloc (ze #[U zd 4,U zd sv,U zd so,U zd ek,U zd ex,O pa pl pc,O aa al ac,O ta tl tc,O ea el ec] 130)).drew h' (hx.over hbel.drew) ho hi)
 have KT:=Aa fun W (hW:RnG I B [U zd m,O ga gn gc,O sa sn sc,O ya yn yc,O oa on oc,O va vn vc,O fa fn fc,O ba bn bc,O xa xn xc,U zd (F:Int),O (some ⟨b3,0,none⟩) fln c3] br b1 b2 b3 fl dp st ev W)=>Fa m ga gn gc sa sn sc ya yn yc oa on oc va vn vc fa fn fc ba bn bc xa xn xc F fln c3 B br b1 b2 b3 fl dp st ev 1 a so (AB st.vars K d) W hW hl
 have H0:=Aa h
 have HO:=Aa h'
 obtain ⟨s0,s1,s2,s3,s4,s5,s6,s7,s8⟩:=rc9 (BC w [U zd 4,U zd sv,U zd so,U zd ek,U zd ex,O pa pl pc,O aa al ac,O ta tl tc,O ea el ec] 130)
 obtain ⟨vx,hvx⟩:=nm (AB st.vars K d)
 rw [<-hvx] at KV KT ⊢
 clear h h' hx ho hi hvx hl
 go_enter Tryz.func184,Tryz.ntmps184
 go_wp2_with fail
 go_region_held3 (fun W=>W.cell? ⟨w.heap.size,2,none⟩=some (U zd so)/\W.cell? ⟨w.heap.size,3,none⟩=some (U zd ek)/\W.cell? ⟨w.heap.size,4,none⟩=some (U zd ex)/\W.cell? ⟨w.heap.size,5,none⟩=some (O pa pl pc)) (first | assumption | exact ⟨s2,s3,s4,s5⟩ | exact Qk (by assumption) hbp | exact Qj H0.o (Nat.le_refl _) hft (by assumption) | fail) (first | (go_at_call 222;refine (KV.o).mono ?_;rintro e wp ⟨rfl,hbp⟩) | (go_at_call 225;refine (KT.o _ (HO.o.over hbp)).mono ?_;rintro e wt ⟨rfl,ev',hrt,hft⟩))
 have HE:=Aa (And.intro hrt ((Fr.of_below (ev:=ev) (br:=br) (b1:=b1) (b2:=b2) hbel.drew).trans ((Fr.of_below hbp).trans hft)))
 go_wp2_with fail
 go_ret
 exact ⟨rfl,ev',HE.o⟩
abbrev Kl (b1 n:Nat) (vx:Int) (br vl:Nat) (w:World) (Wz:World):Prop:=Wz.cell? ⟨b1,n,none⟩=some (U zd vx)/\CE Wz br 1 (O (some ⟨b1,0,none⟩) vl vl)/\CE Wz w.heap.size 1 (U zd (n:Int))
theorem PC (m:Int) (ga gn gc sa sn sc ya yn yc oa on oc va vn vc fa fn fc ba bn bc xa xn xc) (F fln c3:Nat) (B br b1 b2 b3:Nat) (fl) {I:BS} (dp:Nat) (st:RSt) (ev:Ow) (K:Nat) (d) (n:Nat) (so ek ex:Int) (pa pl pc) (aa al ac ta tl tc ea el ec) (a:Int) (w:World) (h:RnG I B [U zd m,O ga gn gc,O sa sn sc,O ya yn yc,O oa on oc,O va vn vc,O fa fn fc,O ba bn bc,O xa xn xc,U zd (F:Int),O (some ⟨b3,0,none⟩) fln c3] br b1 b2 b3 fl dp st ev w) (hx:RX w K [U zd ek,U zd ex,O pa pl pc] d) (ho:okX st.vars.length K d) (hi:∀ x∈st.vars,I32 x) (hn:n < st.vars.length) (hm:st.vars.length<=16) (hl:st.ev.length<=2000) :
  Calls Tryz.prog 184 #[zi (some ⟨br,0,none⟩),zh #[U zd 5,U zd (n:Int),U zd so,U zd ek,U zd ex,O pa pl pc,O aa al ac,O ta tl tc,O ea el ec],U zd a] w fun e w'=>e=zj (zg true)/\∃ ev',RnG I B [U zd m,O ga gn gc,O sa sn sc,O ya yn yc,O oa on oc,O va vn vc,O fa fn fc,O ba bn bc,O xa xn xc,U zd (F:Int),O (some ⟨b3,0,none⟩) fln c3] br b1 b2 b3 fl dp ((st.setv (n:Int) (AB st.vars K d)).tell (2,a,(n:Int),AB st.vars K d)) ev' w'/\Fr br b1 b2 ev ev' w w':=by
 have hbel:Ov w (w.alloc (ze #[U zd 5,U zd (n:Int),U zd so,U zd ek,U zd ex,O pa pl pc,O aa al ac,O ta tl tc,O ea el ec] 130)):=bA w _
 have h':=(h.over hbel).drewN 1
 have KV:=Aa (B1 m ga gn gc sa sn sc ya yn yc oa on oc va vn vc fa fn fc ba bn bc xa xn xc F fln c3 B br b1 b2 b3 fl dp st ev K _ d (w.alloc (ze #[U zd 5,U zd (n:Int),U zd so,U zd ek,U zd ex,O pa pl pc,O aa al ac,O ta tl tc,O ea el ec] 130)).drew h' (hx.over hbel.drew) ho hi)
 have KT:=Aa fun W (hW:RnG I B [U zd m,O ga gn gc,O sa sn sc,O ya yn yc,O oa on oc,O va vn vc,O fa fn fc,O ba bn bc,O xa xn xc,U zd (F:Int),O (some ⟨b3,0,none⟩) fln c3] br b1 b2 b3 fl dp (st.setv (n:Int) (AB st.vars K d)) ev W)=>Fa m ga gn gc sa sn sc ya yn yc oa on oc va vn vc fa fn fc ba bn bc xa xn xc F fln c3 B br b1 b2 b3 fl dp (st.setv (n:Int) (AB st.vars K d)) ev 2 a (n:Int) (AB st.vars K d) W hW hl
 have hvs:(st.setv (n:Int) (AB st.vars K d)).vars.length=st.vars.length:=by simp [RSt.setv]
 have HR:Hx (∀ W,Below (w.alloc (ze #[U zd 5,U zd (n:Int),U zd so,U zd ek,U zd ex,O pa pl pc,O aa al ac,O ta tl tc,O ea el ec] 130)).drew.heap.size (w.alloc (ze #[U zd 5,U zd (n:Int),U zd so,U zd ek,U zd ex,O pa pl pc,O aa al ac,O ta tl tc,O ea el ec] 130)).drew W->RnG I B [U zd m,O ga gn gc,O sa sn sc,O ya yn yc,O oa on oc,O va vn vc,O fa fn fc,O ba bn bc,O xa xn xc,U zd (F:Int),O (some ⟨b3,0,none⟩) fln c3] br b1 b2 b3 fl dp (st.setv (n:Int) (AB st.vars K d)) ev (W.setCell ⟨b1,n,none⟩ (U zd (AB st.vars K d)))/\Fr br b1 b2 ev ev w (W.setCell ⟨b1,n,none⟩ (U zd (AB st.vars K d)))/\CE (W.setCell ⟨b1,n,none⟩ (U zd (AB st.vars K d))) b1 n (U zd (AB st.vars K d))/\CE (W.setCell ⟨b1,n,none⟩ (U zd (AB st.vars K d))) br 1 (O (some ⟨b1,0,none⟩) st.vars.length st.vars.length)):=fun W hW=>by
  have r:=(h'.over hW).setVar (n:Int) (AB st.vars K d) (by simpa using hn)
  rw [Int.toNat_natCast] at r
  refine ⟨r,(Fr.of_below hbel.drew).trans ((Fr.of_below hW).trans (Ei (h'.over hW) _ _)),r.vars n _ (by simp [RSt.setv,hn]),?_⟩
  have r1:=r.row 1 _ rfl
  rw [hvs] at r1
  exact r1
 have H0:=Aa h
 have c1:=h'.row 1 _ rfl
 have hnv:(n:Int) < (st.vars.length:Int):=by omega
 have nb:w.heap.size≠b1:=by have:=h.hi;omega
 have nr:br≠b1:=h.apart.1
 obtain ⟨s0,s1,s2,s3,s4,s5,s6,s7,s8⟩:=rc9 (BC w [U zd 5,U zd (n:Int),U zd so,U zd ek,U zd ex,O pa pl pc,O aa al ac,O ta tl tc,O ea el ec] 130)
 obtain ⟨vl,hvl⟩:=nm st.vars.length
 obtain ⟨vx,hvx⟩:=nm (AB st.vars K d)
 have hvw:∀ W,Below (w.alloc (ze #[U zd 5,U zd (n:Int),U zd so,U zd ek,U zd ex,O pa pl pc,O aa al ac,O ta tl tc,O ea el ec] 130)).drew.heap.size (w.alloc (ze #[U zd 5,U zd (n:Int),U zd so,U zd ek,U zd ex,O pa pl pc,O aa al ac,O ta tl tc,O ea el ec] 130)).drew W->CE W b1 n (U zd st.vars[n])/\W.frozen? ⟨b1,n,none⟩=false/\b1 < W.heap.size:=fun W hW=>⟨(h'.over hW).vars n _ (by simp [hn]),(h'.over hW).z1 n,(h'.over hW).hi.2.1⟩
 obtain ⟨y,hy⟩:=nm (st.vars[n])
 rw [<-hy] at hvw
 have HVW:=Aa hvw
 have HKK:Hx (∀ W ev' w3,RnG I B [U zd m,O ga gn gc,O sa sn sc,O ya yn yc,O oa on oc,O va vn vc,O fa fn fc,O ba bn bc,O xa xn xc,U zd (F:Int),O (some ⟨b3,0,none⟩) fln c3] br b1 b2 b3 fl dp ((st.setv (n:Int) (AB st.vars K d)).tell (2,a,(n:Int),AB st.vars K d)) ev' W->Fr br b1 b2 ev ev' (World.drew w3) W->CE w3 w.heap.size 1 (U zd (n:Int))->(CE W b1 n (U zd (AB st.vars K d))/\CE W br 1 (O (some ⟨b1,0,none⟩) st.vars.length st.vars.length)/\CE W w.heap.size 1 (U zd (n:Int)))):=fun W ev' w3 hr hf ht=>by
  refine ⟨hr.vars n _ (by simp [RSt.tell,RSt.setv,hn]),?_,H0.o.box hf (Nat.le_refl _) ht⟩
  have r1:=hr.row 1 _ rfl
  have e2:((st.setv (n:Int) (AB st.vars K d)).tell (2,a,(n:Int),AB st.vars K d)).vars.length=st.vars.length:=hvs
  rw [e2] at r1
  exact r1
 rw [<-hvl] at c1 hnv HR HKK
 rw [<-hvx] at KV HR KT HKK ⊢
 clear h h' hx ho hi hvl hvx hvw hy hn hm hl hvs
 go_enter Tryz.func184,Tryz.ntmps184
 go_wp2_with fail
 go_region_held3 (Mp br b1 vl w n ek ex pa pl pc) (first | assumption | exact ⟨c1,s1,s3,s4,s5⟩ | exact H8 (by assumption) hbp | exact JF (by assumption) (CI (n:=0)) nr nb | fail) (first | (go_at_call 222;refine (KV.o).mono ?_;rintro e wp ⟨rfl,hbp⟩;obtain ⟨u0,uz,ul⟩:=HVW.o _ hbp))
 obtain ⟨h1,h2,h3,h4⟩:=HR.o _ hbp
 have hs5:=(by assumption:_/\_/\_/\_/\_)
 have t1:=hs5.2.1
 have H1:=Aa h1
 have H2:=Aa h2
 clear h1 h2 hs5 u0 uz
 obtain ⟨w3,hw3⟩:=nm (wp.setCell ⟨b1,n,none⟩ (U zd vx))
 simp only [<-hw3] at h3 h4 t1 H1 H2 ⊢
 clear hw3
 have KK:Hx (∀ W ev',RnG I B [U zd m,O ga gn gc,O sa sn sc,O ya yn yc,O oa on oc,O va vn vc,O fa fn fc,O ba bn bc,O xa xn xc,U zd (F:Int),O (some ⟨b3,0,none⟩) fln c3] br b1 b2 b3 fl dp ((st.setv (n:Int) vx).tell (2,a,(n:Int),vx)) ev' W->Fr br b1 b2 ev ev' w3.drew W->(Kl b1 n vx br vl w W)):=fun W ev' hr hf=>HKK.o W ev' w3 hr hf t1
 go_wp2_with fail
 go_region_held3 (Kl b1 n vx br vl w) (first | assumption | exact ⟨h3,h4,t1⟩ | exact KK.o _ _ hrt hft | fail) (first | (go_at_call 225;refine (KT.o _ (by first | exact H1.o | exact H1.o.drewN 1)).mono ?_;rintro e wt ⟨rfl,ev',hrt,hft⟩))
 go_wp2_with fail
 go_ret
 exact ⟨rfl,ev',hrt,H2.o.trans (Fr.drewN 1 hft)⟩
theorem PB (m:Int) (ga gn gc sa sn sc ya yn yc oa on oc va vn vc fa fn fc ba bn bc xa xn xc) (F fln c3:Nat) (B br b1 b2 b3:Nat) (fl) {I:BS} (dp:Nat) (st:RSt) (ev:Ow) (K:Nat) (d) (n:Nat) (so ek ex:Int) (pa pl pc) (aa al ac ta tl tc ea el ec) (a:Int) (w:World) (h:RnG I B [U zd m,O ga gn gc,O sa sn sc,O ya yn yc,O oa on oc,O va vn vc,O fa fn fc,O ba bn bc,O xa xn xc,U zd (F:Int),O (some ⟨b3,0,none⟩) fln c3] br b1 b2 b3 fl dp st ev w) (hx:RX w K [U zd ek,U zd ex,O pa pl pc] d) (ho:okX st.vars.length K d) (hi:∀ x∈st.vars,I32 x) (hn:n < st.vars.length) (hm:st.vars.length<=16) (hl:st.ev.length<=2000) :
  Calls Tryz.prog 184 #[zi (some ⟨br,0,none⟩),zh #[U zd 6,U zd (n:Int),U zd so,U zd ek,U zd ex,O pa pl pc,O aa al ac,O ta tl tc,O ea el ec],U zd a] w fun e w'=>e=zj (zg true)/\∃ ev',RnG I B [U zd m,O ga gn gc,O sa sn sc,O ya yn yc,O oa on oc,O va vn vc,O fa fn fc,O ba bn bc,O xa xn xc,U zd (F:Int),O (some ⟨b3,0,none⟩) fln c3] br b1 b2 b3 fl dp ((st.setv (n:Int) (AB st.vars K d)).tell (3,a,(n:Int),AB st.vars K d)) ev' w'/\Fr br b1 b2 ev ev' w w':=by
 have hbel:Ov w (w.alloc (ze #[U zd 6,U zd (n:Int),U zd so,U zd ek,U zd ex,O pa pl pc,O aa al ac,O ta tl tc,O ea el ec] 130)):=bA w _
 have h':=(h.over hbel).drewN 1
 have KV:=Aa (B1 m ga gn gc sa sn sc ya yn yc oa on oc va vn vc fa fn fc ba bn bc xa xn xc F fln c3 B br b1 b2 b3 fl dp st ev K _ d (w.alloc (ze #[U zd 6,U zd (n:Int),U zd so,U zd ek,U zd ex,O pa pl pc,O aa al ac,O ta tl tc,O ea el ec] 130)).drew h' (hx.over hbel.drew) ho hi)
 have KT:=Aa fun W (hW:RnG I B [U zd m,O ga gn gc,O sa sn sc,O ya yn yc,O oa on oc,O va vn vc,O fa fn fc,O ba bn bc,O xa xn xc,U zd (F:Int),O (some ⟨b3,0,none⟩) fln c3] br b1 b2 b3 fl dp (st.setv (n:Int) (AB st.vars K d)) ev W)=>Fa m ga gn gc sa sn sc ya yn yc oa on oc va vn vc fa fn fc ba bn bc xa xn xc F fln c3 B br b1 b2 b3 fl dp (st.setv (n:Int) (AB st.vars K d)) ev 3 a (n:Int) (AB st.vars K d) W hW hl
 have hvs:(st.setv (n:Int) (AB st.vars K d)).vars.length=st.vars.length:=by simp [RSt.setv]
 have HR:Hx (∀ W,Below (w.alloc (ze #[U zd 6,U zd (n:Int),U zd so,U zd ek,U zd ex,O pa pl pc,O aa al ac,O ta tl tc,O ea el ec] 130)).drew.heap.size (w.alloc (ze #[U zd 6,U zd (n:Int),U zd so,U zd ek,U zd ex,O pa pl pc,O aa al ac,O ta tl tc,O ea el ec] 130)).drew W->RnG I B [U zd m,O ga gn gc,O sa sn sc,O ya yn yc,O oa on oc,O va vn vc,O fa fn fc,O ba bn bc,O xa xn xc,U zd (F:Int),O (some ⟨b3,0,none⟩) fln c3] br b1 b2 b3 fl dp (st.setv (n:Int) (AB st.vars K d)) ev (W.setCell ⟨b1,n,none⟩ (U zd (AB st.vars K d)))/\Fr br b1 b2 ev ev w (W.setCell ⟨b1,n,none⟩ (U zd (AB st.vars K d)))/\CE (W.setCell ⟨b1,n,none⟩ (U zd (AB st.vars K d))) b1 n (U zd (AB st.vars K d))/\CE (W.setCell ⟨b1,n,none⟩ (U zd (AB st.vars K d))) br 1 (O (some ⟨b1,0,none⟩) st.vars.length st.vars.length)):=fun W hW=>by
  have r:=(h'.over hW).setVar (n:Int) (AB st.vars K d) (by simpa using hn)
  rw [Int.toNat_natCast] at r
  refine ⟨r,(Fr.of_below hbel.drew).trans ((Fr.of_below hW).trans (Ei (h'.over hW) _ _)),r.vars n _ (by simp [RSt.setv,hn]),?_⟩
  have r1:=r.row 1 _ rfl
  rw [hvs] at r1
  exact r1
 have H0:=Aa h
 have c1:=h'.row 1 _ rfl
 have hnv:(n:Int) < (st.vars.length:Int):=by omega
 have nb:w.heap.size≠b1:=by have:=h.hi;omega
 have nr:br≠b1:=h.apart.1
 obtain ⟨s0,s1,s2,s3,s4,s5,s6,s7,s8⟩:=rc9 (BC w [U zd 6,U zd (n:Int),U zd so,U zd ek,U zd ex,O pa pl pc,O aa al ac,O ta tl tc,O ea el ec] 130)
 obtain ⟨vl,hvl⟩:=nm st.vars.length
 obtain ⟨vx,hvx⟩:=nm (AB st.vars K d)
 have hvw:∀ W,Below (w.alloc (ze #[U zd 6,U zd (n:Int),U zd so,U zd ek,U zd ex,O pa pl pc,O aa al ac,O ta tl tc,O ea el ec] 130)).drew.heap.size (w.alloc (ze #[U zd 6,U zd (n:Int),U zd so,U zd ek,U zd ex,O pa pl pc,O aa al ac,O ta tl tc,O ea el ec] 130)).drew W->CE W b1 n (U zd st.vars[n])/\W.frozen? ⟨b1,n,none⟩=false/\b1 < W.heap.size:=fun W hW=>⟨(h'.over hW).vars n _ (by simp [hn]),(h'.over hW).z1 n,(h'.over hW).hi.2.1⟩
 obtain ⟨y,hy⟩:=nm (st.vars[n])
 rw [<-hy] at hvw
 have HVW:=Aa hvw
 have HKK:Hx (∀ W ev' w3,RnG I B [U zd m,O ga gn gc,O sa sn sc,O ya yn yc,O oa on oc,O va vn vc,O fa fn fc,O ba bn bc,O xa xn xc,U zd (F:Int),O (some ⟨b3,0,none⟩) fln c3] br b1 b2 b3 fl dp ((st.setv (n:Int) (AB st.vars K d)).tell (3,a,(n:Int),AB st.vars K d)) ev' W->Fr br b1 b2 ev ev' (World.drew w3) W->CE w3 w.heap.size 1 (U zd (n:Int))->(CE W b1 n (U zd (AB st.vars K d))/\CE W br 1 (O (some ⟨b1,0,none⟩) st.vars.length st.vars.length)/\CE W w.heap.size 1 (U zd (n:Int)))):=fun W ev' w3 hr hf ht=>by
  refine ⟨hr.vars n _ (by simp [RSt.tell,RSt.setv,hn]),?_,H0.o.box hf (Nat.le_refl _) ht⟩
  have r1:=hr.row 1 _ rfl
  have e2:((st.setv (n:Int) (AB st.vars K d)).tell (3,a,(n:Int),AB st.vars K d)).vars.length=st.vars.length:=hvs
  rw [e2] at r1
  exact r1
 rw [<-hvl] at c1 hnv HR HKK
 rw [<-hvx] at KV HR KT HKK ⊢
 clear h h' hx ho hi hvl hvx hvw hy hn hm hl hvs
 go_enter Tryz.func184,Tryz.ntmps184
 go_wp2_with fail
 go_region_held3 (Mp br b1 vl w n ek ex pa pl pc) (first | assumption | exact ⟨c1,s1,s3,s4,s5⟩ | exact H8 (by assumption) hbp | exact JF (by assumption) (CI (n:=0)) nr nb | fail) (first | (go_at_call 222;refine (KV.o).mono ?_;rintro e wp ⟨rfl,hbp⟩;obtain ⟨u0,uz,ul⟩:=HVW.o _ hbp))
 obtain ⟨h1,h2,h3,h4⟩:=HR.o _ hbp
 have hs5:=(by assumption:_/\_/\_/\_/\_)
 have t1:=hs5.2.1
 have H1:=Aa h1
 have H2:=Aa h2
 clear h1 h2 hs5 u0 uz
 obtain ⟨w3,hw3⟩:=nm (wp.setCell ⟨b1,n,none⟩ (U zd vx))
 simp only [<-hw3] at h3 h4 t1 H1 H2 ⊢
 clear hw3
 have KK:Hx (∀ W ev',RnG I B [U zd m,O ga gn gc,O sa sn sc,O ya yn yc,O oa on oc,O va vn vc,O fa fn fc,O ba bn bc,O xa xn xc,U zd (F:Int),O (some ⟨b3,0,none⟩) fln c3] br b1 b2 b3 fl dp ((st.setv (n:Int) vx).tell (3,a,(n:Int),vx)) ev' W->Fr br b1 b2 ev ev' w3.drew W->(Kl b1 n vx br vl w W)):=fun W ev' hr hf=>HKK.o W ev' w3 hr hf t1
 go_wp2_with fail
 go_region_held3 (Kl b1 n vx br vl w) (first | assumption | exact ⟨h3,h4,t1⟩ | exact KK.o _ _ hrt hft | fail) (first | (go_at_call 225;refine (KT.o _ (by first | exact H1.o | exact H1.o.drewN 1)).mono ?_;rintro e wt ⟨rfl,ev',hrt,hft⟩))
 go_wp2_with fail
 go_ret
 exact ⟨rfl,ev',hrt,H2.o.trans (Fr.drewN 1 hft)⟩
theorem Ec {w:World} {m k:Nat} {cs:List Value} {d:D} (h:RX w k cs d) (hc:Az m k d=0):okX m k d:=by
 unfold Az at hc
 split at hc
 ·omega
 ·exact MT k cs d h (C6 hc)
def Fv (I:BS) (m:Int) (ga:Option Addr) (gn gc:Nat) (sa:Option Addr) (sn sc:Nat) (ya:Option Addr) (yn yc:Nat) (oa:Option Addr) (on oc:Nat) (va:Option Addr) (vn vc:Nat) (fa:Option Addr) (fn fc:Nat) (ba:Option Addr) (bn bc:Nat) (xa:Option Addr) (xn xc:Nat) (F fln c3:Nat) (B br b1 b2 b3:Nat) (fl:List Int) (dp:Nat) (r:Bool × RSt) (ev:Ow) (w:World) (e:Ending) (w':World):Prop:=
 e=zj (zg r.1)/\(∃ ev',RnG I B [U zd m,O ga gn gc,O sa sn sc,O ya yn yc,O oa on oc,O va vn vc,O fa fn fc,O ba bn bc,O xa xn xc,U zd (F:Int),O (some ⟨b3,0,none⟩) fln c3] br b1 b2 b3 fl dp r.2 ev' w'/\Fr br b1 b2 ev ev' w w')/\Bc vn yn F r.2
def Rg (I:BS) (m:Int) (ga:Option Addr) (gn gc:Nat) (sa:Option Addr) (sn sc:Nat) (ya:Option Addr) (yn yc:Nat) (oa:Option Addr) (on oc:Nat) (va:Option Addr) (vn vc:Nat) (fa:Option Addr) (fn fc:Nat) (ba:Option Addr) (bn bc:Nat) (xa:Option Addr) (xn xc:Nat) (F fln c3:Nat) (B br b1 b2 b3:Nat) (fl:List Int) (dp:Nat) (r:Bool × RSt) (ev:Ow) (w:World) (e:Ending) (w':World):Prop:=
 e=zj (zg r.1)/\(∃ ev',RnG I B [U zd m,O ga gn gc,O sa sn sc,O ya yn yc,O oa on oc,O va vn vc,O fa fn fc,O ba bn bc,O xa xn xc,U zd (F:Int),O (some ⟨b3,0,none⟩) fln c3] br b1 b2 b3 fl dp r.2 ev' w'/\Fr br b1 b2 ev ev' w w')/\Bc vn yn F r.2/\I.ok (dp+1) r.2.o
theorem Ic (m:Int) (ga gn gc sa sn sc ya yn yc oa on oc va vn vc fa fn fc ba bn bc xa xn xc) (F fln c3:Nat) (B br b1 b2 b3:Nat) (fl) {I:BS} (dp:Nat) (st:RSt) (ev:Ow) (ta tl tc) (a:Int) (r:Bool × RSt) (w:World) (hdp:dp<=9000) (hok:I.ok (dp+1) st.o) (h:RnG I B [U zd m,O ga gn gc,O sa sn sc,O ya yn yc,O oa on oc,O va vn vc,O fa fn fc,O ba bn bc,O xa xn xc,U zd (F:Int),O (some ⟨b3,0,none⟩) fln c3] br b1 b2 b3 fl dp st ev w)
  (KT:Hx (∀ W,RnG I B [U zd m,O ga gn gc,O sa sn sc,O ya yn yc,O oa on oc,O va vn vc,O fa fn fc,O ba bn bc,O xa xn xc,U zd (F:Int),O (some ⟨b3,0,none⟩) fln c3] br b1 b2 b3 fl (dp+1) st ev W->Below B w W->Calls Tryz.prog 119 #[zi (some ⟨br,0,none⟩),O ta tl tc,U zd a] W (Fv I m ga gn gc sa sn sc ya yn yc oa on oc va vn vc fa fn fc ba bn bc xa xn xc F fln c3 B br b1 b2 b3 fl (dp+1) r ev W))) :
  Calls Tryz.prog 226 #[zi (some ⟨br,0,none⟩),O ta tl tc,U zd a] w (Rg I m ga gn gc sa sn sc ya yn yc oa on oc va vn vc fa fn fc ba bn bc xa xn xc F fln c3 B br b1 b2 b3 fl dp r ev w):=by
 have hr:∀ n,RnG I B [U zd m,O ga gn gc,O sa sn sc,O ya yn yc,O oa on oc,O va vn vc,O fa fn fc,O ba bn bc,O xa xn xc,U zd (F:Int),O (some ⟨b3,0,none⟩) fln c3] br b1 b2 b3 fl (dp+1) st ev ((w.drewN n).setCell ⟨br,17,none⟩ (U zd ((dp:Int)+1))):=fun n=>(h.drewN n).set0 17 _ rfl rfl rfl rfl hok (by simp) (by simp)
 have hf:∀ n,Fr br b1 b2 ev ev w ((w.drewN n).setCell ⟨br,17,none⟩ (U zd ((dp:Int)+1))):=fun n=>(DA (h.drewN n) _ _).drewN
 have KS:=Aa (KT.o _ (hr 0) (h.below (hf 0)))
 have HF:=Aa (hf 0)
 have c17:=h.row 17 _ rfl
 have z17:=h.z0 17
 have hl:=h.hi.1
 clear h KT hr hf hok
 obtain ⟨rb,rs⟩:=r
 go_enter Tryz.func226,Tryz.ntmps226
 go_wp2_with fail
 refine (KS.o).mono ?_
 rintro e w1 ⟨he,⟨ev',h1,hf1⟩,hn⟩
 dsimp only at he hn h1
 subst he
 have d17:=h1.row 17 _ rfl
 have y17:=h1.z0 17
 have hl1:=h1.hi.1
 have HOK:=Aa h1.okd
 have HR:Hx (∀ n,RnG I B [U zd m,O ga gn gc,O sa sn sc,O ya yn yc,O oa on oc,O va vn vc,O fa fn fc,O ba bn bc,O xa xn xc,U zd (F:Int),O (some ⟨b3,0,none⟩) fln c3] br b1 b2 b3 fl dp rs ev' ((w1.drewN n).setCell ⟨br,17,none⟩ (U zd (dp:Int)))/\Fr br b1 b2 ev' ev' w1 ((w1.drewN n).setCell ⟨br,17,none⟩ (U zd (dp:Int)))):=fun n=>⟨(h1.drewN n).set0 17 _ rfl rfl rfl rfl (I.less h1.okd) (by simp) (by simp),(DA (h1.drewN n) _ _).drewN⟩
 have HF1:=Aa hf1
 have HN:=Aa hn
 have d17':CE w1 br 17 (U zd ((dp:Int)+1)):=by simpa using d17
 clear h1 hf1 hn KS d17 c17
 go_wp2_with fail
 go_ret
 have hz:(dp:Int)+1 - 1=dp:=by omega
 exact ⟨rfl,⟨ev',(HR.o 0).1,HF.o.trans (HF1.o.trans (HR.o 0).2)⟩,HN.o,HOK.o⟩
theorem PA (m:Int) (ga gn gc sa sn sc ya yn yc oa on oc va vn vc fa fn fc ba bn bc xa xn xc) (F fln c3:Nat) (B br b1 b2 b3:Nat) (fl) {I:BS} (dp:Nat) (st:RSt) (ev:Ow) (K:Nat) (d) (sv:Int) (so ek ex:Int) (pa pl pc) (aa al ac ta tl tc ea el ec) (a:Int) (n1:Int) (rT rE:Bool × RSt) (w0 w:World) (h:RnG I B [U zd m,O ga gn gc,O sa sn sc,O ya yn yc,O oa on oc,O va vn vc,O fa fn fc,O ba bn bc,O xa xn xc,U zd (F:Int),O (some ⟨b3,0,none⟩) fln c3] br b1 b2 b3 fl dp st ev w) (hB0:Ov w0 w) (hx:RX w K [U zd ek,U zd ex,O pa pl pc] d) (ho:okX st.vars.length K d) (hi:∀ x∈st.vars,I32 x) (ha:0<=a/\a<=100) (hn1:0<=n1/\n1<=100)
  (KT:Hx (∀ W,RnG I B [U zd m,O ga gn gc,O sa sn sc,O ya yn yc,O oa on oc,O va vn vc,O fa fn fc,O ba bn bc,O xa xn xc,U zd (F:Int),O (some ⟨b3,0,none⟩) fln c3] br b1 b2 b3 fl dp st ev W->Ov w0 W->Calls Tryz.prog 226 #[zi (some ⟨br,0,none⟩),O ta tl tc,U zd (a+1)] W (Fv I m ga gn gc sa sn sc ya yn yc oa on oc va vn vc fa fn fc ba bn bc xa xn xc F fln c3 B br b1 b2 b3 fl dp rT ev W)))
  (KE:Hx (∀ W,RnG I B [U zd m,O ga gn gc,O sa sn sc,O ya yn yc,O oa on oc,O va vn vc,O fa fn fc,O ba bn bc,O xa xn xc,U zd (F:Int),O (some ⟨b3,0,none⟩) fln c3] br b1 b2 b3 fl dp st ev W->Ov w0 W->Calls Tryz.prog 226 #[zi (some ⟨br,0,none⟩),O ea el ec,U zd (a+1+n1)] W (Fv I m ga gn gc sa sn sc ya yn yc oa on oc va vn vc fa fn fc ba bn bc xa xn xc F fln c3 B br b1 b2 b3 fl dp rE ev W)))
  (KM:Hx (∀ W,Ov w0 W->Calls Tryz.prog 181 #[O ta tl tc] W fun e w'=>e=zj (U zd n1)/\Ov W w')) :
  Calls Tryz.prog 184 #[zi (some ⟨br,0,none⟩),zh #[U zd 7,U zd sv,U zd so,U zd ek,U zd ex,O pa pl pc,O aa al ac,O ta tl tc,O ea el ec],U zd a] w (Fv I m ga gn gc sa sn sc ya yn yc oa on oc va vn vc fa fn fc ba bn bc xa xn xc F fln c3 B br b1 b2 b3 fl dp (if AB st.vars K d=0 then rE else rT) ev w):=by
 have hbel:Ov w (w.alloc (ze #[U zd 7,U zd sv,U zd so,U zd ek,U zd ex,O pa pl pc,O aa al ac,O ta tl tc,O ea el ec] 130)):=bA w _
 have h':=h.over hbel
 have KV:=Aa fun W (hW:Ov w W)=>B1 m ga gn gc sa sn sc ya yn yc oa on oc va vn vc fa fn fc ba bn bc xa xn xc F fln c3 B br b1 b2 b3 fl dp st ev K _ d W (h.over hW) (hx.over hW) ho hi
 have H0:=Aa h
 obtain ⟨a1,a2⟩:=ha
 obtain ⟨a3,a4⟩:=hn1
 obtain ⟨s0,s1,s2,s3,s4,s5,s6,s7,s8⟩:=rc9 (BC w [U zd 7,U zd sv,U zd so,U zd ek,U zd ex,O pa pl pc,O aa al ac,O ta tl tc,O ea el ec] 130)
 obtain ⟨vx,hvx⟩:=nm (AB st.vars K d)
 rw [<-hvx] at KV ⊢
 clear h h' hx ho hi hvx
 by_cases hz:vx=0
 ·subst hz
  rw [if_pos rfl]
  go_enter Tryz.func184,Tryz.ntmps184
  go_wp2_with fail
  refine (KV.o _ hbel).mono ?_
  rintro e w1 ⟨rfl,hb1⟩
  obtain ⟨t7,t8⟩:=co2 hb1 s7 s8
  have hB1:=Ac hbel hb1
  have HB1:=Aa hB1
  have HM:=Aa (KM.o w1.drew (hB0.trans (hB1.drew.mono hB0.size)))
  have HE:=Aa fun W (hW:Ov w1.drew W)=>KE.o W ((H0.o.over hB1.drew).over hW) ((hB0.trans (hB1.drew.mono hB0.size)).trans (hW.mono (Nat.le_trans hB0.size hB1.size)))
  have HWR:Hx (IntKind.i64.wrap (IntKind.i64.wrap (a+1)+n1)=a+1+n1):=by
   show _=_
   rw [IntWalk.i64_in (a+1) (by omega),IntWalk.i64_in _ (by omega)]
  clear KV s0 s1 s2 s3 s4 s5 s6 s7 s8 hb1 hbel KT KM KE hB1 hB0
  obtain ⟨r1,r2⟩:=rE
  go_wp2_with fail
  go_region_held3 (fun W=>W.cell? ⟨w.heap.size,7,none⟩=some (O ta tl tc)/\W.cell? ⟨w.heap.size,8,none⟩=some (O ea el ec)) (first | assumption | exact ⟨t7,t8⟩ | exact ⟨Ab hbp _ _ (by assumption:_/\_).1,Ab hbp _ _ (by assumption:_/\_).2⟩ | exact ⟨H0.o.box hft (Nat.le_refl _) (by assumption:_/\_).1,H0.o.box hft (Nat.le_refl _) (by assumption:_/\_).2⟩ | fail) (first | (go_at_call 181;refine (HM.o).mono ?_;rintro e wp ⟨rfl,hbp⟩) | (go_at_call 226;rw [HWR.o];refine (HE.o _ hbp).mono ?_;rintro e wt ⟨he,⟨ev',hrt,hft⟩,hno⟩;subst he))
  have HF:=Aa (And.intro hrt ((Fr.of_below (ev:=ev) (br:=br) (b1:=b1) (b2:=b2) HB1.o.drew).trans ((Fr.of_below hbp).trans hft)))
  have HN:=Aa hno
  clear hrt hft hno
  go_wp2_with fail
  go_ret
  exact ⟨rfl,⟨ev',HF.o⟩,HN.o⟩
 ·rw [if_neg hz]
  have hzb:(vx == 0)=false:=by simpa using hz
  go_enter Tryz.func184,Tryz.ntmps184
  go_wp2_with fail
  refine (KV.o _ hbel).mono ?_
  rintro e w1 ⟨rfl,hb1⟩
  have t7:=Ab hb1 _ _ s7
  have hB1:=Ac hbel hb1
  have HE:=Aa (KT.o w1 (H0.o.over hB1) (hB0.trans (hB1.mono hB0.size)))
  have HB1:=Aa hB1
  clear KV s0 s1 s2 s3 s4 s5 s6 s7 s8 hb1 hbel KE KM KT hB1 hB0
  obtain ⟨r1,r2⟩:=rT
  go_wp2_with fail
  refine (HE.o).mono ?_
  rintro e wt ⟨he,⟨ev',hrt,hft⟩,hno⟩
  subst he
  have HF:=Aa (And.intro hrt ((Fr.of_below (ev:=ev) (br:=br) (b1:=b1) (b2:=b2) HB1.o).trans hft))
  have HN:=Aa hno
  clear hrt hft hno
  go_wp2_with fail
  go_ret
  exact ⟨rfl,⟨ev',HF.o⟩,HN.o⟩
theorem Pz (m:Int) (ga gn gc sa sn sc ya yn yc oa on oc va vn vc fa fn fc ba bn bc xa xn xc) (F fln c3:Nat) (B br b1 b2 b3:Nat) (fl) {I:BS} (dp:Nat) (st:RSt) (ev:Ow) (sv:Int) (so ek ex:Int) (pa pl pc aa al ac ta tl tc ea el ec) (a:Int) (r:Bool × RSt) (w0 w:World) (h:RnG I B [U zd m,O ga gn gc,O sa sn sc,O ya yn yc,O oa on oc,O va vn vc,O fa fn fc,O ba bn bc,O xa xn xc,U zd (F:Int),O (some ⟨b3,0,none⟩) fln c3] br b1 b2 b3 fl dp st ev w) (hB0:Ov w0 w)
  (KL:Hx (∀ W,RnG I B [U zd m,O ga gn gc,O sa sn sc,O ya yn yc,O oa on oc,O va vn vc,O fa fn fc,O ba bn bc,O xa xn xc,U zd (F:Int),O (some ⟨b3,0,none⟩) fln c3] br b1 b2 b3 fl dp st ev W->Ov w0 W->Calls Tryz.prog 227 #[zi (some ⟨br,0,none⟩),zh #[U zd 8,U zd sv,U zd so,U zd ek,U zd ex,O pa pl pc,O aa al ac,O ta tl tc,O ea el ec],U zd a] W (Fv I m ga gn gc sa sn sc ya yn yc oa on oc va vn vc fa fn fc ba bn bc xa xn xc F fln c3 B br b1 b2 b3 fl dp r ev W))) :
  Calls Tryz.prog 184 #[zi (some ⟨br,0,none⟩),zh #[U zd 8,U zd sv,U zd so,U zd ek,U zd ex,O pa pl pc,O aa al ac,O ta tl tc,O ea el ec],U zd a] w (Fv I m ga gn gc sa sn sc ya yn yc oa on oc va vn vc fa fn fc ba bn bc xa xn xc F fln c3 B br b1 b2 b3 fl dp r ev w):=by
 have hbel:Ov w (w.alloc (ze #[U zd 8,U zd sv,U zd so,U zd ek,U zd ex,O pa pl pc,O aa al ac,O ta tl tc,O ea el ec] 130)):=bA w _
 have HE:=Aa (KL.o _ (h.over hbel) (hB0.trans (hbel.mono hB0.size)))
 obtain ⟨s0,s1,s2,s3,s4,s5,s6,s7,s8⟩:=rc9 (BC w [U zd 8,U zd sv,U zd so,U zd ek,U zd ex,O pa pl pc,O aa al ac,O ta tl tc,O ea el ec] 130)
 clear h hB0 KL
 obtain ⟨r1,r2⟩:=r
 go_enter Tryz.func184,Tryz.ntmps184
 go_wp2_with fail
 refine (HE.o).mono ?_
 rintro e wt ⟨he,⟨ev',hrt,hft⟩,hno⟩
 subst he
 have HF:=Aa (And.intro hrt ((Fr.of_below (ev:=ev) (br:=br) (b1:=b1) (b2:=b2) hbel).trans hft))
 have HN:=Aa hno
 clear hrt hft hno
 go_wp2_with fail
 go_ret
 exact ⟨rfl,⟨ev',HF.o⟩,HN.o⟩
theorem PF (m:Int) (ga gn gc sa sn sc ya yn yc oa on oc va vn vc fa fn fc ba bn bc xa xn xc) (F fln c3:Nat) (B br b1 b2 b3:Nat) (fl) {I:BS} (dp:Nat) (st:RSt) (ev:Ow) (sv:Int) (so ek ex:Int) (pa pl pc aa al ac ta tl tc ea el ec) (a:Int) (r:Bool × RSt) (w0 w:World) (h:RnG I B [U zd m,O ga gn gc,O sa sn sc,O ya yn yc,O oa on oc,O va vn vc,O fa fn fc,O ba bn bc,O xa xn xc,U zd (F:Int),O (some ⟨b3,0,none⟩) fln c3] br b1 b2 b3 fl dp st ev w) (hB0:Ov w0 w)
  (KL:Hx (∀ W,RnG I B [U zd m,O ga gn gc,O sa sn sc,O ya yn yc,O oa on oc,O va vn vc,O fa fn fc,O ba bn bc,O xa xn xc,U zd (F:Int),O (some ⟨b3,0,none⟩) fln c3] br b1 b2 b3 fl dp st ev W->Ov w0 W->Calls Tryz.prog 223 #[zi (some ⟨br,0,none⟩),zh #[U zd 2,U zd sv,U zd so,U zd ek,U zd ex,O pa pl pc,O aa al ac,O ta tl tc,O ea el ec],U zd a] W (Fv I m ga gn gc sa sn sc ya yn yc oa on oc va vn vc fa fn fc ba bn bc xa xn xc F fln c3 B br b1 b2 b3 fl dp r ev W))) :
  Calls Tryz.prog 184 #[zi (some ⟨br,0,none⟩),zh #[U zd 2,U zd sv,U zd so,U zd ek,U zd ex,O pa pl pc,O aa al ac,O ta tl tc,O ea el ec],U zd a] w (Fv I m ga gn gc sa sn sc ya yn yc oa on oc va vn vc fa fn fc ba bn bc xa xn xc F fln c3 B br b1 b2 b3 fl dp r ev w):=by
 have hbel:Ov w (w.alloc (ze #[U zd 2,U zd sv,U zd so,U zd ek,U zd ex,O pa pl pc,O aa al ac,O ta tl tc,O ea el ec] 130)):=bA w _
 have HE:=Aa (KL.o _ (h.over hbel) (hB0.trans (hbel.mono hB0.size)))
 obtain ⟨s0,s1,s2,s3,s4,s5,s6,s7,s8⟩:=rc9 (BC w [U zd 2,U zd sv,U zd so,U zd ek,U zd ex,O pa pl pc,O aa al ac,O ta tl tc,O ea el ec] 130)
 clear h hB0 KL
 obtain ⟨r1,r2⟩:=r
 go_enter Tryz.func184,Tryz.ntmps184
 go_wp2_with fail
 refine (HE.o).mono ?_
 rintro e wt ⟨he,⟨ev',hrt,hft⟩,hno⟩
 subst he
 have HF:=Aa (And.intro hrt ((Fr.of_below (ev:=ev) (br:=br) (b1:=b1) (b2:=b2) hbel).trans hft))
 have HN:=Aa hno
 clear hrt hft hno
 go_wp2_with fail
 go_ret
 exact ⟨rfl,⟨ev',HF.o⟩,HN.o⟩
def EO (br:Nat) (w:World):Nat:=(intOf ((w.cell? ⟨br,3,none⟩).getD undef)).toNat
theorem Q6 (m:Int) (ga gn gc sa sn sc ya yn yc oa on oc) (va:Option Addr) (vn vc:Nat) (fa fn fc ba bn bc xa xn xc) (F fln c3:Nat) (B br b1 b2 b3:Nat) (fl) {I:BS} (dp:Nat) (K kf k g:Nat) (fs ins d) (sv:Int) (so ek ex:Int) (pa pl pc aa al ac ta tl tc ea el ec) (a:Int) (w0:World) (hF:F<=2000) (ha:0<=a/\a<=100)
  (hx:RX w0 K [U zd ek,U zd ex,O pa pl pc] (Ap d)) (ho:okX vn K (Ap d))
  (HS:Hx (∀ g',g' < g->∀ st ev W,RnG I B [U zd m,O ga gn gc,O sa sn sc,O ya yn yc,O oa on oc,O va vn vc,O fa fn fc,O ba bn bc,O xa xn xc,U zd (F:Int),O (some ⟨b3,0,none⟩) fln c3] br b1 b2 b3 fl dp st ev W->I.ok (dp+1) st.o->Ov w0 W->Bc vn yn F st->3*(F - st.steps)+1<=g'->Calls Tryz.prog 226 #[zi (some ⟨br,0,none⟩),O ta tl tc,U zd (a+1)] W (Rg I m ga gn gc sa sn sc ya yn yc oa on oc va vn vc fa fn fc ba bn bc xa xn xc F fln c3 B br b1 b2 b3 fl dp (rn K kf fs F ins I.ob g' 0 (k - 1) (Ai d) (a+1) (dp+1) st) ev W)))
  (KP:Hx (∀ st ev W,RnG I B [U zd m,O ga gn gc,O sa sn sc,O ya yn yc,O oa on oc,O va vn vc,O fa fn fc,O ba bn bc,O xa xn xc,U zd (F:Int),O (some ⟨b3,0,none⟩) fln c3] br b1 b2 b3 fl dp st ev W->I.ok (dp+1) st.o->Ov w0 W->Calls Tryz.prog 183 #[zi (some ⟨br,0,none⟩),U zd 2,zh #[U zd 8,U zd sv,U zd so,U zd ek,U zd ex,O pa pl pc,O aa al ac,O ta tl tc,O ea el ec],U zd a] W (Kz I B [U zd m,O ga gn gc,O sa sn sc,O ya yn yc,O oa on oc,O va vn vc,O fa fn fc,O ba bn bc,O xa xn xc,U zd (F:Int),O (some ⟨b3,0,none⟩) fln c3] br b1 b2 b3 fl dp 2 d (Bm I.ob 2 a dp d st) ev W)))
  (st:RSt) (ev:Ow) (w:World) (hok:I.ok (dp+1) st.o) (hBB:B=w0.heap.size) (h:RnG I B [U zd m,O ga gn gc,O sa sn sc,O ya yn yc,O oa on oc,O va vn vc,O fa fn fc,O ba bn bc,O xa xn xc,U zd (F:Int),O (some ⟨b3,0,none⟩) fln c3] br b1 b2 b3 fl dp st ev w) (hB0:Ov w0 w) (hno:Bc vn yn F st) (hg:3*(F - st.steps)+2<=g) :
  Calls Tryz.prog 227 #[zi (some ⟨br,0,none⟩),zh #[U zd 8,U zd sv,U zd so,U zd ek,U zd ex,O pa pl pc,O aa al ac,O ta tl tc,O ea el ec],U zd a] w (Fv I m ga gn gc sa sn sc ya yn yc oa on oc va vn vc fa fn fc ba bn bc xa xn xc F fln c3 B br b1 b2 b3 fl dp (rn K kf fs F ins I.ob g 2 k [d] a dp st) ev w):=by
 subst hBB
 have hbel:Ov w (w.alloc (ze #[U zd 8,U zd sv,U zd so,U zd ek,U zd ex,O pa pl pc,O aa al ac,O ta tl tc,O ea el ec] 130)):=bA w _
 have H0:=Aa h
 have HB0:=Aa hB0
 have HX:=Aa hx
 have HOX:=Aa ho
 obtain ⟨a1,a2⟩:=ha
 obtain ⟨s0,s1,s2,s3,s4,s5,s6,s7,s8⟩:=rc9 (BC w [U zd 8,U zd sv,U zd so,U zd ek,U zd ex,O pa pl pc,O aa al ac,O ta tl tc,O ea el ec] 130)
 have HC0:=Aa s0
 have HC1:=Aa s1
 have HC2:=Aa s2
 have HC3:=Aa s3
 have HC4:=Aa s4
 have HC5:=Aa s5
 have HC6:=Aa s6
 have HC7:=Aa s7
 have HC8:=Aa s8
 clear s0 s1 s2 s6 s8
 obtain ⟨T,hT⟩:=nm (rn K kf fs F ins I.ob g 2 k [d] a dp st)
 have HST:Hx (∃ g' st' ev',RnG I w0.heap.size [U zd m,O ga gn gc,O sa sn sc,O ya yn yc,O oa on oc,O va vn vc,O fa fn fc,O ba bn bc,O xa xn xc,U zd (F:Int),O (some ⟨b3,0,none⟩) fln c3] br b1 b2 b3 fl dp st' ev' (w.alloc (ze #[U zd 8,U zd sv,U zd so,U zd ek,U zd ex,O pa pl pc,O aa al ac,O ta tl tc,O ea el ec] 130))/\Fr br b1 b2 ev ev' (w.alloc (ze #[U zd 8,U zd sv,U zd so,U zd ek,U zd ex,O pa pl pc,O aa al ac,O ta tl tc,O ea el ec] 130)) (w.alloc (ze #[U zd 8,U zd sv,U zd so,U zd ek,U zd ex,O pa pl pc,O aa al ac,O ta tl tc,O ea el ec] 130))/\Bc vn yn F st'/\3*(F - st'.steps)+2<=g'/\g'<=g/\I.ok (dp+1) st'.o/\rn K kf fs F ins I.ob g' 2 k [d] a dp st'=T):=⟨g,st,ev,h.over hbel,Fr.refl _ _ _ _ _,hno,hg,Nat.le_refl _,hok,hT.symm⟩
 rw [<-hT]
 clear h hB0 hno hg hT hx ho hok
 go_enter Tryz.func227,Tryz.ntmps227
 go_wp2_with fail
 go_loopw [6] (fun s wr=>s=zg false/\∃ g' st' ev',RnG I w0.heap.size [U zd m,O ga gn gc,O sa sn sc,O ya yn yc,O oa on oc,O va vn vc,O fa fn fc,O ba bn bc,O xa xn xc,U zd (F:Int),O (some ⟨b3,0,none⟩) fln c3] br b1 b2 b3 fl dp st' ev' wr/\Fr br b1 b2 ev ev' (w.alloc (ze #[U zd 8,U zd sv,U zd so,U zd ek,U zd ex,O pa pl pc,O aa al ac,O ta tl tc,O ea el ec] 130)) wr/\Bc vn yn F st'/\3*(F - st'.steps)+2<=g'/\g'<=g/\I.ok (dp+1) st'.o/\rn K kf fs F ins I.ob g' 2 k [d] a dp st'=T) (fun _ wr=>2001 - EO br wr)
 case atStart=>exact ⟨rfl,HST.o⟩
 case round=>
  clear HST
  obtain ⟨rfl,g',st',ev',hr,hf,hno,hg',hgg,hok,hrn⟩:=hrel
  have t3:=H0.o.box hf (Nat.le_refl _) s3
  have t4:=H0.o.box hf (Nat.le_refl _) s4
  have t5:=H0.o.box hf (Nat.le_refl _) s5
  have t7:=H0.o.box hf (Nat.le_refl _) s7
  clear s3 s4 s5 s7
  have hBr:=H0.o.below ((Fr.of_below hbel).trans hf)
  have hB0r:Ov w0 wr:=HB0.o.trans hBr
  obtain ⟨g2,rfl⟩:∃ g2,g'=g2+1:=⟨g' - 1,by omega⟩
  have hsteps:EO br wr=st'.steps:=by
   have c3:=hr.row 3 _ rfl
   unfold EO
   rw [c3]
   simp [intOf]
  have KV:=Aa (B1 m ga gn gc sa sn sc ya yn yc oa on oc va vn vc fa fn fc ba bn bc xa xn xc F fln c3 w0.heap.size br b1 b2 b3 fl dp st' ev' K _ (Ap d) wr hr (HX.o.over hB0r) (by rw [hno.vl];exact HOX.o) hno.i32)
  have hun:rn K kf fs F ins I.ob (g2+1) 2 k [d] a dp st'=if AB st'.vars K (Ap d)=0 then (true,st') else A2 (rn K kf fs F ins I.ob g2 0 (k - 1) (Ai d) (a+1) (dp+1) st') (fun st''=>if st''.steps=F then (false,st''.out) else A2 (Bm I.ob 2 a dp d st''.step) (fun st1=>rn K kf fs F ins I.ob g2 2 k [d] a dp st1)):=by simp only [rn]
  rw [hun] at hrn
  have HR:=Aa hr
  have HNO:=Aa hno
  have HFR:=Aa hf
  have HG:=Aa hg'
  have HGG:=Aa hgg
  have HSP:=Aa hsteps
  have HB0R:=Aa hB0r
  have HOK:=Aa hok
  clear hok
  by_cases hz:AB st'.vars K (Ap d)=0
  ·rw [if_pos hz] at hrn
   rw [hz] at KV
   have HRN:=Aa hrn
   clear hrn hun hr hno hf hg' hsteps hz hBr hB0r HS
   go_wp2_with fail
   refine (KV.o).mono ?_
   rintro e w1 ⟨rfl,hb1⟩
   have HB1:=Aa hb1
   clear hb1 KV
   go_wp2_with fail
   go_ret
   rw [<-HRN.o]
   exact ⟨rfl,⟨ev',HR.o.over HB1.o,(Fr.of_below hbel).trans (HFR.o.over HB1.o)⟩,HNO.o⟩
  ·rw [if_neg hz] at hrn
   have KS:=Aa fun W (hW:Ov wr W)=>HS.o g2 (by omega) st' ev' W (hr.over hW) HOK.o (hB0r.trans (hW.mono hB0r.size)) hno (by omega)
   have hgr:=(EQ K kf fs F ins I.ob g2 0 (k - 1) (Ai d) (a+1) (dp+1) st').steps
   obtain ⟨r,hrr⟩:=nm (rn K kf fs F ins I.ob g2 0 (k - 1) (Ai d) (a+1) (dp+1) st')
   rw [<-hrr] at KS hgr hrn
   obtain ⟨vx,hvx⟩:=nm (AB st'.vars K (Ap d))
   rw [<-hvx] at KV hz
   have hzb:(vx == 0)=false:=by simpa using hz
   have HRN:=Aa hrn
   have HGR:=Aa hgr
   clear hrn hun hr hno hf hg' hgg hsteps hz hBr hB0r HS hvx hrr hgr HX HOX
   go_wp2_with fail
   refine (KV.o).mono ?_
   rintro e w1 ⟨rfl,hb1⟩
   have u7:=Ab hb1 _ _ t7
   have KS':=Aa (KS.o w1 hb1)
   have HB1:=Aa hb1
   clear hb1 KV KS t3 t4 t5 t7
   obtain ⟨rb,rs⟩:=r
   cases rb with
   | false=>
    go_wp2_with fail
    refine (KS'.o).mono ?_
    rintro e w2 ⟨he,⟨ev2,hr2,hf2⟩,hno2,hok2⟩
    subst he
    have HF2:=Aa (And.intro hr2 ((Fr.of_below hbel).trans ((HFR.o.over HB1.o).trans hf2)))
    have HN2:=Aa hno2
    clear hr2 hf2 hno2
    go_wp2_with fail
    go_ret
    rw [<-HRN.o]
    exact ⟨rfl,⟨ev2,HF2.o⟩,HN2.o⟩
   | true=>
    go_wp2_with fail
    refine (KS'.o).mono ?_
    rintro e w2 ⟨he,⟨ev2,hr2,hf2⟩,hno2,hok2⟩
    subst he
    have HR2:=Aa hr2
    have HF2:=Aa ((HFR.o.over HB1.o).trans hf2)
    have HN2:=Aa hno2
    clear hr2 hf2 hno2 KS'
    have HOK2:=Aa hok2
    clear hok2
    by_cases hs:rs.steps=F
    ·have KN:=Aa (Kp m ga gn gc sa sn sc ya yn yc oa on oc va vn vc fa fn fc ba bn bc xa xn xc F fln c3 w0.heap.size br b1 b2 b3 fl dp rs ev2 w2 HR2.o hs)
     have HHS:=Aa hs
     clear hs
     go_wp2_with fail
     refine (KN.o).mono ?_
     rintro e w3 ⟨rfl,hr3,hf3⟩
     have HF3:=Aa (And.intro hr3 ((Fr.of_below hbel).trans (HF2.o.trans hf3)))
     clear hr3 hf3
     go_wp2_with fail
     go_ret
     rw [<-HRN.o]
     have e2:A2 (true,rs) (fun st''=>if st''.steps=F then (false,st''.out) else A2 (Bm I.ob 2 a dp d st''.step) (fun st1=>rn K kf fs F ins I.ob g2 2 k [d] a dp st1))=(false,rs.out):=by
      unfold A2
      simp only [if_true,HHS.o]
     rw [e2]
     exact ⟨rfl,⟨ev2,HF3.o⟩,HN2.o.o⟩
    ·have hs2:rs.steps < F:=by have:rs.steps<=F:=HN2.o.sb;omega
     have KN:=Aa (Iz m ga gn gc sa sn sc ya yn yc oa on oc va vn vc fa fn fc ba bn bc xa xn xc F fln c3 w0.heap.size br b1 b2 b3 fl dp rs ev2 w2 HR2.o hs2 hF)
     have HHS:=Aa hs
     clear hs
     go_wp2_with fail
     refine (KN.o).mono ?_
     rintro e w3 ⟨rfl,hr3,hf3⟩
     have HF3:=Aa (And.intro hr3 (HF2.o.trans hf3))
     clear hr3 hf3
     have x0:=H0.o.box HF3.o.2 (Nat.le_refl _) HC0.o
     have x1:=H0.o.box HF3.o.2 (Nat.le_refl _) HC1.o
     have x2:=H0.o.box HF3.o.2 (Nat.le_refl _) HC2.o
     have x3:=H0.o.box HF3.o.2 (Nat.le_refl _) HC3.o
     have x4:=H0.o.box HF3.o.2 (Nat.le_refl _) HC4.o
     have x5:=H0.o.box HF3.o.2 (Nat.le_refl _) HC5.o
     have x6:=H0.o.box HF3.o.2 (Nat.le_refl _) HC6.o
     have x7:=H0.o.box HF3.o.2 (Nat.le_refl _) HC7.o
     have x8:=H0.o.box HF3.o.2 (Nat.le_refl _) HC8.o
     have hB3:Ov w0 w3:=HB0.o.trans (H0.o.below ((Fr.of_below hbel).trans HF3.o.2))
     have KP':=Aa (KP.o rs.step ev2 w3 HF3.o.1 HOK2.o hB3)
     have hps:=CW I.ob 2 a dp d rs.step
     have hnp:=(HN2.o.step hs2).pass I.ob 2 a dp d
     have e2:A2 (true,rs) (fun st''=>if st''.steps=F then (false,st''.out) else A2 (Bm I.ob 2 a dp d st''.step) (fun st1=>rn K kf fs F ins I.ob g2 2 k [d] a dp st1))=A2 (Bm I.ob 2 a dp d rs.step) (fun st1=>rn K kf fs F ins I.ob g2 2 k [d] a dp st1):=by
      unfold A2
      simp only [if_true,if_neg HHS.o]
     have hrn2:=e2.symm.trans HRN.o
     obtain ⟨pb,ps,hpp⟩:∃ pb ps,Bm I.ob 2 a dp d rs.step=(pb,ps):=⟨_,_,rfl⟩
     rw [hpp] at KP' hps hnp hrn2
     have HPS:=Aa hps
     have HNP:=Aa hnp
     have HRN2:=Aa hrn2
     clear hps hnp hrn2 e2 hpp hB3 KN KP
     cases pb with
     | false=>
      go_wp2_with fail
      refine (KP'.o).mono ?_
      rintro e w4 ⟨he,ev4,hr4,hf4,-⟩
      subst he
      have HF4:=Aa (And.intro hr4 ((Fr.of_below hbel).trans (HF3.o.2.trans hf4)))
      clear hr4 hf4
      go_wp2_with fail
      go_ret
      rw [<-HRN2.o]
      exact ⟨rfl,⟨ev4,HF4.o⟩,HNP.o⟩
     | true=>
      go_wp2_with fail
      refine (KP'.o).mono ?_
      rintro e w4 ⟨he,ev4,hr4,hf4,hn4⟩
      subst he
      have HF4:=Aa (And.intro hr4 (HF3.o.2.trans hf4))
      have HN4:=Aa (hn4 rfl (Or.inr rfl))
      clear hr4 hf4 hn4
      go_wp2_with fail
      have hsp:=HSP.o
      have hgr:st'.steps<=rs.steps:=HGR.o
      have hgg:=HG.o
      have hp4:ps.steps=rs.steps+1:=HPS.o
      have hst:EO br w4=rs.steps+1:=by
       have c3:=HF4.o.1.row 3 _ rfl
       unfold EO
       rw [c3]
       simp [intOf,hp4]
      refine ⟨⟨rfl,g2,ps,ev4,HF4.o.1,HF4.o.2,HNP.o,by rw [hp4];omega,by have:=HGG.o;omega,HN4.o,HRN2.o⟩,?_⟩
      rw [hst,hsp]
      omega
theorem Tryz.infoI:(Tryz.prog.info? 3).map (fun i=>(i.zero,i.size,i.bytes))=some (some (U zd 0),1,8):=by kernel_rfl
theorem Df {w w':World} {B e s:Nat} {v:Value} {n:Nat} {xs:List Value} (h:w.ownsRow B e s v n xs) (hb:Ov w w'):w'.ownsRow B e s v n xs:=
 h.kept (row:=none) ⟨hb.os,hb.tape,hb.output,hb.size,fun k hk _=>hb.block k hk⟩ (by cases hv:v.ownBlock <;> simp)
theorem Ep (vs):∀ (l:List (Int × Int)),(BH vs l).length=vs.length:=by
 intro l
 induction l generalizing vs with
 | nil=>rfl
 | cons a l ih=>exact (ih (vs.set a.1.toNat a.2)).trans (by simp)
theorem Lh {vs:List Int} (hv:∀ x∈vs,I32 x):∀ (l:List (Int × Int)),(∀ q∈l,I32 q.2)->∀ x∈BH vs l,I32 x:=by
 intro l
 induction l generalizing vs with
 | nil=>intro _;exact hv
 | cons a l ih=>
  intro hl
  refine ih (vs:=vs.set a.1.toNat a.2) (fun x hx=>?_) (fun q hq=>hl q (List.mem_cons_of_mem _ hq))
  rcases H5 hx with rfl | hx
  ·exact hl a (List.mem_cons_self ..)
  ·exact hv x hx
abbrev Pa (b j0:Nat) (v0:Value) (c j1:Nat) (v1:Value) (e j2:Nat) (v2:Value) (j3:Nat) (v3:Value) (j4:Nat) (v4:Value) (Wz:World):Prop:=Wz.cell? ⟨b,j0,none⟩=some v0/\Wz.cell? ⟨c,j1,none⟩=some v1/\Wz.cell? ⟨e,j2,none⟩=some v2/\Wz.cell? ⟨e,j3,none⟩=some v3/\Wz.cell? ⟨e,j4,none⟩=some v4
theorem Qi {w w':World} {r b c e j0 j1 j2 j3 j4:Nat} {v0 v1 v2 v3 v4:Value} (h:Pa b j0 v0 c j1 v1 e j2 v2 j3 v3 j4 v4 w) (hg:w.grownBy w' (some r)) (hb:b≠r) (hc:c≠r) (he:e≠r) :
  Pa b j0 v0 c j1 v1 e j2 v2 j3 v3 j4 v4 w':=⟨Bg hg h.1 hb,Bg hg h.2.1 hc,Bg hg h.2.2.1 he,Bg hg h.2.2.2.1 he,Bg hg h.2.2.2.2 he⟩
theorem B7 {w w':World} {B:Nat} (hb:Below B w w') (hB:w.heap.size<=B) {a:Addr} {u:Value} (h:w.cell? a=some u):w'.cell? a=some u:=by
 rw [hb.cell (Nat.lt_of_lt_of_le (bL h) hB)]
 exact h
abbrev Kk (w:World) (za:Option Addr) (zl zc br b3 fln c3 c:Nat) (fst:Int) (n:Nat) (ek ex:Int) (pa:Option Addr) (pl pc:Nat) (aa:Option Addr) (j ac:Nat) (ta:Option Addr) (tl tc:Nat) (ea:Option Addr) (el ec:Nat) (Wz:World):Prop:=Wz.cell? ⟨w.heap.size+1,1,none⟩=some (O za zl zc)/\Wz.cell? ⟨br,16,none⟩=some (O (some ⟨b3,0,none⟩) fln c3)/\Wz.cell? ⟨w.heap.size,2,none⟩=some (U zd (c:Int))/\Wz.cell? ⟨b3,c,none⟩=some (U zd fst)/\Wz.cell? ⟨w.heap.size,0,none⟩=some (U zd 2)/\Wz.cell? ⟨w.heap.size,1,none⟩=some (U zd (n:Int))/\Wz.cell? ⟨w.heap.size,3,none⟩=some (U zd ek)/\Wz.cell? ⟨w.heap.size,4,none⟩=some (U zd ex)/\Wz.cell? ⟨w.heap.size,5,none⟩=some (O pa pl pc)/\Wz.cell? ⟨w.heap.size,6,none⟩=some (O aa j ac)/\Wz.cell? ⟨w.heap.size,7,none⟩=some (O ta tl tc)/\Wz.cell? ⟨w.heap.size,8,none⟩=some (O ea el ec)
theorem Ra (m:Int) (ga gn gc sa sn sc ya yn yc oa on oc) (va:Option Addr) (vn vc:Nat) (fn fc:Nat) (ba bn bc xa xn xc) (F fln c3:Nat) (br b1 b2 b3:Nat) (fl:List Int) {I:BS} (dp:Nat) (d) (K kf g:Nat) (ps) (asl:List D) (res) (fst:Int) (n c fb foff:Nat) (ek ex:Int) (pa pl pc aa al ac ta tl tc ea el ec) (a:Int) (qa ql qc za zl zc) (rk rN:Int) (ra rl rc) (w0:World) (rr:RSt->Bool × RSt)
  (hc:c < fn) (hn:n < vn) (hvn:vn<=16) (hfn:fn<=5)
  (f0:w0.cell? ⟨fb,foff+c*5,none⟩=some (O qa ql qc)) (f1:w0.cell? ⟨fb,foff+c*5+1,none⟩=some (O za zl zc)) (f2:w0.cell? ⟨fb,foff+c*5+2,none⟩=some (U zd rk)) (f3:w0.cell? ⟨fb,foff+c*5+3,none⟩=some (U zd rN)) (f4:w0.cell? ⟨fb,foff+c*5+4,none⟩=some (O ra rl rc))
  (hps:AQ w0 (O qa ql qc) ps) (hpb:∀ p∈ps,0<=p/\p < (vn:Int)) (hpl:ps.length=asl.length) (has:XS 3 (RX w0 K) w0 (O aa al ac) asl) (hok:∀ x∈asl,okX vn K x) (hal:asl.length<=5)
  (hres:RX w0 K [U zd rk,U zd rN,O ra rl rc] res) (hro:okX vn K res) (hfl:fl[c]? = some fst) (hfll:fl.length=fln)
  (HS:Hx (∀ st ev W,RnG I w0.heap.size [U zd m,O ga gn gc,O sa sn sc,O ya yn yc,O oa on oc,O va vn vc,O (some ⟨fb,foff,none⟩) fn fc,O ba bn bc,O xa xn xc,U zd (F:Int),O (some ⟨b3,0,none⟩) fln c3] br b1 b2 b3 fl dp st ev W->Ov w0 W->Bc vn yn F st->3*(F - st.steps)+1<=g->Calls Tryz.prog 119 #[zi (some ⟨br,0,none⟩),O za zl zc,U zd fst] W (Fv I m ga gn gc sa sn sc ya yn yc oa on oc va vn vc (some ⟨fb,foff,none⟩) fn fc ba bn bc xa xn xc F fln c3 w0.heap.size br b1 b2 b3 fl dp (rr st) ev W)))
  (KP:Hx (∀ st ev W,RnG I w0.heap.size [U zd m,O ga gn gc,O sa sn sc,O ya yn yc,O oa on oc,O va vn vc,O (some ⟨fb,foff,none⟩) fn fc,O ba bn bc,O xa xn xc,U zd (F:Int),O (some ⟨b3,0,none⟩) fln c3] br b1 b2 b3 fl dp st ev W->Ov w0 W->Calls Tryz.prog 183 #[zi (some ⟨br,0,none⟩),U zd 3,zh #[U zd 2,U zd (n:Int),U zd (c:Int),U zd ek,U zd ex,O pa pl pc,O aa al ac,O ta tl tc,O ea el ec],U zd a] W (Kz I w0.heap.size [U zd m,O ga gn gc,O sa sn sc,O ya yn yc,O oa on oc,O va vn vc,O (some ⟨fb,foff,none⟩) fn fc,O ba bn bc,O xa xn xc,U zd (F:Int),O (some ⟨b3,0,none⟩) fln c3] br b1 b2 b3 fl dp 3 d (Bm I.ob 3 a dp d st) ev W)))
  (st:RSt) (ev:Ow) (w:World) (h:RnG I w0.heap.size [U zd m,O ga gn gc,O sa sn sc,O ya yn yc,O oa on oc,O va vn vc,O (some ⟨fb,foff,none⟩) fn fc,O ba bn bc,O xa xn xc,U zd (F:Int),O (some ⟨b3,0,none⟩) fln c3] br b1 b2 b3 fl dp st ev w) (hB0:Ov w0 w) (hno:Bc vn yn F st) (hg:3*(F - st.steps)+1<=g) :
  Calls Tryz.prog 223 #[zi (some ⟨br,0,none⟩),zh #[U zd 2,U zd (n:Int),U zd (c:Int),U zd ek,U zd ex,O pa pl pc,O aa al ac,O ta tl tc,O ea el ec],U zd a] w (Fv I m ga gn gc sa sn sc ya yn yc oa on oc va vn vc (some ⟨fb,foff,none⟩) fn fc ba bn bc xa xn xc F fln c3 w0.heap.size br b1 b2 b3 fl dp (A2 (rr { st with vars:=BH st.vars (ps.zip (asl.map (AB st.vars K))) }) (fun st1=>A2 (Bm I.ob 3 a dp d st1) (fun st'=>(true,st'.setv (n:Int) (AB st'.vars K res))))) ev w):=by
 have hbel:Ov w (w.alloc (ze #[U zd 2,U zd (n:Int),U zd (c:Int),U zd ek,U zd ex,O pa pl pc,O aa al ac,O ta tl tc,O ea el ec] 130)):=bA w _
 have H0:=Aa h
 have HB0:=Aa hB0
 have hB2:=hB0.trans (hbel.mono hB0.size)
 have zr:=BC w [U zd 2,U zd (n:Int),U zd (c:Int),U zd ek,U zd ex,O pa pl pc,O aa al ac,O ta tl tc,O ea el ec] 130
 have s1:=zr 1 _ rfl
 have s2:=zr 2 _ rfl
 have s6:=zr 6 _ rfl
 clear zr
 have q12:=Ab hbel _ _ (h.row 12 _ rfl)
 obtain ⟨g0,g1,g2,g3,g4⟩:=co5 hB2 f0 f1 f2 f3 f4
 have hcn:(c:Int) < (fn:Int):=by omega
 have hlr:=h.hi.1
 clear f0 f1 f2 f3 f4
 have hbz:=(Below.refl _ (w.alloc (ze #[U zd 2,U zd (n:Int),U zd (c:Int),U zd ek,U zd ex,O pa pl pc,O aa al ac,O ta tl tc,O ea el ec] 130))).alloc (Nat.le_refl _) (ze #[O none 0 0,O none 0 0,U zd 0,U zd 0,O none 0 0] 105)
 obtain ⟨q12z,s2z,g0z,g1z,g2z,g3z,g4z⟩:=co7 hbz q12 s2 g0 g1 g2 g3 g4
 have hbA:Ov w (((w.alloc (ze #[U zd 2,U zd (n:Int),U zd (c:Int),U zd ek,U zd ex,O pa pl pc,O aa al ac,O ta tl tc,O ea el ec] 130)).alloc (ze #[O qa ql qc,O za zl zc,U zd rk,U zd rN,O ra rl rc] 105)).drew):=(hbel.alloc (by simp) _).drew
 have HBA:=Aa hbA
 have p0:(((w.alloc (ze #[U zd 2,U zd (n:Int),U zd (c:Int),U zd ek,U zd ex,O pa pl pc,O aa al ac,O ta tl tc,O ea el ec] 130)).alloc (ze #[O qa ql qc,O za zl zc,U zd rk,U zd rN,O ra rl rc] 105)).drew).cell? ⟨w.heap.size+1,0,none⟩=some (O qa ql qc):=by simp [go_sem]
 have p1:(((w.alloc (ze #[U zd 2,U zd (n:Int),U zd (c:Int),U zd ek,U zd ex,O pa pl pc,O aa al ac,O ta tl tc,O ea el ec] 130)).alloc (ze #[O qa ql qc,O za zl zc,U zd rk,U zd rN,O ra rl rc] 105)).drew).cell? ⟨w.heap.size+1,1,none⟩=some (O za zl zc):=by simp [go_sem]
 have p2:(((w.alloc (ze #[U zd 2,U zd (n:Int),U zd (c:Int),U zd ek,U zd ex,O pa pl pc,O aa al ac,O ta tl tc,O ea el ec] 130)).alloc (ze #[O qa ql qc,O za zl zc,U zd rk,U zd rN,O ra rl rc] 105)).drew).cell? ⟨w.heap.size+1,2,none⟩=some (U zd rk):=by simp [go_sem]
 have p3:(((w.alloc (ze #[U zd 2,U zd (n:Int),U zd (c:Int),U zd ek,U zd ex,O pa pl pc,O aa al ac,O ta tl tc,O ea el ec] 130)).alloc (ze #[O qa ql qc,O za zl zc,U zd rk,U zd rN,O ra rl rc] 105)).drew).cell? ⟨w.heap.size+1,3,none⟩=some (U zd rN):=by simp [go_sem]
 have p4:(((w.alloc (ze #[U zd 2,U zd (n:Int),U zd (c:Int),U zd ek,U zd ex,O pa pl pc,O aa al ac,O ta tl tc,O ea el ec] 130)).alloc (ze #[O qa ql qc,O za zl zc,U zd rk,U zd rN,O ra rl rc] 105)).drew).cell? ⟨w.heap.size+1,4,none⟩=some (O ra rl rc):=by simp [go_sem]
 have r1:(((w.alloc (ze #[U zd 2,U zd (n:Int),U zd (c:Int),U zd ek,U zd ex,O pa pl pc,O aa al ac,O ta tl tc,O ea el ec] 130)).alloc (ze #[O qa ql qc,O za zl zc,U zd rk,U zd rN,O ra rl rc] 105)).drew).cell? ⟨w.heap.size,1,none⟩=some (U zd (n:Int)):=by simp [go_sem]
 have r2:(((w.alloc (ze #[U zd 2,U zd (n:Int),U zd (c:Int),U zd ek,U zd ex,O pa pl pc,O aa al ac,O ta tl tc,O ea el ec] 130)).alloc (ze #[O qa ql qc,O za zl zc,U zd rk,U zd rN,O ra rl rc] 105)).drew).cell? ⟨w.heap.size,2,none⟩=some (U zd (c:Int)):=by simp [go_sem]
 have r6:(((w.alloc (ze #[U zd 2,U zd (n:Int),U zd (c:Int),U zd ek,U zd ex,O pa pl pc,O aa al ac,O ta tl tc,O ea el ec] 130)).alloc (ze #[O qa ql qc,O za zl zc,U zd rk,U zd rN,O ra rl rc] 105)).drew).cell? ⟨w.heap.size,6,none⟩=some (O aa al ac):=by simp [go_sem]
 have hszA:(((w.alloc (ze #[U zd 2,U zd (n:Int),U zd (c:Int),U zd ek,U zd ex,O pa pl pc,O aa al ac,O ta tl tc,O ea el ec] 130)).alloc (ze #[O qa ql qc,O za zl zc,U zd rk,U zd rN,O ra rl rc] 105)).drew).heap.size=w.heap.size+2:=by simp
 have HP:=Aa (And.intro p0 (And.intro p1 (And.intro p2 (And.intro p3 (And.intro p4 (And.intro r1 r2))))))
 have HSZ:=Aa hszA
 have hrw:Ad [U zd 2,U zd (n:Int),U zd (c:Int),U zd ek,U zd ex,O pa pl pc,O aa al ac,O ta tl tc,O ea el ec] (((w.alloc (ze #[U zd 2,U zd (n:Int),U zd (c:Int),U zd ek,U zd ex,O pa pl pc,O aa al ac,O ta tl tc,O ea el ec] 130)).alloc (ze #[O qa ql qc,O za zl zc,U zd rk,U zd rN,O ra rl rc] 105)).drew) w.heap.size:=((Ad.newA #[U zd 2,U zd (n:Int),U zd (c:Int),U zd ek,U zd ex,O pa pl pc,O aa al ac,O ta tl tc,O ea el ec] 130 w).over (bA _ _)).drew
 have HRW:=Aa hrw
 clear hrw
 have hali:al=asl.length:=by obtain ⟨-,a,c,he,-⟩:=has;injection he
 have HAL:=Aa hali
 have hal2:al<=5:=by rw [hali];exact hal
 have HAS:=Aa has
 have HOK:=Aa hok
 have HNO:=Aa hno
 have HPS:=Aa hps
 have HPB:=Aa hpb
 have HPL:=Aa hpl
 have HRES:=Aa hres
 have HRO:=Aa hro
 have HFL:=Aa hfl
 have HFLL:=Aa hfll
 have HG:=Aa hg
 obtain ⟨i0,hi,hz0,hz1,hz2⟩:=info_parts Tryz.infoI
 have hst0:Hx ((((w.alloc (ze #[U zd 2,U zd (n:Int),U zd (c:Int),U zd ek,U zd ex,O pa pl pc,O aa al ac,O ta tl tc,O ea el ec] 130)).alloc (ze #[O qa ql qc,O za zl zc,U zd rk,U zd rN,O ra rl rc] 105)).drew).ownsRow (w.heap.size+2) 3 1 (O none 0 0) 0 []):=World.ownsRow_nil _ _ _ _
 clear hpl hali hal hps hpb hres hro hfl hfll has hok hno hB0 hszA h p0 p1 p2 p3 p4 r1 r2 hg
 go_enter Tryz.func223,Tryz.ntmps223
 go_wp2_with fail
 go_region
 go_wp2_with fail
 obtain ⟨WX,hWX⟩:=nm ((((w.alloc (ze #[U zd 2,U zd (n:Int),U zd (c:Int),U zd ek,U zd ex,O pa pl pc,O aa al ac,O ta tl tc,O ea el ec] 130)).alloc (ze #[O qa ql qc,O za zl zc,U zd rk,U zd rN,O ra rl rc] 105)).drew))
 rw [<-hWX] at HBA HP HSZ HRW hst0 r6 hbA ⊢
 clear q12 q12z s1 s2 s6 s2z g0 g0z g1 g1z g2 g2z g3 g3z g4 g4z hbz hbel hB2 hWX hcn
 go_loopw [8,25] (fun v i wr=>∃ j:Nat,j<=al/\i=U zd j/\wr.ownsRow (w.heap.size+2) 3 1 v j (BW ((asl.take j).map (AB st.vars K)))/\Below (w.heap.size+2) WX wr) (fun _ i _=>al - (intOf i).toNat)
 case atStart=>exact ⟨0,Nat.zero_le _,rfl,hst0.o,Below.refl _ _⟩
 case round=>
  obtain ⟨j,hj,rfl,hown,hB⟩:=hrel
  have hBw:Ov w wr:=hbA.trans (hB.mono (by omega))
  have hB0r:Ov w0 wr:=HB0.o.trans (hBw.mono HB0.o.size)
  have HOWN:=Aa hown
  have HB:=Aa hB
  have HBW:=Aa hBw
  by_cases hjl:j < al
  ·obtain ⟨hal0,aa',ac',hae,hel⟩:=HAS.o
   injection hae with e1 e2 e3
   have hjd:j < asl.length:=by omega
   obtain ⟨eb,eoff,heb,hel2⟩:=hel (by intro hq;rw [hq] at hjd;simp at hjd)
   obtain ⟨cs,hcl,hcs,hrx⟩:=hel2 j asl[j] (List.getElem?_eq_getElem hjd)
   have e1':=e1.trans heb
   subst e1'
   obtain ⟨k0,n0,x0,l0,c0,rfl⟩:∃ k0 n0 x0 l0 c0,cs=[U zd k0,U zd n0,O x0 l0 c0]:=by
    obtain ⟨a,c,hf⟩:=hrx.form
    exact ⟨_,_,_,_,_,hf⟩
   have m0:wr.cell? ⟨eb,eoff+j*3,none⟩=_:=Ab hB0r _ _ (hcs 0 _ rfl)
   have m1:=Ab hB0r _ _ (hcs 1 _ rfl)
   have m2:=Ab hB0r _ _ (hcs 2 _ rfl)
   have hba:=bA wr (ze #[U zd k0,U zd n0,O x0 l0 c0] 94)
   have hBa:=hBw.trans (hba.mono hBw.size)
   have hB0a:=hB0r.trans (hba.mono hB0r.size)
   have hno:=HNO.o
   have KV:=Aa (B1 m ga gn gc sa sn sc ya yn yc oa on oc va vn vc (some ⟨fb,foff,none⟩) fn fc ba bn bc xa xn xc F fln c3 w0.heap.size br b1 b2 b3 fl dp st ev K _ asl[j] (wr.alloc (ze #[U zd k0,U zd n0,O x0 l0 c0] 94)) (H0.o.over hBa) (hrx.over hB0a) (by rw [hno.vl];exact HOK.o _ (List.getElem_mem hjd)) hno.i32)
   have htk:(asl.take (j+1)).map (AB st.vars K)=(asl.take j).map (AB st.vars K)++[AB st.vars K asl[j]]:=by rw [List.take_succ_eq_append_getElem hjd,List.map_append];rfl
   obtain ⟨x,hx⟩:=nm (AB st.vars K asl[j])
   rw [<-hx] at KV htk
   have HTK:=Aa htk
   have hs2:w.heap.size+2<=wr.heap.size:=by rw [<-HSZ.o];exact hB.size
   have hownB:=Df hown hba
   clear hel hel2 hcs hcl hrx e1 e2 e3 heb hno htk hx hown hBa hB0a
   go_wp2_with fail
   refine (KV.o).mono ?_
   rintro e w2 ⟨rfl,hb2⟩
   have hsz2:w.heap.size+2<=w2.heap.size:=Nat.le_trans hs2 (Nat.le_trans hba.size hb2.size)
   have hb3:=bA w2 (ze #[U zd x] 3)
   have hownC:=Df (Df hownB hb2) hb3
   have hB3:=Ac (Ac hba hb2) hb3
   have HN:=Aa (Ad.newA #[U zd x] 3 w2)
   have hs3:w.heap.size+2<=(w2.alloc (ze #[U zd x] 3)).heap.size:=Nat.le_trans hsz2 hb3.size
   clear KV hba hb2 hb3 hownB m0 m1 m2
   go_wp2_with (at_builtin;refine wpList_append_own _ rfl _ _ 25 rfl (w.heap.size+2) 3 i0 (U zd 0) 1 8 Tryz.underlying25 hi hz0 hz1 hz2 rfl (by decide) _ _ _ rfl hownC ⟨w2.heap.size,0,none⟩ 1 1 [U zd x] rfl rfl (fun jj u hu=>by rw [Addr.add_lit,Nat.zero_add];exact HN.o jj u hu) (by simp [Value.oneCell']) (by unfold maxLen;omega) (by omega) hs3 ?_)
   intro v3 w3 hown3 hgr3 _
   have hbl3:=DX hownC hgr3 hs3
   have HF:=Aa (And.intro hown3 ((HB.o.trans (hB3.mono hs2)).trans hbl3))
   clear hownC hown3 hgr3 hbl3 hB3
   go_wp2_with fail
   refine ⟨⟨j+1,by omega,by go_num,?_,HF.o.2⟩,by simp [intOf];omega⟩
   have:=HF.o.1
   rw [HTK.o]
   simpa [BW] using this
  ·have hjE:j=al:=by omega
   subst hjE
   have htl:asl.take j=asl:=List.take_of_length_le (by have:=HAL.o;omega)
   rw [htl] at HOWN
   obtain ⟨ao,cap,hu8,hao⟩:∃ ao cap,u8=O ao j cap/\(0 < j->∃ g,ao=some ⟨g,0,none⟩/\w.heap.size+2<=g/\Ad (BW (asl.map (AB st.vars K))) wr g):=by
    rcases HOWN.o.2 with ⟨h1,h2⟩ | ⟨g,cap,cur,h1,h2,h3,h4,h5,h6,h7⟩
    ·exact ⟨none,0,by rw [h1,h2],fun hz=>by omega⟩
    ·refine ⟨_,cap,h1,fun _=>⟨g,rfl,h2,fun jj u hu=>?_⟩⟩
     have:=HOWN.o.cells (g:=g) (by rw [h1];rfl) jj u hu
     rwa [Addr.add_lit,Nat.zero_add] at this
   subst hu8
   have HAO:=Aa hao
   obtain ⟨P0,P1,P2,P3,P4,P5,P6⟩:=HP.o
   have pw0:=B7 HB.o (by rw [HSZ.o];exact Nat.le_refl _) P0
   have HPW:=Aa (And.intro (B7 HB.o (by rw [HSZ.o];exact Nat.le_refl _) P1) (And.intro (B7 HB.o (by rw [HSZ.o];exact Nat.le_refl _) P2) (And.intro (B7 HB.o (by rw [HSZ.o];exact Nat.le_refl _) P3) (And.intro (B7 HB.o (by rw [HSZ.o];exact Nat.le_refl _) P4) (And.intro (B7 HB.o (by rw [HSZ.o];exact Nat.le_refl _) P5) (B7 HB.o (by rw [HSZ.o];exact Nat.le_refl _) P6))))))
   have hrw1:Ad [U zd 2,U zd (n:Int),U zd (c:Int),U zd ek,U zd ex,O pa pl pc,O aa j ac,O ta tl tc,O ea el ec] wr w.heap.size:=fun jj u hu=>B7 HB.o (by rw [HSZ.o];exact Nat.le_refl _) (HRW.o jj u hu)
   have HRW1:=Aa hrw1
   clear hrw1
   have hqp:ql=ps.length:=by obtain ⟨a,c,he,-⟩:=HPS.o;injection he
   have hqj:ql=j:=by have:=HPL.o;have:=HAL.o;omega
   have HQP:=Aa hqp
   have HQJ:=Aa hqj
   have hq5:ql<=5:=by omega
   obtain ⟨xs,hxs⟩:=nm (asl.map (AB st.vars K))
   have hxl:xs.length=j:=by rw [hxs];simp;exact HAL.o.symm
   have hxi:∀ x∈xs,I32 x:=by
    intro x hx
    rw [hxs] at hx
    obtain ⟨y,hy,rfl⟩:=List.mem_map.1 hx
    exact EN HNO.o.i32 K y (by rw [HNO.o.vl];exact HOK.o y hy)
   rw [<-hxs] at HAO
   have HXS:=Aa hxs
   have HXL:=Aa hxl
   have HXI:=Aa hxi
   have HST2:Hx (RnG I w0.heap.size [U zd m,O ga gn gc,O sa sn sc,O ya yn yc,O oa on oc,O va vn vc,O (some ⟨fb,foff,none⟩) fn fc,O ba bn bc,O xa xn xc,U zd (F:Int),O (some ⟨b3,0,none⟩) fln c3] br b1 b2 b3 fl dp ({ st with vars:=BH st.vars ((ps.zip xs).take 0) }) ev wr/\Fr br b1 b2 ev ev wr wr):=⟨by simpa [BH] using H0.o.over hBw,Fr.refl _ _ _ _ _⟩
   clear hjl hB hBw hB0r hbA hown htl hao P0 P1 P2 P3 P4 P5 P6 hqp hqj hxs hxl hxi HOWN hst0 r6
   obtain ⟨w1,hw1⟩:=nm wr
   rw [<-hw1] at pw0 HAO HPW HRW1 HST2 HB HBW ⊢
   clear hw1
   go_wp2_with fail
   go_loopw [39] (fun i wq=>∃ q:Nat,q<=ql/\i=U zd q/\RnG I w0.heap.size [U zd m,O ga gn gc,O sa sn sc,O ya yn yc,O oa on oc,O va vn vc,O (some ⟨fb,foff,none⟩) fn fc,O ba bn bc,O xa xn xc,U zd (F:Int),O (some ⟨b3,0,none⟩) fln c3] br b1 b2 b3 fl dp ({ st with vars:=BH st.vars ((ps.zip xs).take q) }) ev wq/\Fr br b1 b2 ev ev w1 wq) (fun i _=>ql - (intOf i).toNat)
   case atStart=>exact ⟨0,Nat.zero_le _,rfl,HST2.o⟩
   case round=>
    obtain ⟨q,hq,rfl,hr,hf⟩:=hrel
    have HR:=Aa hr
    have HF:=Aa hf
    have hfw:Fr br b1 b2 ev ev w wr:=(Fr.of_below HBW.o).trans hf
    have hB0q:Ov w0 wr:=HB0.o.trans (H0.o.below hfw)
    have hvl:(BH st.vars ((ps.zip xs).take q)).length=vn:=by rw [Ep];exact HNO.o.vl
    by_cases hql:q < ql
    ·obtain ⟨qa',qc',hqe,hqel⟩:=HPS.o
     injection hqe with e1 e2 e3
     have hqd:q < ps.length:=by omega
     have hqx:q < xs.length:=by have:=HXL.o;have:=HQJ.o;omega
     obtain ⟨pb,poff,hpb,hqel2⟩:=hqel (by intro hz;rw [hz] at hqd;simp at hqd)
     have e1':=e1.trans hpb
     subst e1'
     have m0:=Ab hB0q _ _ (hqel2 q hqd)
     obtain ⟨pv0,pv1⟩:=HPB.o ps[q] (List.getElem_mem hqd)
     have htk:BH st.vars ((ps.zip xs).take (q+1))=(BH st.vars ((ps.zip xs).take q)).set ps[q].toNat xs[q]:=by
      have hz:q < (ps.zip xs).length:=by rw [List.length_zip];omega
      rw [List.take_succ_eq_append_getElem hz]
      simp [BH,List.foldl_append]
     obtain ⟨g,hg1,hg2,hg3⟩:=HAO.o (by have:=HQJ.o;omega)
     have m1:=H0.o.box hf (by omega:w.heap.size<=g) (hg3 q (U zd xs[q]) (by simp [hqx]))
     subst hg1
     obtain ⟨x,hx⟩:=nm (xs[q])
     obtain ⟨pz,hpz⟩:=nm (ps[q])
     rw [<-hx] at m1 htk
     rw [<-hpz] at m0 pv0 pv1 htk
     obtain ⟨pn,rfl⟩:=Int.eq_ofNat_of_zero_le pv0
     rw [Int.toNat_natCast] at htk
     have hpn:pn < vn:=by omega
     have m2:=hr.row 1 _ rfl
     have m3:wr.cell? ⟨b1,pn,none⟩=some (U zd ((BH st.vars ((ps.zip xs).take q))[pn]'(by rw [hvl];exact hpn))):=hr.vars pn _ (by simp [hvl,hpn])
     have m4:=hr.z1 pn
     have m5:=hr.hi.2.1
     have m6:=hr.hi.1
     have hset:=hr.setVar (pn:Int) x (by show pn < (BH st.vars ((ps.zip xs).take q)).length;rw [hvl];exact hpn)
     have HSET:Hx (RnG I w0.heap.size [U zd m,O ga gn gc,O sa sn sc,O ya yn yc,O oa on oc,O va vn vc,O (some ⟨fb,foff,none⟩) fn fc,O ba bn bc,O xa xn xc,U zd (F:Int),O (some ⟨b3,0,none⟩) fln c3] br b1 b2 b3 fl dp ({ st with vars:=BH st.vars ((ps.zip xs).take (q+1)) }) ev (wr.setCell ⟨b1,pn,none⟩ (U zd x))/\Fr br b1 b2 ev ev w1 (wr.setCell ⟨b1,pn,none⟩ (U zd x))):=by
      refine ⟨?_,hf.trans (Ei hr _ _)⟩
      rw [htk]
      exact hset
     obtain ⟨y,hy⟩:=nm ((BH st.vars ((ps.zip xs).take q))[pn]'(by rw [hvl];exact hpn))
     rw [<-hy] at m3
     have m2':wr.cell? ⟨br,1,none⟩=some (O (some ⟨b1,0,none⟩) vn vn):=by
      have:(BH st.vars ((ps.zip xs).take q)).length=vn:=hvl
      simp only [this] at m2
      exact m2
     have hpi:(pn:Int) < (vn:Int):=by omega
     have hqi:(q:Int) < (j:Int):=by have:=HQJ.o;omega
     clear hqel hqel2 e1 e2 e3 hpb hx hpz hg3 htk hset hy hr hf hfw hB0q hvl m2 HAO hqx hqd
     go_wp2_with fail
     go_region
     go_wp2_with fail
     exact ⟨⟨q+1,by omega,by go_num,HSET.o.1.drewN 1,HSET.o.2.over (below_drewN (Below.refl _ _) 1)⟩,by simp [intOf];omega⟩
    ·have hqE:q=ql:=by omega
     subst hqE
     have htz:(ps.zip xs).take q=ps.zip xs:=List.take_of_length_le (by rw [List.length_zip];have:=HQP.o;omega)
     rw [htz] at hr
     have hfull:=hr
     obtain ⟨st2,hst2⟩:=nm (({ st with vars:=BH st.vars (ps.zip xs) }:RSt))
     have hstx:({ st with vars:=BH st.vars (ps.zip (asl.map (AB st.vars K))) }:RSt)=st2:=by rw [hst2,HXS.o]
     rw [<-hst2] at hfull
     have hno2:Bc vn yn F st2:=by
      rw [hst2]
      refine ⟨by show (BH _ _).length=vn;rw [Ep];exact HNO.o.vl,HNO.o.tl,Lh HNO.o.i32 _ (fun z hz=>HXI.o _ (List.of_mem_zip hz).2),HNO.o.tk,HNO.o.el,HNO.o.sb⟩
     have hg2:3*(F - st2.steps)+1<=g:=by rw [hst2];exact HG.o
     have hB0q2:Ov w0 wr.drew:=hB0q.drew
     have KS:=Aa (HS.o st2 ev wr.drew (hfull.drewN 1) hB0q2 hno2 hg2)
     obtain ⟨y1,y2,y3,y4,y5,y6⟩:=HPW.o
     have z1:=H0.o.box hf (by omega) y1
     have z2:=H0.o.box hf (by omega) y2
     have z3:=H0.o.box hf (by omega) y3
     have z4:=H0.o.box hf (by omega) y4
     have z5:=H0.o.box hf (by omega) y5
     have z6:=H0.o.box hf (by omega) y6
     have HRW2:Hx (Ad [U zd 2,U zd (n:Int),U zd (c:Int),U zd ek,U zd ex,O pa pl pc,O aa j ac,O ta tl tc,O ea el ec] wr.drew w.heap.size):=fun jj u hu=>(H0.o.box hf (Nat.le_refl _) (HRW1.o jj u hu):wr.cell? ⟨w.heap.size,jj,none⟩=some u)
     have z16:=hfull.row 16 _ rfl
     have zb3:wr.cell? ⟨b3,c,none⟩=some (U zd fst):=hfull.first c _ (by simp [HFL.o])
     have hcl:c < fl.length:=(List.getElem?_eq_some_iff.1 HFL.o).1
     have hci:(c:Int) < (fln:Int):=by have:=HFLL.o;omega
     have KEEP:Hx (∀ W ev2 st3,RnG I w0.heap.size [U zd m,O ga gn gc,O sa sn sc,O ya yn yc,O oa on oc,O va vn vc,O (some ⟨fb,foff,none⟩) fn fc,O ba bn bc,O xa xn xc,U zd (F:Int),O (some ⟨b3,0,none⟩) fln c3] br b1 b2 b3 fl dp st3 ev2 W->Fr br b1 b2 ev ev2 wr.drew W->(Kk w za zl zc br b3 fln c3 c fst n ek ex pa pl pc aa j ac ta tl tc ea el ec W)):=fun W ev2 st3 hr3 hf3=>
      ⟨H0.o.box hf3 (by omega) z1,hr3.row 16 _ rfl,H0.o.box hf3 (by omega) z6,hr3.first c _ (by simp [HFL.o]),H0.o.box hf3 (Nat.le_refl _) (HRW2.o 0 _ rfl),H0.o.box hf3 (Nat.le_refl _) (HRW2.o 1 _ rfl),H0.o.box hf3 (Nat.le_refl _) (HRW2.o 3 _ rfl),H0.o.box hf3 (Nat.le_refl _) (HRW2.o 4 _ rfl),H0.o.box hf3 (Nat.le_refl _) (HRW2.o 5 _ rfl),H0.o.box hf3 (Nat.le_refl _) (HRW2.o 6 _ rfl),H0.o.box hf3 (Nat.le_refl _) (HRW2.o 7 _ rfl),H0.o.box hf3 (Nat.le_refl _) (HRW2.o 8 _ rfl)⟩
     have z01:=KEEP.o wr.drew ev _ (hfull.drewN 1) (Fr.refl _ _ _ _ _)
     have Z01:=Aa z01
     have KEEP5:Hx (∀ W ev2,Fr br b1 b2 ev ev2 wr.drew W->(W.cell? ⟨w.heap.size,1,none⟩=some (U zd (n:Int))/\W.cell? ⟨w.heap.size+1,2,none⟩=some (U zd rk)/\W.cell? ⟨w.heap.size+1,3,none⟩=some (U zd rN)/\W.cell? ⟨w.heap.size+1,4,none⟩=some (O ra rl rc))):=fun W ev2 hf3=>
      ⟨H0.o.box hf3 (by omega) z5,H0.o.box hf3 (by omega) z2,H0.o.box hf3 (by omega) z3,H0.o.box hf3 (by omega) z4⟩
     have HFW:=Aa hfw
     have HB0Q:=Aa hB0q2
     have HFULL:=Aa hfull
     clear z01
     obtain ⟨T,hT⟩:=nm (rr st2)
     have HRR:Hx (rr ({ st with vars:=BH st.vars (ps.zip (asl.map (AB st.vars K))) }:RSt)=T):=by rw [hT];exact congrArg rr hstx
     rw [<-hT] at KS
     clear hT
     clear hr hf hfw hB0q hvl hql hq htz hfull hst2 hstx hno2 hg2 hB0q2 y1 y2 y3 y4 y5 y6 z2 z3 z4 z5 HPW HAO HXS HST2 HS hcl
     obtain ⟨tb,ts⟩:=T
     cases tb with
     | false=>
      go_wp2_with fail
      refine gS (Kk w za zl zc br b3 fln c3 c fst n ek ex pa pl pc aa j ac ta tl tc ea el ec) (Z01.o) fun hHeld=>?_
      refine kT 0 ?_
      refine kT 1 ?_
      refine kT 2 ?_
      refine kT 3 ?_
      refine kT 4 ?_
      refine kT 5 ?_
      refine kT 6 ?_
      refine kT 7 ?_
      refine kT 8 ?_
      refine kT 9 ?_
      refine kT 10 ?_
      refine rdA 11 rfl fun K hK=>?_
      go_simp
      refine (KS.o).mono ?_
      rintro e wt ⟨he,⟨ev2,hr2,hf2⟩,hno2⟩
      dsimp only at he
      subst he
      go_simp
      refine xK hK (KEEP.o _ _ _ hr2 hf2) fun hHeld=>?_
      clear hK K
      refine kT 12 ?_
      refine kT 13 ?_
      refine kU 14 ?_
      refine kU 15 ?_
      refine kU 16 ?_
      refine kU 17 ?_
      refine kU 18 ?_
      refine kT 19 ?_
      refine gE ?_
      have HF2:=Aa (And.intro hr2 ((HFW.o.over (below_drewN (Below.refl _ _) 1)).trans hf2))
      have HN2:=Aa hno2
      clear hr2 hf2 hno2
      go_wp2_with fail
      go_ret
      rw [HRR.o]
      exact ⟨rfl,⟨ev2,HF2.o⟩,HN2.o⟩
     | true=>
      have KPT:=Aa (KP.o ts)
      obtain ⟨qb,qs,hpp⟩:∃ qb qs,Bm I.ob 3 a dp d ts=(qb,qs):=⟨_,_,rfl⟩
      have HNP:Hx (Bc vn yn F ts->Bc vn yn F qs):=fun hq=>by
       have:=hq.pass I.ob 3 a dp d
       rw [hpp] at this
       exact this
      rw [hpp] at KPT
      have e9:A2 (true,ts) (fun st1=>A2 (Bm I.ob 3 a dp d st1) (fun st'=>(true,st'.setv (n:Int) (AB st'.vars K res))))=A2 (qb,qs) (fun st'=>(true,st'.setv (n:Int) (AB st'.vars K res))):=by
       show A2 (Bm I.ob 3 a dp d ts) (fun st'=>(true,st'.setv (n:Int) (AB st'.vars K res)))=_
       rw [hpp]
      have HE9:=Aa e9
      clear hpp e9 KP z1 z16 z6 zb3
      cases qb with
      | false=>
       go_wp2_with fail
       refine gS (Kk w za zl zc br b3 fln c3 c fst n ek ex pa pl pc aa j ac ta tl tc ea el ec) (Z01.o) fun hHeld=>?_
       refine kT 0 ?_
       refine kT 1 ?_
       refine kT 2 ?_
       refine kT 3 ?_
       refine kT 4 ?_
       refine kT 5 ?_
       refine kT 6 ?_
       refine kT 7 ?_
       refine kT 8 ?_
       refine kT 9 ?_
       refine kT 10 ?_
       refine rdA 11 rfl fun K hK=>?_
       go_simp
       refine (KS.o).mono ?_
       rintro e wt ⟨he,⟨ev2,hr2,hf2⟩,hno2⟩
       dsimp only at he
       subst he
       go_simp
       refine xK hK (KEEP.o _ _ _ hr2 hf2) fun hHeld=>?_
       clear hK K
       refine kT 12 ?_
       refine kT 13 ?_
       refine kT 14 ?_
       refine kT 15 ?_
       refine kT 16 ?_
       refine rdA 17 rfl fun K hK=>?_
       go_simp
       refine (KPT.o ev2 _ hr2 (HB0Q.o.trans ((HFULL.o.drewN 1).below hf2))).mono ?_
       rintro e w4 ⟨he4,ev4,hr4,hf4,hn4⟩
       dsimp only at he4
       subst he4
       go_simp
       refine xK hK (KEEP.o _ _ _ hr4 (hf2.trans hf4)) fun hHeld=>?_
       clear hK K
       refine kT 18 ?_
       refine kT 19 ?_
       refine gE ?_
       have HF4:=Aa (And.intro hr4 (((HFW.o.over (below_drewN (Below.refl _ _) 1)).trans hf2).trans hf4))
       have HN4:=Aa (HNP.o hno2)
       clear hr2 hf2 hno2 hr4 hf4 hn4
       go_wp2_with fail
       go_ret
       rw [HRR.o,HE9.o]
       exact ⟨rfl,⟨ev4,HF4.o⟩,HN4.o⟩
      | true=>
       go_wp2_with fail
       refine gS (Kk w za zl zc br b3 fln c3 c fst n ek ex pa pl pc aa j ac ta tl tc ea el ec) (Z01.o) fun hHeld=>?_
       refine kT 0 ?_
       refine kT 1 ?_
       refine kT 2 ?_
       refine kT 3 ?_
       refine kT 4 ?_
       refine kT 5 ?_
       refine kT 6 ?_
       refine kT 7 ?_
       refine kT 8 ?_
       refine kT 9 ?_
       refine kT 10 ?_
       refine rdA 11 rfl fun K hK=>?_
       go_simp
       refine (KS.o).mono ?_
       rintro e wt ⟨he,⟨ev2,hr2,hf2⟩,hno2⟩
       dsimp only at he
       subst he
       go_simp
       refine xK hK (KEEP.o _ _ _ hr2 hf2) fun hHeld=>?_
       clear hK K
       refine kT 12 ?_
       refine kT 13 ?_
       refine kT 14 ?_
       refine kT 15 ?_
       refine kT 16 ?_
       refine rdA 17 rfl fun K hK=>?_
       go_simp
       refine (KPT.o ev2 _ hr2 (HB0Q.o.trans ((HFULL.o.drewN 1).below hf2))).mono ?_
       rintro e w4 ⟨he4,ev4,hr4,hf4,hn4⟩
       dsimp only at he4
       subst he4
       go_simp
       refine xK hK (KEEP.o _ _ _ hr4 (hf2.trans hf4)) fun hHeld=>?_
       clear hK K
       refine kT 18 ?_
       refine kT 19 ?_
       refine gE ?_
       have HNP2:=Aa (HNP.o hno2)
       have HFt:=Aa hf2
       clear hr2 hf2 hno2 hn4
       dsimp only at hr4
       have hft4:=HFt.o.trans hf4
       obtain ⟨x5,x2,x3,x4⟩:=KEEP5.o _ _ hft4
       have hno2':Bc vn yn F qs:=HNP2.o
       have HF2:=Aa ((HFW.o.over (below_drewN (Below.refl _ _) 1)).trans hft4)
       have hB0t:Ov w0 w4:=HB0Q.o.trans ((HFULL.o.drewN 1).below hft4)
       have h':=hr4.drewN 1
       have KV:=Aa (B1 m ga gn gc sa sn sc ya yn yc oa on oc va vn vc (some ⟨fb,foff,none⟩) fn fc ba bn bc xa xn xc F fln c3 w0.heap.size br b1 b2 b3 fl dp qs ev4 K _ res w4.drew h' (HRES.o.over hB0t.drew) (by rw [hno2'.vl];exact HRO.o) hno2'.i32)
       have x1:=h'.row 1 _ rfl
       rw [hno2'.vl] at x1
       have hnl:n < qs.vars.length:=by rw [hno2'.vl];exact hn
       have HRF:Hx (∀ W,Ov w4.drew W->RnG I w0.heap.size [U zd m,O ga gn gc,O sa sn sc,O ya yn yc,O oa on oc,O va vn vc,O (some ⟨fb,foff,none⟩) fn fc,O ba bn bc,O xa xn xc,U zd (F:Int),O (some ⟨b3,0,none⟩) fln c3] br b1 b2 b3 fl dp (qs.setv (n:Int) (AB qs.vars K res)) ev4 (W.setCell ⟨b1,n,none⟩ (U zd (AB qs.vars K res)))/\Fr br b1 b2 ev ev4 w (W.setCell ⟨b1,n,none⟩ (U zd (AB qs.vars K res)))):=fun W hW=>by
        have r:=(h'.over hW).setVar (n:Int) (AB qs.vars K res) (by simpa using hnl)
        exact ⟨by simpa using r,(HF2.o.over (below_drewN (Below.refl _ _) 1)).trans ((Fr.of_below hW).trans (Ei (h'.over hW) _ _))⟩
       have hvw:∀ W,Ov w4.drew W->W.cell? ⟨b1,n,none⟩=some (U zd qs.vars[n])/\W.frozen? ⟨b1,n,none⟩=false/\b1 < W.heap.size:=fun W hW=>⟨(h'.over hW).vars n _ (by simp [hnl]),(h'.over hW).z1 n,(h'.over hW).hi.2.1⟩
       obtain ⟨y,hy⟩:=nm (qs.vars[n])
       rw [<-hy] at hvw
       have HVW:=Aa hvw
       have hI:=EN hno2'.i32 K res (by rw [hno2'.vl];exact HRO.o)
       have HNF:=Aa (hno2'.setv (v:=(n:Int)) hI)
       have nb:w.heap.size≠b1:=by have:=H0.o.hi;omega
       have nb1:w.heap.size+1≠b1:=by have:=H0.o.hi;omega
       have nr:br≠b1:=H0.o.apart.1
       have hni:(n:Int) < (vn:Int):=by omega
       obtain ⟨vx,hvx⟩:=nm (AB qs.vars K res)
       have HVX:=Aa hvx
       rw [<-hvx] at KV HRF
       clear hr4 hf4 hft4 hno2' h' hB0t hnl hvw hy hI hvx
       go_wp2_with fail
       go_region_held3 (fun W=>W.cell? ⟨br,1,none⟩=some (O (some ⟨b1,0,none⟩) vn vn)/\W.cell? ⟨w.heap.size,1,none⟩=some (U zd (n:Int))/\W.cell? ⟨w.heap.size+1,2,none⟩=some (U zd rk)/\W.cell? ⟨w.heap.size+1,3,none⟩=some (U zd rN)/\W.cell? ⟨w.heap.size+1,4,none⟩=some (O ra rl rc)) (first | assumption | exact ⟨x1,x5,x2,x3,x4⟩ | exact H8 (by assumption) hbp | exact Qi (by assumption) (CI (n:=0)) nr nb nb1 | fail) (first | (go_at_call 222;refine (KV.o).mono ?_;rintro e wp ⟨rfl,hbp⟩;obtain ⟨u0,uz,ul⟩:=HVW.o _ hbp))
       have HE:=Aa (HRF.o _ hbp)
       go_wp2_with fail
       go_ret
       rw [HRR.o,HE9.o]
       have hvx:=HVX.o
       subst hvx
       exact ⟨rfl,⟨ev4,HE.o⟩,HNF.o⟩
structure L5 (I:BS) (K kf:Nat) (m:Int) (ga:Option Addr) (gn gc:Nat) (sa:Option Addr) (sn sc:Nat) (ya:Option Addr) (yn yc:Nat) (oa:Option Addr) (on oc:Nat) (va:Option Addr) (vn vc:Nat) (fa:Option Addr) (fn fc:Nat) (ba:Option Addr) (bn bc:Nat) (xa:Option Addr) (xn xc:Nat) (F fln c3:Nat) (br b1 b2 b3:Nat) (fl:List Int) (fs:List FnD) (ins:List (List Int)) (w0:World):Prop where
 funcs:Bk w0 K kf (O fa fn fc) fs
 lists:Bi w0 (O xa xn xc) ins
 many:ins.length=yn
 long:∀ x∈ins,x.length<=100
 num:∀ x∈ins,∀ y∈x,I32 y
 fuel:F<=2000
 vars:vn<=16
 fnE:fn=fs.length
 fn5:fs.length<=5
 flE:fl=(List.range (fs.length+1)).map (fun i=>((AV kf (fs.take i):Nat):Int))
 flN:fln=fs.length+1
 cnt:AV kf fs<=50
 may:KU I w0 K vn yn on fs
 body:∀ i (h:i < fs.length),okF K vn yn on (i:Int) fs kf fs[i]
def Kb (I:BS) (K kf:Nat) (m:Int) (ga:Option Addr) (gn gc:Nat) (sa:Option Addr) (sn sc:Nat) (ya:Option Addr) (yn yc:Nat) (oa:Option Addr) (on oc:Nat) (va:Option Addr) (vn vc:Nat) (fa:Option Addr) (fn fc:Nat) (ba:Option Addr) (bn bc:Nat) (xa:Option Addr) (xn xc:Nat) (F fln c3:Nat) (br b1 b2 b3:Nat) (fl:List Int) (fs:List FnD) (ins:List (List Int)) (w0:World) (g:Nat):Prop:=∀ (k:Nat) (v:Value) (l:List D) (c a:Int) (dp:Nat) (st:RSt) (ev:Ow) (w:World),Bd w0 K k v l->c<=fs.length->(∀ s∈l,okS K vn yn on c fs k s)->0<=a->a+(AC k l:Nat)<=100->dp+g<=9000->Ov w0 w->RnG I w0.heap.size [U zd m,O ga gn gc,O sa sn sc,O ya yn yc,O oa on oc,O va vn vc,O fa fn fc,O ba bn bc,O xa xn xc,U zd (F:Int),O (some ⟨b3,0,none⟩) fln c3] br b1 b2 b3 fl dp st ev w->Bc vn yn F st->3*(F - st.steps)+1<=g ->
 Calls Tryz.prog 119 #[zi (some ⟨br,0,none⟩),v,U zd a] w (Fv I m ga gn gc sa sn sc ya yn yc oa on oc va vn vc fa fn fc ba bn bc xa xn xc F fln c3 w0.heap.size br b1 b2 b3 fl dp (rn K kf fs F ins I.ob g 0 k l a dp st) ev w)
def Pr (I:BS) (K kf:Nat) (m:Int) (ga:Option Addr) (gn gc:Nat) (sa:Option Addr) (sn sc:Nat) (ya:Option Addr) (yn yc:Nat) (oa:Option Addr) (on oc:Nat) (va:Option Addr) (vn vc:Nat) (fa:Option Addr) (fn fc:Nat) (ba:Option Addr) (bn bc:Nat) (xa:Option Addr) (xn xc:Nat) (F fln c3:Nat) (br b1 b2 b3:Nat) (fl:List Int) (fs:List FnD) (ins:List (List Int)) (w0:World) (g:Nat):Prop:=∀ (k:Nat) (cs:List Value) (d:D) (c a:Int) (dp:Nat) (st:RSt) (ev:Ow) (w:World),RS w0 K k cs d->c<=fs.length->okS K vn yn on c fs k d->0<=a->a+(CJ k d:Nat)<=100->dp+g<=9000->Ov w0 w->RnG I w0.heap.size [U zd m,O ga gn gc,O sa sn sc,O ya yn yc,O oa on oc,O va vn vc,O fa fn fc,O ba bn bc,O xa xn xc,U zd (F:Int),O (some ⟨b3,0,none⟩) fln c3] br b1 b2 b3 fl dp st ev w->Fw vn yn F st->((Ag d=7\/Ag d=8)->I.ok (dp+1) st.o)->3*(F - st.steps)+3<=g ->
 Calls Tryz.prog 184 #[zi (some ⟨br,0,none⟩),.agg cs.toArray,U zd a] w (Fv I m ga gn gc sa sn sc ya yn yc oa on oc va vn vc fa fn fc ba bn bc xa xn xc F fln c3 w0.heap.size br b1 b2 b3 fl dp (rn K kf fs F ins I.ob g 1 k [d] a dp st) ev w)
theorem Bd.at {w:World} {K k:Nat} {ao:Option Addr} {cap n:Nat} {l:List D} (h:Bd w K k (O ao n cap) l) {j:Nat} (hj:j < l.length) :
  ∃ b off cs,ao=some ⟨b,off,none⟩/\(∀ (i:Nat) (u:Value),cs[i]? = some u->w.cell? ⟨b,off+j*9+i,none⟩=some u)/\RS w K k cs l[j]:=by
 obtain ⟨-,ao',cap',he,hc⟩:=h
 injection he with e1 e2 e3
 obtain ⟨b,off,hb,hel⟩:=hc (by intro hz;rw [hz] at hj;simp at hj)
 obtain ⟨cs,-,hcs,hr⟩:=hel j l[j] (List.getElem?_eq_getElem hj)
 exact ⟨b,off,cs,e1.trans hb,hcs,hr⟩
theorem LP {k:Nat} {l:List D} {j:Nat} (hj:j < l.length):AC k (l.drop j)=CJ k l[j] + AC k (l.drop (j+1)):=by
 unfold AC
 rw [List.drop_eq_getElem_cons hj,List.map_cons,List.sum_cons]
theorem Py (I:BS) (K kf:Nat) (m:Int) (ga gn gc sa sn sc ya yn yc oa on oc va vn vc fa fn fc ba bn bc xa xn xc) (F fln c3:Nat) (br b1 b2 b3:Nat) (fl fs ins) (w0:World) (g:Nat) (X:L5 I K kf m ga gn gc sa sn sc ya yn yc oa on oc va vn vc fa fn fc ba bn bc xa xn xc F fln c3 br b1 b2 b3 fl fs ins w0) (HM:Hx (∀ g',g' < g->Pr I K kf m ga gn gc sa sn sc ya yn yc oa on oc va vn vc fa fn fc ba bn bc xa xn xc F fln c3 br b1 b2 b3 fl fs ins w0 g')):Kb I K kf m ga gn gc sa sn sc ya yn yc oa on oc va vn vc fa fn fc ba bn bc xa xn xc F fln c3 br b1 b2 b3 fl fs ins w0 g:=by
 intro k v l c a dp st ev w hl hc hok ha hac hdp hB0 h hno hg
 have hlen:l.length<=9223372036854775807:=hl.1
 obtain ⟨ao,cap,rfl,-⟩:=hl.2
 have HL:=Aa hl
 have HOK:=Aa hok
 have H0:=Aa h
 have HB0:=Aa hB0
 have HC:=Aa hc
 have hF:=X.fuel
 obtain ⟨T,hT⟩:=nm (rn K kf fs F ins I.ob g 0 k l a dp st)
 rw [<-hT]
 have HST:Hx (∃ (j g':Nat) (st':RSt) (ev':Ow),j<=l.length/\0<=a/\a+(AC k (l.drop j):Nat)<=100/\RnG I w0.heap.size [U zd m,O ga gn gc,O sa sn sc,O ya yn yc,O oa on oc,O va vn vc,O fa fn fc,O ba bn bc,O xa xn xc,U zd (F:Int),O (some ⟨b3,0,none⟩) fln c3] br b1 b2 b3 fl dp st' ev' w/\Fr br b1 b2 ev ev' w w/\Bc vn yn F st'/\3*(F - st'.steps)+1<=g'/\g'<=g/\rn K kf fs F ins I.ob g' 0 k (l.drop j) a dp st'=T/\j=0):=⟨0,g,st,ev,Nat.zero_le _,ha,by simpa using hac,h,Fr.refl _ _ _ _ _,hno,hg,Nat.le_refl _,by rw [List.drop_zero];exact hT.symm,rfl⟩
 clear hl hok hB0 hno hg hT hac ha hc h
 go_enter Tryz.func119,Tryz.ntmps119
 go_wp2_with fail
 go_loopw [2,6,11] (fun z s i wr=>∃ (j g':Nat) (st':RSt) (ev':Ow) (a':Int),z=U zd a'/\s=zg false/\i=U zd j/\j<=l.length/\0<=a'/\a' + (AC k (l.drop j):Nat)<=100/\RnG I w0.heap.size [U zd m,O ga gn gc,O sa sn sc,O ya yn yc,O oa on oc,O va vn vc,O fa fn fc,O ba bn bc,O xa xn xc,U zd (F:Int),O (some ⟨b3,0,none⟩) fln c3] br b1 b2 b3 fl dp st' ev' wr/\Fr br b1 b2 ev ev' w wr/\Bc vn yn F st'/\3*(F - st'.steps)+1<=g'/\g'<=g/\rn K kf fs F ins I.ob g' 0 k (l.drop j) a' dp st'=T) (fun _ _ i _=>l.length - (intOf i).toNat)
 case atStart=>
  obtain ⟨j,g',st',ev',i1,i2,i3,i4,i5,i6,i7,i8,i9,rfl⟩:=HST.o
  exact ⟨0,g',st',ev',a,rfl,rfl,rfl,i1,i2,i3,i4,i5,i6,i7,i8,i9⟩
 case round=>
  clear HST
  obtain ⟨j,g',st',ev',a',rfl,rfl,rfl,hj,ha,hac,hr,hf,hno,hg',hgg,hrn⟩:=hrel
  have hB0r:Ov w0 wr:=HB0.o.trans (H0.o.below hf)
  obtain ⟨g2,rfl⟩:∃ g2,g'=g2+1:=⟨g' - 1,by omega⟩
  have HR:=Aa hr
  have HFR:=Aa hf
  have HNO:=Aa hno
  by_cases hjl:j < l.length
  ·obtain ⟨b,off,cs,hao,hcs,hrs⟩:=HL.o.at hjl
   subst hao
   have hdr:=LP (k:=k) hjl
   have hun:rn K kf fs F ins I.ob (g2+1) 0 k (l.drop j) a' dp st'=if st'.steps=F then (false,st'.out) else A2 (Bm I.ob 1 a' dp l[j] st'.step) (fun st1=>A2 (rn K kf fs F ins I.ob g2 1 k [l[j]] a' dp st1) (fun st''=>rn K kf fs F ins I.ob g2 0 k (l.drop (j+1)) (a' + CJ k l[j]) dp st'')):=by
    rw [List.drop_eq_getElem_cons hjl]
    simp only [rn]
   rw [hun] at hrn
   have hokj:=HOK.o l[j] (List.getElem_mem hjl)
   obtain ⟨k',rfl⟩:∃ k',k=k' + 1:=by
    cases k with
    | zero=>exact hrs.elim
    | succ k=>exact ⟨k,rfl⟩
   obtain ⟨d,hd⟩:=nm (l[j])
   rw [<-hd] at hrs hdr hrn hokj
   have hrs0:=hrs
   obtain ⟨ek,ex,pa,pl,pc,aa,ac,ta,tc,ea,ec,hcse,-,-,-,-,-,-,-,-,-,-⟩:=hrs0.form
   obtain ⟨kd,hkd⟩:=nm (Ag d)
   obtain ⟨sv,hsv⟩:=nm (Ao d)
   obtain ⟨so,hso⟩:=nm (Ae d)
   obtain ⟨al,hal⟩:=nm ((Ah d).length)
   obtain ⟨tl,htl⟩:=nm ((Ai d).length)
   obtain ⟨el,hel⟩:=nm ((Al d).length)
   rw [<-hkd,<-hsv,<-hso,<-hal,<-htl,<-hel] at hcse
   subst hcse
   clear hkd hsv hso hal htl hel hd hun
   have q0:wr.cell? ⟨b,off+j*9,none⟩=_:=Ab hB0r _ _ (hcs 0 _ rfl)
   have q1:=Ab hB0r _ _ (hcs 1 _ rfl)
   have q2:=Ab hB0r _ _ (hcs 2 _ rfl)
   have q3:=Ab hB0r _ _ (hcs 3 _ rfl)
   have q4:=Ab hB0r _ _ (hcs 4 _ rfl)
   have q5:=Ab hB0r _ _ (hcs 5 _ rfl)
   have q6:=Ab hB0r _ _ (hcs 6 _ rfl)
   have q7:=Ab hB0r _ _ (hcs 7 _ rfl)
   have q8:=Ab hB0r _ _ (hcs 8 _ rfl)
   have hba:Ov wr (wr.alloc (ze #[U zd kd,U zd sv,U zd so,U zd ek,U zd ex,O pa pl pc,O aa al ac,O ta tl tc,O ea el ec] 130)):=bA wr _
   have hrb:=hr.over hba
   have hB0b:=hB0r.trans (hba.mono hB0r.size)
   by_cases hsF:st'.steps=F
   ·rw [if_pos hsF] at hrn
    have KN:=Aa (Kp m ga gn gc sa sn sc ya yn yc oa on oc va vn vc fa fn fc ba bn bc xa xn xc F fln c3 w0.heap.size br b1 b2 b3 fl dp st' ev' (wr.alloc (ze #[U zd kd,U zd sv,U zd so,U zd ek,U zd ex,O pa pl pc,O aa al ac,O ta tl tc,O ea el ec] 130)) hrb hsF)
    have HRN:=Aa hrn
    clear hrn hsF hr hf hno hg' hrb hB0b hB0r hcs hrs hokj hdr HM
    go_wp2_with fail
    refine (KN.o).mono ?_
    rintro e w3 ⟨rfl,hr3,hf3⟩
    have HF3:=Aa (And.intro hr3 ((HFR.o.over hba).trans hf3))
    clear hr3 hf3
    go_wp2_with fail
    go_ret
    rw [<-HRN.o]
    exact ⟨rfl,⟨ev',HF3.o⟩,HNO.o.o⟩
   ·rw [if_neg hsF] at hrn
    have hsL:st'.steps < F:=by have:st'.steps<=F:=hno.sb;omega
    have KN:=Aa (Iz m ga gn gc sa sn sc ya yn yc oa on oc va vn vc fa fn fc ba bn bc xa xn xc F fln c3 w0.heap.size br b1 b2 b3 fl dp st' ev' (wr.alloc (ze #[U zd kd,U zd sv,U zd so,U zd ek,U zd ex,O pa pl pc,O aa al ac,O ta tl tc,O ea el ec] 130)) hrb hsL hF)
    obtain ⟨qb,s1,hpp⟩:∃ qb qs,Bm I.ob 1 a' dp d st'.step=(qb,qs):=⟨_,_,rfl⟩
    have hps:s1.steps=st'.steps+1:=by
     have:=CW I.ob 1 a' dp d st'.step
     rw [hpp] at this
     exact this
    have hns:Fw vn yn F s1:=by
     have:=(hno.stepS hsL).pass I.ob 1 a' dp d
     rw [hpp] at this
     exact this
    have KP:=Aa fun W (hW:RnG I w0.heap.size [U zd m,O ga gn gc,O sa sn sc,O ya yn yc,O oa on oc,O va vn vc,O fa fn fc,O ba bn bc,O xa xn xc,U zd (F:Int),O (some ⟨b3,0,none⟩) fln c3] br b1 b2 b3 fl dp st'.step ev' W) (hBW:Ov w0 W)=>EC m ga gn gc sa sn sc ya yn yc oa on oc va vn vc fa fn fc ba bn bc xa xn xc F fln c3 w0.heap.size br b1 b2 b3 fl dp st'.step ev' K (k' + 1) fs w0 1 a' kd sv so ek ex pa pl pc aa al ac ta tl tc ea el ec d c W X.may hBW hW hrs HC.o hokj ha (by omega) (by omega) (Or.inl rfl)
    have KM:=Aa fun W ev1 (hW:RnG I w0.heap.size [U zd m,O ga gn gc,O sa sn sc,O ya yn yc,O oa on oc,O va vn vc,O fa fn fc,O ba bn bc,O xa xn xc,U zd (F:Int),O (some ⟨b3,0,none⟩) fln c3] br b1 b2 b3 fl dp s1 ev1 W) (hBW:Ov w0 W) hk7=>HM.o g2 (by omega) (k' + 1) _ d c a' dp s1 ev1 W hrs HC.o hokj ha (by omega) (by omega) hBW hW hns hk7 (by rw [hps];omega)
    have KZ:=Aa fun W (hBW:Ov w0 W)=>MB K (k' + 1) _ d W (RS.mono (Ab hBW) _ _ _ _ (Nat.le_refl _) hrs) (by omega)
    have hgr:=(EQ K kf fs F ins I.ob g2 1 (k' + 1) [d] a' dp s1).steps
    rw [hpp] at KP hrn
    obtain ⟨N,hN⟩:∃ N:Nat,N=CJ (k' + 1) d:=⟨_,rfl⟩
    rw [<-hN] at KZ hdr hrn
    have hrn2:qb=true->A2 (rn K kf fs F ins I.ob g2 1 (k' + 1) [d] a' dp s1) (fun st''=>rn K kf fs F ins I.ob g2 0 (k' + 1) (l.drop (j+1)) (a' + N) dp st'')=T:=fun hq=>by rw [hq] at hrn;exact hrn
    have hrn1:qb=false->(false,s1)=T:=fun hq=>by rw [hq] at hrn;exact hrn
    obtain ⟨R1,hR1⟩:=nm (rn K kf fs F ins I.ob g2 1 (k' + 1) [d] a' dp s1)
    rw [<-hR1] at KM hgr hrn2
    have HRN1:=Aa hrn1
    have HRN2:=Aa hrn2
    have HPS:=Aa hps
    have HNS:=Aa hns
    have HGR:=Aa hgr
    have HB0B:=Aa hB0b
    have HG':=Aa hg'
    have HRB:=Aa hrb
    have hN100:N<=100:=by omega
    have HDR:=Aa hdr
    have HAC:=Aa hac
    have HGG:=Aa hgg
    obtain ⟨e0,e1,e2,e3,e4,e5,e6,e7,e8⟩:=rc9 (BC wr [U zd kd,U zd sv,U zd so,U zd ek,U zd ex,O pa pl pc,O aa al ac,O ta tl tc,O ea el ec] 130)
    clear hrn hrn1 hrn2 hps hns hpp hsF hr hf hno hg' hgg hrb hB0b hB0r hcs hrs hokj hdr HM hgr hR1 hN hac
    have HE0:=Aa e0
    have HE1:=Aa e1
    have HE2:=Aa e2
    have HE3:=Aa e3
    have HE4:=Aa e4
    have HE5:=Aa e5
    have HE6:=Aa e6
    have HE7:=Aa e7
    have HE8:=Aa e8
    obtain ⟨rb,rs⟩:=R1
    cases qb with
    | false=>
     go_wp2_with fail
     refine (KN.o).mono ?_
     rintro e w3 ⟨rfl,hr3,hf3⟩
     have hB3:Ov w0 w3:=HB0B.o.trans (HRB.o.below hf3)
     have KP':=Aa (KP.o w3 hr3 hB3)
     have i0:=HR.o.box hf3 (Nat.le_refl _) e0
     have i1:=HR.o.box hf3 (Nat.le_refl _) e1
     have i2:=HR.o.box hf3 (Nat.le_refl _) e2
     have i3:=HR.o.box hf3 (Nat.le_refl _) e3
     have i4:=HR.o.box hf3 (Nat.le_refl _) e4
     have i5:=HR.o.box hf3 (Nat.le_refl _) e5
     have i6:=HR.o.box hf3 (Nat.le_refl _) e6
     have i7:=HR.o.box hf3 (Nat.le_refl _) e7
     have i8:=HR.o.box hf3 (Nat.le_refl _) e8
     have HF3:=Aa hf3
     clear KN KM KP hr3 hf3 hB3 e0 e1 e2 e3 e4 e5 e6 e7 e8 q0 q1 q2 q3 q4 q5 q6 q7 q8
     go_wp2_with fail
     refine (KP'.o).mono ?_
     rintro e w4 ⟨he,ev4,hr4,hf4,-⟩
     dsimp only at he
     subst he
     have HF4:=Aa (And.intro hr4 (((HFR.o.over hba).trans HF3.o).trans hf4))
     clear hr4 hf4
     go_wp2_with fail
     go_ret
     rw [<-HRN1.o (by first | rfl | trivial)]
     exact ⟨rfl,⟨ev4,HF4.o⟩,HNS.o.ok⟩
    | true=>
    go_wp2_with fail
    refine (KN.o).mono ?_
    rintro e w3 ⟨rfl,hr3,hf3⟩
    have hB3:Ov w0 w3:=HB0B.o.trans (HRB.o.below hf3)
    have KP':=Aa (KP.o w3 hr3 hB3)
    have x0:=HR.o.box hf3 (Nat.le_refl _) e0
    have x1:=HR.o.box hf3 (Nat.le_refl _) e1
    have x2:=HR.o.box hf3 (Nat.le_refl _) e2
    have x3:=HR.o.box hf3 (Nat.le_refl _) e3
    have x4:=HR.o.box hf3 (Nat.le_refl _) e4
    have x5:=HR.o.box hf3 (Nat.le_refl _) e5
    have x6:=HR.o.box hf3 (Nat.le_refl _) e6
    have x7:=HR.o.box hf3 (Nat.le_refl _) e7
    have x8:=HR.o.box hf3 (Nat.le_refl _) e8
    have HR2:=Aa hr3
    have HF2:=Aa hf3
    have HB2:=Aa hB3
    clear KN KP hr3 hf3 hB3 e0 e1 e2 e3 e4 e5 e6 e7 e8 q0 q1 q2 q3 q4 q5 q6 q7 q8
    go_wp2_with fail
    refine (KP'.o).mono ?_
    rintro e w2 ⟨he,ev2,hr2,hf2,hk2⟩
    dsimp only at he hr2 hk2
    subst he
    have hB2:Ov w0 w2:=HB2.o.trans (HR2.o.below hf2)
    have KM':=Aa (KM.o w2 ev2 hr2 hB2 (fun hk=>hk2 rfl (Or.inl ⟨rfl,hk⟩)))
    have i0:=HR.o.box hf2 (Nat.le_refl _) x0
    have i1:=HR.o.box hf2 (Nat.le_refl _) x1
    have i2:=HR.o.box hf2 (Nat.le_refl _) x2
    have i3:=HR.o.box hf2 (Nat.le_refl _) x3
    have i4:=HR.o.box hf2 (Nat.le_refl _) x4
    have i5:=HR.o.box hf2 (Nat.le_refl _) x5
    have i6:=HR.o.box hf2 (Nat.le_refl _) x6
    have i7:=HR.o.box hf2 (Nat.le_refl _) x7
    have i8:=HR.o.box hf2 (Nat.le_refl _) x8
    have HR3:=Aa hr2
    have HF3:=Aa (HF2.o.trans hf2)
    have HB3:=Aa hB2
    clear KP' KM hr2 hf2 hB2 hk2 HF2 HR2 HB2 x0 x1 x2 x3 x4 x5 x6 x7 x8
    cases rb with
    | false=>
     go_wp2_with fail
     refine (KM'.o).mono ?_
     rintro e w4 ⟨he,⟨ev4,hr4,hf4⟩,hno4⟩
     dsimp only at he
     subst he
     have HF4:=Aa (And.intro hr4 (((HFR.o.over hba).trans HF3.o).trans hf4))
     have HN4:=Aa hno4
     clear hr4 hf4 hno4
     go_wp2_with fail
     go_ret
     rw [<-HRN2.o (by first | rfl | trivial)]
     exact ⟨rfl,⟨ev4,HF4.o⟩,HN4.o⟩
    | true=>
     go_wp2_with fail
     refine (KM'.o).mono ?_
     rintro e w4 ⟨he,⟨ev4,hr4,hf4⟩,hno4⟩
     dsimp only at he
     subst he
     have hr4':RnG I w0.heap.size [U zd m,O ga gn gc,O sa sn sc,O ya yn yc,O oa on oc,O va vn vc,O fa fn fc,O ba bn bc,O xa xn xc,U zd (F:Int),O (some ⟨b3,0,none⟩) fln c3] br b1 b2 b3 fl dp rs ev4 w4:=hr4
     have hno4':Bc vn yn F rs:=hno4
     have HF34:=Aa (HF3.o.trans hf4)
     have hB4:Ov w0 w4:=HB3.o.trans (HR3.o.below hf4)
     have KZ':=Aa (KZ.o w4 hB4)
     have j0:=HR.o.box (HF3.o.trans hf4) (Nat.le_refl _) HE0.o
     have j1:=HR.o.box (HF3.o.trans hf4) (Nat.le_refl _) HE1.o
     have j2:=HR.o.box (HF3.o.trans hf4) (Nat.le_refl _) HE2.o
     have j3:=HR.o.box (HF3.o.trans hf4) (Nat.le_refl _) HE3.o
     have j4:=HR.o.box (HF3.o.trans hf4) (Nat.le_refl _) HE4.o
     have j5:=HR.o.box (HF3.o.trans hf4) (Nat.le_refl _) HE5.o
     have j6:=HR.o.box (HF3.o.trans hf4) (Nat.le_refl _) HE6.o
     have j7:=HR.o.box (HF3.o.trans hf4) (Nat.le_refl _) HE7.o
     have j8:=HR.o.box (HF3.o.trans hf4) (Nat.le_refl _) HE8.o
     have HR4:=Aa hr4'
     have HN4:=Aa hno4'
     clear KM' KZ hr4 hr4' hf4 hno4 hno4' hB4 i0 i1 i2 i3 i4 i5 i6 i7 i8
     go_wp2_with fail
     refine (KZ'.o).mono ?_
     rintro e w5 ⟨rfl,hb5⟩
     have HB5:=Aa hb5
     clear hb5 KZ' j0 j1 j2 j3 j4 j5 j6 j7 j8
     go_wp2_with fail
     have hdr:=HDR.o
     have hac:=HAC.o
     have hgr:s1.steps<=rs.steps:=HGR.o
     have hst:s1.steps=st'.steps+1:=HPS.o
     have hg':=HG'.o
     have hwr:wrap64 (a' + (N:Int))=a' + N:=by unfold wrap64;omega
     refine ⟨⟨j+1,g2,rs,ev4,a' + N,by rw [hwr],rfl,by go_num,by omega,by omega,by omega,HR4.o.over HB5.o,((HFR.o.over hba).trans HF34.o).over HB5.o,HN4.o,by omega,by have:=HGG.o;omega,?_⟩,by simp [intOf];omega⟩
     rw [<-HRN2.o (by first | rfl | trivial)]
     rfl
  ·have hd:l.drop j=[]:=List.drop_eq_nil_of_le (by omega)
   have hun:rn K kf fs F ins I.ob (g2+1) 0 k (l.drop j) a' dp st'=(true,st'):=by rw [hd];simp only [rn]
   rw [hun] at hrn
   have HRN:=Aa hrn
   clear hun hrn hd hr hf hno hg' hgg hac hB0r
   go_wp2_with fail
   go_ret
   rw [<-HRN.o]
   exact ⟨rfl,⟨ev',HR.o,HFR.o⟩,HNO.o⟩
theorem P7 (K kf:Nat) (fs) (F:Nat) (ins) (ob:Ob) (g k:Nat) (d:D) (l:List D) (a:Int) (dp:Nat) (st:RSt):rn K kf fs F ins ob (g+1) 1 k (d::l) a dp st =
   if Ag d=2 then A2 (rn K kf fs F ins ob g 0 kf (Cv fs (Ae d)).body (AV kf (fs.take (Ae d).toNat)) dp (st.args K fs d)) (fun st1=>A2 (Bm ob 3 a dp d st1) (fun st'=>(true,st'.setv (Ao d) (AB st'.vars K (Cv fs (Ae d)).res))))
   else if Ag d=7 then (if AB st.vars K (Ap d)=0 then rn K kf fs F ins ob g 0 (k - 1) (Al d) (a+1+AC (k - 1) (Ai d)) (dp+1) st else rn K kf fs F ins ob g 0 (k - 1) (Ai d) (a+1) (dp+1) st)
   else if Ag d=8 then rn K kf fs F ins ob g 2 k [d] a dp st
   else (true,Da K ins d a st):=by
 simp only [rn]
theorem NR {ins:List (List Int)} (h:∀ x∈ins,∀ y∈x,I32 y) (st:RSt) (c:Int):I32 (Dh ins st c):=by
 unfold Dh
 rw [List.getD_eq_getElem?_getD,List.getD_eq_getElem?_getD]
 have z:I32 0:=⟨by omega,by omega⟩
 cases hc:ins[c.toNat]? with
 | none=>simpa using z
 | some l=>
  simp only [Option.getD_some]
  cases hy:l[(st.taken.getD c.toNat 0).toNat]? with
  | none=>simpa using z
  | some y=>simpa using h l (List.mem_of_getElem? hc) y (List.mem_of_getElem? hy)
theorem My (I:BS) (K kf:Nat) (m:Int) (ga gn gc sa sn sc ya yn yc oa on oc va vn vc fa fn fc ba bn bc xa xn xc) (F fln c3:Nat) (br b1 b2 b3:Nat) (fl fs ins) (w0:World) (g:Nat) (X:L5 I K kf m ga gn gc sa sn sc ya yn yc oa on oc va vn vc fa fn fc ba bn bc xa xn xc F fln c3 br b1 b2 b3 fl fs ins w0) (HS:∀ g',g' < g->Kb I K kf m ga gn gc sa sn sc ya yn yc oa on oc va vn vc fa fn fc ba bn bc xa xn xc F fln c3 br b1 b2 b3 fl fs ins w0 g'):Pr I K kf m ga gn gc sa sn sc ya yn yc oa on oc va vn vc fa fn fc ba bn bc xa xn xc F fln c3 br b1 b2 b3 fl fs ins w0 g:=by
 intro k cs d c a dp st ev w hrs hc hok ha hac hdp hB0 h hns hk7 hg
 obtain ⟨k',rfl⟩:∃ k',k=k' + 1:=by
  cases k with
  | zero=>exact hrs.elim
  | succ k=>exact ⟨k,rfl⟩
 obtain ⟨g2,rfl⟩:∃ g2,g=g2+1:=⟨g - 1,by omega⟩
 have hcn:CJ (k' + 1) d=1+AC k' (Ai d)+AC k' (Al d):=rfl
 have hno1:=hns.ok
 have hvl:st.vars.length=vn:=hno1.vl
 have hokS:=hok
 obtain ⟨ek,ex,pa,pl,pc,aa,ac,ta,tc,ea,ec,rfl,-,-,-,hX,hA,hT,hE,-,-,-⟩:=hrs.form
 obtain ⟨⟨⟨k1,k8⟩,hvar,hcall,hget,hexp,-,-⟩,hokT,hokE⟩:=hok
 have hXw:=hX.over hB0
 have hoX:(Ag d=1\/4<=Ag d)->okX st.vars.length K (Ap d):=fun hk=>by rw [hvl];exact Ec hX (hexp hk)
 have hvI:(Ag d=1\/4<=Ag d)->I32 (AB st.vars K (Ap d)):=fun hk=>EN hno1.i32 K _ (hoX hk)
 have hF:=X.fuel
 have hv16:=X.vars
 have hsb:st.steps<=F:=hno1.sb
 have hel:st.ev.length<=2000:=by have:=hno1.el;omega
 rw [P7]
 rcases (by omega:Ag d=1\/Ag d=2\/Ag d=3\/Ag d=4\/Ag d=5\/Ag d=6\/Ag d=7\/Ag d=8) with hk | hk | hk | hk | hk | hk | hk | hk
 ·rw [if_neg (by omega),if_neg (by omega),if_neg (by omega)]
  obtain ⟨v0,v1⟩:=hvar (by omega)
  obtain ⟨n,hn⟩:=Int.eq_ofNat_of_zero_le v0
  have he:Da K ins d a st=st.setv (Ao d) (AB st.vars K (Ap d)):=by unfold Da;rw [if_pos hk]
  rw [he,hk,hn]
  refine (PG m ga gn gc sa sn sc ya yn yc oa on oc va vn vc fa fn fc ba bn bc xa xn xc F fln c3 w0.heap.size br b1 b2 b3 fl dp st ev K (Ap d) n (Ae d) ek ex pa pl pc aa (Ah d).length ac ta (Ai d).length tc ea (Al d).length ec a w h hXw (hoX (by omega)) hno1.i32 (by rw [hvl];omega) (by rw [hvl];exact hv16)).mono ?_
  rintro e w' ⟨h1,h2,h3⟩
  exact ⟨h1,⟨ev,h2,h3⟩,hno1.setv (hvI (by omega))⟩
 ·rw [if_pos hk]
  obtain ⟨v0,v1⟩:=hvar (by omega)
  obtain ⟨n,hn⟩:=Int.eq_ofNat_of_zero_le v0
  obtain ⟨⟨o0,o1⟩,hpn,hargs⟩:=hcall hk
  obtain ⟨c',hc'⟩:=Int.eq_ofNat_of_zero_le o0
  have hcl:c' < fs.length:=by omega
  obtain ⟨-,fao,fcap,hfe,hfel⟩:=X.funcs
  injection hfe with e1 e2 e3
  obtain ⟨fb,foff,hfb,hfel2⟩:=hfel (by intro hz;rw [hz] at hcl;simp at hcl)
  have e1':=e1.trans hfb
  subst e1'
  obtain ⟨vP,vB,x0,x1,x2,f0,f1,f2,f3,f4,hp,⟨hpl,qa,qc,hvp,hpc⟩,hbd,hx⟩:=hfel2 c' hcl
  subst hvp
  have hbd0:=hbd
  obtain ⟨-,za,zc,hvb,-⟩:=hbd0
  subst hvb
  obtain ⟨ra,rc,hxf⟩:=hx.form
  simp only [List.cons.injEq,and_true] at hxf
  obtain ⟨rfl,rfl,rfl⟩:=hxf
  obtain ⟨hb4,hbp,hbs,hbr⟩:=X.body c' hcl
  have hfa:Cv fs (Ae d)=fs[c']:=by rw [hc'];simp [Cv,hcl]
  have hpa:fs[c'].ps.length=(Ah d).length:=hpn _ (by rw [hc'];simp [hcl])
  have hfst:(Ae d).toNat=c':=by rw [hc'];rfl
  have hflc:fl[c']? = some ((AV kf (fs.take c'):Nat):Int):=by
   rw [X.flE,List.getElem?_map,List.getElem?_range (by omega)]
   rfl
  have hcf:AV kf (fs.take c')+AC kf fs[c'].body<=50:=by
   have h1:=Dm (k:=kf) hcl
   have h2:AV kf fs=AV kf (fs.take (c' + 1))+AV kf (fs.drop (c' + 1)):=by
    unfold AV
    rw [<-List.sum_append,<-List.map_append,List.take_append_drop]
   have:=X.cnt
   omega
  have harg:∀ x∈Ah d,okX vn K x:=fun x hxm=>by
   obtain ⟨j,hj⟩:=List.mem_iff_getElem?.1 hxm
   obtain ⟨-,aa',ac',hae,hael⟩:=hA
   obtain ⟨eb,eo,heb,hael2⟩:=hael (by intro hz;rw [hz] at hxm;cases hxm)
   obtain ⟨cs,-,-,hrx⟩:=hael2 j x hj
   exact Ec hrx (hargs x hxm)
  have hrr:rn K kf fs F ins I.ob g2 0 kf (Cv fs (Ae d)).body (AV kf (fs.take (Ae d).toNat)) dp (st.args K fs d)=rn K kf fs F ins I.ob g2 0 kf fs[c'].body (AV kf (fs.take c')) dp { st with vars:=BH st.vars (fs[c'].ps.zip ((Ah d).map (AB st.vars K))) }:=by
   unfold RSt.args
   rw [hfa,hfst]
  have hrs':=hrs
  rw [hk,hn,hc'] at hrs'
  rw [hrr,hfa,hk,hn,hc']
  refine PF m ga gn gc sa sn sc ya yn yc oa on oc va vn vc (some ⟨fb,foff,none⟩) fn fc ba bn bc xa xn xc F fln c3 w0.heap.size br b1 b2 b3 fl dp st ev (n:Int) (c':Int) ek ex pa pl pc aa (Ah d).length ac ta (Ai d).length tc ea (Al d).length ec a _ w0 w h hB0 (Aa fun W hW hBW=>?_)
  exact Ra m ga gn gc sa sn sc ya yn yc oa on oc va vn vc fn fc ba bn bc xa xn xc F fln c3 br b1 b2 b3 fl dp d K kf g2 fs[c'].ps (Ah d) fs[c'].res _ n c' fb foff ek ex pa pl pc aa (Ah d).length ac ta (Ai d).length tc ea (Al d).length ec a qa fs[c'].ps.length qc za fs[c'].body.length zc (AK fs[c'].res) (A6 fs[c'].res) ra (AX fs[c'].res).length rc w0 (fun st=>rn K kf fs F ins I.ob g2 0 kf fs[c'].body (AV kf (fs.take c')) dp st)
   (by rw [X.fnE];exact hcl) (by omega) hv16 (by rw [X.fnE];exact X.fn5) f0 f1 f2 f3 f4 hp hbp hpa hA harg (by omega) hx (Ec hx hbr) hflc (by rw [X.flE,X.flN];simp)
   (Aa fun st2 ev2 W2 hW2 hBW2 hno2 hgg=>HS g2 (by omega) kf _ fs[c'].body (c':Int) _ dp st2 ev2 W2 hbd (by omega) hbs (by omega) (by omega) (by omega) hBW2 hW2 hno2 hgg)
   (Aa fun st2 ev2 W2 hW2 hBW2=>EC m ga gn gc sa sn sc ya yn yc oa on oc va vn vc (some ⟨fb,foff,none⟩) fn fc ba bn bc xa xn xc F fln c3 w0.heap.size br b1 b2 b3 fl dp st2 ev2 K (k' + 1) fs w0 3 a 2 (n:Int) (c':Int) ek ex pa pl pc aa (Ah d).length ac ta (Ai d).length tc ea (Al d).length ec d c W2 X.may hBW2 hW2 hrs' hc hokS ha (by omega) (by omega) (Or.inr (Or.inr ⟨rfl,hk⟩)))
   st ev W hW hBW hno1 (by omega)
 ·rw [if_neg (by omega),if_neg (by omega),if_neg (by omega)]
  obtain ⟨v0,v1⟩:=hvar (by omega)
  obtain ⟨n,hn⟩:=Int.eq_ofNat_of_zero_le v0
  have he:Da K ins d a st=(st.took (Ae d)).setv (Ao d) (Dh ins st (Ae d)):=by unfold Da;rw [if_neg (by omega),if_pos hk]
  obtain ⟨o0,o1⟩:=hget hk
  rw [he,hk,hn]
  refine (PE m ga gn gc sa sn sc ya yn yc oa on oc va vn vc fa fn fc ba bn bc xa xn xc F fln c3 w0.heap.size br b1 b2 b3 fl dp st ev n (Ae d) ek ex pa pl pc aa (Ah d).length ac ta (Ai d).length tc ea (Al d).length ec a ins w0 w h hB0 h.lo.2.2 X.lists o0 (by rw [X.many];exact o1) (by rw [X.many];exact hno1.tl.symm) (fun x hx=>⟨(hno1.tk x hx).1,by have:=(hno1.tk x hx).2;omega⟩) X.long (by rw [hvl];omega) (by rw [hvl];exact hv16)).mono ?_
  rintro e w' ⟨h1,h2,h3⟩
  exact ⟨h1,⟨ev,h2,h3⟩,(hns.took _).setv (NR X.num _ _)⟩
 ·rw [if_neg (by omega),if_neg (by omega),if_neg (by omega)]
  have he:Da K ins d a st=st.tell (1,a,Ae d,AB st.vars K (Ap d)):=by unfold Da;rw [if_neg (by omega),if_neg (by omega),if_pos hk]
  rw [he,hk]
  refine (PD m ga gn gc sa sn sc ya yn yc oa on oc va vn vc fa fn fc ba bn bc xa xn xc F fln c3 w0.heap.size br b1 b2 b3 fl dp st ev K (Ap d) (Ao d) (Ae d) ek ex pa pl pc aa (Ah d).length ac ta (Ai d).length tc ea (Al d).length ec a w h hXw (hoX (by omega)) hno1.i32 hel).mono ?_
  rintro e w' ⟨h1,ev',h2,h3⟩
  exact ⟨h1,⟨ev',h2,h3⟩,hns.tell _⟩
 ·rw [if_neg (by omega),if_neg (by omega),if_neg (by omega)]
  obtain ⟨v0,v1⟩:=hvar (by omega)
  obtain ⟨n,hn⟩:=Int.eq_ofNat_of_zero_le v0
  have he:Da K ins d a st=(st.setv (Ao d) (AB st.vars K (Ap d))).tell (2,a,Ao d,AB st.vars K (Ap d)):=by unfold Da;rw [if_neg (by omega),if_neg (by omega),if_neg (by omega),if_pos hk]
  rw [he,hk,hn]
  refine (PC m ga gn gc sa sn sc ya yn yc oa on oc va vn vc fa fn fc ba bn bc xa xn xc F fln c3 w0.heap.size br b1 b2 b3 fl dp st ev K (Ap d) n (Ae d) ek ex pa pl pc aa (Ah d).length ac ta (Ai d).length tc ea (Al d).length ec a w h hXw (hoX (by omega)) hno1.i32 (by rw [hvl];omega) (by rw [hvl];exact hv16) hel).mono ?_
  rintro e w' ⟨h1,ev',h2,h3⟩
  exact ⟨h1,⟨ev',h2,h3⟩,(hns.setv (hvI (by omega))).tell _⟩
 ·rw [if_neg (by omega),if_neg (by omega),if_neg (by omega)]
  obtain ⟨v0,v1⟩:=hvar (by omega)
  obtain ⟨n,hn⟩:=Int.eq_ofNat_of_zero_le v0
  have he:Da K ins d a st=(st.setv (Ao d) (AB st.vars K (Ap d))).tell (3,a,Ao d,AB st.vars K (Ap d)):=by unfold Da;rw [if_neg (by omega),if_neg (by omega),if_neg (by omega),if_neg (by omega),if_pos hk]
  rw [he,hk,hn]
  refine (PB m ga gn gc sa sn sc ya yn yc oa on oc va vn vc fa fn fc ba bn bc xa xn xc F fln c3 w0.heap.size br b1 b2 b3 fl dp st ev K (Ap d) n (Ae d) ek ex pa pl pc aa (Ah d).length ac ta (Ai d).length tc ea (Al d).length ec a w h hXw (hoX (by omega)) hno1.i32 (by rw [hvl];omega) (by rw [hvl];exact hv16) hel).mono ?_
  rintro e w' ⟨h1,ev',h2,h3⟩
  exact ⟨h1,⟨ev',h2,h3⟩,(hns.setv (hvI (by omega))).tell _⟩
 ·rw [if_neg (by omega),if_pos hk]
  rw [hk]
  exact PA m ga gn gc sa sn sc ya yn yc oa on oc va vn vc fa fn fc ba bn bc xa xn xc F fln c3 w0.heap.size br b1 b2 b3 fl dp st ev K (Ap d) (Ao d) (Ae d) ek ex pa pl pc aa (Ah d).length ac ta (Ai d).length tc ea (Al d).length ec a (AC k' (Ai d):Nat) _ _ w0 w h hB0 hXw (hoX (by omega)) hno1.i32 (by omega) (by omega)
   (Aa fun W hW hBW=>(Ic m ga gn gc sa sn sc ya yn yc oa on oc va vn vc fa fn fc ba bn bc xa xn xc F fln c3 w0.heap.size br b1 b2 b3 fl dp st ev ta (Ai d).length tc (a+1) _ W (by omega) (hk7 (Or.inl hk)) hW (Aa fun W3 hW3 hB3=>HS g2 (by omega) k' _ (Ai d) c (a+1) (dp+1) st ev W3 hT hc hokT (by omega) (by omega) (by omega) (hBW.trans hB3) hW3 hno1 (by omega))).mono (fun e w' hh=>⟨hh.1,hh.2.1,hh.2.2.1⟩))
   (Aa fun W hW hBW=>(Ic m ga gn gc sa sn sc ya yn yc oa on oc va vn vc fa fn fc ba bn bc xa xn xc F fln c3 w0.heap.size br b1 b2 b3 fl dp st ev ea (Al d).length ec (a+1+(AC k' (Ai d):Nat)) _ W (by omega) (hk7 (Or.inl hk)) hW (Aa fun W3 hW3 hB3=>HS g2 (by omega) k' _ (Al d) c (a+1+(AC k' (Ai d):Nat)) (dp+1) st ev W3 hE hc hokE (by omega) (by omega) (by omega) (hBW.trans hB3) hW3 hno1 (by omega))).mono (fun e w' hh=>⟨hh.1,hh.2.1,hh.2.2.1⟩))
   (Aa fun W hBW=>EX K k' _ (Ai d) W (hT.over hBW) (by omega))
 ·rw [if_neg (by omega),if_neg (by omega),if_pos hk]
  have hrs':=hrs
  rw [hk] at hrs'
  rw [hk]
  exact Pz m ga gn gc sa sn sc ya yn yc oa on oc va vn vc fa fn fc ba bn bc xa xn xc F fln c3 w0.heap.size br b1 b2 b3 fl dp st ev (Ao d) (Ae d) ek ex pa pl pc aa (Ah d).length ac ta (Ai d).length tc ea (Al d).length ec a _ w0 w h hB0
   (Aa fun W hW hBW=>Q6 m ga gn gc sa sn sc ya yn yc oa on oc va vn vc fa fn fc ba bn bc xa xn xc F fln c3 w0.heap.size br b1 b2 b3 fl dp K kf (k' + 1) g2 fs ins d (Ao d) (Ae d) ek ex pa pl pc aa (Ah d).length ac ta (Ai d).length tc ea (Al d).length ec a w0 hF (by omega) hX (Ec hX (hexp (by omega)))
    (Aa fun g' hg' st2 ev2 W2 hW2 hok2 hBW2 hno2 hgg=>(Ic m ga gn gc sa sn sc ya yn yc oa on oc va vn vc fa fn fc ba bn bc xa xn xc F fln c3 w0.heap.size br b1 b2 b3 fl dp st2 ev2 ta (Ai d).length tc (a+1) _ W2 (by omega) hok2 hW2 (Aa fun W3 hW3 hB3=>HS g' (by omega) k' _ (Ai d) c (a+1) (dp+1) st2 ev2 W3 hT hc hokT (by omega) (by omega) (by omega) (hBW2.trans hB3) hW3 hno2 hgg)))
    (Aa fun st2 ev2 W2 hW2 hok2 hBW2=>EC m ga gn gc sa sn sc ya yn yc oa on oc va vn vc fa fn fc ba bn bc xa xn xc F fln c3 w0.heap.size br b1 b2 b3 fl dp st2 ev2 K (k' + 1) fs w0 2 a 8 (Ao d) (Ae d) ek ex pa pl pc aa (Ah d).length ac ta (Ai d).length tc ea (Al d).length ec d c W2 X.may hBW2 hW2 hrs' hc hokS ha (by omega) (by omega) (Or.inr (Or.inl ⟨rfl,hk,hok2⟩)))
    st ev W (hk7 (Or.inr hk)) rfl hW hBW hno1 (by omega))
theorem La (I:BS) (K kf:Nat) (m:Int) (ga gn gc sa sn sc ya yn yc oa on oc va vn vc fa fn fc ba bn bc xa xn xc) (F fln c3:Nat) (br b1 b2 b3:Nat) (fl fs ins) (w0:World) (X:L5 I K kf m ga gn gc sa sn sc ya yn yc oa on oc va vn vc fa fn fc ba bn bc xa xn xc F fln c3 br b1 b2 b3 fl fs ins w0):∀ g,Kb I K kf m ga gn gc sa sn sc ya yn yc oa on oc va vn vc fa fn fc ba bn bc xa xn xc F fln c3 br b1 b2 b3 fl fs ins w0 g:=by
 intro g
 induction g using Nat.strongRecOn with
 | ind g ih=>exact Py I K kf m ga gn gc sa sn sc ya yn yc oa on oc va vn vc fa fn fc ba bn bc xa xn xc F fln c3 br b1 b2 b3 fl fs ins w0 g X (Aa fun g' hg'=>My I K kf m ga gn gc sa sn sc ya yn yc oa on oc va vn vc fa fn fc ba bn bc xa xn xc F fln c3 br b1 b2 b3 fl fs ins w0 g' X (fun g'' hg''=>ih g'' (Nat.lt_trans hg'' hg')))
def Dc (kf:Nat) (fs:List FnD) (j:Nat):List Int:=(List.range (j+1)).map (fun i=>((AV kf (fs.take i):Nat):Int))
theorem LM (kf:Nat) (fs) (j:Nat):Dc kf fs (j+1)=Dc kf fs j++[((AV kf (fs.take (j+1)):Nat):Int)]:=by
 unfold Dc
 rw [List.range_succ,List.map_append]
 rfl
theorem Fl (kf:Nat) (fs) (j:Nat):(Dc kf fs j)[j]? = some ((AV kf (fs.take j):Nat):Int):=by
 unfold Dc
 rw [List.getElem?_map,List.getElem?_range (by omega)]
 rfl
theorem M3 {w w':World} {a0 a1:Addr} {v0 v1:Value} (h:w.cell? a0=some v0/\w.cell? a1=some v1) (hb:Ov w w'):w'.cell? a0=some v0/\w'.cell? a1=some v1:=⟨Ab hb _ _ h.1,Ab hb _ _ h.2⟩
theorem Lp {W:World} {B e:Nat} {v:Value} {n:Nat} {xs:List Value} (h:W.ownsRow B e 1 v n xs) (hn:0 < n):∃ g cap,v=O (some ⟨g,0,none⟩) n cap/\B<=g/\g < W.heap.size/\Ad xs W g:=by
 rcases h.2 with ⟨_,h0⟩ | ⟨g,cap,cur,hv,hb,hg,h1,h2,h3,h4⟩
 ·omega
 ·refine ⟨g,cap,hv,hb,(Array.getElem?_eq_some_iff.1 hg).1,fun j u hu=>?_⟩
  have:=h.cells (g:=g) (by rw [hv];rfl) j u hu
  rwa [Addr.add_lit,Nat.zero_add] at this
section
variable {ops:Array Oper} {o:Oper} {a:Act} {W:World} {K:Act->World->Prop} {Q:Exit->Act->World->Prop} {E:Prop}
theorem Lb (hg:o.guard=none) (s x:Operand) (hop:o.op=Op.call { callee:=Callee.builtin Builtin.append,args:=#[s,x],argTypes:=#[25,25] })
  (B b g cap n:Nat) (xs:List Value) (z:Int) (hs:a.eval s=O (some ⟨g,0,none⟩) n cap) (hx:a.eval x=O (some ⟨b,0,none⟩) 1 1)
  (hown:W.ownsRow B 3 1 (O (some ⟨g,0,none⟩) n cap) n xs) (hb:W.cell? ⟨b,0,none⟩=some (U zd z)) (hk:n<=1000) (hB:B<=W.heap.size)
  (h:∀ v' W',W'.ownsRow B 3 1 v' (n+1) (xs++[U zd z])->W.grownBy W' (some g)->(∀ j u,xs[j]? = some u->W'.cell? ⟨g,j,none⟩=some u)->K (a.put o.dst v') W') :
  if Region.wanted o (yielded ops a.tmps)=true then Oper.wp Tryz.prog o a W K Q else E:=by
 have hw:Region.wanted o (yielded ops a.tmps)=true:=by simp [Region.wanted,hg]
 rw [if_pos hw]
 obtain ⟨i,hi,hz,h2,h16⟩:=info_parts Tryz.infoI
 have hnews:∀ (j:Nat) (u:Value),([U zd z]:List Value)[j]? = some u->W.cell? ((⟨b,0,none⟩:Addr).add j)=some u:=by
  intro j u hu
  rw [Addr.add_lit]
  match j,hu with
  | 0,hu=>simp at hu;subst hu;simpa using hb
  | j+1,hu=>simp at hu
 have h1:∀ u∈([U zd z]:List Value),u.oneCell'=true:=by intro u hu;simp at hu;subst hu;rfl
 obtain ⟨v',w',hr,h3,h4,h5,h6⟩:=run_append_own_at (P:=Tryz.prog) W B 25 o.type 3 i _ 1 8 Tryz.underlying25 hi hz h2 h16 (by rfl) (by decide) _ n xs hown ⟨b,0,none⟩ 1 1 [U zd z] rfl hnews h1 (by simp only [maxLen];omega) (by omega) hB
 have hcell:∀ j u,xs[j]? = some u->w'.cell? ⟨g,j,none⟩=some u:=by
  intro j u hu
  have hu':(xs++[U zd z])[j]? = some u:=by rw [List.getElem?_append_left (List.getElem?_eq_some_iff.1 hu).1];exact hu
  have hlen:=hown.1
  rcases hown.2 with ⟨hz,_⟩ | ⟨g',cap',cur,hv,hbg,hgg,hnc,hcm,hcs,htake⟩
  ·cases hz
  ·injection hv with q1 q2 q3
   injection q1 with q1
   injection q1 with q1
   subst q1
   subst q3
   by_cases hroom:n+1<=cap
   ·have hr2:=run_append_room (P:=Tryz.prog) W 25 o.type 3 i Tryz.underlying25 hi g n cap cur hgg ⟨b,0,none⟩ 1 1 [U zd z] (by rw [h2];rfl) hnews h1 hroom (by rw [h2,hcs];simp;omega)
    rw [hr] at hr2
    injection hr2 with r1 r2
    have:=h3.cells (g:=g) (by rw [r1];rfl) j u hu'
    rwa [Addr.add_lit,Nat.zero_add] at this
   ·have holds:=hown.cells (g:=g) rfl
    have hr2:=run_append_grow (P:=Tryz.prog) W 25 o.type 3 i _ Tryz.underlying25 hi hz ⟨g,0,none⟩ n cap xs (by rw [h2];exact hlen) holds ⟨b,0,none⟩ 1 1 [U zd z] (by rw [h2];rfl) hnews (by omega) (by omega) (growslice_fits (by omega) (by rw [h16];omega))
    rw [hr] at hr2
    injection hr2 with r1 r2
    have hc:=holds j u hu
    rw [Addr.add_lit,Nat.zero_add] at hc
    rw [r2]
    exact Ab ((bD W).alloc (Nat.le_refl _) _) _ _ hc
 have hK:=h v' w' h3 h4 hcell
 unfold Oper.wp execOp
 simp only [hop,resolve,invoke,builtin,Sem.run_bind,Sem.run_pure,Result.andThen_ok,List.map_toArray,List.map_cons,List.map_nil,hs,hx,hr]
 exact hK
end
theorem JN (K kf:Nat) (m:Int) (ga gn gc sa sn sc ya yn yc oa on oc va vn vc) (fa fn fc) (ba bn bc fs) (w:World) (hf:Bk w K kf (O fa fn fc) fs) (hcnt:AV kf fs<=50) (hfn:fn<=5) :
  Calls Tryz.prog 118 #[zh #[U zd m,O ga gn gc,O sa sn sc,O ya yn yc,O oa on oc,O va vn vc,O fa fn fc,O ba bn bc]] w fun e w'=>∃ g cap,e=zj (O (some ⟨g,0,none⟩) (fs.length+1) cap)/\w.heap.size<=g/\g < w'.heap.size/\Ad (BW (Dc kf fs fs.length)) w' g/\Ov w w':=by
 obtain ⟨i0,hi,hz0,hz1,hz2⟩:=info_parts Tryz.infoI
 have hbel:Ov w (w.alloc (ze #[U zd m,O ga gn gc,O sa sn sc,O ya yn yc,O oa on oc,O va vn vc,O fa fn fc,O ba bn bc] 31)):=bA w _
 have hbF:Ov w ((w.alloc (ze #[U zd m,O ga gn gc,O sa sn sc,O ya yn yc,O oa on oc,O va vn vc,O fa fn fc,O ba bn bc] 31)).alloc (ze #[U zd 0] 3)):=hbel.alloc (by simp) _
 have hE:fn=fs.length:=by obtain ⟨-,a,c,he,-⟩:=hf;injection he
 have HE:=Aa hE
 have HF:=Aa hf
 have HC:=Aa hcnt
 have hst:Hx (((w.alloc (ze #[U zd m,O ga gn gc,O sa sn sc,O ya yn yc,O oa on oc,O va vn vc,O fa fn fc,O ba bn bc] 31)).alloc (ze #[U zd 0] 3)).ownsRow (w.heap.size+1) 3 1 (O (some ⟨w.heap.size+1,0,none⟩) 1 1) 1 (BW (Dc kf fs 0))):=by
  have:=World.ownsRow_lit (base:=w.heap.size+1) (e:=3) (size:=1) (w.alloc (ze #[U zd m,O ga gn gc,O sa sn sc,O ya yn yc,O oa on oc,O va vn vc,O fa fn fc,O ba bn bc] 31)) #[U zd 0] 1 (by simp) (by unfold maxLen;omega) rfl
  show World.ownsRow _ _ _ _ _ _ _
  simpa [Dc,AV] using this
 have HB:Hx (Below (w.heap.size+1) (w.alloc (ze #[U zd m,O ga gn gc,O sa sn sc,O ya yn yc,O oa on oc,O va vn vc,O fa fn fc,O ba bn bc] 31)) ((w.alloc (ze #[U zd m,O ga gn gc,O sa sn sc,O ya yn yc,O oa on oc,O va vn vc,O fa fn fc,O ba bn bc] 31)).alloc (ze #[U zd 0] 3))):=(Below.refl _ _).alloc (by simp) _
 have HBEL:=Aa hbel
 clear hbF hf hcnt hE
 go_enter Tryz.func118,Tryz.ntmps118
 go_wp2_with fail
 go_loopw [3,10] (fun s i wr=>∃ j:Nat,j<=fn/\i=U zd j/\wr.ownsRow (w.heap.size+1) 3 1 s (j+1) (BW (Dc kf fs j))/\Below (w.heap.size+1) (w.alloc (ze #[U zd m,O ga gn gc,O sa sn sc,O ya yn yc,O oa on oc,O va vn vc,O fa fn fc,O ba bn bc] 31)) wr) (fun _ i _=>fn - (intOf i).toNat)
 case atStart=>exact ⟨0,Nat.zero_le _,rfl,hst.o,HB.o⟩
 case round=>
  clear hst HB
  obtain ⟨j,hj,rfl,hown,hB⟩:=hrel
  have hBw:Ov w wr:=HBEL.o.trans (hB.mono (by omega))
  obtain ⟨J1,hJ1⟩:=nm (j+1)
  rw [<-hJ1] at hown
  obtain ⟨g,cap,rfl,hgb,hgl,hgr⟩:=Lp hown (by omega)
  have hji:(j:Int) < (J1:Int):=by omega
  have hJ5:J1<=10:=by omega
  have HJ1:=Aa hJ1
  clear hJ1
  have HGR:=Aa hgr
  have HOWN:=Aa hown
  have HBB:=Aa hB
  have HBW:=Aa hBw
  by_cases hjl:j < fn
  ·have hjd:j < fs.length:=by rw [<-HE.o];exact hjl
   obtain ⟨-,ao,fcap,he,hel⟩:=HF.o
   injection he with e1 e2 e3
   obtain ⟨b,off,hbo,hel2⟩:=hel (by intro hz;rw [hz] at hjd;simp at hjd)
   obtain ⟨vP,vB,x0,x1,x2,f0,f1,f2,f3,f4,-,⟨-,pa,pc,hvp,-⟩,hbd,hx⟩:=hel2 j hjd
   have e1':=e1.trans hbo
   subst e1'
   subst hvp
   have hbd0:=hbd
   obtain ⟨-,za,zc,hvb,-⟩:=hbd0
   subst hvb
   obtain ⟨ra,rc,hxf⟩:=hx.form
   simp only [List.cons.injEq,and_true] at hxf
   obtain ⟨rfl,rfl,rfl⟩:=hxf
   have hct:=Dm (k:=kf) hjd
   have hle:AV kf (fs.take (j+1))<=50:=by
    have h2:AV kf fs=AV kf (fs.take (j+1))+AV kf (fs.drop (j+1)):=by
     unfold AV
     rw [<-List.sum_append,<-List.map_append,List.take_append_drop]
    have:=HC.o
    omega
   have KM:=Aa fun W (hW:Ov w W)=>EX K kf _ fs[j].body W (hbd.over hW) (by omega)
   obtain ⟨m0,m1,m2,m3,m4⟩:=co5 hBw f0 f1 f2 f3 f4
   obtain ⟨pl,hpl⟩:=nm (fs[j].ps.length)
   obtain ⟨zl,hzl⟩:=nm (fs[j].body.length)
   obtain ⟨rk,hrk⟩:=nm (AK fs[j].res)
   obtain ⟨rN,hrN⟩:=nm (A6 fs[j].res)
   obtain ⟨rl,hrl⟩:=nm ((AX fs[j].res).length)
   rw [<-hpl] at m0
   rw [<-hzl] at m1 KM
   rw [<-hrk] at m2
   rw [<-hrN] at m3
   rw [<-hrl] at m4
   obtain ⟨N,hN⟩:∃ N:Nat,N=AC kf fs[j].body:=⟨_,rfl⟩
   obtain ⟨M,hM⟩:∃ M:Nat,M=AV kf (fs.take j):=⟨_,rfl⟩
   rw [<-hN,<-hM] at hct
   rw [<-hN] at KM
   have hMN:M+N<=50:=by omega
   have HCT:=Aa hct
   have l0:wr.cell? ⟨g,j,none⟩=some (U zd (M:Int)):=by rw [hM];exact hgr j _ (by simp [Fl])
   have hba:=bA wr (ze #[O pa pl pc,O za zl zc,U zd rk,U zd rN,O ra rl rc] 105)
   have l1:=Ab hba _ _ l0
   have t1:(wr.alloc (ze #[O pa pl pc,O za zl zc,U zd rk,U zd rN,O ra rl rc] 105)).cell? ⟨wr.heap.size,1,none⟩=some (O za zl zc):=by simp [go_sem]
   have hBa:=hBw.trans (hba.mono hBw.size)
   have KM':=Aa fun W (hW:Ov (wr.alloc (ze #[O pa pl pc,O za zl zc,U zd rk,U zd rN,O ra rl rc] 105)) W)=>KM.o W (hBa.trans (hW.mono hBa.size))
   have hsz:w.heap.size+1<=wr.heap.size:=by have:=hB.size;simpa using this
   have HFJ:Hx ((BW (Dc kf fs j))[j]? = some (U zd (M:Int))):=by
    show _=_
    rw [hM]
    simp [Fl]
   have hgn:wr.heap.size≠g:=by omega
   clear hel hel2 f0 f1 f2 f3 f4 hbd hx hct hle hpl hzl hrk hrN hrl hN hM e1 e2 e3 hbo hown hB hBw hgr KM l0
   go_wp2_with fail
   have hst1:Hx (∀ W,Ov wr W->W.ownsRow (w.heap.size+1) 3 1 (O (some ⟨g,0,none⟩) J1 cap) J1 (BW (Dc kf fs j))):=fun W hW=>Df HOWN.o hW
   have KM2:=Aa (KM'.o _ (below_drewN (Below.refl _ _) 1))
   have HBA:=Aa hba
   have hwrap:Hx (IntKind.i64.wrap ((M:Int)+(N:Int))=((M+N:Nat):Int)):=by
    show _=_
    rw [IntWalk.i64_in _ (by omega)]
    omega
   clear KM' HGR m0 m1 m2 m3 m4
   go_region_held3 (fun W=>W.cell? ⟨g,j,none⟩=some (U zd (M:Int))/\W.cell? ⟨wr.heap.size,1,none⟩=some (O za zl zc)) (first | assumption | exact ⟨l1,t1⟩ | exact M3 (by assumption) hbp | exact M3 (by assumption) (bA _ _) | exact ⟨hkeep j _ HFJ.o,Bg hgr2 (by assumption:_/\_).2 hgn⟩ | fail) (first | (go_at_call 181;refine (KM2.o).mono ?_;rintro e wp ⟨rfl,hbp⟩) | (refine Lb rfl _ _ rfl (w.heap.size+1) wp.heap.size g cap J1 (BW (Dc kf fs j)) (IntKind.i64.wrap ((M:Int)+(N:Int))) rfl rfl (hst1.o _ (Ac (Ac HBA.o.drew hbp) (bA _ _))) (by simp [go_sem]) (by omega) (Nat.le_trans (Nat.le_trans hsz (Ac HBA.o.drew hbp).size) (bA _ _).size) ?_;intro v2 W2 hown2 hgr2 hkeep))
   have hB2:Below (w.heap.size+1) (w.alloc (ze #[U zd m,O ga gn gc,O sa sn sc,O ya yn yc,O oa on oc,O va vn vc,O (some ⟨b,off,none⟩) fn fc,O ba bn bc] 31)) W2:=by
    have hs:=hgr2.size
    have h1:=Ac (Ac (HBA.o.drew) hbp) (bA wp (ze #[U zd (IntKind.i64.wrap ((M:Int)+(N:Int)))] 3))
    have h2:=HBB.o.trans (h1.mono hsz)
    exact ⟨hgr2.os.trans h2.os,hgr2.tape.trans h2.tape,hgr2.output.trans h2.output,Nat.le_trans h2.size hs,fun k hk=>(hgr2.block k (by have:=h1.size;omega) (fun e=>by have:=Option.some.inj e;omega)).trans (h2.block k hk)⟩
   have HF2:=Aa (And.intro hown2 hB2)
   clear hown2 hgr2 hkeep hB2 hbp l1 t1 hba
   go_wp2_with fail
   refine ⟨⟨j+1,by omega,by go_num,?_,HF2.o.2⟩,by simp [intOf];omega⟩
   have h1:=HF2.o.1
   rw [hwrap.o] at h1
   have h2:=HJ1.o
   rw [LM,HCT.o,<-h2]
   simpa [BW] using h1
  ·have hjE:j=fn:=by omega
   subst hjE
   go_wp2_with fail
   go_ret
   have hE:=HE.o
   have hJ:=HJ1.o
   refine ⟨g,cap,?_,by omega,hgl,?_,HBW.o⟩
   ·rw [<-hE,<-hJ];rfl
   ·rw [<-hE]
    exact HGR.o
end Go.Proofs.YtfffpjkcfnekaaaGreat.Ex
