/- watch.Watch, whatever it is handed. -/
import Derived.Test.YtfffpjkcfnekaaaGreatM12
set_option linter.unusedVariables false
set_option maxHeartbeats 8000000
set_option maxRecDepth 100000
namespace Go.Proofs.YtfffpjkcfnekaaaGreat.Ex
open Go.RowKit
open Go.Value renaming slice -> O, int -> U, bool -> zg, agg -> zh, pointer -> zi, tuple -> zk
open Go.IntKind renaming i64 -> zd
open Go.Obj renaming cells -> ze
open Go.Ending renaming returned -> zj
theorem Nh {σ:Type} {n K:Nat} {lev flev:σ->List Lev} {step:Int->D->Lev->σ->σ} {Pm:Int->σ->Prop} (h:It Pm step) (kf:Nat):∀ (xs:List (Nat × FnD)) (q:Int × σ),Pm q.1 q.2->Pm (q.1+(A2 kf (xs.map Prod.snd):Nat)) (xs.foldl (goF n K lev step flev kf) q).2/\(xs.foldl (goF n K lev step flev kf) q).1=q.1+(A2 kf (xs.map Prod.snd):Nat)
 | [],q,hq=>⟨h.mono _ _ _ (by omega) hq,by simp [A2]⟩
 | x::xs,q,hq=>by
  have h1:=Nh (n:=n) (K:=K) (lev:=lev) (flev:=flev) h kf xs (goF n K lev step flev kf q x) (Gt h kf x.2.body q.1 _ q.2 hq)
  have he:(goF n K lev step flev kf q x).1+(A2 kf (xs.map Prod.snd):Nat)=q.1+(A2 kf ((x::xs).map Prod.snd):Nat):=by
   simp [A2,goF]
   omega
  rw [he] at h1
  exact h1
theorem Om {σ:Type} {n K:Nat} {lev flev:σ->List Lev} {step:Int->D->Lev->σ->σ} {Pm:Int->σ->Prop} (h:It Pm step) (kf:Nat) (fs main) (st:σ) (h0:Pm 0 st):Pm ((A2 kf fs:Nat)+(AH kf main:Nat)) (Ez n K lev step flev kf fs main st):=by
 have h1:=Nh (n:=n) (K:=K) (lev:=lev) (flev:=flev) h kf ((List.range fs.length).zip fs) (0,st) h0
 rw [List.map_snd_zip (by simp)] at h1
 have h2:=Gt (n:=n) (K:=K) (lev:=lev) h kf main _ (Bn n) _ h1.1
 simp only [Int.zero_add] at h2
 unfold Ez
 dsimp only
 rw [h1.2]
 simpa using h2
theorem Jj (n K kf:Nat) (gs sp Ls Fs vs ls ms) (fs:List FnD) (l) (h:A2 kf fs+AH kf l<=50):(BX n K kf gs sp Ls Fs vs ls ms fs l).length<=1000:=by
 have h1:=Om (n:=n) (K:=K) (lev:=fun _=>Ls) (flev:=fun _=>Fs) (MU n K (Ay gs) sp Ls vs ls ms fs) kf fs l [] (by unfold pmJ;simp)
 unfold pmJ at h1
 unfold BX
 omega
def BU (n K kf F:Nat) (ins:List (List Int)) (gs:List (Int × Int)) (ls ms:List Lab) (vs:List (Bool × Lab)) (fs:List FnD) (l:List D) (fl:List (Int × Int)) (vn yn:Nat):RSt:=
 IL K kf fs F ins (obW ⟨n,K,ls.map (Av (Ay gs) n),ms.map (Av (Ay gs) n),vs.map Prod.fst,vs.map (fun v=>Av (Ay gs) n v.2),fs,fl⟩) l vn yn ⟨List.replicate vn (Bn n),[Bn n]⟩
theorem M2 {n B:Nat} {Ls:List Lev} {v:Value} {W:World} (n1:1<=n) (h:∃ us:List Value,W.ownsRow B 50 2 v Ls.length us/\∀ i (h:i < Ls.length),∃ x y,us[i*2]? = some x/\us[i*2+1]? = some y/\FM n B W x y Ls[i]):Bz W v Ls:=by
 obtain ⟨us,ho,hel⟩:=h
 rcases id ho.2 with ⟨hv,h0⟩ | ⟨g,cap,cur,hv,-⟩
 ·have:Ls=[]:=List.length_eq_zero_iff.1 h0
  subst this
  exact ⟨none,0,hv,fun h=>absurd rfl h⟩
 ·rw [hv] at ho
  refine ⟨some ⟨g,0,none⟩,cap,hv,fun _=>⟨g,0,rfl,fun i hi=>?_⟩⟩
  obtain ⟨x,y,e0,e1,hl⟩:=hel i hi
  exact ⟨x,y,by rw [Nat.zero_add,ho.cellAt _ (by omega)];exact e0,by rw [Nat.zero_add,ho.cellAt _ (by omega)];exact e1,hl.at_ n1⟩
theorem D3.moved {n:Nat} {w W W':World} {Ls:List Lev} {v:Value} (h:D3 n w Ls v W) (n1:1<=n) (hk:∀ k,w.heap.size<=k->W'.heap[k]? = W.heap[k]?):Bz W' v Ls:=by
 obtain ⟨us,ho,hel⟩:=h.row
 refine M2 (B:=w.heap.size) n1 ⟨us,AC ho (fun g e=>hk g (ho.lt g e).1),fun i hi=>?_⟩
 obtain ⟨x,y,e0,e1,hl⟩:=hel i hi
 exact ⟨x,y,e0,e1,AC hl.r (fun g e=>hk g (hl.r.lt g e).1),AC hl.w (fun g e=>hk g (hl.w.lt g e).1),hl.len⟩
theorem D3.lens {n:Nat} {w W:World} {Ls:List Lev} {v:Value} (h:D3 n w Ls v W):∀ x∈Ls,x.len n:=by
 obtain ⟨us,ho,hel⟩:=h.row
 intro x hx
 obtain ⟨i,hi,rfl⟩:=List.getElem_of_mem hx
 obtain ⟨a,b,-,-,hl⟩:=hel i hi
 exact hl.len
theorem Lo {W:World} {b k:Nat} {v0 v1 v2 v3 v4 v5:Value} (h:b≠k):((((((W.setCell ⟨b,0,none⟩ v0).setCell ⟨b,1,none⟩ v1).setCell ⟨b,2,none⟩ v2).setCell ⟨b,3,none⟩ v3).setCell ⟨b,4,none⟩ v4).setCell ⟨b,5,none⟩ v5).heap[k]? = W.heap[k]?:=by
 rw [Ap h,Ap h,Ap h,Ap h,Ap h,Ap h]
theorem NF {B vn yn F:Nat} {r:RSt} {ev:Value} {b1 b2 b:Nat} {W:World} (h:DJ B vn yn F r ev b1 b2 W) (h1:b1≠b) (h2:b2≠b) (h3:ev.ownBlock≠some b) (v0:Value) (v1:Value) (v2:Value) (v3:Value) (v4:Value) (v5:Value):DJ B vn yn F r ev b1 b2 ((((((W.setCell ⟨b,0,none⟩ v0).setCell ⟨b,1,none⟩ v1).setCell ⟨b,2,none⟩ v2).setCell ⟨b,3,none⟩ v3).setCell ⟨b,4,none⟩ v4).setCell ⟨b,5,none⟩ v5):=
 (((((h.other h1 h2 h3 0 v0).other h1 h2 h3 1 v1).other h1 h2 h3 2 v2).other h1 h2 h3 3 v3).other h1 h2 h3 4 v4).other h1 h2 h3 5 v5
theorem Oy (K kf n:Nat) (ga gn gc sa sn sc ya yn yc oa on oc va vn vc fa fn fc ba bn bc xa xn xc) (ins) (F:Nat) (gs sp ls ms vs fs l) (WA w1 w2:World) (h:BK K kf (n:Int) ga gn gc sa sn sc ya yn yc oa on oc va vn vc fa fn fc ba bn bc gs sp ls ms vs fs l WA) (hx:BC WA (O xa xn xc) ins) (hok:okR K kf (n:Int) vn yn on sn gs sp ls ms vs fs l ins (F:Int)) (br b1 b2 b3 c3:Nat) (hr:GI WA.heap.size [U zd (n:Int),O ga gn gc,O sa sn sc,O ya yn yc,O oa on oc,O va vn vc,O fa fn fc,O ba bn bc,O xa xn xc,U zd (F:Int),O (some ⟨b3,0,none⟩) (fs.length+1) c3] br b1 b2 b3 (DC kf fs fs.length) vn yn w1) (hB1:Ov WA w1) (hB2:Ov w1 w2) (la:Option Addr) (ln lc bw:Nat) (fv pv:Value) (fl:List (Int × Int)) (hfl:fl.length<=1000) (hI:∀ Y:Nat->Prop,(∀ k,Y k->WA.heap.size<=k/\k < w1.heap.size)->WtI ⟨⟨n,ga,gn,gc,sa,sn,sc,ya,yn,yc,oa,on,oc,va,vn,vc,fa,fn,fc,ba,bn,bc,la,ln,lc,none,0,0⟩,bw,zi (some ⟨br,0,none⟩),fv,fl,Y⟩ WA ⟨List.replicate vn (Bn n),[Bn n]⟩ pv w2) :
  Calls Tryz.prog 63 #[zi (some ⟨br,0,none⟩),.func (.func 64) #[zi (some ⟨bw,0,none⟩)] #[]] w2 fun e w'=>e=zj (zk #[])/\∃ (ev pv':Value) (Y:Nat->Prop),(w'.cell? ⟨br,0,none⟩=some ev/\w'.cell? ⟨br,1,none⟩=some (O (some ⟨b1,0,none⟩) vn vn)/\w'.cell? ⟨br,2,none⟩=some (O (some ⟨b2,0,none⟩) yn yn)/\w'.cell? ⟨br,3,none⟩=some (U zd ((BU n K kf F ins gs ls ms vs fs l fl vn yn).steps:Int))/\w'.cell? ⟨br,4,none⟩=some (U zd (BU n K kf F ins gs ls ms vs fs l fl vn yn).en)/\w'.cell? ⟨br,5,none⟩=some (U zd (BU n K kf F ins gs ls ms vs fs l fl vn yn).sp))/\DJ WA.heap.size vn yn F (BU n K kf F ins gs ls ms vs fs l fl vn yn) ev b1 b2 w'/\WtI ⟨⟨n,ga,gn,gc,sa,sn,sc,ya,yn,yc,oa,on,oc,va,vn,vc,fa,fn,fc,ba,bn,bc,la,ln,lc,none,0,0⟩,bw,zi (some ⟨br,0,none⟩),fv,fl,Y⟩ WA (BU n K kf F ins gs ls ms vs fs l fl vn yn).o pv' w'/\(BU n K kf F ins gs ls ms vs fs l fl vn yn).o.vs.length=vn/\Below WA.heap.size w2 w':=by
 have hpk:=hok.prog.ok
 obtain ⟨n',hn,h1,h6,-⟩:=EK hpk.chk
 obtain rfl:n'=n:=by omega
 obtain rfl:vn=vs.length:=by obtain ⟨-,a,c,he,-⟩:=h.vars;injection he
 obtain rfl:yn=ls.length:=by obtain ⟨-,a,c,he,-⟩:=h.ins;injection he
 obtain rfl:on=ms.length:=by obtain ⟨-,a,c,he,-⟩:=h.outs;injection he
 have hfn:fn=fs.length:=by obtain ⟨-,a,c,he,-⟩:=h.funcs;injection he
 obtain ⟨x,hxe⟩:∃ x:WX,x=⟨⟨n',ga,gn,gc,sa,sn,sc,ya,ls.length,yc,oa,ms.length,oc,va,vs.length,vc,fa,fn,fc,ba,bn,bc,la,ln,lc,none,0,0⟩,bw,zi (some ⟨br,0,none⟩),fv,fl,Yb br b1 b2 (O none 0 0)⟩:=⟨_,rfl⟩
 have S:WtS x WA K kf gs ls ms vs fs:=by
  subst hxe
  exact ⟨h1,h6,h.grants,hpk.chk,h.vars,h.ins,h.outs,h.funcs,hpk.labs.2.1,fun b hb=>hpk.labs.1 b (List.mem_append.2 (Or.inl hb)),fun b hb=>hpk.labs.1 b (List.mem_append.2 (Or.inr hb)),hpk.vars,hpk.ins,hpk.outs,hpk.funcs,hfl,hpk.body⟩
 have hX:NB (Du x WA S.n1 vs.length (A9 x K gs ls ms vs fs)) K kf (n':Int) ga gn gc sa sn sc ya ls.length yc oa ms.length oc va vs.length vc fa fn fc ba bn bc xa xn xc F (fs.length+1) c3 br b1 b2 b3 (DC kf fs fs.length) fs ins WA:=
  ⟨h.funcs,hx,hok.many,hok.long,hok.num,by have:=hok.f1;omega,hpk.vars,hfn,hpk.funcs,rfl,rfl,by have:=hpk.many;omega,JG x WA K kf gs ls ms vs fs S,hpk.body⟩
 have hY:=hI (fun k=>WA.heap.size<=k/\k < w1.heap.size) (fun k hk=>hk)
 have hlo:=hr.lo
 have hhi:=hr.hi
 have hY1:=hI (Yb br b1 b2 (O none 0 0)) (fun k hk=>by
  rcases hk with e | e | e | e
  ·rw [e];exact ⟨hlo.1,hhi.1⟩
  ·rw [e];exact ⟨hlo.2.1,hhi.2.1⟩
  ·rw [e];exact ⟨hlo.2.2.1,hhi.2.2.1⟩
  ·simp [Value.ownBlock] at e)
 have hx0:(Du x WA S.n1 vs.length (A9 x K gs ls ms vs fs)).In (Yb br b1 b2 (O none 0 0)) ⟨List.replicate vs.length (Bn n'),[Bn n']⟩ (fun k=>k=x.bw\/x.lv.ownBlock=some k\/pv.ownBlock=some k) w2:=by
  refine ⟨⟨pv,?_,fun k=>Iff.rfl⟩,by simp,by simp⟩
  subst hxe
  exact hY1
 have hB3:Ov WA w2:=hB1.trans (hB2.mono hB1.size)
 have KR:=doR (Du x WA S.n1 vs.length (A9 x K gs ls ms vs fs)) K kf (n':Int) ga gn gc sa sn sc ya ls.length yc oa ms.length oc va vs.length vc fa fn fc ba bn bc xa xn xc F (fs.length+1) c3 br b1 b2 b3 (DC kf fs fs.length) fs ins l ⟨List.replicate vs.length (Bn n'),[Bn n']⟩ (fun k=>k=x.bw\/x.lv.ownBlock=some k\/pv.ownBlock=some k) WA w2 hX h.main hpk.main hpk.many (hr.over hB2) hB3 hx0 (fun k hk=>by
   subst hxe
   rcases hk with e | e | e
   ·rw [e];exact hY1.lo.1
   ·exact (hY1.lev.lt k e).1
   ·exact (hY1.pls.lt k e).1) (fun hk=>by
   subst hxe
   rcases hk with e | e | e
   ·exact hY.yb (by rw [<-e];exact ⟨hlo.2.2.2,hhi.2.2.2.1⟩)
   ·exact hY.yL _ e ⟨hlo.2.2.2,hhi.2.2.2.1⟩
   ·exact hY.yP _ e ⟨hlo.2.2.2,hhi.2.2.2.1⟩) (by show 0 < [Bn n'].length;simp)
 have hfre:(Du x WA S.n1 vs.length (A9 x K gs ls ms vs fs)).fre.toArray=#[zi (some ⟨bw,0,none⟩)]:=by subst hxe;rfl
 have hcap:(Du x WA S.n1 vs.length (A9 x K gs ls ms vs fs)).cap.toArray=#[]:=rfl
 rw [hfre,hcap] at KR
 refine KR.mono fun e w' hh=>?_
 obtain ⟨rfl,ev,hr3,hf3,hno⟩:=hh
 have hT:IL K kf fs F ins (Du x WA S.n1 vs.length (A9 x K gs ls ms vs fs)).ob l vs.length ls.length ⟨List.replicate vs.length (Bn n'),[Bn n']⟩=BU n' K kf F ins gs ls ms vs fs l fl vs.length ls.length:=by subst hxe;rfl
 rw [hT] at hr3 hno
 obtain ⟨⟨pv',hW,hXk⟩,hvl,-⟩:=hr3.ob
 have x1:=hr3.row 1 _ rfl
 have x2:=hr3.row 2 _ rfl
 rw [hno.vl] at x1
 rw [hno.tl] at x2
 refine ⟨rfl,ev.ev,pv',_,⟨hr3.row 0 _ rfl,x1,x2,hr3.row 3 _ rfl,hr3.row 4 _ rfl,hr3.row 5 _ rfl⟩,⟨hr3.own,hr3.vars,hr3.taken,hno⟩,by subst hxe;exact hW,hvl,⟨hf3.os,hf3.tape,hf3.output,hf3.size,fun k hk=>hf3.block k (by have:=hB3.size;omega) (by omega) (by omega) (by omega) (fun hx=>?_)⟩⟩
 rcases hx with hx | hx
 ·simp [Value.ownBlock] at hx
 ·have:WA.heap.size<=k:=by
   subst hxe
   rcases hx with e | e | e
   ·rw [e];exact hY1.lo.1
   ·exact (hY1.lev.lt k e).1
   ·exact (hY1.pls.lt k e).1
  omega
def L9 (K kf:Nat) (m:Int) (vn yn on sn:Nat) (gs:List (Int × Int)) (sp:List Int) (ls ms:List Lab) (vs:List (Bool × Lab)) (fs:List FnD) (l:List D) (ins:List (List Int)) (fuel:Int) (w:World) (e:Ending) (w':World):Prop:=
 ∃ why:Int,(why=0 ↔ okR K kf m vn yn on sn gs sp ls ms vs fs l ins fuel)/\Ov w w'/\((why≠0/\e=zj (zk #[zh #[O none 0 0,O none 0 0,O none 0 0,U zd 0,U zd 0,U zd 0],O none 0 0,U zd why])) \/
  (why=0/\∃ (n:Nat) (st:ISt) (ev:Value) (b1 b2:Nat) (va4:Option Addr) (vk4 vc4:Nat),m=n/\(D5 n K kf gs vs ls fs l st/\(∀ x∈st.vs,x.len n)/\(∀ x∈st.fs,x.len n)/\st.vs.length=vn/\st.fs.length=fs.length)/\e=zj (zk #[QU ev b1 b2 vn yn (BU n K kf fuel.toNat ins gs ls ms vs fs l (BX n K kf gs sp st.vs st.fs vs ls ms fs l) vn yn),O va4 vk4 vc4,U zd 0])/\DJ w.heap.size vn yn fuel.toNat (BU n K kf fuel.toNat ins gs ls ms vs fs l (BX n K kf gs sp st.vs st.fs vs ls ms fs l) vn yn) ev b1 b2 w'/\Bz w' (O va4 vk4 vc4) (BU n K kf fuel.toNat ins gs ls ms vs fs l (BX n K kf gs sp st.vs st.fs vs ls ms fs l) vn yn).o.vs/\(∀ x∈(BU n K kf fuel.toNat ins gs ls ms vs fs l (BX n K kf gs sp st.vs st.fs vs ls ms fs l) vn yn).o.vs,x.len n)/\(BU n K kf fuel.toNat ins gs ls ms vs fs l (BX n K kf gs sp st.vs st.fs vs ls ms fs l) vn yn).o.vs.length=vn))
abbrev Mh (bw br:Nat) (ea:Option Addr) (el ec b1 vn b2 yn:Nat) (stp en tsp:Int) (Wz:World):Prop:=Wz.cell? ⟨bw,0,none⟩=some (zi (some ⟨br,0,none⟩))/\CE Wz br 0 (O ea el ec)/\CE Wz br 1 (O (some ⟨b1,0,none⟩) vn vn)/\CE Wz br 2 (O (some ⟨b2,0,none⟩) yn yn)/\CE Wz br 3 (U zd stp)/\CE Wz br 4 (U zd en)/\CE Wz br 5 (U zd tsp)
theorem Ft (K kf:Nat) (m:Int) (ga gn gc sa sn sc ya yn yc oa on oc va vn vc fa fn fc ba bn bc) (xa xn xc) (ins) (fuel:Int) (gs sp ls ms vs fs l) (w:World) (h:BK K kf m ga gn gc sa sn sc ya yn yc oa on oc va vn vc fa fn fc ba bn bc gs sp ls ms vs fs l w) (hx:BC w (O xa xn xc) ins) :
  Calls Tryz.prog 17 #[zh #[U zd m,O ga gn gc,O sa sn sc,O ya yn yc,O oa on oc,O va vn vc,O fa fn fc,O ba bn bc],O xa xn xc,U zd fuel] w (L9 K kf m vn yn on sn gs sp ls ms vs fs l ins fuel w):=by
 have hbel:Ov w ((w.alloc (ze #[U zd m,O ga gn gc,O sa sn sc,O ya yn yc,O oa on oc,O va vn vc,O fa fn fc,O ba bn bc] 31)).alloc (ze #[O none 0 0,O none 0 0,O none 0 0,U zd 0,U zd 0,U zd 0] 55)):=(bA w _).alloc (by simp) _
 have HP:=Aa (h.over hbel)
 have HX:=Aa (hx.over hbel)
 have K1:=Aa (OI K kf m ga gn gc sa sn sc ya yn yc oa on oc va vn vc fa fn fc ba bn bc xa xn xc ins fuel gs sp ls ms vs fs l _ HP.o HX.o)
 have hrp:Ad [U zd m,O ga gn gc,O sa sn sc,O ya yn yc,O oa on oc,O va vn vc,O fa fn fc,O ba bn bc] ((w.alloc (ze #[U zd m,O ga gn gc,O sa sn sc,O ya yn yc,O oa on oc,O va vn vc,O fa fn fc,O ba bn bc] 31)).alloc (ze #[O none 0 0,O none 0 0,O none 0 0,U zd 0,U zd 0,U zd 0] 55)) w.heap.size:=(Ad.new [U zd m,O ga gn gc,O sa sn sc,O ya yn yc,O oa on oc,O va vn vc,O fa fn fc,O ba bn bc] 31 w).over (bA _ _)
 obtain ⟨c0,c1,c2,c3,c4,c5,c6,c7⟩:=rc8 hrp
 have HRP:=Aa hrp
 have HO0:Hx (Ad [O none 0 0,O none 0 0,O none 0 0,U zd 0,U zd 0,U zd 0] ((w.alloc (ze #[U zd m,O ga gn gc,O sa sn sc,O ya yn yc,O oa on oc,O va vn vc,O fa fn fc,O ba bn bc] 31)).alloc (ze #[O none 0 0,O none 0 0,O none 0 0,U zd 0,U zd 0,U zd 0] 55)) (w.heap.size+1)/\∀ j,((w.alloc (ze #[U zd m,O ga gn gc,O sa sn sc,O ya yn yc,O oa on oc,O va vn vc,O fa fn fc,O ba bn bc] 31)).alloc (ze #[O none 0 0,O none 0 0,O none 0 0,U zd 0,U zd 0,U zd 0] 55)).frozen? ⟨w.heap.size+1,j,none⟩=false):=by
  refine ⟨?_,fun j=>by simp [go_sem]⟩
  have:=Ad.newA #[O none 0 0,O none 0 0,O none 0 0,U zd 0,U zd 0,U zd 0] 55 (w.alloc (ze #[U zd m,O ga gn gc,O sa sn sc,O ya yn yc,O oa on oc,O va vn vc,O fa fn fc,O ba bn bc] 31))
  simpa using this
 have hszA:((w.alloc (ze #[U zd m,O ga gn gc,O sa sn sc,O ya yn yc,O oa on oc,O va vn vc,O fa fn fc,O ba bn bc] 31)).alloc (ze #[O none 0 0,O none 0 0,O none 0 0,U zd 0,U zd 0,U zd 0] 55)).heap.size=w.heap.size+2:=by simp
 clear h hx hrp
 go_enter Tryz.func17,Tryz.ntmps17
 go_wp2_with fail
 refine (K1.o).mono ?_
 obtain ⟨WA,hWA⟩:=nm (((w.alloc (ze #[U zd m,O ga gn gc,O sa sn sc,O ya yn yc,O oa on oc,O va vn vc,O fa fn fc,O ba bn bc] 31)).alloc (ze #[O none 0 0,O none 0 0,O none 0 0,U zd 0,U zd 0,U zd 0] 55)))
 rw [<-hWA] at HP HX HO0 HRP hbel hszA ⊢
 rintro e w1 ⟨why,hok,hb1,hnew⟩
 have hB1:=hbel.trans (hb1.mono hbel.size)
 have HO:=Aa (And.intro (HO0.o.1.over hb1) (fun j=>((Ak hb1).2 (w.heap.size+1) j (by rw [hszA];omega)).trans (HO0.o.2 j)))
 have hl1:w.heap.size+1 < w1.heap.size:=by have:=hb1.size;omega
 have HOK:=Aa hok
 have HB1:=Aa hB1
 have HB01:=Aa hb1
 have HSZ:=Aa hszA
 have HBW:=Aa hbel
 have HR1:=Aa (HRP.o.over hb1)
 clear K1 c0 c1 c2 c3 c4 c5 c6 c7 hb1 hok hbel hWA hszA hB1 HO0 HRP
 rcases hnew with ⟨hw,rfl⟩ | ⟨rfl,br,b1,b2,b3,c3,rfl,hr2⟩
 ·have hwb:(why == 0)=false:=by simpa using hw
  have o0:=HO.o.1 0 _ rfl
  have y0:=HO.o.2 0
  have o1:=HO.o.1 1 _ rfl
  have y1:=HO.o.2 1
  have o2:=HO.o.1 2 _ rfl
  have y2:=HO.o.2 2
  have o3:=HO.o.1 3 _ rfl
  have y3:=HO.o.2 3
  have o4:=HO.o.1 4 _ rfl
  have y4:=HO.o.2 4
  have o5:=HO.o.1 5 _ rfl
  have y5:=HO.o.2 5
  go_wp2_with fail
  have hF:=((((((HO.o.1.set (j:=0) (v:=O none 0 0) (by simp)).set (j:=1) (v:=O none 0 0) (by simp)).set (j:=2) (v:=O none 0 0) (by simp)).set (j:=3) (v:=U zd 0) (by simp)).set (j:=4) (v:=U zd 0) (by simp)).set (j:=5) (v:=U zd 0) (by simp))
  obtain ⟨e0,e1,e2,e3,e4,e5⟩:=rc6 hF
  have hBf:Ov w ((((((w1.setCell ⟨w.heap.size+1,0,none⟩ (O none 0 0)).setCell ⟨w.heap.size+1,1,none⟩ (O none 0 0)).setCell ⟨w.heap.size+1,2,none⟩ (O none 0 0)).setCell ⟨w.heap.size+1,3,none⟩ (U zd 0)).setCell ⟨w.heap.size+1,4,none⟩ (U zd 0)).setCell ⟨w.heap.size+1,5,none⟩ (U zd 0)):=((((((((((((HB1.o).setCell (by simp) _)).setCell (by simp) _)).setCell (by simp) _)).setCell (by simp) _)).setCell (by simp) _)).setCell (by simp) _)
  refine bodyPost_ret (v:=zk #[zh #[O none 0 0,O none 0 0,O none 0 0,U zd 0,U zd 0,U zd 0],O none 0 0,U zd why]) ?_ rfl ⟨why,HOK.o,hBf,Or.inl ⟨hw,rfl⟩⟩
  generalize ((((((w1.setCell ⟨w.heap.size+1,0,none⟩ (O none 0 0)).setCell ⟨w.heap.size+1,1,none⟩ (O none 0 0)).setCell ⟨w.heap.size+1,2,none⟩ (O none 0 0)).setCell ⟨w.heap.size+1,3,none⟩ (U zd 0)).setCell ⟨w.heap.size+1,4,none⟩ (U zd 0)).setCell ⟨w.heap.size+1,5,none⟩ (U zd 0))=WF at e0 e1 e2 e3 e4 e5 ⊢
  simp [results,Tryz.results17,go_sem,e0,e1,e2,e3,e4,e5]
 have hok:=HOK.o.1 rfl
 have hpk:=hok.prog.ok
 obtain ⟨F,hF⟩:=Int.eq_ofNat_of_zero_le hok.f0
 subst hF
 obtain ⟨n,rfl,n1,n6,-⟩:=EK hpk.chk
 have HN1:=Aa (And.intro n1 n6)
 have hP1:BK K kf (n:Int) ga gn gc sa sn sc ya yn yc oa on oc va vn vc fa fn fc ba bn bc gs sp ls ms vs fs l w1:=HP.o.over HB01.o
 have hsn:Ey.xP K kf (n:Int) vn yn on sn gs sp ls ms vs fs l->(sp.length:Int)<=n:=fun hp=>by
  have h1:=hp.lim.2.2.2.2
  have h2:sn=sp.length:=by obtain ⟨a,c,he,-⟩:=HP.o.speak;injection he
  rw [h2] at h1
  exact h1
 have KN:=Aa (IY K kf n ga gn gc sa sn sc ya yn yc oa on oc va vn vc fa fn fc ba bn bc gs sp ls ms vs fs l br WA w1 hP1 n1 n6 hpk.vars HB01.o (fun st=>BX n K kf gs sp st.vs st.fs vs ls ms fs l) (fun st=>D5 n K kf gs vs ls fs l st/\(∀ x∈st.vs,x.len n)/\(∀ x∈st.fs,x.len n)/\st.vs.length=vn/\st.fs.length=fs.length) (fun W hW=>by
  have hfw:=Ox K kf (n:Int) ga gn gc sa sn sc ya yn yc oa on oc va vn vc fa fn fc ba bn bc gs sp ls ms vs fs l W (hP1.over hW) (fun why=>(why=0 ↔ Ey.xP K kf (n:Int) vn yn on sn gs sp ls ms vs fs l)) (fun W2 hW2=>Ey.scopeCheck_any K kf (n:Int) ga gn gc sa sn sc ya yn yc oa on oc va vn vc fa fn fc ba bn bc gs sp ls ms vs fs l W2 (hP1.over (Ac hW hW2))) (fun hp=>(hp.1 rfl).ok) (fun hp=>hsn (hp.1 rfl))
  refine hfw.mono fun e w' hh=>?_
  obtain ⟨why,hwhy,hbb,hh⟩:=hh
  have hw0:why=0:=hwhy.2 hok.prog
  rcases hh with ⟨hne,-⟩ | ⟨-,-,n',st,fv,B,hnn,he,hi,h1,h2,h3,h4,hBB,ho⟩
  ·exact absurd hw0 hne
  ·obtain rfl:n=n':=by omega
   exact ⟨st,fv,B,⟨hi,h1,h2,h3,h4⟩,he,hBB,ho,hbb⟩))
 have HR2:=Aa hr2
 have HPK:=Aa hok
 obtain ⟨p0,p1,p2,p3,p4,p5,p6,p7⟩:=rc8 HR1.o
 clear hok hpk hr2 hP1 n1 n6 hsn
 go_wp2_with fail
 refine (KN.o).mono ?_
 rintro e w2 ⟨st,fv,pv,la,ln,lc,hq,rfl,hb2,hI⟩
 have hKD:=Oy K kf n ga gn gc sa sn sc ya yn yc oa on oc va vn vc fa fn fc ba bn bc xa xn xc ins F gs sp ls ms vs fs l WA w1 w2 HP.o HX.o HPK.o br b1 b2 b3 c3 HR2.o HB01.o hb2 la ln lc (w1.heap.size+1) fv pv (BX n K kf gs sp st.vs st.fs vs ls ms fs l) (Jj _ _ _ _ _ _ _ _ _ _ _ _ HPK.o.prog.ok.many) hI
 have g0:CE w2 (w1.heap.size+1) 0 (zi (some ⟨br,0,none⟩)):=(hI (fun _=>False) (fun k hk=>hk.elim)).row 0 _ rfl
 obtain ⟨bw,hbw⟩:=nm (w1.heap.size+1)
 rw [<-hbw] at hKD g0 ⊢
 obtain ⟨T,hT⟩:=nm (BU n K kf F ins gs ls ms vs fs l (BX n K kf gs sp st.vs st.fs vs ls ms fs l) vn yn)
 rw [<-hT] at hKD
 have HKD:=Aa hKD
 have HT:=Aa hT
 have HQ:=Aa hq
 have HB2:=Aa hb2
 have HBWE:=Aa hbw
 have HV:=Aa HPK.o.prog.ok.vars
 clear KN hI hT hq hb2 hKD hbw p0 p1 p2 p3 p4 p5 p6 p7
 go_wp2_with fail
 refine (HKD.o).mono ?_
 rintro e w3 ⟨rfl,ev,pv3,Y3,⟨x0,x1,x2,x3,x4,x5⟩,hRA,hW3,hvl,hb3⟩
 have hB12:Below WA.heap.size w1 w2:=HB2.o.mono HB01.o.size
 have hb13:Below WA.heap.size w1 w3:=hB12.trans hb3
 have hB3:Ov w w3:=HB1.o.trans (hb13.mono HBW.o.size)
 have HB3:=Aa hB3
 have hsz:=HSZ.o
 have HF:Hx (DJ w.heap.size vn yn F T ev b1 b2 w3):=⟨Dg hRA.own HBW.o.size,hRA.vars,hRA.taken,hRA.num⟩
 obtain ⟨ea,el,ec,rfl⟩:=AD hRA.own
 have hlo:=HR2.o.lo
 have hl1:=hb13.size
 have HN:Hx (b1≠w.heap.size+1/\b2≠w.heap.size+1/\(Value.slice ea el ec).ownBlock≠some (w.heap.size+1)/\bw≠w.heap.size+1/\br≠w.heap.size+1):=⟨by omega,by omega,fun e=>by have:=(hRA.own.lt _ e).1;omega,by have:=HBWE.o;have:=HB01.o.size;omega,by omega⟩
 have HL3:Hx (w.heap.size+1 < w3.heap.size):=by have:=HB01.o.size;unfold Hx;omega
 have HO3:Hx (Ad [O none 0 0,O none 0 0,O none 0 0,U zd 0,U zd 0,U zd 0] w3 (w.heap.size+1)/\∀ j,w3.frozen? ⟨w.heap.size+1,j,none⟩=false):=by
  have hk:w3.heap[w.heap.size+1]? = w1.heap[w.heap.size+1]?:=hb13.block _ (by omega)
  exact ⟨fun j u hu=>(World.cell?_of_block hk).trans (HO.o.1 j u hu),fun j=>(World.frozen?_of_block hk).trans (HO.o.2 j)⟩
 have x6:CE w3 bw 0 (zi (some ⟨br,0,none⟩)):=hW3.row 0 _ rfl
 have KL:Hx (∀ W2,Ov w3 W2->Calls Tryz.prog 65 #[zi (some ⟨bw,0,none⟩)] W2 fun e w'=>∃ a k c,e=zj (O a k c)/\D3 n W2 T.o.vs (O a k c) w'):=fun W2 hb=>NU ⟨⟨n,ga,gn,gc,sa,sn,sc,ya,yn,yc,oa,on,oc,va,vn,vc,fa,fn,fc,ba,bn,bc,la,ln,lc,none,0,0⟩,bw,zi (some ⟨br,0,none⟩),fv,BX n K kf gs sp st.vs st.fs vs ls ms fs l,Y3⟩ WA n rfl HN1.o.1 HN1.o.2 T.o pv3 W2 (WtI.over hW3 hb) (by rw [hvl];exact HV.o)
 obtain ⟨stp,hsp⟩:=nm ((T.steps:Int))
 obtain ⟨en,hen⟩:=nm T.en
 obtain ⟨tsp,htsp⟩:=nm T.sp
 rw [<-hsp] at x3
 rw [<-hen] at x4
 rw [<-htsp] at x5
 have HSP:=Aa hsp
 have HEN:=Aa hen
 have HTS:=Aa htsp
 have HS:Hx (∀ W2,Ov w3 W2->Mh bw br ea el ec b1 vn b2 yn stp en tsp W2):=fun W2 hb=>⟨Ab hb _ _ x6,Ab hb _ _ x0,Ab hb _ _ x1,Ab hb _ _ x2,Ab hb _ _ x3,Ab hb _ _ x4,Ab hb _ _ x5⟩
 have HBD:Hx (Ov w3 w3.drew):=(bD _)
 have HVL:=Aa hvl
 clear HKD hRA hW3 hvl hb3 hB12 hb13 hB3 hsz hlo hl1 x0 x1 x2 x3 x4 x5 x6 hsp hen htsp HP HX g0 HR1 HR2 HB2
 go_wp2_with fail
 refine gS (Mh bw br ea el ec b1 vn b2 yn stp en tsp) (HS.o _ HBD.o) fun hHeld=>?_
 refine kT 0 ?_
 refine kT 1 ?_
 refine kT 2 ?_
 refine kT 3 ?_
 refine kT 4 ?_
 refine kT 5 ?_
 refine kT 6 ?_
 refine kT 7 ?_
 refine rdA 8 rfl fun K hK=>?_
 go_simp
 refine (KL.o _ HBD.o).mono ?_
 rintro e W4 ⟨va4,vk4,vc4,rfl,hO4⟩
 have HB4:=Aa (Ac HBD.o hO4.below)
 have HO4:=Aa hO4
 clear hO4
 go_simp
 refine xK hK (HS.o _ HB4.o) fun hHeld=>?_
 clear hK K
 refine rdA 9 rfl fun K hK=>?_
 have r4:=HO3.o.1.over HB4.o
 have z4:∀ j,W4.frozen? ⟨w.heap.size+1,j,none⟩=false:=fun j=>((Ak HB4.o).2 _ _ HL3.o).trans (HO3.o.2 j)
 have o0:=r4 0 _ rfl
 have y0:=z4 0
 have o1:=r4 1 _ rfl
 have y1:=z4 1
 have o2:=r4 2 _ rfl
 have y2:=z4 2
 have o3:=r4 3 _ rfl
 have y3:=z4 3
 have o4:=r4 4 _ rfl
 have y4:=z4 4
 have o5:=r4 5 _ rfl
 have y5:=z4 5
 obtain ⟨W5,hW5⟩:=nm (((((((W4.setCell ⟨w.heap.size+1,0,none⟩ (O ea el ec)).setCell ⟨w.heap.size+1,1,none⟩ (O (some ⟨b1,0,none⟩) vn vn)).setCell ⟨w.heap.size+1,2,none⟩ (O (some ⟨b2,0,none⟩) yn yn)).setCell ⟨w.heap.size+1,3,none⟩ (U zd stp)).setCell ⟨w.heap.size+1,4,none⟩ (U zd en)).setCell ⟨w.heap.size+1,5,none⟩ (U zd tsp)))
 have hF5:Ad [O ea el ec,O (some ⟨b1,0,none⟩) vn vn,O (some ⟨b2,0,none⟩) yn yn,U zd stp,U zd en,U zd tsp] W5 (w.heap.size+1):=by rw [hW5];exact ((((((r4.set (j:=0) (v:=O ea el ec) (by simp)).set (j:=1) (v:=O (some ⟨b1,0,none⟩) vn vn) (by simp)).set (j:=2) (v:=O (some ⟨b2,0,none⟩) yn yn) (by simp)).set (j:=3) (v:=U zd stp) (by simp)).set (j:=4) (v:=U zd en) (by simp)).set (j:=5) (v:=U zd tsp) (by simp))
 have hB5:Ov w W5:=by rw [hW5];exact ((((((((((((HB3.o.trans (HB4.o.mono HB3.o.size)).setCell (by simp) _)).setCell (by simp) _)).setCell (by simp) _)).setCell (by simp) _)).setCell (by simp) _)).setCell (by simp) _)
 have hk5:∀ k,k≠w.heap.size+1->W5.heap[k]? = W4.heap[k]?:=fun k hk=>by rw [hW5];exact Lo hk.symm
 have hRA:DJ w.heap.size vn yn F T (O ea el ec) b1 b2 W5:=by rw [hW5];exact NF (HF.o.over HB4.o) HN.o.1 HN.o.2.1 HN.o.2.2.1 _ _ _ _ _ _
 have hLV:Bz W5 (O va4 vk4 vc4) T.o.vs:=HO4.o.moved HN1.o.1 (fun k h1=>hk5 k (by have:=HL3.o;have:=HBD.o.size;omega))
 have s4:=HS.o _ HB4.o
 have HS5:Hx (Mh bw br ea el ec b1 vn b2 yn stp en tsp W5):=⟨(World.cell?_of_block (a:=⟨bw,0,none⟩) (hk5 bw HN.o.2.2.2.1)).trans s4.1,(World.cell?_of_block (a:=⟨br,0,none⟩) (hk5 br HN.o.2.2.2.2)).trans s4.2.1,(World.cell?_of_block (a:=⟨br,1,none⟩) (hk5 br HN.o.2.2.2.2)).trans s4.2.2.1,(World.cell?_of_block (a:=⟨br,2,none⟩) (hk5 br HN.o.2.2.2.2)).trans s4.2.2.2.1,(World.cell?_of_block (a:=⟨br,3,none⟩) (hk5 br HN.o.2.2.2.2)).trans s4.2.2.2.2.1,(World.cell?_of_block (a:=⟨br,4,none⟩) (hk5 br HN.o.2.2.2.2)).trans s4.2.2.2.2.2.1,(World.cell?_of_block (a:=⟨br,5,none⟩) (hk5 br HN.o.2.2.2.2)).trans s4.2.2.2.2.2.2⟩
 have HF5:=Aa hF5
 have HB5:=Aa hB5
 have HRA:=Aa hRA
 have HLV:=Aa hLV
 clear r4 z4 hF5 hB5 hk5 hRA hLV s4
 go_simp
 rw [<-hW5]
 clear hW5
 refine xK hK (HS5.o) fun hHeld=>?_
 clear hK K
 refine kT 10 ?_
 refine kT 11 ?_
 refine gE ?_
 clear o0 y0
 clear o1 y1
 clear o2 y2
 clear o3 y3
 clear o4 y4
 clear o5 y5
 go_wp2_with fail
 obtain ⟨e0,e1,e2,e3,e4,e5⟩:=rc6 HF5.o
 refine bodyPost_ret (v:=zk #[zh #[O ea el ec,O (some ⟨b1,0,none⟩) vn vn,O (some ⟨b2,0,none⟩) yn yn,U zd stp,U zd en,U zd tsp],O va4 vk4 vc4,U zd 0]) ?_ rfl ?_
 rotate_left
 ·have hT:=HT.o
  have h1:=HSP.o
  have h2:=HEN.o
  have h3:=HTS.o
  subst h1 h2 h3
  subst hT
  exact ⟨0,by simpa using HOK.o,HB5.o,Or.inr ⟨rfl,n,st,_,b1,b2,va4,vk4,vc4,rfl,HQ.o,rfl,HRA.o,HLV.o,HO4.o.lens,HVL.o⟩⟩
 simp [results,Tryz.results17,go_sem,e0,e1,e2,e3,e4,e5]
theorem EQ {cs:List Value} {w w':World} {b:Nat} {a:Array Value} {t:Nat} (ha:a.toList=cs) (hb:b=w.heap.size) (hw:Ov (w.alloc (.cells a t)) w'):Ad cs w' b:=by
 subst hb
 rw [<-ha]
 exact (Ad.newA a t w).over hw
theorem PS (w:World):Calls Tryz.prog 38 #[] w fun e w'=>∃ bi bo bv bm,e=zj (EC bi bo bv bm)/\GG bi bo bv bm w'/\Ov w w'/\(w.heap.size < bi/\bi < bo/\bo < bv/\bv < bm/\bm < w'.heap.size)/\∀ j,w'.frozen? ⟨bi,j,none⟩=false:=by
 go_enter Tryz.func38,Tryz.ntmps38
 go_wp2_with fail
 have hbr:=fun (W:World) (o:Obj)=>bA W o
 refine bodyPost_ret (v:=EC (w.heap.size+1) (w.heap.size+1+1) (w.heap.size+1+1+1) (w.heap.size+1+1+1+1)) (by simp [results,Tryz.results38,go_sem]) rfl ⟨_,_,_,_,rfl,⟨?_,?_,?_,?_⟩,?_,?_,?_⟩
 ·exact EQ rfl (by simp) (Ac (Ac (hbr _ _) (hbr _ _)) (hbr _ _))
 ·exact EQ rfl (by simp) (Ac (hbr _ _) (hbr _ _))
 ·exact EQ rfl (by simp) (hbr _ _)
 ·exact EQ rfl (by simp) (Below.refl _ _)
 ·exact Ac (Ac (Ac (Ac (hbr _ _) (hbr _ _)) (hbr _ _)) (hbr _ _)) (hbr _ _)
 ·refine ⟨by omega,by omega,by omega,by omega,by simp⟩
 ·intro j
  simp [go_sem]
structure Bad (bi bo bv bm bp:Nat) (w:World):Prop where
 ins:Ad [O (some ⟨bp,0,none⟩) 1 1,O none 0 0] w bi
 pol:Ad [U zd 0,O none 0 0] w bp
 outs:Ad [O none 0 0,O none 0 0] w bo
 vars:Ad [zg false,O none 0 0,O none 0 0] w bv
 main:Ad Eg w bm
abbrev OD (bi bo bv bm:Nat):Value:=zh #[U zd 2,O none 0 0,O none 0 0,O (some ⟨bi,0,none⟩) 1 1,O (some ⟨bo,0,none⟩) 1 1,O (some ⟨bv,0,none⟩) 1 1,O none 0 0,O (some ⟨bm,0,none⟩) 2 2]
def Rm (w:World) (e:Ending) (w':World):Prop:=∃ bi bo bv bm bp,e=zj (OD bi bo bv bm)/\Bad bi bo bv bm bp w'/\Ov w w'
theorem Ke (w:World):Calls Tryz.prog 39 #[] w (Rm w):=by
 have hbel:Ov w (w.alloc (ze #[U zd 0,O none 0 0,O none 0 0,O none 0 0,O none 0 0,O none 0 0,O none 0 0,O none 0 0] 31)):=bA w _
 have hrow:=Ad.newA #[U zd 0,O none 0 0,O none 0 0,O none 0 0,O none 0 0,O none 0 0,O none 0 0,O none 0 0] 31 w
 have hz:∀ j,(w.alloc (ze #[U zd 0,O none 0 0,O none 0 0,O none 0 0,O none 0 0,O none 0 0,O none 0 0,O none 0 0] 31)).frozen? ⟨w.heap.size,j,none⟩=false:=fun j=>by simp [go_sem]
 have K1:=Aa (PS (w.alloc (ze #[U zd 0,O none 0 0,O none 0 0,O none 0 0,O none 0 0,O none 0 0,O none 0 0,O none 0 0] 31)))
 have HB:=Aa hbel
 have HR:=Aa hrow
 have HZ:=Aa hz
 clear hbel hrow hz
 unfold Rm
 go_enter Tryz.func39,Tryz.ntmps39
 go_wp2_with fail
 refine (K1.o).mono ?_
 rintro e w2 ⟨bi,bo,bv,bm,rfl,hS,hb2,⟨l0,l1,l2,l3,l4⟩,hzi⟩
 have hsz:(w.alloc (ze #[U zd 0,O none 0 0,O none 0 0,O none 0 0,O none 0 0,O none 0 0,O none 0 0,O none 0 0] 31)).heap.size=w.heap.size+1:=by simp
 have hB2:=HB.o.trans (hb2.mono HB.o.size)
 have hr2:=HR.o.over hb2
 have hz2:∀ j,w2.frozen? ⟨w.heap.size,j,none⟩=false:=fun j=>((Ak hb2).2 _ _ (by rw [hsz];omega)).trans (HZ.o j)
 have n1:bi≠w2.heap.size:=by omega
 have n2:w.heap.size≠w2.heap.size:=by omega
 have n3:w.heap.size≠bi:=by omega
 have n4:bi≠w2.heap.size+1:=by omega
 have n5:w.heap.size≠w2.heap.size+1:=by omega
 have b1:bi < w2.heap.size:=by omega
 have b2:w.heap.size < w2.heap.size:=by omega
 obtain ⟨c0,c1⟩:=rc2 hS.ins
 have z0:=hzi 0
 have z1:=hzi 1
 have r0:=hr2 0 _ rfl
 have y0:=hz2 0
 have r1:=hr2 1 _ rfl
 have y1:=hz2 1
 have r2:=hr2 2 _ rfl
 have y2:=hz2 2
 have r3:=hr2 3 _ rfl
 have y3:=hz2 3
 have r4:=hr2 4 _ rfl
 have y4:=hz2 4
 have r5:=hr2 5 _ rfl
 have y5:=hz2 5
 have r6:=hr2 6 _ rfl
 have y6:=hz2 6
 have r7:=hr2 7 _ rfl
 have y7:=hz2 7
 have HS:=Aa hS
 have HB2:=Aa hB2
 have HR2:=Aa hr2
 have L0:=Aa l0
 have L1:=Aa l1
 have L2:=Aa l2
 have L3:=Aa l3
 have L4:=Aa l4
 clear hS hB2 hr2 hz2 hzi hb2 K1 l0 l1 l2 l3 l4 hsz
 unfold EC
 go_wp2_with fail
 have hbr:=fun (W:World) (o:Obj)=>bA W o
 have l0:=L0.o
 have l1:=L1.o
 have l2:=L2.o
 have l3:=L3.o
 have l4:=L4.o
 simp at l0
 have hsz:(((((((((w2.setCell ⟨bi,0,none⟩ (O (some ⟨w2.heap.size+1,0,none⟩) 1 1)).setCell ⟨w.heap.size,0,none⟩ (U zd 2)).setCell ⟨w.heap.size,1,none⟩ (O none 0 0)).setCell ⟨w.heap.size,2,none⟩ (O none 0 0)).setCell ⟨w.heap.size,3,none⟩ (O (some ⟨bi,0,none⟩) 1 1)).setCell ⟨w.heap.size,4,none⟩ (O (some ⟨bo,0,none⟩) 1 1)).setCell ⟨w.heap.size,5,none⟩ (O (some ⟨bv,0,none⟩) 1 1)).setCell ⟨w.heap.size,6,none⟩ (O none 0 0)).setCell ⟨w.heap.size,7,none⟩ (O (some ⟨bm,0,none⟩) 2 2)).heap.size=w2.heap.size:=by simp [World.setCell]
 have hF:=(((((((((((HR2.o.other (b':=bi) (j:=0) (v:=O (some ⟨w2.heap.size+1,0,none⟩) 1 1) n3).set (j:=0) (v:=U zd 2) (by simp)).set (j:=1) (v:=O none 0 0) (by simp)).set (j:=2) (v:=O none 0 0) (by simp)).set (j:=3) (v:=O (some ⟨bi,0,none⟩) 1 1) (by simp)).set (j:=4) (v:=O (some ⟨bo,0,none⟩) 1 1) (by simp)).set (j:=5) (v:=O (some ⟨bv,0,none⟩) 1 1) (by simp)).set (j:=6) (v:=O none 0 0) (by simp)).set (j:=7) (v:=O (some ⟨bm,0,none⟩) 2 2) (by simp)).over (hbr _ (ze #[U zd 2,O none 0 0,O none 0 0,O (some ⟨bi,0,none⟩) 1 1,O (some ⟨bo,0,none⟩) 1 1,O (some ⟨bv,0,none⟩) 1 1,O none 0 0,O (some ⟨bm,0,none⟩) 2 2] 31))).over (hbr _ (ze #[U zd 0,O none 0 0] 87)))
 have hin:=(((((((((((HS.o.ins.set (j:=0) (v:=O (some ⟨w2.heap.size+1,0,none⟩) 1 1) (by simp)).other (b':=w.heap.size) (j:=0) (v:=U zd 2) (by omega)).other (b':=w.heap.size) (j:=1) (v:=O none 0 0) (by omega)).other (b':=w.heap.size) (j:=2) (v:=O none 0 0) (by omega)).other (b':=w.heap.size) (j:=3) (v:=O (some ⟨bi,0,none⟩) 1 1) (by omega)).other (b':=w.heap.size) (j:=4) (v:=O (some ⟨bo,0,none⟩) 1 1) (by omega)).other (b':=w.heap.size) (j:=5) (v:=O (some ⟨bv,0,none⟩) 1 1) (by omega)).other (b':=w.heap.size) (j:=6) (v:=O none 0 0) (by omega)).other (b':=w.heap.size) (j:=7) (v:=O (some ⟨bm,0,none⟩) 2 2) (by omega)).over (hbr _ (ze #[U zd 2,O none 0 0,O none 0 0,O (some ⟨bi,0,none⟩) 1 1,O (some ⟨bo,0,none⟩) 1 1,O (some ⟨bv,0,none⟩) 1 1,O none 0 0,O (some ⟨bm,0,none⟩) 2 2] 31))).over (hbr _ (ze #[U zd 0,O none 0 0] 87)))
 have hpl:Ad [U zd 0,O none 0 0] (((((((((((w2.setCell ⟨bi,0,none⟩ (O (some ⟨w2.heap.size+1,0,none⟩) 1 1)).setCell ⟨w.heap.size,0,none⟩ (U zd 2)).setCell ⟨w.heap.size,1,none⟩ (O none 0 0)).setCell ⟨w.heap.size,2,none⟩ (O none 0 0)).setCell ⟨w.heap.size,3,none⟩ (O (some ⟨bi,0,none⟩) 1 1)).setCell ⟨w.heap.size,4,none⟩ (O (some ⟨bo,0,none⟩) 1 1)).setCell ⟨w.heap.size,5,none⟩ (O (some ⟨bv,0,none⟩) 1 1)).setCell ⟨w.heap.size,6,none⟩ (O none 0 0)).setCell ⟨w.heap.size,7,none⟩ (O (some ⟨bm,0,none⟩) 2 2)).alloc (ze #[U zd 2,O none 0 0,O none 0 0,O (some ⟨bi,0,none⟩) 1 1,O (some ⟨bo,0,none⟩) 1 1,O (some ⟨bv,0,none⟩) 1 1,O none 0 0,O (some ⟨bm,0,none⟩) 2 2] 31)).alloc (ze #[U zd 0,O none 0 0] 87)) (w2.heap.size+1):=by
  have:=Ad.newA #[U zd 0,O none 0 0] 87 ((((((((((w2.setCell ⟨bi,0,none⟩ (O (some ⟨w2.heap.size+1,0,none⟩) 1 1)).setCell ⟨w.heap.size,0,none⟩ (U zd 2)).setCell ⟨w.heap.size,1,none⟩ (O none 0 0)).setCell ⟨w.heap.size,2,none⟩ (O none 0 0)).setCell ⟨w.heap.size,3,none⟩ (O (some ⟨bi,0,none⟩) 1 1)).setCell ⟨w.heap.size,4,none⟩ (O (some ⟨bo,0,none⟩) 1 1)).setCell ⟨w.heap.size,5,none⟩ (O (some ⟨bv,0,none⟩) 1 1)).setCell ⟨w.heap.size,6,none⟩ (O none 0 0)).setCell ⟨w.heap.size,7,none⟩ (O (some ⟨bm,0,none⟩) 2 2)).alloc (ze #[U zd 2,O none 0 0,O none 0 0,O (some ⟨bi,0,none⟩) 1 1,O (some ⟨bo,0,none⟩) 1 1,O (some ⟨bv,0,none⟩) 1 1,O none 0 0,O (some ⟨bm,0,none⟩) 2 2] 31))
  simpa [World.setCell] using this
 have hou:=(((((((((((HS.o.outs.other (b':=bi) (j:=0) (v:=O (some ⟨w2.heap.size+1,0,none⟩) 1 1) (by omega)).other (b':=w.heap.size) (j:=0) (v:=U zd 2) (by omega)).other (b':=w.heap.size) (j:=1) (v:=O none 0 0) (by omega)).other (b':=w.heap.size) (j:=2) (v:=O none 0 0) (by omega)).other (b':=w.heap.size) (j:=3) (v:=O (some ⟨bi,0,none⟩) 1 1) (by omega)).other (b':=w.heap.size) (j:=4) (v:=O (some ⟨bo,0,none⟩) 1 1) (by omega)).other (b':=w.heap.size) (j:=5) (v:=O (some ⟨bv,0,none⟩) 1 1) (by omega)).other (b':=w.heap.size) (j:=6) (v:=O none 0 0) (by omega)).other (b':=w.heap.size) (j:=7) (v:=O (some ⟨bm,0,none⟩) 2 2) (by omega)).over (hbr _ (ze #[U zd 2,O none 0 0,O none 0 0,O (some ⟨bi,0,none⟩) 1 1,O (some ⟨bo,0,none⟩) 1 1,O (some ⟨bv,0,none⟩) 1 1,O none 0 0,O (some ⟨bm,0,none⟩) 2 2] 31))).over (hbr _ (ze #[U zd 0,O none 0 0] 87)))
 have hva:=(((((((((((HS.o.vars.other (b':=bi) (j:=0) (v:=O (some ⟨w2.heap.size+1,0,none⟩) 1 1) (by omega)).other (b':=w.heap.size) (j:=0) (v:=U zd 2) (by omega)).other (b':=w.heap.size) (j:=1) (v:=O none 0 0) (by omega)).other (b':=w.heap.size) (j:=2) (v:=O none 0 0) (by omega)).other (b':=w.heap.size) (j:=3) (v:=O (some ⟨bi,0,none⟩) 1 1) (by omega)).other (b':=w.heap.size) (j:=4) (v:=O (some ⟨bo,0,none⟩) 1 1) (by omega)).other (b':=w.heap.size) (j:=5) (v:=O (some ⟨bv,0,none⟩) 1 1) (by omega)).other (b':=w.heap.size) (j:=6) (v:=O none 0 0) (by omega)).other (b':=w.heap.size) (j:=7) (v:=O (some ⟨bm,0,none⟩) 2 2) (by omega)).over (hbr _ (ze #[U zd 2,O none 0 0,O none 0 0,O (some ⟨bi,0,none⟩) 1 1,O (some ⟨bo,0,none⟩) 1 1,O (some ⟨bv,0,none⟩) 1 1,O none 0 0,O (some ⟨bm,0,none⟩) 2 2] 31))).over (hbr _ (ze #[U zd 0,O none 0 0] 87)))
 have hma:=(((((((((((HS.o.main.other (b':=bi) (j:=0) (v:=O (some ⟨w2.heap.size+1,0,none⟩) 1 1) (by omega)).other (b':=w.heap.size) (j:=0) (v:=U zd 2) (by omega)).other (b':=w.heap.size) (j:=1) (v:=O none 0 0) (by omega)).other (b':=w.heap.size) (j:=2) (v:=O none 0 0) (by omega)).other (b':=w.heap.size) (j:=3) (v:=O (some ⟨bi,0,none⟩) 1 1) (by omega)).other (b':=w.heap.size) (j:=4) (v:=O (some ⟨bo,0,none⟩) 1 1) (by omega)).other (b':=w.heap.size) (j:=5) (v:=O (some ⟨bv,0,none⟩) 1 1) (by omega)).other (b':=w.heap.size) (j:=6) (v:=O none 0 0) (by omega)).other (b':=w.heap.size) (j:=7) (v:=O (some ⟨bm,0,none⟩) 2 2) (by omega)).over (hbr _ (ze #[U zd 2,O none 0 0,O none 0 0,O (some ⟨bi,0,none⟩) 1 1,O (some ⟨bo,0,none⟩) 1 1,O (some ⟨bv,0,none⟩) 1 1,O none 0 0,O (some ⟨bm,0,none⟩) 2 2] 31))).over (hbr _ (ze #[U zd 0,O none 0 0] 87)))
 obtain ⟨e0,e1,e2,e3,e4,e5,e6,e7⟩:=rc8 hF
 have hBf:Ov w (((((((((((w2.setCell ⟨bi,0,none⟩ (O (some ⟨w2.heap.size+1,0,none⟩) 1 1)).setCell ⟨w.heap.size,0,none⟩ (U zd 2)).setCell ⟨w.heap.size,1,none⟩ (O none 0 0)).setCell ⟨w.heap.size,2,none⟩ (O none 0 0)).setCell ⟨w.heap.size,3,none⟩ (O (some ⟨bi,0,none⟩) 1 1)).setCell ⟨w.heap.size,4,none⟩ (O (some ⟨bo,0,none⟩) 1 1)).setCell ⟨w.heap.size,5,none⟩ (O (some ⟨bv,0,none⟩) 1 1)).setCell ⟨w.heap.size,6,none⟩ (O none 0 0)).setCell ⟨w.heap.size,7,none⟩ (O (some ⟨bm,0,none⟩) 2 2)).alloc (ze #[U zd 2,O none 0 0,O none 0 0,O (some ⟨bi,0,none⟩) 1 1,O (some ⟨bo,0,none⟩) 1 1,O (some ⟨bv,0,none⟩) 1 1,O none 0 0,O (some ⟨bm,0,none⟩) 2 2] 31)).alloc (ze #[U zd 0,O none 0 0] 87)):=(((((((((((HB2.o.setCell (p:=⟨bi,0,none⟩) (by simp;omega) (O (some ⟨w2.heap.size+1,0,none⟩) 1 1)).setCell (p:=⟨w.heap.size,0,none⟩) (by simp) (U zd 2)).setCell (p:=⟨w.heap.size,1,none⟩) (by simp) (O none 0 0)).setCell (p:=⟨w.heap.size,2,none⟩) (by simp) (O none 0 0)).setCell (p:=⟨w.heap.size,3,none⟩) (by simp) (O (some ⟨bi,0,none⟩) 1 1)).setCell (p:=⟨w.heap.size,4,none⟩) (by simp) (O (some ⟨bo,0,none⟩) 1 1)).setCell (p:=⟨w.heap.size,5,none⟩) (by simp) (O (some ⟨bv,0,none⟩) 1 1)).setCell (p:=⟨w.heap.size,6,none⟩) (by simp) (O none 0 0)).setCell (p:=⟨w.heap.size,7,none⟩) (by simp) (O (some ⟨bm,0,none⟩) 2 2)).alloc (by rw [hsz];omega) (ze #[U zd 2,O none 0 0,O none 0 0,O (some ⟨bi,0,none⟩) 1 1,O (some ⟨bo,0,none⟩) 1 1,O (some ⟨bv,0,none⟩) 1 1,O none 0 0,O (some ⟨bm,0,none⟩) 2 2] 31)).alloc (by simp [World.setCell];omega) (ze #[U zd 0,O none 0 0] 87))
 refine bodyPost_ret (v:=OD bi bo bv bm) ?_ rfl ⟨bi,bo,bv,bm,w2.heap.size+1,rfl,⟨hin,hpl,hou,hva,hma⟩,hBf⟩
 generalize (((((((((((w2.setCell ⟨bi,0,none⟩ (O (some ⟨w2.heap.size+1,0,none⟩) 1 1)).setCell ⟨w.heap.size,0,none⟩ (U zd 2)).setCell ⟨w.heap.size,1,none⟩ (O none 0 0)).setCell ⟨w.heap.size,2,none⟩ (O none 0 0)).setCell ⟨w.heap.size,3,none⟩ (O (some ⟨bi,0,none⟩) 1 1)).setCell ⟨w.heap.size,4,none⟩ (O (some ⟨bo,0,none⟩) 1 1)).setCell ⟨w.heap.size,5,none⟩ (O (some ⟨bv,0,none⟩) 1 1)).setCell ⟨w.heap.size,6,none⟩ (O none 0 0)).setCell ⟨w.heap.size,7,none⟩ (O (some ⟨bm,0,none⟩) 2 2)).alloc (ze #[U zd 2,O none 0 0,O none 0 0,O (some ⟨bi,0,none⟩) 1 1,O (some ⟨bo,0,none⟩) 1 1,O (some ⟨bv,0,none⟩) 1 1,O none 0 0,O (some ⟨bm,0,none⟩) 2 2] 31)).alloc (ze #[U zd 0,O none 0 0] 87))=WZ at e0 e1 e2 e3 e4 e5 e6 e7 ⊢
 simp [results,Tryz.results39,go_sem,e0,e1,e2,e3,e4,e5,e6,e7]
def L7:Lab:=⟨[⟨0,[]⟩],[]⟩
theorem OE {bi bo bv bm bp:Nat} {w:World} (h:Bad bi bo bv bm bp w):BK 1 1 2 none 0 0 none 0 0 (some ⟨bi,0,none⟩) 1 1 (some ⟨bo,0,none⟩) 1 1 (some ⟨bv,0,none⟩) 1 1 none 0 0 (some ⟨bm,0,none⟩) 2 2 [] [] [L7] [⟨[],[]⟩] [(false,⟨[],[]⟩)] [] [sm1,sm2] w:=by
 have h0:=GZ (bi:=bo) (bo:=bo) (bv:=bv) (bm:=bm) (w:=w) ⟨h.outs,h.outs,h.vars,h.main⟩
 refine ⟨BG 2 (by omega) (by omega),h0.grants,h0.speak,h0.speakL,?_,h0.outs,h0.vars,h0.funcs,h0.main,fun h=>absurd h (by simp),fun h=>absurd h (by simp)⟩
 refine ⟨by simp [maxLen],some ⟨bi,0,none⟩,1,rfl,fun _=>⟨bi,0,rfl,fun i hi=>?_⟩⟩
 have:i=0:=by simp at hi;omega
 subst this
 refine ⟨_,_,h.ins 0 _ rfl,h.ins 1 _ rfl,⟨_,_,rfl,fun _=>⟨bp,0,rfl,fun k hk=>?_⟩⟩,CN⟩
 have:k=0:=by simp [L7] at hk;omega
 subst this
 exact ⟨h.pol 0 _ rfl,_,h.pol 1 _ rfl,⟨none,0,rfl,fun h=>absurd rfl h⟩⟩
theorem RD:Ey.xP 1 1 2 1 1 1 0 [] [] [L7] [⟨[],[]⟩] [(false,⟨[],[]⟩)] [] [sm1,sm2]:=by
 refine ⟨rfl,by simp,fun x hx=>absurd hx (by simp),⟨?_,?_,F3.labs.2.2⟩,F3.many,F3.body,F3.main⟩
 ·intro b hb
  simp at hb
  rcases hb with rfl | rfl
  ·rfl
  ·rfl
 ·intro v hv
  simp at hv
  subst hv
  rfl
structure Ir (bi bo bv bm bx by':Nat) (w:World):Prop where
 small:GG bi bo bv bm w
 xs:w.cell? ⟨bx,0,none⟩=some (O (some ⟨by',0,none⟩) 1 1)
 ys:w.cell? ⟨by',0,none⟩=some (U zd 7)
theorem Fb:okR 1 1 1 1 1 1 0 [] [] [⟨[],[]⟩] [⟨[],[]⟩] [(false,⟨[],[]⟩)] [] [sm1,sm2] [[7]] 9:=
 ⟨F3,rfl,fun x hx=>by simp at hx;subst hx;simp,fun x hx y hy=>by simp at hx;subst hx;simp at hy;subst hy;exact ⟨by omega,by omega⟩,by omega,by omega⟩
def QH (w:World) (e:Ending) (w':World):Prop:=∃ bi bo bv bm,e=zj (EC bi bo bv bm)/\GG bi bo bv bm w'/\Ov w w'
theorem Ad.at {cs:List Value} {w w':World} {b:Nat} {a:Array Value} {t:Nat} (ha:a.toList=cs) (hb:b=w.heap.size) (hw:Ov (w.alloc (.cells a t)) w'):Ad cs w' b:=by
 subst hb
 rw [<-ha]
 exact (Ad.newA a t w).over hw
theorem Ll (w:World):Calls Tryz.prog 38 #[] w (QH w):=by
 go_enter Tryz.func38,Tryz.ntmps38
 go_wp2_with fail
 have hbr:=fun (W:World) (o:Obj)=>bA W o
 refine bodyPost_ret (v:=EC (w.heap.size+1) (w.heap.size+1+1) (w.heap.size+1+1+1) (w.heap.size+1+1+1+1)) (by simp [results,Tryz.results38,go_sem]) rfl ⟨_,_,_,_,rfl,⟨?_,?_,?_,?_⟩,?_⟩
 ·exact Ad.at rfl (by simp) (Ac (Ac (hbr _ _) (hbr _ _)) (hbr _ _))
 ·exact Ad.at rfl (by simp) (Ac (hbr _ _) (hbr _ _))
 ·exact Ad.at rfl (by simp) (hbr _ _)
 ·exact Ad.at rfl (by simp) (Below.refl _ _)
 ·exact Ac (Ac (Ac (Ac (hbr _ _) (hbr _ _)) (hbr _ _)) (hbr _ _)) (hbr _ _)
theorem IG (fl):BU 1 1 1 (9:Int).toNat [[7]] [] [⟨[],[]⟩] [⟨[],[]⟩] [(false,⟨[],[]⟩)] [] [sm1,sm2] fl 1 1=⟨[(1,1,0,7)],[7],[1],2,1,0,⟨[⟨[true],[true]⟩],[⟨[true],[false]⟩]⟩⟩:=by kernel_rfl
theorem L6 (fl):BU 2 1 1 (9:Int).toNat [[7]] [] [L7] [⟨[],[]⟩] [(false,⟨[],[]⟩)] [] [sm1,sm2] fl 1 1=⟨[],[7],[1],2,3,1,⟨[⟨[true,false],[true,true]⟩],[⟨[true,true],[false,false]⟩]⟩⟩:=by kernel_rfl
theorem I4 {bx by':Nat} {w:World} (xs:w.cell? ⟨bx,0,none⟩=some (O (some ⟨by',0,none⟩) 1 1)) (ys:w.cell? ⟨by',0,none⟩=some (U zd 7)):BC w (O (some ⟨bx,0,none⟩) 1 1) [[7]]:=by
 refine ⟨by simp [maxLen],some ⟨bx,0,none⟩,1,rfl,fun _=>⟨bx,0,rfl,fun i hi=>?_⟩⟩
 have:i=0:=by simp at hi;omega
 subst this
 refine ⟨_,xs,⟨some ⟨by',0,none⟩,1,rfl,fun _=>⟨by',0,rfl,fun j hj=>?_⟩⟩,by simp⟩
 have:j=0:=by simp at hj;omega
 subst this
 exact ys
theorem OC:okR 1 1 2 1 1 1 0 [] [] [L7] [⟨[],[]⟩] [(false,⟨[],[]⟩)] [] [sm1,sm2] [[7]] 9:=
 ⟨RD,rfl,Fb.long,Fb.num,by omega,by omega⟩
def RH (w:World) (e:Ending) (w':World):Prop:=
 ∃ g c b1 b2 lb lo lc rv wa wc,e=zj (zk #[zh #[O (some ⟨g,0,none⟩) 1 c,O (some ⟨b1,0,none⟩) 1 1,O (some ⟨b2,0,none⟩) 1 1,U zd 2,U zd 1,U zd 0],O (some ⟨lb,lo,none⟩) 1 lc,U zd 0])/\w'.cell? ⟨lb,lo,none⟩=some rv/\w'.cell? ⟨lb,lo+1,none⟩=some (O wa 1 wc)/\AE w' (O wa 1 wc) [true]/\Ov w w'
theorem Jq (bi bo bv bm bx by':Nat) (w:World) (hS:Ir bi bo bv bm bx by' w) :
  Calls Tryz.prog 17 #[EC bi bo bv bm,O (some ⟨bx,0,none⟩) 1 1,U zd 9] w (RH w):=by
 refine (Ft 1 1 1 none 0 0 none 0 0 (some ⟨bi,0,none⟩) 1 1 (some ⟨bo,0,none⟩) 1 1 (some ⟨bv,0,none⟩) 1 1 none 0 0 (some ⟨bm,0,none⟩) 2 2 (some ⟨bx,0,none⟩) 1 1 [[7]] 9 [] [] [⟨[],[]⟩] [⟨[],[]⟩] [(false,⟨[],[]⟩)] [] [sm1,sm2] w (GZ hS.small) (I4 hS.xs hS.ys)).mono ?_
 rintro e w' ⟨why,hw,hB,⟨hne,-⟩ | ⟨-,n,st,ev,b1,b2,a4,k4,c4,hn,-,rfl,hr,hl,-,-⟩⟩
 ·exact absurd (hw.2 Fb) hne
 ·obtain rfl:n=1:=by omega
  rw [IG] at hr hl ⊢
  have ho:=hr.own
  rcases ho.2 with ⟨-,h⟩ | ⟨g,cap,cur,rfl,-⟩
  ·exact absurd h (by simp)
  ·obtain ⟨ao,cap',hv,hel⟩:=hl
   injection hv with h1 h2 h3
   obtain ⟨lb,lo,hao,hel⟩:=hel (by simp)
   obtain ⟨rv,wv,hrv,hwv,u1,u2,he,hb1,hb2⟩:=hel 0 (by simp)
   simp at he
   obtain ⟨rfl,rfl⟩:=he
   have hb2':=hb2
   obtain ⟨wa,wc,rfl,-⟩:=hb2'
   rw [h1,h2,h3,hao]
   exact ⟨g,cap,b1,b2,lb,lo,cap',rv,wa,wc,rfl,hrv,hwv,hb2,hB⟩
def RG (w:World) (e:Ending) (w':World):Prop:=
 ∃ g c b1 b2 la lk lc,e=zj (zk #[zh #[O g 0 c,O (some ⟨b1,0,none⟩) 1 1,O (some ⟨b2,0,none⟩) 1 1,U zd 2,U zd 3,U zd 1],O la lk lc,U zd 0])/\Ov w w'
theorem L8 (bi bo bv bm bp bx by':Nat) (w:World) (hS:Bad bi bo bv bm bp w) (xs:w.cell? ⟨bx,0,none⟩=some (O (some ⟨by',0,none⟩) 1 1)) (ys:w.cell? ⟨by',0,none⟩=some (U zd 7)) :
  Calls Tryz.prog 17 #[OD bi bo bv bm,O (some ⟨bx,0,none⟩) 1 1,U zd 9] w (RG w):=by
 refine (Ft 1 1 2 none 0 0 none 0 0 (some ⟨bi,0,none⟩) 1 1 (some ⟨bo,0,none⟩) 1 1 (some ⟨bv,0,none⟩) 1 1 none 0 0 (some ⟨bm,0,none⟩) 2 2 (some ⟨bx,0,none⟩) 1 1 [[7]] 9 [] [] [L7] [⟨[],[]⟩] [(false,⟨[],[]⟩)] [] [sm1,sm2] w (OE hS) (I4 xs ys)).mono ?_
 rintro e w' ⟨why,hw,hB,⟨hne,-⟩ | ⟨-,n,st,ev,b1,b2,a4,k4,c4,hn,-,rfl,hr,hl,-,-⟩⟩
 ·exact absurd (hw.2 OC) hne
 ·obtain rfl:n=2:=by omega
  rw [L6] at hr ⊢
  have ho:=hr.own
  rcases ho.2 with ⟨rfl,h⟩ | ⟨g,cap,cur,rfl,-⟩
  ·exact ⟨none,0,b1,b2,a4,k4,c4,rfl,hB⟩
  ·exact ⟨some ⟨g,0,none⟩,cap,b1,b2,a4,k4,c4,rfl,hB⟩
theorem Bad.over {bi bo bv bm bp:Nat} {w w':World} (h:Bad bi bo bv bm bp w) (hb:Ov w w'):Bad bi bo bv bm bp w':=⟨h.ins.over hb,h.pol.over hb,h.outs.over hb,h.vars.over hb,h.main.over hb⟩
theorem FW (w:World):Calls Tryz.prog 19 #[] w fun e w'=>e=zj (zg true)/\Ov w w':=by
 have K1:=Aa Ll
 have K2:=Aa fun bi bo bv bm bx by' W (hS:Ir bi bo bv bm bx by' W)=>Jq bi bo bv bm bx by' W hS
 have K3:=Aa Ke
 go_enter Tryz.func19,Tryz.ntmps19
 go_wp2_with fail
 refine (K1.o _).mono ?_
 rintro e w1 ⟨bi,bo,bv,bm,rfl,hSm,hb1⟩
 have hS:Ir bi bo bv bm (w1.heap.size+1) w1.heap.size ((w1.alloc (ze #[U zd 7] 3)).alloc (ze #[O (some ⟨w1.heap.size,0,none⟩) 1 1] 25)):=
  ⟨hSm.over ((bA w1 _).alloc (by simp) _),by simp [go_sem],by simp [go_sem]⟩
 have hB1:Ov w ((w1.alloc (ze #[U zd 7] 3)).alloc (ze #[O (some ⟨w1.heap.size,0,none⟩) 1 1] 25)):=(hb1.alloc hb1.size _).alloc (by have:=hb1.size;simp;omega) _
 have K2':=Aa (K2.o _ _ _ _ _ _ _ hS)
 clear K1 K2 hSm hb1 hS
 unfold EC at K2' ⊢
 go_wp2_with fail
 refine (K2'.o).mono ?_
 rintro e w2 ⟨g,c,b1,b2,lb,lo,lc,rv,wa,wc,rfl,hrv,hwv,hbo,hb2⟩
 have hB2:=hB1.trans (hb2.mono hB1.size)
 have hba:=bA w2 (ze #[O (some ⟨g,0,none⟩) 1 c,O (some ⟨b1,0,none⟩) 1 1,O (some ⟨b2,0,none⟩) 1 1,U zd 2,U zd 1,U zd 0] 55)
 have hr1:=Ad.newA #[O (some ⟨g,0,none⟩) 1 c,O (some ⟨b1,0,none⟩) 1 1,O (some ⟨b2,0,none⟩) 1 1,U zd 2,U zd 1,U zd 0] 55 w2
 have HB2:Hx (Ov w (w2.alloc (ze #[O (some ⟨g,0,none⟩) 1 c,O (some ⟨b1,0,none⟩) 1 1,O (some ⟨b2,0,none⟩) 1 1,U zd 2,U zd 1,U zd 0] 55))):=hB2.alloc hB2.size _
 have HR1:=Aa hr1
 have HLV:=Aa (And.intro (Ab hba _ _ hrv) (And.intro (Ab hba _ _ hwv) (Aq hbo hba)))
 clear K2' hb2 hB1 hB2 hba hr1 hrv hwv hbo
 go_wp2_with fail
 refine (K3.o _).mono ?_
 obtain ⟨v2,hv2⟩:=nm ((w2.alloc (ze #[O (some ⟨g,0,none⟩) 1 c,O (some ⟨b1,0,none⟩) 1 1,O (some ⟨b2,0,none⟩) 1 1,U zd 2,U zd 1,U zd 0] 55)))
 have hg2:v2.heap.size=w2.heap.size+1:=by rw [hv2];simp
 rw [<-hv2] at HB2 HR1 HLV ⊢
 clear hv2 hg2
 rintro e w3 ⟨ci,co,cv,cm,cp,rfl,hBa,hb3⟩
 have hB3:=HB2.o.trans (hb3.mono HB2.o.size)
 have hbi:Ov w3 ((w3.alloc (ze #[U zd 7] 3)).alloc (ze #[O (some ⟨w3.heap.size,0,none⟩) 1 1] 25)):=(bA w3 _).alloc (by simp) _
 have K4:=Aa (L8 ci co cv cm cp (w3.heap.size+1) w3.heap.size ((w3.alloc (ze #[U zd 7] 3)).alloc (ze #[O (some ⟨w3.heap.size,0,none⟩) 1 1] 25)) (hBa.over hbi) (by simp [go_sem]) (by simp [go_sem]))
 have HB3:=Aa (hB3.trans (hbi.mono hB3.size))
 have HBI:=Aa (Ac hb3 hbi)
 clear K3 hBa hb3 hB3 hbi
 unfold OD at K4 ⊢
 go_wp2_with fail
 refine (K4.o).mono ?_
 rintro e w4 ⟨h,d,d1,d2,la,lk,ld,rfl,hb4⟩
 have hb24:=Ac HBI.o hb4
 have hba:=bA w4 (ze #[O h 0 d,O (some ⟨d1,0,none⟩) 1 1,O (some ⟨d2,0,none⟩) 1 1,U zd 2,U zd 3,U zd 1] 55)
 have HB4:Hx (Ov w (w4.alloc (ze #[O h 0 d,O (some ⟨d1,0,none⟩) 1 1,O (some ⟨d2,0,none⟩) 1 1,U zd 2,U zd 3,U zd 1] 55))):=by
  have:=HB3.o.trans (hb4.mono HB3.o.size)
  exact this.alloc this.size _
 have hb25:=Ac hb24 hba
 have rA:=HR1.o.over hb25
 have rB:=Ad.newA #[O h 0 d,O (some ⟨d1,0,none⟩) 1 1,O (some ⟨d2,0,none⟩) 1 1,U zd 2,U zd 3,U zd 1] 55 w4
 have a0:=rA 0 _ rfl
 have a4:=rA 4 _ rfl
 have q0:=rB 0 _ rfl
 have q4:=rB 4 _ rfl
 have q5:=rB 5 _ rfl
 have l0:=Ab hb25 _ _ HLV.o.1
 have l1:=Ab hb25 _ _ HLV.o.2.1
 have lb1:=Aq HLV.o.2.2 hb25
 have hbb:Ov (w4.alloc (ze #[O h 0 d,O (some ⟨d1,0,none⟩) 1 1,O (some ⟨d2,0,none⟩) 1 1,U zd 2,U zd 3,U zd 1] 55)) ((w4.alloc (ze #[O h 0 d,O (some ⟨d1,0,none⟩) 1 1,O (some ⟨d2,0,none⟩) 1 1,U zd 2,U zd 3,U zd 1] 55)).alloc (ze #[zg true] 4)):=bA _ _
 have hbt:AE ((w4.alloc (ze #[O h 0 d,O (some ⟨d1,0,none⟩) 1 1,O (some ⟨d2,0,none⟩) 1 1,U zd 2,U zd 3,U zd 1] 55)).alloc (ze #[zg true] 4)) (O (some ⟨(w4.alloc (ze #[O h 0 d,O (some ⟨d1,0,none⟩) 1 1,O (some ⟨d2,0,none⟩) 1 1,U zd 2,U zd 3,U zd 1] 55)).heap.size,0,none⟩) 1 1) [true]:=by
  refine ⟨some ⟨(w4.alloc (ze #[O h 0 d,O (some ⟨d1,0,none⟩) 1 1,O (some ⟨d2,0,none⟩) 1 1,U zd 2,U zd 3,U zd 1] 55)).heap.size,0,none⟩,1,rfl,fun _=>⟨_,0,rfl,fun i hi=>?_⟩⟩
  have:i=0:=by simp at hi;omega
  subst this
  exact (Ad.newA #[zg true] 4 (w4.alloc (ze #[O h 0 d,O (some ⟨d1,0,none⟩) 1 1,O (some ⟨d2,0,none⟩) 1 1,U zd 2,U zd 3,U zd 1] 55))) 0 _ rfl
 have K5:=Aa (Ci _ _ [true] [true] _ (Aq lb1 hbb) hbt (by simp))
 have HB5:Hx (Ov w ((w4.alloc (ze #[O h 0 d,O (some ⟨d1,0,none⟩) 1 1,O (some ⟨d2,0,none⟩) 1 1,U zd 2,U zd 3,U zd 1] 55)).alloc (ze #[zg true] 4))):=HB4.o.alloc HB4.o.size _
 have hsz:(w4.alloc (ze #[O h 0 d,O (some ⟨d1,0,none⟩) 1 1,O (some ⟨d2,0,none⟩) 1 1,U zd 2,U zd 3,U zd 1] 55)).heap.size=w4.heap.size+1:=by simp
 rw [hsz] at K5
 clear K4 hb4 hb24 hba hb25 rA rB lb1 hbb hbt hsz
 go_wp2_with fail
 refine (K5.o).mono ?_
 rintro e w5 ⟨rfl,n,rfl⟩
 have hB5:=below_drewN HB5.o n
 go_wp2_with fail
 go_ret
 exact ⟨rfl,hB5⟩
theorem LZ (n:Nat) (x):Ax (Bn n) x n=true:=by
 rw [BW]
 intro i hi
 refine ⟨fun _=>by simp [Bn,hi],fun h=>?_⟩
 simp [Bn,hi] at h
theorem Lq (c:WK) (K kf:Nat) (fs) (F:Nat) (ins l) (vn yn:Nat) (o:WSt) (h:A7 c o):A7 c (IL K kf fs F ins (obW c) l vn yn o).o:=
 PU K kf fs F ins (obW c) l vn yn o (A7 c) (fun kind a dp d s h=>h.ob kind a dp d) h
theorem I9 (c:WK) (n:Nat) (hn:c.n=n) (vn:Nat) (ps):A7 c ⟨List.replicate vn (Bn n),ps⟩:=by
 subst hn
 intro i _ hi
 have hi':i < vn:=by simpa using hi
 show Ax ((List.replicate vn (Bn c.n)).getD i AF) _ c.n=true
 rw [List.getD_eq_getElem?_getD,List.getElem?_replicate,if_pos hi']
 exact LZ c.n _
theorem Ht (n K kf F:Nat) (ins gs) (ls ms:List Lab) (vs:List (Bool × Lab)) (fs l fl) (vn yn:Nat) (c:WK) (hc:c=⟨n,K,ls.map (Av (Ay gs) n),ms.map (Av (Ay gs) n),vs.map Prod.fst,vs.map (fun v=>Av (Ay gs) n v.2),fs,fl⟩):A7 c (BU n K kf F ins gs ls ms vs fs l fl vn yn).o:=by
 have hn:c.n=n:=by rw [hc]
 unfold BU
 rw [<-hc]
 clear hc
 exact Lq c K kf fs F ins l vn yn _ (I9 c n hn vn [Bn n])
theorem Iz (n K kf F:Nat) (ins gs ls ms vs fs l fl) (vn yn:Nat) (T:RSt) (hT:T=BU n K kf F ins gs ls ms vs fs l fl vn yn) (hlen:T.o.vs.length=vs.length) (i:Nat) (hi:i < vs.length) (hi':i < T.o.vs.length) (hk:vs[i].1=true) :
  Ax T.o.vs[i] (Av (Ay gs) n vs[i].2) n=true:=by
 obtain ⟨c,hc⟩:∃ c:WK,c=⟨n,K,ls.map (Av (Ay gs) n),ms.map (Av (Ay gs) n),vs.map Prod.fst,vs.map (fun v=>Av (Ay gs) n v.2),fs,fl⟩:=⟨_,rfl⟩
 have h1:=Ht n K kf F ins gs ls ms vs fs l fl vn yn c hc
 rw [<-hT] at h1
 subst hc
 clear hT
 have h3:Ax (T.o.vs.getD i AF) ((vs.map (fun v=>Av (Ay gs) n v.2)).getD i AF) n=true:=h1 i (by simp [List.getD_eq_getElem?_getD,hi,hk]) hi'
 rw [List.getD_eq_getElem?_getD,List.getD_eq_getElem?_getD,List.getElem?_eq_getElem hi',List.getElem?_map,List.getElem?_eq_getElem hi] at h3
 exact h3
theorem knownLaw (K kf:Nat) (m:Int) (ga gn gc sa sn sc ya yn yc oa on oc va vn vc fa fn fc ba bn bc) (xa xn xc) (ins) (fuel:Int) (gs sp ls ms vs fs l) (w:World) (h:BK K kf m ga gn gc sa sn sc ya yn yc oa on oc va vn vc fa fn fc ba bn bc gs sp ls ms vs fs l w) (hx:BC w (O xa xn xc) ins) :
  Calls Tryz.prog 5 #[zh #[U zd m,O ga gn gc,O sa sn sc,O ya yn yc,O oa on oc,O va vn vc,O fa fn fc,O ba bn bc],O xa xn xc,U zd fuel] w fun e w'=>e=zj (zg true)/\Ov w w':=by
 have hb0:Ov w (w.alloc (ze #[U zd m,O ga gn gc,O sa sn sc,O ya yn yc,O oa on oc,O va vn vc,O fa fn fc,O ba bn bc] 31)):=bA w _
 have K1:=Aa (Ft K kf m ga gn gc sa sn sc ya yn yc oa on oc va vn vc fa fn fc ba bn bc xa xn xc ins fuel gs sp ls ms vs fs l _ (h.over hb0) (hx.over hb0))
 have KB1:=Aa FW
 have KB2:=Aa Go.Proofs.YtfffpjkcfnekaaaGreat.labBegun_any
 have hrp:=Ad.new [U zd m,O ga gn gc,O sa sn sc,O ya yn yc,O oa on oc,O va vn vc,O fa fn fc,O ba bn bc] 31 w
 have c0:=hrp 0 _ rfl
 have c1:=hrp 1 _ rfl
 have c2:=hrp 2 _ rfl
 have c3:=hrp 3 _ rfl
 have c4:=hrp 4 _ rfl
 have c5:=hrp 5 _ rfl
 have c6:=hrp 6 _ rfl
 have c7:=hrp 7 _ rfl
 have HRP:=Aa hrp
 have HB0:=Aa hb0
 have HH:=Aa h
 clear h hx hb0 hrp
 go_enter Tryz.func5,Tryz.ntmps5
 go_wp2_with fail
 refine (K1.o).mono ?_
 obtain ⟨WB,hWB⟩:=nm ((w.alloc (ze #[U zd m,O ga gn gc,O sa sn sc,O ya yn yc,O oa on oc,O va vn vc,O fa fn fc,O ba bn bc] 31)))
 rw [<-hWB] at HRP HB0 ⊢
 rintro e w1 ⟨why,hok,hb1,hnew⟩
 have hB1:=HB0.o.trans (hb1.mono HB0.o.size)
 have HB1:=Aa hB1
 have HR1:=Aa (HRP.o.over hb1)
 have HOK:=Aa hok
 clear K1 c0 c1 c2 c3 c4 c5 c6 c7 hb1 hok hWB hB1 HRP HB0
 rcases hnew with ⟨hw,rfl⟩ | ⟨rfl,n,st,ev,b1,b2,va4,vk4,vc4,hmn,hq,rfl,hRA,hLV,hLn,hvl⟩
 ·have hwb:(why == 0)=false:=by simpa using hw
  have HB2:Hx (Ov w (w1.alloc (ze #[O none 0 0,O none 0 0,O none 0 0,U zd 0,U zd 0,U zd 0] 55))):=HB1.o.alloc HB1.o.size _
  go_wp2_with fail
  refine (KB1.o _).mono ?_
  rintro e w2 ⟨rfl,hb2⟩
  go_wp2_with fail
  refine (KB2.o _).mono ?_
  rintro e w3 ⟨rfl,hb3⟩
  have HB3:=Aa (HB2.o.trans ((Ac hb2 hb3).mono HB2.o.size))
  clear hb2 hb3
  go_wp2_with fail
  go_ret
  exact ⟨rfl,HB3.o⟩
 obtain ⟨T,hT⟩:=nm (BU n K kf fuel.toNat ins gs ls ms vs fs l (BX n K kf gs sp st.vs st.fs vs ls ms fs l) vn yn)
 rw [<-hT] at hRA hLV hLn hvl ⊢
 have HT:=Aa hT
 have hv4:vk4=vn:=by obtain ⟨ao,cap,he,-⟩:=hLV;injection he with e1 e2 e3;rw [e2,hvl]
 obtain rfl:=hv4
 obtain ⟨ea,el,ec,rfl⟩:=AD hRA.own
 obtain ⟨stp,hsp⟩:=nm ((T.steps:Int))
 obtain ⟨en,hen⟩:=nm T.en
 obtain ⟨tsp,htsp⟩:=nm T.sp
 unfold QU
 rw [<-hsp,<-hen,<-htsp]
 have HL1:=Aa hLV
 have HLN:=Aa (And.intro hLn hvl)
 have HOK1:=Aa (HOK.o.1 rfl)
 have HMN:=Aa hmn
 have HB2:Hx (Ov w (w1.alloc (ze #[O ea el ec,O (some ⟨b1,0,none⟩) vk4 vk4,O (some ⟨b2,0,none⟩) yn yn,U zd stp,U zd en,U zd tsp] 55))):=HB1.o.alloc HB1.o.size _
 have HB12:Hx (Ov w1 (w1.alloc (ze #[O ea el ec,O (some ⟨b1,0,none⟩) vk4 vk4,O (some ⟨b2,0,none⟩) yn yn,U zd stp,U zd en,U zd tsp] 55))):=bA _ _
 clear hT hRA hLV hLn hvl hq hsp hen htsp hmn
 go_wp2_with fail
 refine (KB1.o _).mono ?_
 rintro e w2 ⟨rfl,hb2⟩
 go_wp2_with fail
 refine (KB2.o _).mono ?_
 rintro e w3 ⟨rfl,hb3⟩
 have hb23:=Ac hb2 hb3
 have hb13:=Ac HB12.o hb23
 have HB3:=Aa (HB2.o.trans (hb23.mono HB2.o.size))
 have hR3:=HR1.o.over hb13
 have HL3:=Aa (BT HL1.o hb13)
 have p5:=hR3 5 _ rfl
 have HR3:=Aa hR3
 clear hb2 hb3 hb23 hb13 HB12 HB2 HB1 HR1 HL1 hR3
 go_wp2_with fail
 have h16:vk4<=16:=HOK1.o.prog.ok.vars
 go_loopw [10] (fun i wr=>∃ j:Nat,j<=vk4/\i=U zd j/\Ov w3 wr) (fun i _=>vk4 - (intOf i).toNat)
 case atStart=>exact ⟨0,Nat.zero_le _,rfl,Below.refl _ _⟩
 case round=>
  obtain ⟨j,hj,rfl,hB⟩:=hrel
  have HBR:=Aa hB
  by_cases hlt:j < vk4
  ·obtain ⟨-,ao,cap,he,hel⟩:=HH.o.vars
   injection he with e1 e2 e3
   have hjv:j < vs.length:=by omega
   obtain ⟨bv,ov,hao,hel⟩:=hel (by intro hh;rw [hh] at hjv;simp at hjv)
   obtain ⟨pr,pw,k0,k1,k2,hpr,hpw⟩:=hel j hjv
   have hva:va=some ⟨bv,ov,none⟩:=e1.trans hao
   have hBw:Ov w wr:=HB3.o.trans (hB.mono HB3.o.size)
   have hPr:=Aj hpr hBw
   have hPw:=Aj hpw hBw
   have HPR:=Aa (And.intro hPr hPw)
   obtain ⟨a1,z1,rfl,-⟩:=hPr
   obtain ⟨a2,z2,rfl,-⟩:=hPw
   obtain ⟨k0,k1,k2⟩:=co3 hBw k0 k1 k2
   have hR:=HR3.o.over hB
   have t0:=hR 0 _ rfl
   have t1:=hR 1 _ rfl
   have t5:=hR 5 _ rfl
   subst hva
   have hjp:(j:Int) < (vk4:Int):=by omega
   cases hkn:vs[j].1 with
   | false=>
    rw [hkn] at k0
    clear hel e1 e2 e3 hao hB hBw hR hpr hpw p5
    go_wp2_with fail
    exact ⟨⟨j+1,by omega,by go_num,HBR.o⟩,by simp [intOf];omega⟩
   | true=>
    rw [hkn] at k0
    have hLr:=BT HL3.o hB
    obtain ⟨bl,ol,a3,a4,a5,a6,a7,a8,hla,hln,u0,u1,hlev⟩:=Dw hLr (i:=j) (by rw [HLN.o.2];exact hlt)
    subst hla
    have hjT:j < T.o.vs.length:=by rw [HLN.o.2];exact hlt
    have hmN:m=(n:Int):=HMN.o
    have hfl:=Iz n K kf fuel.toNat ins gs ls ms vs fs l _ vk4 yn T HT.o (by rw [HLN.o.2];exact e2) j hjv hjT hkn
    have hlab:Bd m gs vs[j].2=0:=HOK1.o.prog.labs.2.1 _ (List.getElem_mem hjv)
    have hchk:AR m gs=0:=HOK1.o.prog.chk
    have hlen:T.o.vs[j].len n:=HLN.o.1 _ (List.getElem_mem hjT)
    have KL:Hx (∀ W,Ov wr W->Calls Tryz.prog 23 #[zh #[U zd m,O ga gn gc],zh #[O a1 vs[j].2.r.length z1,O a2 vs[j].2.w.length z2]] W fun e w'=>∃ vl,e=zj (zk #[vl,U zd 0])/\AO W w' vl (Av (Ay gs) n vs[j].2)/\Ov W w'):=fun W hW=>by
     have:=H5 m (O ga gn gc) gs _ _ vs[j].2 W (Af HH.o.grants (Ac hBw hW)) (Aj HPR.o.1 hW) (Aj HPR.o.2 hW)
     rw [hlab,if_pos rfl,hmN] at this
     rw [hmN]
     exact this
    have KF0:Hx (∀ (W0:World) (o1:Option Addr) (o2 o3:Nat) (o4:Option Addr) (o5 o6:Nat),Ov wr W0->AP W0 (zh #[O o1 o2 o3,O o4 o5 o6]) (Av (Ay gs) n vs[j].2)->∀ W2,Ov W0 W2->Calls Tryz.prog 16 #[zh #[U zd m,O ga gn gc],zh #[O a3 a4 a5,O a6 a7 a8],zh #[O o1 o2 o3,O o4 o5 o6]] W2 fun e w'=>e=zj (zk #[zg true,U zd 0])/\Ov W2 w'):=fun W0 o1 o2 o3 o4 o5 o6 hb0 hl0 W2 hb2=>by
     have:=Ih m (O ga gn gc) gs _ _ _ _ W2 (Af HH.o.grants (Ac hBw (Ac hb0 hb2))) (Ai hlev (Ac hb0 hb2)) (Ai hl0 hb2)
     rw [hmN,Dy (by rw [<-hmN];exact hchk) hlen (C4 _ _ _)] at this
     rw [hmN]
     simpa [hfl] using this
    clear hel e1 e2 e3 hao hB hBw hR hpr hpw p5 hln hmN
    go_wp2_with fail
    refine gS (fun Wz=>Ov wr Wz) (bD _) fun hHeld=>?_
    generalize wr.drew=W at hHeld ⊢
    refine kO 0 ?_
    refine kO 1 ?_
    refine kO 2 ?_
    refine kO 3 ?_
    refine kO 4 ?_
    refine kO 5 ?_
    refine kO 6 ?_
    refine kO 7 ?_
    refine rdB 8 12 rfl (fun K hK=>?_) rfl fun K hK=>?_
    ·go_simp
     refine (KL.o _ hHeld).mono ?_
     rintro e W ⟨vl,rfl,hL,hb⟩
     have hLA:=BS hL
     obtain ⟨x1,x2,rfl,hx1,hx2,-⟩:=hL
     obtain ⟨o1,o2,o3,rfl⟩:=AD hx1
     obtain ⟨o4,o5,o6,rfl⟩:=AD hx2
     have HLV:Hx (AP W (zh #[O o1 o2 o3,O o4 o5 o6]) _):=hLA
     (try replace HZ:=Aa (HZ.o.over hb))
     clear hx1 hx2 hLA
     go_simp
     refine xK hK (Ac hHeld hb) fun hHeld=>?_
     refine kO 9 ?_
     refine kO 10 ?_
     refine kO 11 ?_
     refine rdA 12 rfl fun K hK=>?_
     obtain ⟨W',hW'⟩:=nm (W.alloc (ze #[O none 0 0,O none 0 0] 50))
     have hb:Ov W W':=by rw [hW'];exact bA _ _
     obtain ⟨bq,hq⟩:∃ b:Nat,b=W.heap.size:=⟨_,rfl⟩
     have HZ:Hx (ZB bq W'):=by rw [hq,hW'];exact CZ _ _
     have HGQ:Hx (wr.heap.size<=bq):=by rw [hq];exact hHeld.size
     (try replace HLV:=Aa (Ai HLV.o hb))
     go_simp
     rw [<-hW',<-hq]
     clear hW' hq
     refine xK hK (Ac hHeld hb) fun hHeld=>?_
     refine rdA 13 rfl fun K hK=>?_
     have d0:=HZ.o.c0
     have d1:=HZ.o.c1
     have z0:=HZ.o.z0
     have z1:=HZ.o.z1
     obtain ⟨W9,hW9⟩:=nm (Bj W' bq (O o1 o2 o3) (O o4 o5 o6))
     have HB9:Hx (Ov wr W9):=by rw [hW9];exact Bw hHeld HGQ.o _ _
     have HR:Hx (CE W9 bq 0 (O o1 o2 o3)/\CE W9 bq 1 (O o4 o5 o6)):=by rw [hW9];exact rc2 (HZ.o.fill _ _)
     replace HLV:Hx (AP W9 (zh #[O o1 o2 o3,O o4 o5 o6]) (Av (Ay gs) n vs[j].2)):=by rw [hW9];exact Bu (show World.cell? _ _=some (O none 0 0) by simp [go_sem,d1]) (Bu d0 HLV.o _) _
     unfold Bj at hW9
     go_simp
     rw [<-hW9]
     clear hW9 d0 d1 z0 z1
     refine xK hK (HB9.o) fun hHeld=>?_
     refine kO 14 ?_
     refine gE ?_
     have HW0:=Aa hHeld
     have hR0:=HR3.o.over (Ac HBR.o hHeld)
     have t0:=hR0 0 _ rfl
     have t1:=hR0 1 _ rfl
     obtain ⟨v0,v1⟩:=co2 hHeld u0 u1
     obtain ⟨m0,m1⟩:=HR.o
     have KF:=Aa (KF0.o _ _ _ _ _ _ _ hHeld HLV.o)
     clear hHeld KL KF0 HZ HLV HR HB9 HGQ k0 k1 k2 t5 u0 u1 hR0 hlev hlen hfl
     go_wp2_with fail
     refine gS (fun Wz=>Ov W9 Wz) (bD _) fun hHeld=>?_
     generalize W9.drew=W at hHeld ⊢
     refine kO 0 ?_
     refine kO 1 ?_
     refine kO 2 ?_
     refine kO 3 ?_
     refine kO 4 ?_
     refine kO 5 ?_
     refine kO 6 ?_
     refine rdA 7 rfl fun K hK=>?_
     go_simp
     refine (KF.o _ hHeld).mono ?_
     rintro e W ⟨rfl,hb⟩
     refine xK hK (Ac hHeld hb) fun hHeld=>?_
     refine kO 8 ?_
     refine kO 9 ?_
     refine kO 10 ?_
     refine kO 11 ?_
     refine kO 12 ?_
     refine gE ?_
     have hW2:=hHeld
     clear hHeld
     go_wp2_with fail
     exact ⟨⟨j+1,by omega,by go_num,HBR.o.trans ((Ac HW0.o hW2).mono HBR.o.size)⟩,by simp [intOf];omega⟩
    ·obtain ⟨W',hW'⟩:=nm (W.alloc (ze #[O none 0 0,O none 0 0] 50))
     have hb:Ov W W':=by rw [hW'];exact bA _ _
     obtain ⟨bq,hq⟩:∃ b:Nat,b=W.heap.size:=⟨_,rfl⟩
     have HZ:Hx (ZB bq W'):=by rw [hq,hW'];exact CZ _ _
     have HGQ:Hx (wr.heap.size<=bq):=by rw [hq];exact hHeld.size
     (try replace HLV:=Aa (Ai HLV.o hb))
     go_simp
     rw [<-hW',<-hq]
     clear hW' hq
     refine xK hK (Ac hHeld hb) fun hHeld=>?_
     refine rdA 8 rfl fun K hK=>?_
     go_simp
     refine (KL.o _ hHeld).mono ?_
     rintro e W ⟨vl,rfl,hL,hb⟩
     have hLA:=BS hL
     obtain ⟨x1,x2,rfl,hx1,hx2,-⟩:=hL
     obtain ⟨o1,o2,o3,rfl⟩:=AD hx1
     obtain ⟨o4,o5,o6,rfl⟩:=AD hx2
     have HLV:Hx (AP W (zh #[O o1 o2 o3,O o4 o5 o6]) _):=hLA
     (try replace HZ:=Aa (HZ.o.over hb))
     clear hx1 hx2 hLA
     go_simp
     refine xK hK (Ac hHeld hb) fun hHeld=>?_
     refine kO 9 ?_
     refine kO 10 ?_
     refine kO 11 ?_
     refine rdA 13 rfl fun K hK=>?_
     have d0:=HZ.o.c0
     have d1:=HZ.o.c1
     have z0:=HZ.o.z0
     have z1:=HZ.o.z1
     obtain ⟨W9,hW9⟩:=nm (Bj W bq (O o1 o2 o3) (O o4 o5 o6))
     have HB9:Hx (Ov wr W9):=by rw [hW9];exact Bw hHeld HGQ.o _ _
     have HR:Hx (CE W9 bq 0 (O o1 o2 o3)/\CE W9 bq 1 (O o4 o5 o6)):=by rw [hW9];exact rc2 (HZ.o.fill _ _)
     replace HLV:Hx (AP W9 (zh #[O o1 o2 o3,O o4 o5 o6]) (Av (Ay gs) n vs[j].2)):=by rw [hW9];exact Bu (show World.cell? _ _=some (O none 0 0) by simp [go_sem,d1]) (Bu d0 HLV.o _) _
     unfold Bj at hW9
     go_simp
     rw [<-hW9]
     clear hW9 d0 d1 z0 z1
     refine xK hK (HB9.o) fun hHeld=>?_
     refine kO 14 ?_
     refine gE ?_
     have HW0:=Aa hHeld
     have hR0:=HR3.o.over (Ac HBR.o hHeld)
     have t0:=hR0 0 _ rfl
     have t1:=hR0 1 _ rfl
     obtain ⟨v0,v1⟩:=co2 hHeld u0 u1
     obtain ⟨m0,m1⟩:=HR.o
     have KF:=Aa (KF0.o _ _ _ _ _ _ _ hHeld HLV.o)
     clear hHeld KL KF0 HZ HLV HR HB9 HGQ k0 k1 k2 t5 u0 u1 hR0 hlev hlen hfl
     go_wp2_with fail
     refine gS (fun Wz=>Ov W9 Wz) (bD _) fun hHeld=>?_
     generalize W9.drew=W at hHeld ⊢
     refine kO 0 ?_
     refine kO 1 ?_
     refine kO 2 ?_
     refine kO 3 ?_
     refine kO 4 ?_
     refine kO 5 ?_
     refine kO 6 ?_
     refine rdA 7 rfl fun K hK=>?_
     go_simp
     refine (KF.o _ hHeld).mono ?_
     rintro e W ⟨rfl,hb⟩
     refine xK hK (Ac hHeld hb) fun hHeld=>?_
     refine kO 8 ?_
     refine kO 9 ?_
     refine kO 10 ?_
     refine kO 11 ?_
     refine kO 12 ?_
     refine gE ?_
     have hW2:=hHeld
     clear hHeld
     go_wp2_with fail
     exact ⟨⟨j+1,by omega,by go_num,HBR.o.trans ((Ac HW0.o hW2).mono HBR.o.size)⟩,by simp [intOf];omega⟩
  ·have hje:j=vk4:=by omega
   have hmp:¬ (j:Int) < (vk4:Int):=by omega
   have HBE:=Aa (HB3.o.trans (hB.mono HB3.o.size))
   clear hB hje p5
   go_wp2_with fail
   go_ret
   exact ⟨rfl,HBE.o⟩
end Go.Proofs.YtfffpjkcfnekaaaGreat.Ex
