/- What package slice answers first. -/
import Derived.Test.YtfffpjkcfnekaaaGreatI16
set_option linter.unusedVariables false
set_option maxHeartbeats 8000000
set_option maxRecDepth 100000
namespace Go.Proofs.YtfffpjkcfnekaaaGreat.Ex
open Go.RowKit
open Go.Value renaming slice -> O, int -> zd, bool -> zg, agg -> zh, pointer -> zj, tuple -> zm
open Go.IntKind renaming i64 -> U
open Go.Obj renaming cells -> ze
open Go.Ending renaming returned -> zk
theorem MH (K kf:Nat) (m:Int) (ga gn gc sa sn sc ya yn yc oa on oc va vn vc fa fn fc ba bn bd gs sp ls ms vs fs l) (ch:Int) (w:World) (h:Bg K kf m ga gn gc sa sn sc ya yn yc oa on oc va vn vc fa fn fc ba bn bd gs sp ls ms vs fs l w) :
  Calls Tryz.prog 82 #[zh #[zd U m,O ga gn gc,O sa sn sc,O ya yn yc,O oa on oc,O va vn vc,O fa fn fc,O ba bn bd],zd U ch] w fun e w'=>∃ why:Int,e=zk (zd U why)/\(why=0 ↔ Ey.xP K kf m vn yn on sn gs sp ls ms vs fs l/\0<=ch/\ch < on)/\Ov w w':=by
 have c:Ov w (w.alloc (ze #[zd U m,O ga gn gc,O sa sn sc,O ya yn yc,O oa on oc,O va vn vc,O fa fn fc,O ba bn bd] 31)):=bA w _;obtain ⟨V,p⟩:=nm (w.alloc (ze #[zd U m,O ga gn gc,O sa sn sc,O ya yn yc,O oa on oc,O va vn vc,O fa fn fc,O ba bn bd] 31));have f:Ad [zd U m,O ga gn gc,O sa sn sc,O ya yn yc,O oa on oc,O va vn vc,O fa fn fc,O ba bn bd] V w.heap.size:=by rw [p];exact AP w [zd U m,O ga gn gc,O sa sn sc,O ya yn yc,O oa on oc,O va vn vc,O fa fn fc,O ba bn bd] 31
 rw [<-p] at c;have B:=Aa (Ey.scopeCheck_any K kf m ga gn gc sa sn sc ya yn yc oa on oc va vn vc fa fn fc ba bn bd gs sp ls ms vs fs l V (h.over c));obtain ⟨c0,c1,S,R,Q,P,N,M⟩:=rc8 f;have i:=Aa c;have s:=Aa f;have F:on<=9223372036854775807:=by obtain ⟨G,ao,L,H,-⟩:=h.outs;injection H with _ J;rw [J];exact G
 clear h c f;go_enter Tryz.func82,Tryz.ntmps82;go_wp2_with fail;rw [<-p];clear p;refine B.o.mono ?_;intro e A d;obtain ⟨why,rfl,b,g⟩:∃ why:Int,e=zk (zd U why)/\(why=0 ↔ Ey.xP K kf m vn yn on sn gs sp ls ms vs fs l)/\Ov V A:=by obtain ⟨why,y,u,I⟩:=d;exact ⟨why,by first | exact y | exact u,by first | exact u | exact y,I⟩
 have q:Ov w A:=i.o.trans (g.mono i.o.size);obtain ⟨d0,d1,d2,d3,d4,d5,d6,Z⟩:=rc8 (s.o.over g);clear c0 c1 S R Q P N M d g B;by_cases z:why=0;rotate_left
 ·have X:(why == 0)=false:=by simpa using z
  have W:Hx (why=0 ↔ Ey.xP K kf m vn yn on sn gs sp ls ms vs fs l/\0<=ch/\ch < on):=⟨fun h=>absurd h z,fun h=>absurd (b.2 h.1) z⟩;have k:=Aa q;clear b q z;go_wp2_with fail;go_ret;exact ⟨why,rfl,W.o,k.o⟩
 have T:=Aa (b.1 z);have k:=Aa q;subst z;clear b q;by_cases h0:ch < 0
 ·have E:decide (ch < 0)=true:=by simpa using h0
  go_wp2_with fail;go_ret;exact ⟨5,rfl,⟨fun h=>absurd h (by decide),fun h=>absurd h.2.1 (by omega)⟩,k.o⟩
 have E:decide (ch < 0)=false:=by simpa using h0
 by_cases d:ch < on
 ·have C:decide ((on:Int)<=ch)=false:=by simpa using d
  have t:Hx (0<=ch/\ch < on):=⟨by omega,d⟩;clear h0 d;go_wp2_with fail;go_ret;exact ⟨0,rfl,⟨fun _=>⟨T.o,t.o⟩,fun _=>rfl⟩,k.o⟩
 ·have C:decide ((on:Int)<=ch)=true:=by simp;omega
  have t:Hx (¬ ch < on):=d;clear h0 d;go_wp2_with fail;go_ret;exact ⟨5,rfl,⟨fun h=>absurd h (by decide),fun h=>absurd h.2.2 (by have Y:=t.o;omega)⟩,k.o⟩
structure JSt (c:WC) (w0:World) (gs:List (Int × Int)) (Ls Fs:List Lev):Prop where
 n1:1<=c.n
 n6:c.n<=6
 gr:AB w0 (O c.ga c.gn c.gc) gs
 chk:AN c.n gs=0
 levs:Cp w0 (O c.la c.ln c.lc) Ls
 lens:∀ x∈Ls,x.len c.n
 flevs:Cp w0 (O c.ka c.kn c.kc) Fs
 flens:∀ x∈Fs,x.len c.n
 l16:Ls.length<=16
theorem Hi (c:WC) (gs) (v u:Value) (l k) (w:World) (hg:AB w (O c.ga c.gn c.gc) gs) (hE:AN c.n gs=0) (hl:Bn w v l) (hll:l.len c.n) (hk:Bn w u k) (hkl:k.len c.n) :
  Calls Tryz.prog 57 #[c.v,v,u] w fun e w'=>e=zk (zg (Aw l k c.n))/\Ov w w':=by
 obtain ⟨x,y,rfl,-⟩:=id hl;obtain ⟨d,b,rfl,-⟩:=id hk;exact Pb (c.n:Int) c.ga c.gn c.gc c.sa c.sn c.sc c.ya c.yn c.yc c.oa c.on c.oc c.va c.vn c.vc c.fa c.fn c.fc c.ba c.bn c.bc c.la c.ln c.lc c.ka c.kn c.kc gs x y d b l k w hg hl hk (EN hE hll hkl)
theorem SD (c:WC) (gs) (v u:Value) (l k) (w:World) (hg:AB w (O c.ga c.gn c.gc) gs) (hE:AN c.n gs=0) (hl:Bn w v l) (hll:l.len c.n) (hk:Bn w u k) (hkl:k.len c.n) :
  Calls Tryz.prog 58 #[c.v,v,u] w fun e w'=>∃ vj,e=zk vj/\Bh w w' vj (BH l k c.n)/\Ov w w':=by
 obtain ⟨x,y,rfl,-⟩:=id hl;obtain ⟨d,b,rfl,-⟩:=id hk;exact Mv (c.n:Int) c.ga c.gn c.gc c.sa c.sn c.sc c.ya c.yn c.yc c.oa c.on c.oc c.va c.vn c.vc c.fa c.fn c.fc c.ba c.bn c.bc c.la c.ln c.lc c.ka c.kn c.kc gs x y d b l k w hg hl hk (EN hE hll hkl)
theorem OX (c:WC) (gs) (pr pw:Value) (b:Lab) (w:World) (hg:AB w (O c.ga c.gn c.gc) gs) (hl:Au w pr b.r) (hk:Au w pw b.w) (h2:Bs c.n gs b=0) :
  Calls Tryz.prog 114 #[c.v,zh #[pr,pw]] w fun e w'=>∃ vj,e=zk vj/\Bh w w' vj (AH (AE gs) c.n b)/\Ov w w':=
 Lq (c.n:Int) c.ga c.gn c.gc c.sa c.sn c.sc c.ya c.yn c.yc c.oa c.on c.oc c.va c.vn c.vc c.fa c.fn c.fc c.ba c.bn c.bc c.la c.ln c.lc c.ka c.kn c.kc gs pr pw b w hg hl hk h2
theorem Fd {w0:World} {ao:Option Addr} {an ac:Nat} {Ls:List Lev} {i:Nat} (h:Cp w0 (O ao an ac) Ls) (hi:i < Ls.length):∃ b o a1 a2 a3 a4 a5 a6,ao=some ⟨b,o,none⟩/\an=Ls.length/\w0.cell? ⟨b,o+i*2,none⟩=some (O a1 a2 a3)/\w0.cell? ⟨b,o+i*2+1,none⟩=some (O a4 a5 a6)/\Bn w0 (zh #[O a1 a2 a3,O a4 a5 a6]) Ls[i]:=by
 obtain ⟨p,l,f,c⟩:=h;injection f with k g s;obtain ⟨b,o,d,c⟩:=c (by rintro rfl;simp at hi);obtain ⟨rv,q,c0,c1,hl⟩:=c i hi;obtain ⟨a1,a2,a3,a4,a5,a6,rfl,rfl⟩:=A8 hl;exact ⟨b,o,a1,a2,a3,a4,a5,a6,k.trans d,g,c0,c1,hl⟩
abbrev NU (bj:Nat) (c:WC) (bl ol:Nat) (W:World) (p1:Option Addr) (q1 r1:Nat) (p2:Option Addr) (q2 r2 i:Nat) (a1:Option Addr) (a2 a3:Nat) (a4:Option Addr) (a5 a6:Nat) (Wz:World):Prop:=Wz.cell? ⟨bj,0,none⟩=some (zd U (c.n:Int))/\CE Wz bj 1 (O c.ga c.gn c.gc)/\CE Wz bj 2 (O c.sa c.sn c.sc)/\CE Wz bj 3 (O c.ya c.yn c.yc)/\CE Wz bj 4 (O c.oa c.on c.oc)/\CE Wz bj 5 (O c.va c.vn c.vc)/\CE Wz bj 6 (O c.fa c.fn c.fc)/\CE Wz bj 7 (O c.ba c.bn c.bc)/\CE Wz bj 8 (O (some ⟨bl,ol,none⟩) c.ln c.lc)/\CE Wz bj 9 (O c.ka c.kn c.kc)/\CE Wz W.heap.size 0 (O p1 q1 r1)/\CE Wz W.heap.size 1 (O p2 q2 r2)/\CE Wz bl (ol+i*2) (O a1 a2 a3)/\CE Wz bl (ol+i*2+1) (O a4 a5 a6)
theorem Fq (c) (w0:World) (bj:Nat) (av:Value) (fl) (fv:Value) (gs Ls Fs) (J:JSt c w0 gs Ls Fs) (v:Value) (l) (i:Nat) (W:World) (h:AV c.cs w0 bj av fl fv W) (hl:Bn W v l) (hll:l.len c.n) (hi:i < Ls.length) :
  Calls Tryz.prog 150 #[zj (some ⟨bj,0,none⟩),v,zd U (i:Int)] W fun e W'=>e=zk (zg (Aw l Ls[i] c.n))/\Ov W W':=by
 obtain ⟨I,F,R,Q,P,N,M,L,B,A,k0,Z,hk⟩:=Fd J.levs hi;obtain ⟨t,q,k,s,p,g,rfl⟩:∃ t q k s p g,v=zh #[O t q k,O s p g]:=by
  obtain ⟨x,y,rfl,-⟩:=id hl;obtain ⟨t,q,k,s,p,g,rfl,rfl⟩:=A8 hl;exact ⟨_,_,_,_,_,_,rfl⟩
 have C:Ov W (W.alloc (ze #[O t q k,O s p g] 50)):=bA W _;have d:=h.over C;have u:=Ad.new [O t q k,O s p g] 50 W;have f:=d.below;have G:c.v=zh #[zd U (c.n:Int),O c.ga c.gn c.gc,O c.sa c.sn c.sc,O c.ya c.yn c.yc,O c.oa c.on c.oc,O c.va c.vn c.vc,O c.fa c.fn c.fc,O c.ba c.bn c.bc,O (some ⟨I,F,none⟩) c.ln c.lc,O c.ka c.kn c.kc]:=by show Value.agg #[zd U (c.n:Int),O c.ga c.gn c.gc,O c.sa c.sn c.sc,O c.ya c.yn c.yc,O c.oa c.on c.oc,O c.va c.vn c.vc,O c.fa c.fn c.fc,O c.ba c.bn c.bc,O c.la c.ln c.lc,O c.ka c.kn c.kc]=_;rw [B]
 have KF:Hx (∀ (W2:World),Ov (W.alloc (ze #[O t q k,O s p g] 50)) W2->Calls Tryz.prog 57 #[zh #[zd U (c.n:Int),O c.ga c.gn c.gc,O c.sa c.sn c.sc,O c.ya c.yn c.yc,O c.oa c.on c.oc,O c.va c.vn c.vc,O c.fa c.fn c.fc,O c.ba c.bn c.bc,O (some ⟨I,F,none⟩) c.ln c.lc,O c.ka c.kn c.kc],zh #[O t q k,O s p g],zh #[O R Q P,O N M L]] W2 fun e w'=>e=zk (zg (Aw l Ls[i] c.n))/\Ov W2 w'):=fun W2 b=>by
  have:=Hi c gs _ _ l Ls[i] W2 (Aj J.gr (f.trans (b.mono f.size))) J.chk (AW (AW hl C) b) hll (AW hk (f.trans (b.mono f.size))) (J.lens _ (List.getElem_mem hi));rw [G] at this;exact this
 have E:NU bj c I F W t q k s p g i R Q P N M L (W.alloc (ze #[O t q k,O s p g] 50)):=⟨d.cw 0 _ rfl,d.cw 1 _ rfl,d.cw 2 _ rfl,d.cw 3 _ rfl,d.cw 4 _ rfl,d.cw 5 _ rfl,d.cw 6 _ rfl,d.cw 7 _ rfl,by rw [<-B];exact d.cw 8 _ rfl,d.cw 9 _ rfl,u 0 _ rfl,u 1 _ rfl,Ab f _ _ k0,Ab f _ _ Z⟩;have HS:Hx (∀ W2,Ov (W.alloc (ze #[O t q k,O s p g] 50)) W2->NU bj c I F W t q k s p g i R Q P N M L W2):=fun W2 b=>by
  obtain ⟨s0,s1,s2,s3,s4,s5,s6,s7,s8,s9,X,V,T,S⟩:=E;exact ⟨Ab b _ _ s0,Ab b _ _ s1,Ab b _ _ s2,Ab b _ _ s3,Ab b _ _ s4,Ab b _ _ s5,Ab b _ _ s6,Ab b _ _ s7,Ab b _ _ s8,Ab b _ _ s9,Ab b _ _ X,Ab b _ _ V,Ab b _ _ T,Ab b _ _ S⟩
 have au:(i:Int) < (c.ln:Int):=by rw [A];omega
 have ar:c.ln<=16:=by rw [A];exact J.l16
 obtain ⟨t0,t1,t2,t3,t4,t5,t6,t7,t8,t9,ag,af,ae,ad⟩:=id E;generalize hfb:Aw l Ls[i] c.n=fb at KF ⊢;clear J h d hl hll u f hk k0 Z hfb G B A;go_enter Tryz.func150,Tryz.ntmps150;go_wp2_with fail;refine gS (NU bj c I F W t q k s p g i R Q P N M L) (E) fun z=>?_;refine kT 0 ?_;refine kT 1 ?_;refine kT 2 ?_;refine kT 3 ?_;refine kT 4 ?_;refine kT 5 ?_;refine kT 6 ?_;refine kT 7 ?_;refine kT 8 ?_;refine kT 9 ?_;refine kT 10 ?_;refine kT 11 ?_;refine kT 12 ?_;refine kT 13 ?_;refine rdA 14 rfl fun K Y=>?_;go_simp;refine (KF.o _ (bD _)).mono ?_;rintro e W2 ⟨rfl,b⟩;have H:=HS.o W2 (Ac (bD _) b);go_simp;refine xK Y (H) fun z=>?_;refine rdA 15 rfl fun K Y=>?_;go_simp;refine xK Y (H) fun z=>?_;refine gE ?_;go_wp2_with fail;go_ret;exact ⟨rfl,Ac C (Ac (bD _) b)⟩
section
variable {α:Type}
def Gp (p:α->Bool) (l:List α):Int:=match l.findIdx? p with | some i=>i | none=>-1
theorem Jb {p:α->Bool} {l:List α} {k:Nat} (hk:k < l.length) (h:(l.take k).all (fun g=>!p g)=true) (hp:p l[k]=true):Gp p l=k:=by
 have:l.findIdx? p=some k:=by
  rw [List.findIdx?_eq_some_iff_getElem];refine ⟨hk,hp,fun j b=>?_⟩;have:=List.all_eq_true.1 h l[j] (List.mem_take_iff_getElem.2 ⟨j,by omega,rfl⟩);simpa using this
 simp [Gp,this]
theorem F3 {p:α->Bool} {l:List α} (h:l.all (fun g=>!p g)=true):Gp p l=-1:=by
 have:l.findIdx? p=none:=by
  rw [List.findIdx?_eq_none_iff];intro x b;have:=List.all_eq_true.1 h x b;simpa using this
 simp [Gp,this]
theorem Hc (p:α->Bool) (l:List α):decide (0<=Gp p l)=l.any p:=by
 unfold Gp
 cases h:l.findIdx? p with
 | none=>
  have:l.any p=false:=by rw [List.any_eq_false];intro x b;have:=(List.findIdx?_eq_none_iff.1 h) x b;simpa using this
  rw [this];rfl
 | some i=>
  obtain ⟨d,c,_⟩:=List.findIdx?_eq_some_iff_getElem.1 h;have:l.any p=true:=List.any_eq_true.2 ⟨_,List.getElem_mem d,c⟩;rw [this];simp
end
theorem P8 (F:FuncId) (cap:List Value) (p:Int->Bool) (v:Value) (l) (w:World) (hv:AQ w v l) (hn:l.length<=6)
  (hF:Hx (∀ (i:Nat) (h:i < l.length) (w1:World),Ov w w1->Calls Tryz.prog F (zd U l[i]::cap).toArray w1 fun e w2=>e=zk (zg (p l[i]))/\Ov w1 w2))
  (hC:∀ (args:Array Value) (w:World),(callFunc F args).run Tryz.prog w=.ok (.enter F args) w) :
  Calls Tryz.prog 190 #[v,.func (.func F) #[] cap.toArray] w fun e w'=>e=zk (zd U (Gp p l))/\Ov w w':=by
 obtain ⟨O,N,rfl,t⟩:=hv;go_enter Tryz.func190,Tryz.ntmps190;go_wp2_with fail;go_loopw [8] (fun i wr=>∃ k:Nat,k<=l.length/\i=zd U k/\(l.take k).all (fun g=>!p g)=true/\Ov w wr) (fun i _=>l.length - (intOf i).toNat)
 case atStart=>exact ⟨0,Nat.zero_le _,rfl,rfl,Below.refl _ w⟩
 case round=>
  obtain ⟨k,hk,rfl,f,c⟩:=hrel;by_cases hkl:k < l.length
  ·obtain ⟨b,off,rfl,A⟩:=t (by rintro rfl;simp at hkl)
   have B:=A k hkl;have E:=bL B;rw [<-(Am c).1 _ _ E] at B;have d:=hF.o k hkl;have y:=fun (C:p l[k]=true)=>Jb hkl f C;have s:p l[k]=false->(l.take (k+1)).all (fun g=>!p g)=true:=fun C=>by
    rw [List.take_succ_eq_append_getElem hkl,List.all_append,f];simp [C]
   obtain ⟨r,H⟩:=nm (p l[k]);rw [<-H] at d y s;obtain ⟨M,z⟩:=nm (l[k]);rw [<-z] at B d;clear z;have I:=Aa d;have L:=Aa y;have K:=Aa s;clear H d y s A t hF
   cases r with
   | true=>
    go_wp2_with fail;refine (I.o _ c).mono ?_;rintro e w2 ⟨rfl,u⟩;have q:Ov w w2:=c.trans (u.mono c.size);go_wp2_with fail;go_ret;exact ⟨by rw [L.o (by first | rfl | trivial)];rfl,q⟩
   | false=>
    go_wp2_with fail;refine (I.o _ c).mono ?_;rintro e w2 ⟨rfl,u⟩;have q:Ov w w2:=c.trans (u.mono c.size);go_wp2_with fail;exact ⟨⟨k+1,by omega,by go_num,K.o (by first | rfl | trivial),q⟩,by simp [intOf];omega⟩
  ·have G:k=l.length:=by omega
   rw [G,List.take_length] at f;have J:=F3 f;clear f t hF;go_wp2_with fail;go_ret;exact ⟨by rw [J];rfl,c⟩
theorem Fg (F:FuncId) (cap:List Value) (p:Int->Bool) (v:Value) (l) (w:World) (hv:AQ w v l) (hn:l.length<=6)
  (hF:Hx (∀ (i:Nat) (h:i < l.length) (w1:World),Ov w w1->Calls Tryz.prog F (zd U l[i]::cap).toArray w1 fun e w2=>e=zk (zg (p l[i]))/\Ov w1 w2))
  (hC:∀ (args:Array Value) (w:World),(callFunc F args).run Tryz.prog w=.ok (.enter F args) w) :
  Calls Tryz.prog 124 #[v,.func (.func F) #[] cap.toArray] w fun e w'=>e=zk (zg (l.any p))/\Ov w w':=by
 have d:=P8 F cap p v l w hv hn hF hC;have b:=Hc p l;obtain ⟨r,f⟩:=nm (Gp p l);rw [<-f] at d b;rw [<-b];have g:=Aa d;clear d b f hv hC hF;go_enter Tryz.func124,Tryz.ntmps124;go_wp2_with fail;refine (g.o).mono ?_;rintro e w1 ⟨rfl,c⟩;go_wp2_with fail;go_ret;exact ⟨by simp,c⟩
theorem P7 (F:FuncId) (cap:List Value) (p:Pol->Bool) (v:Value) (l:List Pol) (w:World) (hv:Au w v l) (hn:l.length<=6)
  (hF:Hx (∀ (i:Nat) (h:i < l.length) (w1:World),Ov w w1->∀ nv,AQ w1 nv l[i].names->Calls Tryz.prog F (zh #[zd U l[i].owner,nv]::cap).toArray w1 fun e w2=>e=zk (zg (p l[i]))/\Ov w1 w2))
  (hC:∀ (args:Array Value) (w:World),(callFunc F args).run Tryz.prog w=.ok (.enter F args) w) :
  Calls Tryz.prog 247 #[v,.func (.func F) #[] cap.toArray] w fun e w'=>e=zk (zd U (Gp p l))/\Ov w w':=by
 obtain ⟨S,R,rfl,t⟩:=hv;go_enter Tryz.func247,Tryz.ntmps247;go_wp2_with fail;go_loopw [8] (fun i wr=>∃ k:Nat,k<=l.length/\i=zd U k/\(l.take k).all (fun g=>!p g)=true/\Ov w wr) (fun i _=>l.length - (intOf i).toNat)
 case atStart=>exact ⟨0,Nat.zero_le _,rfl,rfl,Below.refl _ w⟩
 case round=>
  obtain ⟨k,hk,rfl,f,c⟩:=hrel;by_cases hkl:k < l.length
  ·obtain ⟨b,off,rfl,B⟩:=t (by rintro rfl;simp at hkl)
   obtain ⟨C,nv,I,z⟩:=B k hkl;obtain ⟨C,I⟩:=co2 c C I;obtain ⟨n1,P,G,-⟩:=id z;subst G;have d:=fun (w1:World) (K:Ov w w1)=>hF.o k hkl w1 K _ (Be z K);have y:=fun (E:p l[k]=true)=>Jb hkl f E;have s:p l[k]=false->(l.take (k+1)).all (fun g=>!p g)=true:=fun E=>by
    rw [List.take_succ_eq_append_getElem hkl,List.all_append,f];simp [E]
   obtain ⟨r,J⟩:=nm (p l[k]);rw [<-J] at d y s;obtain ⟨Q,A⟩:=nm (l[k].owner);rw [<-A] at C d;clear A;have L:=Aa d;have O:=Aa y;have N:=Aa s;clear J d y s B t hF
   cases r with
   | true=>
    go_wp2_with fail;refine (L.o _ c).mono ?_;rintro e w2 ⟨rfl,u⟩;have q:Ov w w2:=c.trans (u.mono c.size);go_wp2_with fail;go_ret;exact ⟨by rw [O.o (by first | rfl | trivial)];rfl,q⟩
   | false=>
    go_wp2_with fail;refine (L.o _ c).mono ?_;rintro e w2 ⟨rfl,u⟩;have q:Ov w w2:=c.trans (u.mono c.size);go_wp2_with fail;exact ⟨⟨k+1,by omega,by go_num,N.o (by first | rfl | trivial),q⟩,by simp [intOf];omega⟩
  ·have H:k=l.length:=by omega
   rw [H,List.take_length] at f;have M:=F3 f;clear f t hF;go_wp2_with fail;go_ret;exact ⟨by rw [M];rfl,c⟩
theorem LR (F:FuncId) (cap:List Value) (p:Pol->Bool) (v:Value) (l:List Pol) (w:World) (hv:Au w v l) (hn:l.length<=6)
  (hF:Hx (∀ (i:Nat) (h:i < l.length) (w1:World),Ov w w1->∀ nv,AQ w1 nv l[i].names->Calls Tryz.prog F (zh #[zd U l[i].owner,nv]::cap).toArray w1 fun e w2=>e=zk (zg (p l[i]))/\Ov w1 w2))
  (hC:∀ (args:Array Value) (w:World),(callFunc F args).run Tryz.prog w=.ok (.enter F args) w) :
  Calls Tryz.prog 235 #[v,.func (.func F) #[] cap.toArray] w fun e w'=>e=zk (zg (l.any p))/\Ov w w':=by
 have d:=P7 F cap p v l w hv hn hF hC;have b:=Hc p l;obtain ⟨r,f⟩:=nm (Gp p l);rw [<-f] at d b;rw [<-b];have g:=Aa d;clear d b f hv hC hF;go_enter Tryz.func235,Tryz.ntmps235;go_wp2_with fail;refine (g.o).mono ?_;rintro e w1 ⟨rfl,c⟩;go_wp2_with fail;go_ret;exact ⟨by simp,c⟩
theorem Bw {w:World} {b i k:Nat} (h:b≠k) (u:Value):(w.setCell ⟨b,i,none⟩ u).heap[k]? = w.heap[k]?:=by
 simp [World.setCell,Array.getElem?_modify,h]
theorem AM {w:World} {a b:Addr} {v:Value}:(w.setCell a v).frozen? b=w.frozen? b:=by simp [go_sem]
theorem Aq {W:World} {b j b' j':Nat} {u v:Value} (h:W.cell? ⟨b',j',none⟩=some u) (hne:¬ (b=b'/\j=j')):(W.setCell ⟨b,j,none⟩ v).cell? ⟨b',j',none⟩=some u:=by
 rw [World.cell?_setCell_other _ _ _ _ (by intro e;injection e with d c;exact hne ⟨d,c⟩)];exact h
theorem GS (bn bl n c i:Nat) (x m:Bool) (W:World) (hi:i < n) (hn:n<=1000) (hc:W.cell? ⟨bl,i,none⟩=some (zg x)) (hf:W.frozen? ⟨bl,i,none⟩=false) (hm:W.cell? ⟨bn,14,none⟩=some (zg m)) (hmf:W.frozen? ⟨bn,14,none⟩=false) (hne:bl≠bn) :
  Calls Tryz.prog 197 #[zj (some ⟨bn,0,none⟩),O (some ⟨bl,0,none⟩) n c,zd U (i:Int)] W fun e W'=>e=zk (zm #[])/\W'=if x=true then W else (W.setCell ⟨bl,i,none⟩ (zg true)).setCell ⟨bn,14,none⟩ (zg true):=by
 have f:(i:Int) < (n:Int):=by omega
 have d:(0:Int)<=(i:Int):=by omega
 have k:=Aq (b:=bl) (j:=i) (v:=zg true) hm (fun h=>hne h.1);have g:(W.setCell ⟨bl,i,none⟩ (zg true)).frozen? ⟨bn,14,none⟩=false:=AM.trans hmf
 cases x with
 | true=>
  go_enter Tryz.func197,Tryz.ntmps197;go_wp2_with fail;go_end0;exact ⟨rfl,rfl⟩
 | false=>
  go_enter Tryz.func197,Tryz.ntmps197;go_wp2_with fail;go_end0;exact ⟨rfl,rfl⟩
def Sg (W:World) (b off n:Nat) (l:List Bool):Prop:=l.length=n/\∀ i (h:i < l.length),W.cell? ⟨b,off+i,none⟩=some (zg l[i])
theorem RI (ao:Option Addr) (c:Nat) (l:List Bool) (w:World) (hn:l.length<=1000) (hv:l≠[]->∃ b off,ao=some ⟨b,off,none⟩/\Sg w b off l.length l) :
  Calls Tryz.prog 248 #[O ao l.length c,zg true] w fun e w'=>e=zk (zd U (Gp id l))/\Ov w w':=by
 have z:=Aa hv;clear hv;go_enter Tryz.func248,Tryz.ntmps248;go_wp2_with fail;go_loopw [8] (fun i wr=>∃ k:Nat,k<=l.length/\i=zd U k/\(l.take k).all (fun g=>!id g)=true/\wr=w) (fun i _=>l.length - (intOf i).toNat)
 case atStart=>exact ⟨0,Nat.zero_le _,rfl,rfl,rfl⟩
 case round=>
  obtain ⟨k,hk,rfl,d,rfl⟩:=hrel;by_cases hkl:k < l.length
  ·obtain ⟨b,off,rfl,-,q⟩:=z.o (by rintro rfl;simp at hkl)
   have A:=q k hkl;have s:=Aa fun (t:l[k]=true)=>Jb (p:=id) hkl d t;have f:=Aa fun (t:l[k]=false)=>(show (l.take (k+1)).all (fun g=>!id g)=true by
    rw [List.take_succ_eq_append_getElem hkl,List.all_append,d];simp [t])
   obtain ⟨r,y⟩:=nm (l[k]);rw [<-y] at A s f;clear y q
   cases r with
   | true=>
    go_wp2_with fail;go_ret;exact ⟨by rw [s.o (by first | rfl | trivial)];rfl,Below.refl _ _⟩
   | false=>
    go_wp2_with fail;exact ⟨⟨k+1,by omega,by go_num,f.o (by first | rfl | trivial),(by first | rfl | trivial)⟩,by simp [intOf];omega⟩
  ·have u:k=l.length:=by omega
   rw [u,List.take_length] at d;have B:=F3 d;clear d z;go_wp2_with fail;go_ret;exact ⟨by rw [B];rfl,Below.refl _ _⟩
theorem Nu (ao:Option Addr) (c:Nat) (l:List Bool) (w:World) (hn:l.length<=1000) (hv:l≠[]->∃ b off,ao=some ⟨b,off,none⟩/\Sg w b off l.length l) :
  Calls Tryz.prog 246 #[O ao l.length c,zg true] w fun e w'=>e=zk (zg (l.any id))/\Ov w w':=by
 have g:=RI ao c l w hn hv;have d:=Hc id l;obtain ⟨r,i⟩:=nm (Gp id l);rw [<-i] at g d;rw [<-d];have k:=Aa g;clear g d i hv hn;go_enter Tryz.func246,Tryz.ntmps246;go_wp2_with fail;refine k.o.mono ?_;rintro e p ⟨rfl,f⟩;go_wp2_with fail;go_ret;exact ⟨by go_num,f⟩
structure NI (w0:World) (pc:List Value) (ch:Int) (cv fv:Value) (bn bv bi bs:Nat) (st:NS) (W:World):Prop where
 below:Ov w0 W
 row:Ad (pc++[zd U ch,cv,fv,O (some ⟨bv,0,none⟩) st.vs.length st.vs.length,O (some ⟨bi,0,none⟩) st.cs.length st.cs.length,O (some ⟨bs,0,none⟩) st.nd.length st.nd.length,zg st.mo]) W bn
 len:pc.length=8
 vs:Ad (st.vs.map Value.bool) W bv
 cs:Ad (st.cs.map Value.bool) W bi
 nd:Ad (st.nd.map Value.bool) W bs
 fz:∀ b,b=bn\/b=bv\/b=bi\/b=bs->w0.heap.size<=b/\b < W.heap.size/\∀ j,W.frozen? ⟨b,j,none⟩=false
 ne:bn≠bv/\bn≠bi/\bn≠bs/\bv≠bi/\bv≠bs/\bi≠bs
def XN (bn bv bi bs:Nat) (_:World) (k:Nat):Prop:=k=bn\/k=bv\/k=bi\/k=bs
theorem Ed (bn bv bi bs:Nat):XOk (XN bn bv bi bs):=⟨fun _ _ _ _ h=>h⟩
section
variable {w0:World} {pc:List Value} {ch:Int} {cv fv:Value} {bn bv bi bs:Nat} {st:NS} {W W':World}
theorem NI.over (h:NI w0 pc ch cv fv bn bv bi bs st W) (hb:Ov W W'):NI w0 pc ch cv fv bn bv bi bs st W':=
 ⟨h.below.trans (hb.mono h.below.size),h.row.over hb,h.len,h.vs.over hb,h.cs.over hb,h.nd.over hb,fun b hh=>⟨(h.fz b hh).1,Nat.lt_of_lt_of_le (h.fz b hh).2.1 hb.size,fun j=>((Am hb).2 _ _ (h.fz b hh).2.1).trans ((h.fz b hh).2.2 j)⟩,h.ne⟩
theorem NI.cells (h:NI w0 pc ch cv fv bn bv bi bs st W):CE W bn 8 (zd U ch)/\CE W bn 9 cv/\CE W bn 10 fv/\CE W bn 11 (O (some ⟨bv,0,none⟩) st.vs.length st.vs.length)/\CE W bn 12 (O (some ⟨bi,0,none⟩) st.cs.length st.cs.length)/\CE W bn 13 (O (some ⟨bs,0,none⟩) st.nd.length st.nd.length)/\CE W bn 14 (zg st.mo):=by
 have k:∀ j u,[Value.int U ch,cv,fv,O (some ⟨bv,0,none⟩) st.vs.length st.vs.length,O (some ⟨bi,0,none⟩) st.cs.length st.cs.length,O (some ⟨bs,0,none⟩) st.nd.length st.nd.length,zg st.mo][j]? = some u->W.cell? ⟨bn,8+j,none⟩=some u:=fun j u b=>h.row (8+j) u (by rw [List.getElem?_append_right (by rw [h.len];omega),h.len,Nat.add_sub_cancel_left];exact b);exact ⟨k 0 _ rfl,k 1 _ rfl,k 2 _ rfl,k 3 _ rfl,k 4 _ rfl,k 5 _ rfl,k 6 _ rfl⟩
theorem NI.prog (h:NI w0 pc ch cv fv bn bv bi bs st W):Ad pc W bn:=fun j u hu=>h.row j u (by rw [List.getElem?_append_left (List.getElem?_eq_some_iff.1 hu).1];exact hu)
theorem CC {l:List Bool} {b i:Nat} (h:Ad (l.map Value.bool) W b) (hi:i < l.length):W.cell? ⟨b,i,none⟩=some (zg (l.getD i false)):=by
 refine h i _ ?_;rw [List.getElem?_map,List.getElem?_eq_getElem hi,List.getD_eq_getElem?_getD,List.getElem?_eq_getElem hi];rfl
theorem Bl {cs:List Value} {b k:Nat} (h:Ad cs W b) (hk:W'.heap[b]? = W.heap[b]?):Ad cs W' b:=fun j u hu=>(World.cell?_of_block (a:=⟨b,j,none⟩) hk).trans (h j u hu)
theorem GU (l:List Bool) (i:Nat):(l.set i true).map Value.bool=(l.map Value.bool).set i (zg true):=by rw [List.map_set]
theorem NI.more (h:NI w0 pc ch cv fv bn bv bi bs st W) (m:Bool):NI w0 pc ch cv fv bn bv bi bs { st with mo:=m } (W.setCell ⟨bn,14,none⟩ (zg m))/\FrW (XN bn bv bi bs) W (W.setCell ⟨bn,14,none⟩ (zg m)):=by
 have c:∀ k,bn≠k->(W.setCell ⟨bn,14,none⟩ (zg m)).heap[k]? = W.heap[k]?:=fun k hk=>Bw hk _;have g:(W.setCell ⟨bn,14,none⟩ (zg m)).heap.size=W.heap.size:=by simp [World.setCell]
 refine ⟨⟨h.below.setCell (h.fz bn (Or.inl rfl)).1 _,?_,h.len,Bl (k:=0) h.vs (c _ h.ne.1),Bl (k:=0) h.cs (c _ h.ne.2.1),Bl (k:=0) h.nd (c _ h.ne.2.2.1),fun b f=>⟨(h.fz b f).1,by rw [g];exact (h.fz b f).2.1,fun j=>AM.trans ((h.fz b f).2.2 j)⟩,h.ne⟩,⟨rfl,rfl,rfl,by rw [g];exact Nat.le_refl _,fun k hk d=>c k (fun e=>d (Or.inl e.symm)),fun k hk d=>d⟩⟩;have:=h.row.set (j:=14) (v:=zg m) (by simp [h.len]);rw [List.set_append,if_neg (by rw [h.len];omega),h.len] at this;exact this
theorem NI.addV (h:NI w0 pc ch cv fv bn bv bi bs st W) {i:Nat} (hi:i < st.vs.length):NI w0 pc ch cv fv bn bv bi bs { st with vs:=st.vs.set i true } (W.setCell ⟨bv,i,none⟩ (zg true))/\FrW (XN bn bv bi bs) W (W.setCell ⟨bv,i,none⟩ (zg true)):=by
 have d:∀ k,bv≠k->(W.setCell ⟨bv,i,none⟩ (zg true)).heap[k]? = W.heap[k]?:=fun k hk=>Bw hk _;have l:(W.setCell ⟨bv,i,none⟩ (zg true)).heap.size=W.heap.size:=by simp [World.setCell]
 have c:Ad ((st.vs.set i true).map Value.bool) (W.setCell ⟨bv,i,none⟩ (zg true)) bv:=by
  rw [GU];exact h.vs.set (by rw [List.length_map];exact hi)
 have p:=Bl (k:=0) h.row (d _ h.ne.1.symm);refine ⟨⟨h.below.setCell (h.fz bv (Or.inr (Or.inl rfl))).1 _,by simpa using p,h.len,c,Bl (k:=0) h.cs (d _ h.ne.2.2.2.1),Bl (k:=0) h.nd (d _ h.ne.2.2.2.2.1),fun b g=>⟨(h.fz b g).1,by rw [l];exact (h.fz b g).2.1,fun j=>AM.trans ((h.fz b g).2.2 j)⟩,h.ne⟩,⟨rfl,rfl,rfl,by rw [l];exact Nat.le_refl _,fun k hk f=>d k (fun e=>f (by rw [<-e];exact (Or.inr (Or.inl rfl)))),fun k hk f=>f⟩⟩
theorem NI.addC (h:NI w0 pc ch cv fv bn bv bi bs st W) {i:Nat} (hi:i < st.cs.length):NI w0 pc ch cv fv bn bv bi bs { st with cs:=st.cs.set i true } (W.setCell ⟨bi,i,none⟩ (zg true))/\FrW (XN bn bv bi bs) W (W.setCell ⟨bi,i,none⟩ (zg true)):=by
 have d:∀ k,bi≠k->(W.setCell ⟨bi,i,none⟩ (zg true)).heap[k]? = W.heap[k]?:=fun k hk=>Bw hk _;have l:(W.setCell ⟨bi,i,none⟩ (zg true)).heap.size=W.heap.size:=by simp [World.setCell]
 have c:Ad ((st.cs.set i true).map Value.bool) (W.setCell ⟨bi,i,none⟩ (zg true)) bi:=by
  rw [GU];exact h.cs.set (by rw [List.length_map];exact hi)
 have p:=Bl (k:=0) h.row (d _ h.ne.2.1.symm);refine ⟨⟨h.below.setCell (h.fz bi (Or.inr (Or.inr (Or.inl rfl)))).1 _,by simpa using p,h.len,Bl (k:=0) h.vs (d _ h.ne.2.2.2.1.symm),c,Bl (k:=0) h.nd (d _ h.ne.2.2.2.2.2),fun b g=>⟨(h.fz b g).1,by rw [l];exact (h.fz b g).2.1,fun j=>AM.trans ((h.fz b g).2.2 j)⟩,h.ne⟩,⟨rfl,rfl,rfl,by rw [l];exact Nat.le_refl _,fun k hk f=>d k (fun e=>f (by rw [<-e];exact (Or.inr (Or.inr (Or.inl rfl))))),fun k hk f=>f⟩⟩
theorem NI.addN (h:NI w0 pc ch cv fv bn bv bi bs st W) {i:Nat} (hi:i < st.nd.length):NI w0 pc ch cv fv bn bv bi bs { st with nd:=st.nd.set i true } (W.setCell ⟨bs,i,none⟩ (zg true))/\FrW (XN bn bv bi bs) W (W.setCell ⟨bs,i,none⟩ (zg true)):=by
 have d:∀ k,bs≠k->(W.setCell ⟨bs,i,none⟩ (zg true)).heap[k]? = W.heap[k]?:=fun k hk=>Bw hk _;have l:(W.setCell ⟨bs,i,none⟩ (zg true)).heap.size=W.heap.size:=by simp [World.setCell]
 have c:Ad ((st.nd.set i true).map Value.bool) (W.setCell ⟨bs,i,none⟩ (zg true)) bs:=by
  rw [GU];exact h.nd.set (by rw [List.length_map];exact hi)
 have p:=Bl (k:=0) h.row (d _ h.ne.2.2.1.symm);refine ⟨⟨h.below.setCell (h.fz bs (Or.inr (Or.inr (Or.inr rfl)))).1 _,by simpa using p,h.len,Bl (k:=0) h.vs (d _ h.ne.2.2.2.2.1.symm),Bl (k:=0) h.cs (d _ h.ne.2.2.2.2.2.symm),c,fun b g=>⟨(h.fz b g).1,by rw [l];exact (h.fz b g).2.1,fun j=>AM.trans ((h.fz b g).2.2 j)⟩,h.ne⟩,⟨rfl,rfl,rfl,by rw [l];exact Nat.le_refl _,fun k hk f=>d k (fun e=>f (by rw [<-e];exact (Or.inr (Or.inr (Or.inr rfl))))),fun k hk f=>f⟩⟩
theorem PY (h:NI w0 pc ch cv fv bn bv bi bs st W) (i:Nat) (hi:i < st.vs.length) (hl:st.vs.length<=1000) :
  Calls Tryz.prog 197 #[zj (some ⟨bn,0,none⟩),O (some ⟨bv,0,none⟩) st.vs.length st.vs.length,zd U (i:Int)] W fun e W'=>e=zk (zm #[])/\NI w0 pc ch cv fv bn bv bi bs (st.needV (i:Int)) W'/\FrW (XN bn bv bi bs) W W'/\KeepsOthers W W'/\Below w0.heap.size W W':=by
 refine (GS bn bv _ _ i (st.vs.getD i false) st.mo W hi hl (CC h.vs hi) ((h.fz bv (Or.inr (Or.inl rfl))).2.2 i) h.cells.2.2.2.2.2.2 ((h.fz bn (Or.inl rfl)).2.2 14) h.ne.1.symm).mono ?_;rintro e W' ⟨rfl,rfl⟩;refine ⟨rfl,?_⟩;unfold NS.needV;rw [show ((i:Int)).toNat=i from rfl]
 cases hx:st.vs.getD i false with
 | true=>rw [if_pos rfl,if_pos rfl];exact ⟨h,FrW.refl _,KeepsOthers.refl _,Below.refl _ _⟩
 | false=>
  rw [if_neg (by decide),if_neg (by decide)];have c:=h.addV hi;have b:=c.1.more true;exact ⟨b.1,c.2.trans b.2,(KeepsOthers.setCell _ _ _).trans (KeepsOthers.setCell _ _ _),((Below.refl _ _).setCell (h.fz bv (Or.inr (Or.inl rfl))).1 _).setCell (h.fz bn (Or.inl rfl)).1 _⟩
theorem P0 (h:NI w0 pc ch cv fv bn bv bi bs st W) (i:Nat) (hi:i < st.cs.length) (hl:st.cs.length<=1000) :
  Calls Tryz.prog 197 #[zj (some ⟨bn,0,none⟩),O (some ⟨bi,0,none⟩) st.cs.length st.cs.length,zd U (i:Int)] W fun e W'=>e=zk (zm #[])/\NI w0 pc ch cv fv bn bv bi bs (st.needC (i:Int)) W'/\FrW (XN bn bv bi bs) W W':=by
 refine (GS bn bi _ _ i (st.cs.getD i false) st.mo W hi hl (CC h.cs hi) ((h.fz bi (Or.inr (Or.inr (Or.inl rfl)))).2.2 i) h.cells.2.2.2.2.2.2 ((h.fz bn (Or.inl rfl)).2.2 14) h.ne.2.1.symm).mono ?_;rintro e W' ⟨rfl,rfl⟩;refine ⟨rfl,?_⟩;unfold NS.needC;rw [show ((i:Int)).toNat=i from rfl]
 cases hx:st.cs.getD i false with
 | true=>rw [if_pos rfl,if_pos rfl];exact ⟨h,FrW.refl _⟩
 | false=>
  rw [if_neg (by decide),if_neg (by decide)];have c:=h.addC hi;have b:=c.1.more true;exact ⟨b.1,c.2.trans b.2⟩
theorem PZ (h:NI w0 pc ch cv fv bn bv bi bs st W) (i:Nat) (hi:i < st.nd.length) (hl:st.nd.length<=1000) :
  Calls Tryz.prog 197 #[zj (some ⟨bn,0,none⟩),O (some ⟨bs,0,none⟩) st.nd.length st.nd.length,zd U (i:Int)] W fun e W'=>e=zk (zm #[])/\NI w0 pc ch cv fv bn bv bi bs (st.needN i) W'/\FrW (XN bn bv bi bs) W W':=by
 refine (GS bn bs _ _ i (st.nd.getD i false) st.mo W hi hl (CC h.nd hi) ((h.fz bs (Or.inr (Or.inr (Or.inr rfl)))).2.2 i) h.cells.2.2.2.2.2.2 ((h.fz bn (Or.inl rfl)).2.2 14) h.ne.2.2.1.symm).mono ?_;rintro e W' ⟨rfl,rfl⟩;refine ⟨rfl,?_⟩;unfold NS.needN
 skip
 cases hx:st.nd.getD i false with
 | true=>rw [if_pos rfl,if_pos rfl];exact ⟨h,FrW.refl _⟩
 | false=>
  rw [if_neg (by decide),if_neg (by decide)];have c:=h.addN hi;have b:=c.1.more true;exact ⟨b.1,c.2.trans b.2⟩
end
end Go.Proofs.YtfffpjkcfnekaaaGreat.Ex
