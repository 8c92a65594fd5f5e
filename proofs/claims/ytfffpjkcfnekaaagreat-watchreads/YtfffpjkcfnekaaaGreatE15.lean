/- What one sees of channels; lists of which one sees some: the document's functions. -/
import Derived.Test.YtfffpjkcfnekaaaGreatE14
import Derived.Laws.AppendOwnNone
set_option linter.unusedVariables false
set_option maxHeartbeats 8000000
set_option maxRecDepth 100000
namespace Go.Proofs.YtfffpjkcfnekaaaGreat.Ex
open Go.RowKit
open Go.Value renaming slice -> O, int -> zd, bool -> zg, agg -> zh, pointer -> zi, tuple -> zk
open Go.IntKind renaming i64 -> U
open Go.Obj renaming cells -> ze
open Go.Ending renaming returned -> zj
theorem O3 (who:Nat) (touch:Bool) (ra rn rc wa wn wc) (L) (w:World) (hL:A3 w (zh #[O ra rn rc,O wa wn wc]) L) (hr:who < L.r.length) (hw:who < L.w.length) (hwm:who<=100) :
  Calls Tryz.prog 130 #[zh #[O ra rn rc,O wa wn wc],zd U (who:Int),zg touch] w fun e w'=>e=zj (zg (CB touch who L))/\Ov w w':=by
 have b:Ov w (w.alloc (ze #[O ra rn rc,O wa wn wc] 50)):=bA w _;obtain ⟨R,Q,q,⟨ar,Z,M,i⟩,⟨aw,cw,J,h⟩⟩:=hL;simp only [Value.agg.injEq,Array.mk.injEq,List.cons.injEq,and_true] at q;obtain ⟨I,H⟩:=q;subst I H;injection M with E C B;injection J with A y u;obtain ⟨b1,T,G,l⟩:=i (by intro p;rw [p] at hr;simp at hr);obtain ⟨b2,S,F,k⟩:=h (by intro p;rw [p] at hw;simp at hw);have x1:=Ab b _ _ (l who hr);have x2:=Ab b _ _ (k who hw);subst G F;subst E A;have W:(who:Int) < (rn:Int):=by omega
 have V:(who:Int) < (wn:Int):=by omega
 have t:L.r.getD who false=L.r[who]:=by simp [hr]
 have s:L.w.getD who false=L.w[who]:=by simp [hw]
 unfold CB;rw [t,s];obtain ⟨P,g⟩:=nm (L.r[who]);obtain ⟨N,f⟩:=nm (L.w[who]);rw [<-g] at x1 ⊢;rw [<-f] at x2 ⊢;clear i h l k t s g f C B y u hr hw
 cases touch with
 | true=>
  go_enter Tryz.func130,Tryz.ntmps130;go_wp2_with fail;go_ret;exact ⟨by simp,b⟩
 | false=>
  go_enter Tryz.func130,Tryz.ntmps130;go_wp2_with fail;go_ret;exact ⟨by simp,b⟩
theorem Lx (n:Nat) (ga gn gc sa sn sc ya yn yc oa on oc va vn vc fa fn fc ba bn bc) (who:Nat) (touch:Bool) (gs:List (Int × Int)) (ls:List Lab) (j:Nat) (hj:j < ls.length) (w:World) (hg:AA w (O ga gn gc) gs) (hl:AW w (O ya yn yc) ls) (hlab:∀ b∈ls,Bb (n:Int) gs b=0) (hwho:who < n) :
  Calls Tryz.prog 77 #[zh #[zd U (n:Int),O ga gn gc,O sa sn sc,O ya yn yc,O oa on oc,O va vn vc,O fa fn fc,O ba bn bc],zd U (who:Int),zg touch,zd U (j:Int)] w fun e w'=>e=zj (zg (CB touch who (Ar (Ax gs) n ls[j])))/\Ov w w':=by
 have l:Ov w (w.alloc (ze #[zd U (n:Int),O ga gn gc,O sa sn sc,O ya yn yc,O oa on oc,O va vn vc,O fa fn fc,O ba bn bc] 31)):=bA w _;have k:=Ad.newA #[zd U (n:Int),O ga gn gc,O sa sn sc,O ya yn yc,O oa on oc,O va vn vc,O fa fn fc,O ba bn bc] 31 w;obtain ⟨a0,a1,a2,a3,a4,a5,a6,a7⟩:=rc8 k;have t:=hl.1;obtain ⟨-,ao,cap,he,i⟩:=hl;injection he with e1 e2 e3;obtain ⟨bv,ov,B,i⟩:=i (by intro hh;rw [hh] at hj;simp at hj);obtain ⟨pr,pw,G,F,s,q⟩:=i j hj;have H:ya=some ⟨bv,ov,none⟩:=e1.trans B;subst H;have ak:(j:Int) < (yn:Int):=by omega
 have al:j<=9223372036854775807:=by have:maxLen<=9223372036854775807:=(by decide +kernel);omega
 obtain ⟨p,hn,h1,h6,y,C,A,u,-⟩:=MW (hlab _ (List.getElem_mem hj));obtain rfl:p=n:=by omega
 have K1:=Aa fun W (hW:Ov w W)=>Ko p h1 h6 (O ga gn gc) pr pw (Ax gs) ls[j] W (by rw [y];exact Af hg hW) C A (Ak s hW) (Ak q hW) u;obtain ⟨L,hL⟩:=nm (Ar (Ax gs) p ls[j]);have g:(Ar (Ax gs) p ls[j]).len p:=⟨AH _ _,AH _ _⟩;rw [<-hL] at K1 g ⊢;have K2:=Aa fun W ra rn Z R P Q (hW:A3 W (zh #[O ra rn Z,O R P Q]) L)=>O3 who touch ra rn Z R P Q L W hW (by rw [g.1];exact hwho) (by rw [g.2];exact hwho) (by omega);obtain ⟨bb,z3,rfl,-⟩:=s;obtain ⟨a8,z4,rfl,-⟩:=q;obtain ⟨G,F⟩:=co2 l G F;have h:=Aa l;have E:=Aa g;clear k i e1 e2 e3 B t l hg hlab u A y C hL g hn;go_enter Tryz.func77,Tryz.ntmps77;go_wp2_with fail;obtain ⟨V,hV⟩:=nm (w.alloc (ze #[zd U (p:Int),O ga gn gc,O sa sn sc,O (some ⟨bv,ov,none⟩) yn yc,O oa on oc,O va vn vc,O fa fn fc,O ba bn bc] 31));rw [<-hV] at h a0 a1 a2 a3 a4 a5 a6 a7 G F ⊢;clear hV;refine gS (fun Wz=>Ov V Wz) (bD _) fun f=>?_;generalize V.drew=W at f ⊢;refine kO 0 ?_;refine kO 1 ?_;refine kO 2 ?_;refine kO 3 ?_;refine kO 4 ?_;refine kO 5 ?_;refine kO 6 ?_;refine kO 8 ?_;refine kO 9 ?_;refine rdA 7 rfl fun K M=>?_;go_simp;refine (K1.o _ (h.o.trans (f.mono h.o.size))).mono ?_;rintro e W2 ⟨T,S,rfl,I,hw,-,hb⟩;have N:Hx (A3 W2 (zh #[T,S]) L):=⟨T,S,rfl,B4 (by rw [E.o.1];exact I),B4 (by rw [E.o.2];exact hw)⟩;obtain ⟨o1,o2,o3,rfl⟩:=AE I;obtain ⟨o4,o5,o6,rfl⟩:=AE hw;clear I hw;go_simp;refine xK M (Ac f hb) fun f=>?_;refine rdA 10 rfl fun K M=>?_;go_simp;refine (K2.o _ _ _ _ _ _ _ N.o).mono ?_;rintro e W3 ⟨rfl,J⟩;go_simp;refine xK M (Ac f J) fun f=>?_;refine kO 11 ?_;refine gE ?_;have HF:=Aa (h.o.trans (f.mono h.o.size));clear f;go_wp2_with fail;go_ret;exact ⟨rfl,HF.o⟩
structure GN (B:Nat) (mv:Value) (j:Nat) (us:List Value) (ml:List (List Int)) (w:World):Prop where
 own:w.ownsRow B 25 1 mv j us
 len:ml.length=j
 one:∀ i (h:i < ml.length),∃ u,us[i]? = some u/\AN w u ml[i]/\(ml[i]≠[]->∀ k,u.ownBlock=some k->mv.ownBlock≠some k/\k < w.heap.size)/\ml[i].length<=9223372036854775807
theorem GN.over {B:Nat} {mv:Value} {j:Nat} {us:List Value} {ml:List (List Int)} {w w':World} (h:GN B mv j us ml w) (hb:Ov w w'):GN B mv j us ml w':=
 ⟨Bw h.own hb,h.len,fun i hi=>by
  obtain ⟨u,h1,h2,h3,h5⟩:=h.one i hi;exact ⟨u,h1,h2.over hb,fun hne k hk=>⟨(h3 hne k hk).1,Nat.lt_of_lt_of_le (h3 hne k hk).2 hb.size⟩,h5⟩⟩
theorem GN.lists {B:Nat} {mv:Value} {j:Nat} {us:List Value} {ml:List (List Int)} {w:World} (h:GN B mv j us ml w) (hj:j<=maxLen):A8 w mv ml:=by
 have hl:=h.len;rcases h.own.2 with ⟨k,f⟩ | ⟨g,cap,s,e,y,t,k,f,C,A⟩
 ·refine ⟨by omega,none,0,by rw [k,hl,f],fun b=>absurd (List.length_eq_zero_iff.1 (by omega)) b⟩
 ·refine ⟨by omega,_,cap,by rw [e,hl],fun _=>⟨g,0,rfl,fun i hi=>?_⟩⟩
  obtain ⟨u,q,p,-,l⟩:=h.one i hi;have:=h.own.cells (g:=g) (by rw [e];rfl) i u q;rw [Addr.add_lit] at this;exact ⟨u,this,p,l⟩
theorem Hr {w w':World} {row:Option Nat} {u:Value} {l:List Int} (h:AN w u l) (hg:w.grownBy w' row) (hne:l≠[]->∀ k,u.ownBlock=some k->row≠some k):AN w' u l:=by
 obtain ⟨p,cap,rfl,g⟩:=h;refine ⟨p,cap,rfl,fun hl=>?_⟩;obtain ⟨b,off,rfl,e⟩:=g hl;exact ⟨b,off,rfl,fun i hi=>hg.cell (e i hi) (fun f=>hne hl b rfl f.symm)⟩
theorem GN.snoc {B:Nat} {mv mv':Value} {j:Nat} {us:List Value} {ml:List (List Int)} {w w':World} (h:GN B mv j us ml w) (hg:w.grownBy w' mv.ownBlock) (hat:mv'.ownBlock=mv.ownBlock\/mv'.ownBlock=some w.heap.size)
  {u:Value} {l:List Int} (ho:w'.ownsRow B 25 1 mv' (j+1) (us++[u])) (hu:AN w u l) (hne:l≠[]->∀ k,u.ownBlock=some k->mv.ownBlock≠some k/\k < w.heap.size) (hl:l.length<=9223372036854775807):GN B mv' (j+1) (us++[u]) (ml++[l]) w':=by
 have f:=h.len;have g:us.length=j:=by have:=h.own.1;omega
 have s:∀ k,mv.ownBlock≠some k/\k < w.heap.size->mv'.ownBlock≠some k/\k < w'.heap.size:=fun k hk=>by
  refine ⟨?_,Nat.lt_of_lt_of_le hk.2 hg.size⟩;rcases hat with e | e
  ·rw [e];exact hk.1
  ·rw [e];intro q;injection q with q;have:=hk.2;omega
 refine ⟨ho,by simp [f],fun i hi=>?_⟩;by_cases hij:i < ml.length
 ·obtain ⟨x,C,A,t,y⟩:=h.one i hij
  rw [List.getElem_append_left hij];exact ⟨x,by rw [List.getElem?_append_left (by omega)];exact C,Hr A hg (fun b k hk=>(t b k hk).1),fun b k hk=>s k (t b k hk),y⟩
 ·have p:i=ml.length:=by simp at hi;omega
  subst p;have e:(ml++[l])[ml.length]'hi=l:=by simp
  rw [e];exact ⟨u,by rw [List.getElem?_append_right (by omega)];simp [f,g],Hr hu hg (fun b k hk=>(hne b k hk).1),fun b k hk=>s k (hne b k hk),hl⟩
theorem Tryz.infoSl:(Tryz.prog.info? 25).map (fun i=>(i.zero,i.size,i.bytes))=some (some (O none 0 0),1,24):=by kernel_rfl
theorem MS {w:World} {a:Option Addr} {m c:Nat} {ls:List (List Int)} (h:A8 w (O a m c) ls) {j:Nat} (hj:j < ls.length):∃ b off la lc,a=some ⟨b,off,none⟩/\m=ls.length/\w.cell? ⟨b,off+j,none⟩=some (O la ls[j].length lc)/\AN w (O la ls[j].length lc) ls[j]/\ls[j].length<=9223372036854775807/\(ls[j]≠[]->∀ k,(Value.slice la ls[j].length lc).ownBlock=some k->k < w.heap.size):=by
 obtain ⟨-,E,cap,s,e⟩:=h;injection s with A y C;obtain ⟨b,off,l,e⟩:=e (by intro g;rw [g] at hj;simp at hj);obtain ⟨u,p,hi,hl⟩:=e j hj;have i:=hi;obtain ⟨la,lc,rfl,t⟩:=hi;refine ⟨b,off,la,lc,A.trans l,y,p,i,hl,fun g k hk=>?_⟩;obtain ⟨B,lo,rfl,f⟩:=t g;have q:0 < ls[j].length:=List.length_pos_iff.2 g;have:=bL (f 0 q);simp [Value.ownBlock] at hk;subst hk;exact this
theorem Pg {n q:Nat} {gs:List (Int × Int)} {ls:List Lab} {ins others:List (List Int)} {touch:Bool} {j:Nat} (hj:j < ins.length):(FZ n q touch gs ls ins others).take (j+1)=(FZ n q touch gs ls ins others).take j++[if CB touch q (Ar (Ax gs) n (ls.getD j ⟨[],[]⟩))=true\/others.length<=j then ins.getD j [] else others.getD j []]:=by
 have hl:j < (FZ n q touch gs ls ins others).length:=by simp [FZ,hj]
 rw [List.take_succ_eq_append_getElem hl];simp [FZ]
abbrev zcM (w:World) (n:Nat) (ga:Option Addr) (gn gc:Nat) (sa:Option Addr) (sn sc:Nat) (ya:Option Addr) (yn yc:Nat) (oa:Option Addr) (on oc:Nat) (va:Option Addr) (vn vc:Nat) (fa:Option Addr) (fn fc:Nat) (ba:Option Addr) (bn bc:Nat) (W:World):Prop:=Ad [zd U (n:Int),O ga gn gc,O sa sn sc,O ya yn yc,O oa on oc,O va vn vc,O fa fn fc,O ba bn bc] W w.heap.size
theorem Nz (n:Nat) (ga gn gc sa sn sc ya yn yc oa on oc va vn vc fa fn fc ba bn bc) (who:Nat) (touch:Bool) (xa xn xc qa qn qc) (gs:List (Int × Int)) (ls:List Lab) (ins others:List (List Int)) (w:World) (hg:AA w (O ga gn gc) gs) (hl:AW w (O ya yn yc) ls) (hlab:∀ b∈ls,Bb (n:Int) gs b=0) (hwho:who < n) (hx:A8 w (O xa xn xc) ins) (hq:A8 w (O qa qn qc) others) (hil:ins.length=ls.length) (hi5:ins.length<=5) :
  Calls Tryz.prog 26 #[zh #[zd U (n:Int),O ga gn gc,O sa sn sc,O ya yn yc,O oa on oc,O va vn vc,O fa fn fc,O ba bn bc],zd U (who:Int),zg touch,O xa xn xc,O qa qn qc] w fun e w'=>∃ (ma:Option Addr) (mn mc:Nat),e=zj (O ma mn mc)/\A8 w' (O ma mn mc) (FZ n who touch gs ls ins others)/\Ov w w':=by
 have P:Ov w (w.alloc (ze #[zd U (n:Int),O ga gn gc,O sa sn sc,O ya yn yc,O oa on oc,O va vn vc,O fa fn fc,O ba bn bc] 31)):=bA w _;have ad:=Ad.newA #[zd U (n:Int),O ga gn gc,O sa sn sc,O ya yn yc,O oa on oc,O va vn vc,O fa fn fc,O ba bn bc] 31 w;have K1:=Aa fun W (hW:Ov w W) j hj=>Lx n ga gn gc sa sn sc ya yn yc oa on oc va vn vc fa fn fc ba bn bc who touch gs ls j hj W (Af hg hW) (hl.over hW) hlab hwho;have a0:xn=ins.length:=by obtain ⟨-,a,c,he,-⟩:=hx;injection he
 have aj:qn=others.length:=by obtain ⟨-,a,c,he,-⟩:=hq;injection he
 have cg:qn<=9223372036854775807:=by rw [aj];exact hq.1
 obtain ⟨i0,hi,ai,ah,ag⟩:=info_parts Tryz.infoSl;obtain ⟨V,hV⟩:=nm (w.alloc (ze #[zd U (n:Int),O ga gn gc,O sa sn sc,O ya yn yc,O oa on oc,O va vn vc,O fa fn fc,O ba bn bc] 31));rw [<-hV] at P;have be:Hx (zcM w n ga gn gc sa sn sc ya yn yc oa on oc va vn vc fa fn fc ba bn bc V):=by rw [hV];exact ad
 have HX:=Aa (hx.over P);have HQ:=Aa (hq.over P);have ac:=Aa P;have b8:=Aa hil;have bb:=Aa a0;have bf:=Aa aj;obtain ⟨Q,ab⟩:=nm (FZ n who touch gs ls ins others);have bz:Hx (∀ j (hj:j < ls.length),Q.take (j+1)=Q.take j++[if CB touch who (Ar (Ax gs) n ls[j])=true\/others.length<=j then ins.getD j [] else others.getD j []]):=fun j hj=>by
  have:=Pg (n:=n) (q:=who) (gs:=gs) (ls:=ls) (ins:=ins) (others:=others) (touch:=touch) (j:=j) (by rw [hil];exact hj);rw [<-ab] at this;rw [this];simp [List.getD_eq_getElem?_getD,hj]
 have bg:Hx (Q.length=ins.length):=by show _=_;rw [ab];simp [FZ]
 rw [<-ab];have cf:xn<=5:=by omega
 clear hg hl hlab hx hq ad P hil ab a0 aj;go_enter Tryz.func26,Tryz.ntmps26;go_wp2_with fail;rw [<-hV];clear hV;go_loopw [11,12] (fun u i wr=>∃ (j:Nat) (us:List Value),i=zd U (j:Int)/\j<=xn/\GN V.heap.size u j us (Q.take j) wr/\Ov V wr) (fun _ i _=>xn - (intOf i).toNat)
 case atStart=>exact ⟨0,[],rfl,Nat.zero_le _,⟨World.ownsRow_nil _ _ _ _,by simp,fun i hi=>by simp at hi⟩,Below.refl _ _⟩
 case round=>
  rename_i u11 u12;obtain ⟨j,us,rfl,hj,hM,hB⟩:=hrel;by_cases hjl:j < xn;rotate_left
  ·have a7:j=Q.length:=by have:=bg.o;have:=bb.o;omega
   have hz:¬ (j:Int) < (xn:Int):=by omega
   rw [a7,List.take_length] at hM;have a3:=hM.lists (by have:(100:Nat)<=maxLen:=(by decide +kernel);omega);obtain ⟨ma,mn,mc,rfl⟩:=AE hM.own;have HF:=Aa (And.intro a3 (ac.o.trans (hB.mono ac.o.size)));clear hM a3 hB a7;go_wp2_with fail;go_ret;exact ⟨_,_,_,rfl,HF.o.1,HF.o.2⟩
  have a6:j < ins.length:=by have:=bb.o;omega
  have a5:j < ls.length:=by have:=b8.o;omega
  have cc:(j:Int) < (xn:Int):=by omega
  obtain ⟨b0,b1,b2,b3,b4,b5,b6,b7⟩:=rc8 (be.o.over hB);have HM:=Aa hM;have N:=Aa hB;have HK:=Aa (K1.o wr (ac.o.trans (hB.mono ac.o.size)) j a5);have hT:=bz.o j a5;obtain ⟨y,hy⟩:=nm (CB touch who (Ar (Ax gs) n ls[j]));rw [<-hy] at HK hT;obtain ⟨xb,xo,la,lc,bp,-,c0,aa,a4,a2⟩:=MS HX.o a6;subst bp;replace c0:=Ab hB _ _ c0;replace aa:=aa.over hB;have a8:ins.getD j []=ins[j]:=by simp [a6]
  rw [a8] at hT;have HT:=Aa hT;have bk:=Aa aa;have bi:=Aa a4;have bh:=Aa a2;have ce:=bL c0;have bd:=Aa c0;clear hM hB hT aa a4 a2 a8 hy c0;go_wp2_with fail;refine (HK.o).mono ?_;rintro e W ⟨rfl,L⟩;have ck:=Aa L
  cases y with
  | true=>
   have H:Q.take (j+1)=Q.take j++[ins[j]]:=by rw [HT.o];simp
   clear HT;have I:=HM.o.over L;have c1:=Ab L _ _ bd.o;have g:=bA W (ze #[O la ins[j].length lc] 25);have J:=I.over g;have f:=J.own;have s:V.heap.size<=(W.alloc (ze #[O la ins[j].length lc] 25)).heap.size:=Nat.le_trans (Nat.le_trans N.o.size L.size) g.size;have t:=Aa (Ad.newA #[O la ins[j].length lc] 25 W);have B:=Aa J;have C:=Aa (AN.over (bk.o.over L) g);have A:Hx (ins[j]≠[]->∀ k,(Value.slice la ins[j].length lc).ownBlock=some k->u11.ownBlock≠some k/\k < (W.alloc (ze #[O la ins[j].length lc] 25)).heap.size):=fun hz k hk=>by
    have h1:=bh.o hz k hk;refine ⟨fun hx=>?_,?_⟩
    ·have:=(I.own.lt k hx).1
     omega
    ·have:=L.size
     have:=g.size;have:=N.o.size;omega
   have E:=Aa ((N.o.trans (L.mono N.o.size)).trans (g.mono (Nat.le_trans N.o.size L.size)));have h:=bi.o;obtain ⟨I0,M⟩:=nm ins[j];rw [<-M] at g c1 f s t B C A E h H;have R:=Aa H;obtain ⟨ll,G⟩:=nm I0.length;rw [<-G] at g c1 f s t B C A E h;have S:=Aa G;clear M G H I J HK HM;go_wp2_with (at_builtin;refine wpList_append_own_at _ rfl _ _ 52 rfl V.heap.size 25 i0 (O none 0 0) 1 24 Tryz.underlying52 hi ai ah ag rfl (by decide) _ _ _ rfl f ⟨W.heap.size,0,none⟩ 1 1 [O la ll lc] rfl rfl (fun jj uu hu=>by rw [Addr.add_lit,Nat.zero_add];exact t.o jj uu hu) (by simp [Value.oneCell']) (by unfold maxLen;omega) (by omega) s ?_);intro ax w5 l p _ F;have HF:=Aa (GN.snoc B.o p (by simpa using F) l C.o A.o (by rw [<-S.o];exact h));have T:=Aa (E.o.trans (B5 f p s));clear l p F f g B C A E t;go_wp2_with fail;exact ⟨⟨j+1,_,by go_num,by omega,by rw [R.o];exact HF.o,T.o⟩,by simp [intOf];omega⟩
  | false=>
   by_cases hjq:j < others.length;rotate_left
   ·have bq:(qn:Int)<=(j:Int):=by have:=bf.o;omega
    have H:Q.take (j+1)=Q.take j++[ins[j]]:=by rw [HT.o];simp [Nat.le_of_not_lt hjq]
    clear HT;have I:=HM.o.over L;have c1:=Ab L _ _ bd.o;have g:=bA W (ze #[O la ins[j].length lc] 25);have J:=I.over g;have f:=J.own;have s:V.heap.size<=(W.alloc (ze #[O la ins[j].length lc] 25)).heap.size:=Nat.le_trans (Nat.le_trans N.o.size L.size) g.size;have t:=Aa (Ad.newA #[O la ins[j].length lc] 25 W);have B:=Aa J;have C:=Aa (AN.over (bk.o.over L) g);have A:Hx (ins[j]≠[]->∀ k,(Value.slice la ins[j].length lc).ownBlock=some k->u11.ownBlock≠some k/\k < (W.alloc (ze #[O la ins[j].length lc] 25)).heap.size):=fun hz k hk=>by
     have h1:=bh.o hz k hk;refine ⟨fun hx=>?_,?_⟩
     ·have:=(I.own.lt k hx).1
      omega
     ·have:=L.size
      have:=g.size;have:=N.o.size;omega
    have E:=Aa ((N.o.trans (L.mono N.o.size)).trans (g.mono (Nat.le_trans N.o.size L.size)));have h:=bi.o;obtain ⟨I0,M⟩:=nm ins[j];rw [<-M] at g c1 f s t B C A E h H;have R:=Aa H;obtain ⟨ll,G⟩:=nm I0.length;rw [<-G] at g c1 f s t B C A E h;have S:=Aa G;clear M G H I J HK HM;go_wp2_with (at_builtin;refine wpList_append_own_at _ rfl _ _ 52 rfl V.heap.size 25 i0 (O none 0 0) 1 24 Tryz.underlying52 hi ai ah ag rfl (by decide) _ _ _ rfl f ⟨W.heap.size,0,none⟩ 1 1 [O la ll lc] rfl rfl (fun jj uu hu=>by rw [Addr.add_lit,Nat.zero_add];exact t.o jj uu hu) (by simp [Value.oneCell']) (by unfold maxLen;omega) (by omega) s ?_);intro ax w5 l p _ F;have HF:=Aa (GN.snoc B.o p (by simpa using F) l C.o A.o (by rw [<-S.o];exact h));have T:=Aa (E.o.trans (B5 f p s));clear l p F f g B C A E t;go_wp2_with fail;exact ⟨⟨j+1,_,by go_num,by omega,by rw [R.o];exact HF.o,T.o⟩,by simp [intOf];omega⟩
   have bq:¬ (qn:Int)<=(j:Int):=by have:=bf.o;omega
   have H:Q.take (j+1)=Q.take j++[others[j]]:=by rw [HT.o];simp [Nat.not_le_of_lt hjq,hjq]
   obtain ⟨qb,qo,za,zc,br,-,z0,Z,av,au⟩:=MS HQ.o hjq;subst br;replace z0:=Ab N.o _ _ z0;replace Z:=Z.over N.o;have bx:=Aa z0;have bv:=Aa Z;have bu:=Aa av;have bt:=Aa au;have cb:(j:Int) < (qn:Int):=by omega
   clear z0 Z av au HT;have I:=HM.o.over L;have c1:=Ab L _ _ bx.o;have g:=bA W (ze #[O za others[j].length zc] 25);have J:=I.over g;have f:=J.own;have s:V.heap.size<=(W.alloc (ze #[O za others[j].length zc] 25)).heap.size:=Nat.le_trans (Nat.le_trans N.o.size L.size) g.size;have t:=Aa (Ad.newA #[O za others[j].length zc] 25 W);have B:=Aa J;have C:=Aa (AN.over (bv.o.over L) g);have A:Hx (others[j]≠[]->∀ k,(Value.slice za others[j].length zc).ownBlock=some k->u11.ownBlock≠some k/\k < (W.alloc (ze #[O za others[j].length zc] 25)).heap.size):=fun hz k hk=>by
    have h1:=bt.o hz k hk;refine ⟨fun hx=>?_,?_⟩
    ·have:=(I.own.lt k hx).1
     omega
    ·have:=L.size
     have:=g.size;have:=N.o.size;omega
   have E:=Aa ((N.o.trans (L.mono N.o.size)).trans (g.mono (Nat.le_trans N.o.size L.size)));have h:=bu.o;obtain ⟨I0,M⟩:=nm others[j];rw [<-M] at g c1 f s t B C A E h H;have R:=Aa H;obtain ⟨ll,G⟩:=nm I0.length;rw [<-G] at g c1 f s t B C A E h;have S:=Aa G;clear M G H I J HK HM;go_wp2_with (at_builtin;refine wpList_append_own_at _ rfl _ _ 52 rfl V.heap.size 25 i0 (O none 0 0) 1 24 Tryz.underlying52 hi ai ah ag rfl (by decide) _ _ _ rfl f ⟨W.heap.size,0,none⟩ 1 1 [O za ll zc] rfl rfl (fun jj uu hu=>by rw [Addr.add_lit,Nat.zero_add];exact t.o jj uu hu) (by simp [Value.oneCell']) (by unfold maxLen;omega) (by omega) s ?_);intro ax w5 l p _ F;have HF:=Aa (GN.snoc B.o p (by simpa using F) l C.o A.o (by rw [<-S.o];exact h));have T:=Aa (E.o.trans (B5 f p s));clear l p F f g B C A E t;go_wp2_with fail;exact ⟨⟨j+1,_,by go_num,by omega,by rw [R.o];exact HF.o,T.o⟩,by simp [intOf];omega⟩
def Q0 (kd:Int) (done:Bool):List Ev4->List Ev4->Prop
 | x::a,y::b=>(x=y/\Q0 kd done a b)\/(x≠y/\x.1=kd/\y.1=kd/\x.2.1=y.2.1/\x.2.2.1=y.2.2.1)
 | [],[]=>True
 | _,_=>done=false
theorem N7 (la ln lc ma mn mc) (kd:Int) (done:Bool) (l m:List Ev4) (w:World) (hl:EvL w (O la ln lc) l) (hm:EvL w (O ma mn mc) m) (hA:Q0 kd done l m) :
  Calls Tryz.prog 28 #[O la ln lc,O ma mn mc,zd U kd,zg done] w fun e w'=>e=zj (zg true)/\Ov w w':=by
 have Q:ln=l.length:=by obtain ⟨-,a,c,S,-⟩:=hl;injection S
 have N:mn=m.length:=by obtain ⟨-,a,c,S,-⟩:=hm;injection S
 have ax:l.length<=9223372036854775807:=hl.1;have aw:m.length<=9223372036854775807:=hm.1;have HL:=Aa hl;have HM:=Aa hm;have HA:=Aa hA;subst Q N;clear hl hm hA;go_enter Tryz.func28,Tryz.ntmps28;go_wp2_with fail;go_loopw [9] (fun i wr=>∃ j:Nat,i=zd U (j:Int)/\j<=l.length/\j<=m.length/\Q0 kd done (l.drop j) (m.drop j)/\Ov w wr) (fun i _=>l.length - (intOf i).toNat)
 case atStart=>exact ⟨0,rfl,Nat.zero_le _,Nat.zero_le _,HA.o,Below.refl _ _⟩
 case round=>
  obtain ⟨j,rfl,az,ay,b,C⟩:=hrel;have k:=Aa C;by_cases h1:j < l.length;rotate_left
  ·have p:¬ (j:Int) < (l.length:Int):=by omega
   have f:l.drop j=[]:=List.drop_eq_nil_of_le (by omega);have HD:Hx (done=true->l.length=m.length):=fun T=>by
    rw [f] at b;by_cases h2:j < m.length
    ·rw [List.drop_eq_getElem_cons h2] at b
     exact absurd b (by show ¬ done=false;simp [T])
    ·omega
   clear b f C
   cases done with
   | false=>
    go_wp2_with fail;go_ret;exact ⟨rfl,k.o⟩
   | true=>
    have a1:((l.length:Int) == (m.length:Int))=true:=by rw [HD.o rfl];simp
    go_wp2_with fail;go_ret;exact ⟨rfl,k.o⟩
  by_cases h2:j < m.length;rotate_left
  ·have hy:(j:Int) < (l.length:Int):=by omega
   have p:¬ (j:Int) < (m.length:Int):=by omega
   have f:m.drop j=[]:=List.drop_eq_nil_of_le (by omega);have T:done=false:=by
    rw [f,List.drop_eq_getElem_cons h1] at b;exact b
   subst T;clear b f C;go_wp2_with fail;go_ret;exact ⟨rfl,k.o⟩
  rw [List.drop_eq_getElem_cons h1,List.drop_eq_getElem_cons h2] at b;obtain ⟨-,lo,al,R,y⟩:=HL.o;injection R with e1 e2 e3;obtain ⟨lb,ak,t,h⟩:=y (by intro p;rw [p] at h1;simp at h1);obtain ⟨p0,p1,p2,p3⟩:=h j h1;have W:=e1.trans t;subst W;obtain ⟨-,mo,aj,P,u⟩:=HM.o;injection P with f1 f2 f3;obtain ⟨mb,ai,s,g⟩:=u (by intro p;rw [p] at h2;simp at h2);obtain ⟨r0,r1,r2,r3⟩:=g j h2;have V:=f1.trans s;subst V;obtain ⟨M,L,J,I,H,G,F,E⟩:=co8 C p0 p1 p2 p3 r0 r1 r2 r3;obtain ⟨E1,B⟩:=nm (l[j]);obtain ⟨E2,A⟩:=nm (m[j]);rw [<-B] at M L J I b;rw [<-A] at H G F E b;have i1:(j:Int) < (l.length:Int):=by omega
  have i2:(j:Int) < (m.length:Int):=by omega
  clear y h u g p0 p1 p2 p3 r0 r1 r2 r3 e1 e2 e3 f1 f2 f3 t s B A C;rcases b with ⟨rfl,b⟩ | ⟨q,k0,k1,k2,k3⟩
  ·have HT:=Aa b
   obtain ⟨x0,x1,x2,Z⟩:=E1;dsimp only at M L J I H G F E;clear b;go_wp2_with fail;go_region;go_wp2_with fail;exact ⟨⟨j+1,by go_num,h1,h2,HT.o,k.o.trans ((below_drewN (Below.refl _ _) 1).mono k.o.size)⟩,by simp [intOf];omega⟩
  ·obtain ⟨x0,x1,x2,Z⟩:=E1
   obtain ⟨y0,y1,y2,y3⟩:=E2;dsimp only at M L J I H G F E k0 k1 k2 k3;subst k0 k1 k2 k3;have a2:(Z == y3)=false:=by
    rw [beq_eq_false_iff_ne];intro hh;exact q (by rw [hh])
   clear q;go_wp2_with fail;go_region;go_wp2_with fail;go_region;go_wp2_with fail;go_ret;exact ⟨rfl,k.o.trans ((below_drewN (Below.refl _ _) 2).mono k.o.size)⟩
theorem Alk.d {kd:Int}:∀ {l m:List Ev4},Alk kd l m->Q0 kd false l m
 | [],[],_=>trivial
 | [],_::_,_=>rfl
 | _::_,[],_=>rfl
 | _::_,_::_,h=>h.elim (fun h=>Or.inl ⟨h.1,Alk.d h.2⟩) Or.inr
def fd:List Ev4->List Ev4->Nat
 | a::l,b::m=>if a=b then fd l m+1 else 0
 | _,_=>0
def D2 (l m:List Ev4):Int:=if fd l m=l.length/\fd l m=m.length then -1 else (fd l m:Int)
theorem Ld:∀ (j:Nat) (l m:List Ev4),j<=l.length->j<=m.length->l.take j=m.take j->(j=l.length\/j=m.length\/l[j]?≠m[j]?)->fd l m=j
 | 0,[],m,_,_,_,_=>by cases m <;> rfl
 | 0,a::l,[],_,_,_,_=>rfl
 | 0,a::l,b::m,_,_,_,h=>by
  have hne:a≠b:=fun he=>by
   rcases h with h | h | h
   ·simp at h
   ·simp at h
   ·exact h (by simp [he])
  simp [fd,hne]
 | j+1,[],m,h,_,_,_=>by simp at h
 | j+1,a::l,[],_,h,_,_=>by simp at h
 | j+1,a::l,b::m,h1,h2,h3,h4=>by
  simp only [List.take_succ_cons,List.cons.injEq] at h3;obtain ⟨rfl,h3⟩:=h3;have:=Ld j l m (by simpa using h1) (by simpa using h2) h3 (by simpa using h4);simp [fd,this]
theorem IG {l m:List Ev4} {j:Nat} (h:l.take j=m.take j) (h1:j < l.length) (h2:j < m.length) (he:l[j]=m[j]):l.take (j+1)=m.take (j+1):=by
 rw [List.take_succ_eq_append_getElem h1,List.take_succ_eq_append_getElem h2,h,he]
theorem I8 (la ln lc ma mn mc) (l m:List Ev4) (w:World) (hl:EvL w (O la ln lc) l) (hm:EvL w (O ma mn mc) m) :
  Calls Tryz.prog 75 #[O la ln lc,O ma mn mc] w fun e w'=>e=zj (zd U (D2 l m))/\Ov w w':=by
 have a5:ln=l.length:=by obtain ⟨-,a,c,he,-⟩:=hl;injection he
 have a4:mn=m.length:=by obtain ⟨-,a,c,he,-⟩:=hm;injection he
 have bu:l.length<=9223372036854775807:=hl.1;have bt:m.length<=9223372036854775807:=hm.1;have HL:=Aa hl;have HM:=Aa hm;subst a5 a4;clear hl hm;have E:∀ j,fd l m=j->j < l.length->D2 l m=(j:Int):=fun j h1 h2=>by
  unfold D2;rw [h1,if_neg (by omega)]
 by_cases hlt:m.length < l.length
 ·go_enter Tryz.func75,Tryz.ntmps75
  go_wp2_with fail;go_loopw [13] (fun i wr=>∃ j:Nat,i=zd U (j:Int)/\j<=m.length/\l.take j=m.take j/\Ov w wr) (fun i _=>m.length - (intOf i).toNat)
  case atStart=>exact ⟨0,rfl,Nat.zero_le _,by simp,Below.refl _ _⟩
  case round=>
   obtain ⟨j,rfl,hj,s,Q⟩:=hrel;by_cases hjB:j < m.length;rotate_left
   ·have H:j=m.length:=by omega
    have I:=Ld j l m (by omega) (by omega) s (Or.inr (Or.inl H));have M:D2 l m=if l.length=m.length then -1 else (m.length:Int):=by
     unfold D2;rw [I,H];by_cases hq:l.length=m.length
     ·rw [if_pos (by omega),if_pos hq]
     ·rw [if_neg (by omega),if_neg hq]
    have R:=Aa M;have q:=Aa Q;clear M Q s E I;by_cases hq:l.length=m.length
    ·have T:((l.length:Int) == (m.length:Int))=true:=by simp [hq]
     go_wp2_with fail;go_ret;exact ⟨by rw [R.o,if_pos hq];rfl,q.o⟩
    ·have T:((l.length:Int) == (m.length:Int))=false:=by simp;omega
     go_wp2_with fail;go_ret;exact ⟨by rw [R.o,if_neg hq];rfl,q.o⟩
   have f:j < l.length:=by omega
   have t:j < m.length:=by omega
   obtain ⟨-,lo,a2,W,L⟩:=HL.o;injection W with e1 e2 e3;obtain ⟨lb,a1,G,B⟩:=L (by intro S;rw [S] at f;simp at f);obtain ⟨p0,p1,p2,p3⟩:=B j f;have aa:=e1.trans G;subst aa;obtain ⟨-,mo,a0,V,J⟩:=HM.o;injection V with f1 f2 f3;obtain ⟨mb,az,F,A⟩:=J (by intro S;rw [S] at t;simp at t);obtain ⟨r0,r1,r2,r3⟩:=A j t;have Z:=f1.trans F;subst Z;obtain ⟨q0,q1,q2,q3,s0,s1,s2,s3⟩:=co8 Q p0 p1 p2 p3 r0 r1 r2 r3;have y:l[j]=m[j]->l.take (j+1)=m.take (j+1):=fun h=>IG s f t h;have u:l[j]≠m[j]->fd l m=j:=fun h=>Ld j l m (by omega) (by omega) s (Or.inr (Or.inr (by rw [List.getElem?_eq_getElem f,List.getElem?_eq_getElem t];intro hh;exact h (Option.some.inj hh))));obtain ⟨E1,P⟩:=nm (l[j]);obtain ⟨E2,N⟩:=nm (m[j]);rw [<-P] at q0 q1 q2 q3 y u;rw [<-N] at s0 s1 s2 s3 y u;obtain ⟨x0,x1,x2,x3⟩:=E1;obtain ⟨y0,y1,y2,y3⟩:=E2;dsimp only at q0 q1 q2 q3 s0 s1 s2 s3;have p:=Aa y;have g:=Aa u;have q:=Aa Q;have k:=Aa E;have i1:(j:Int) < (l.length:Int):=by omega
   have i2:(j:Int) < (m.length:Int):=by omega
   clear L B J A p0 p1 p2 p3 r0 r1 r2 r3 e1 e2 e3 f1 f2 f3 G F y u P N Q E s;by_cases d0:x0=y0;rotate_left
   ·have bd:(x0 == y0)=false:=by simpa using d0
    have b:=g.o (by intro h;simp only [Prod.mk.injEq] at h;exact d0 (by simp [h]));have C:=Aa (k.o j b f);clear b g p k d0;go_wp2_with fail;go_region;go_wp2_with fail;go_ret;exact ⟨by rw [C.o];rfl,q.o.trans ((below_drewN (Below.refl _ _) 1).mono q.o.size)⟩
   subst d0;by_cases d1:x1=y1;rotate_left
   ·have bb:(x1 == y1)=false:=by simpa using d1
    have b:=g.o (by intro h;simp only [Prod.mk.injEq] at h;exact d1 (by simp [h]));have C:=Aa (k.o j b f);clear b g p k d1;go_wp2_with fail;go_region;go_wp2_with fail;go_ret;exact ⟨by rw [C.o];rfl,q.o.trans ((below_drewN (Below.refl _ _) 1).mono q.o.size)⟩
   subst d1;by_cases d2:x2=y2;rotate_left
   ·have a9:(x2 == y2)=false:=by simpa using d2
    have b:=g.o (by intro h;simp only [Prod.mk.injEq] at h;exact d2 (by simp [h]));have C:=Aa (k.o j b f);clear b g p k d2;go_wp2_with fail;go_region;go_wp2_with fail;go_ret;exact ⟨by rw [C.o];rfl,q.o.trans ((below_drewN (Below.refl _ _) 1).mono q.o.size)⟩
   subst d2;by_cases d3:x3=y3;rotate_left
   ·have a8:(x3 == y3)=false:=by simpa using d3
    have b:=g.o (by intro h;simp only [Prod.mk.injEq] at h;exact d3 (by simp [h]));have C:=Aa (k.o j b f);clear b g p k d3;go_wp2_with fail;go_region;go_wp2_with fail;go_ret;exact ⟨by rw [C.o];rfl,q.o.trans ((below_drewN (Below.refl _ _) 1).mono q.o.size)⟩
   subst d3;have HT:=Aa (p.o rfl);clear g p k;go_wp2_with fail;go_region;go_wp2_with fail;exact ⟨⟨j+1,by go_num,by omega,HT.o,q.o.trans ((below_drewN (Below.refl _ _) 1).mono q.o.size)⟩,by simp [intOf];omega⟩
 ·go_enter Tryz.func75,Tryz.ntmps75
  go_wp2_with fail;go_loopw [13] (fun i wr=>∃ j:Nat,i=zd U (j:Int)/\j<=l.length/\l.take j=m.take j/\Ov w wr) (fun i _=>l.length - (intOf i).toNat)
  case atStart=>exact ⟨0,rfl,Nat.zero_le _,by simp,Below.refl _ _⟩
  case round=>
   obtain ⟨j,rfl,hj,s,Q⟩:=hrel;by_cases hjB:j < l.length;rotate_left
   ·have H:j=l.length:=by omega
    have I:=Ld j l m (by omega) (by omega) s (Or.inl H);have M:D2 l m=if l.length=m.length then -1 else (l.length:Int):=by
     unfold D2;rw [I,H];by_cases hq:l.length=m.length
     ·rw [if_pos (by omega),if_pos hq]
     ·rw [if_neg (by omega),if_neg hq]
    have R:=Aa M;have q:=Aa Q;clear M Q s E I;by_cases hq:l.length=m.length
    ·have T:((l.length:Int) == (m.length:Int))=true:=by simp [hq]
     go_wp2_with fail;go_ret;exact ⟨by rw [R.o,if_pos hq];rfl,q.o⟩
    ·have T:((l.length:Int) == (m.length:Int))=false:=by simp;omega
     go_wp2_with fail;go_ret;exact ⟨by rw [R.o,if_neg hq];rfl,q.o⟩
   have f:j < l.length:=by omega
   have t:j < m.length:=by omega
   obtain ⟨-,lo,a2,W,L⟩:=HL.o;injection W with e1 e2 e3;obtain ⟨lb,a1,G,B⟩:=L (by intro S;rw [S] at f;simp at f);obtain ⟨p0,p1,p2,p3⟩:=B j f;have aa:=e1.trans G;subst aa;obtain ⟨-,mo,a0,V,J⟩:=HM.o;injection V with f1 f2 f3;obtain ⟨mb,az,F,A⟩:=J (by intro S;rw [S] at t;simp at t);obtain ⟨r0,r1,r2,r3⟩:=A j t;have Z:=f1.trans F;subst Z;obtain ⟨q0,q1,q2,q3,s0,s1,s2,s3⟩:=co8 Q p0 p1 p2 p3 r0 r1 r2 r3;have y:l[j]=m[j]->l.take (j+1)=m.take (j+1):=fun h=>IG s f t h;have u:l[j]≠m[j]->fd l m=j:=fun h=>Ld j l m (by omega) (by omega) s (Or.inr (Or.inr (by rw [List.getElem?_eq_getElem f,List.getElem?_eq_getElem t];intro hh;exact h (Option.some.inj hh))));obtain ⟨E1,P⟩:=nm (l[j]);obtain ⟨E2,N⟩:=nm (m[j]);rw [<-P] at q0 q1 q2 q3 y u;rw [<-N] at s0 s1 s2 s3 y u;obtain ⟨x0,x1,x2,x3⟩:=E1;obtain ⟨y0,y1,y2,y3⟩:=E2;dsimp only at q0 q1 q2 q3 s0 s1 s2 s3;have p:=Aa y;have g:=Aa u;have q:=Aa Q;have k:=Aa E;have i1:(j:Int) < (l.length:Int):=by omega
   have i2:(j:Int) < (m.length:Int):=by omega
   clear L B J A p0 p1 p2 p3 r0 r1 r2 r3 e1 e2 e3 f1 f2 f3 G F y u P N Q E s;by_cases d0:x0=y0;rotate_left
   ·have bd:(x0 == y0)=false:=by simpa using d0
    have b:=g.o (by intro h;simp only [Prod.mk.injEq] at h;exact d0 (by simp [h]));have C:=Aa (k.o j b f);clear b g p k d0;go_wp2_with fail;go_region;go_wp2_with fail;go_ret;exact ⟨by rw [C.o];rfl,q.o.trans ((below_drewN (Below.refl _ _) 1).mono q.o.size)⟩
   subst d0;by_cases d1:x1=y1;rotate_left
   ·have bb:(x1 == y1)=false:=by simpa using d1
    have b:=g.o (by intro h;simp only [Prod.mk.injEq] at h;exact d1 (by simp [h]));have C:=Aa (k.o j b f);clear b g p k d1;go_wp2_with fail;go_region;go_wp2_with fail;go_ret;exact ⟨by rw [C.o];rfl,q.o.trans ((below_drewN (Below.refl _ _) 1).mono q.o.size)⟩
   subst d1;by_cases d2:x2=y2;rotate_left
   ·have a9:(x2 == y2)=false:=by simpa using d2
    have b:=g.o (by intro h;simp only [Prod.mk.injEq] at h;exact d2 (by simp [h]));have C:=Aa (k.o j b f);clear b g p k d2;go_wp2_with fail;go_region;go_wp2_with fail;go_ret;exact ⟨by rw [C.o];rfl,q.o.trans ((below_drewN (Below.refl _ _) 1).mono q.o.size)⟩
   subst d2;by_cases d3:x3=y3;rotate_left
   ·have a8:(x3 == y3)=false:=by simpa using d3
    have b:=g.o (by intro h;simp only [Prod.mk.injEq] at h;exact d3 (by simp [h]));have C:=Aa (k.o j b f);clear b g p k d3;go_wp2_with fail;go_region;go_wp2_with fail;go_ret;exact ⟨by rw [C.o];rfl,q.o.trans ((below_drewN (Below.refl _ _) 1).mono q.o.size)⟩
   subst d3;have HT:=Aa (p.o rfl);clear g p k;go_wp2_with fail;go_region;go_wp2_with fail;exact ⟨⟨j+1,by go_num,by omega,HT.o,q.o.trans ((below_drewN (Below.refl _ _) 1).mono q.o.size)⟩,by simp [intOf];omega⟩
def Gw (n:Nat):Array Value:=(List.replicate n (Value.slice none 0 0)).toArray
theorem Tryz.infoLL:(Tryz.prog.info? 25).map (fun i=>(i.zero,i.size,i.bytes))=some (some (O none 0 0),1,24):=by kernel_rfl
theorem St (n:Nat) (hn:n<=100) (w:World):(Instr.makeSlice 52 (zd U n) (zd U n)).run Tryz.prog w=.ok (O (some ⟨w.heap.size,0,none⟩) n n) (w.alloc (.cells (Gw n) 25)):=by
 obtain ⟨i,hi,g,f,b⟩:=info_parts Tryz.infoLL;have:=run_make (P:=Tryz.prog) w 52 25 i (O none 0 0) Tryz.underlying52 hi g U U (n:Int) (n:Int) (by omega) (by omega) (by rw [b];omega) (by omega);rw [this,f];simp only [Int.toNat_natCast,Nat.mul_one];have e:madeCells (Value.slice none 0 0).cells n=Gw n:=by
  unfold Gw;apply Array.ext
  ·simp [madeCells]
  ·intro j f b
   simp [madeCells,Value.cells,Nat.mod_one]
 rw [e]
theorem LX (K kf n:Nat) (ga gn gc sa sn sc ya yn yc oa on oc va vn vc fa fn fc ba bn bc) (who:Nat) (touch:Bool) (xa:Option Addr) (xc:Nat) (gs sp ls ms vs fs l) (w:World) (h:BD K kf (n:Int) ga gn gc sa sn sc ya yn yc oa on oc va vn vc fa fn fc ba bn bc gs sp ls ms vs fs l w) (hX:Ey.xP K kf (n:Int) vn yn on sn gs sp ls ms vs fs l) (hwho:who < n) (hno:∀ b∈ls,CB touch who (Ar (Ax gs) n b)=false) :
  Calls Tryz.prog 74 #[zh #[zd U (n:Int),O ga gn gc,O sa sn sc,O ya yn yc,O oa on oc,O va vn vc,O fa fn fc,O ba bn bc],zd U (who:Int),zg touch,O xa yn xc] w fun e w'=>∃ b,e=zj (zk #[O (some ⟨b,0,none⟩) yn yn,zd U 0])/\Ad (List.replicate yn (O none 0 0)) w' b/\Ov w w':=by
 have p:Ov w (w.alloc (ze #[zd U (n:Int),O ga gn gc,O sa sn sc,O ya yn yc,O oa on oc,O va vn vc,O fa fn fc,O ba bn bc] 31)):=bA w _;have k:=Ad.newA #[zd U (n:Int),O ga gn gc,O sa sn sc,O ya yn yc,O oa on oc,O va vn vc,O fa fn fc,O ba bn bc] 31 w;have V:=Aa (EZ K kf (n:Int) ga gn gc sa sn sc ya yn yc oa on oc va vn vc fa fn fc ba bn bc (who:Int) gs sp ls ms vs fs l _ (h.over p));have H:yn=ls.length:=by obtain ⟨-,a,c,he,-⟩:=h.ins;injection he
 have y:∀ b∈ls,Bb (n:Int) gs b=0:=fun b hb=>hX.labs.1 b (List.mem_append_left _ hb);have P:n<=6:=by obtain ⟨n',h1,-,h2,-⟩:=Dr hX.chk;omega
 have ab:yn<=5:=hX.ok.ins;have T:=Aa fun W (hW:Ov w W)=>FJ n ga gn gc sa sn sc ya yn yc oa on oc va vn vc fa fn fc ba bn bc who touch ya yn yc gs ls W (Af h.grants hW) (h.ins.over hW) y hwho P (by omega);have mk:=St yn (by omega);have HX:=Aa hX;have M:=Aa p;have R:=Aa k;have L:=Aa H;have S:=Aa hno;obtain ⟨a0,a1,a2,a3,a4,a5,a6,a7⟩:=rc8 k;clear h hX k y hno H p;go_enter Tryz.func74,Tryz.ntmps74;go_wp2_with fail;refine (V.o).mono ?_;rintro e s ⟨N,rfl,t,q⟩;have h0:N=0:=t.2 ⟨HX.o,by omega,by omega⟩;subst h0;have E:=M.o.trans (q.mono M.o.size);have f:=R.o.over q;have B:Ov s (s.alloc (.cells (Gw yn) 25)):=bA s _;have g:=f.over B;have F:=Aa (E.trans (B.mono E.size));have I:=Aa (T.o (s.alloc (.cells (Gw yn) 25)) F.o);have u:Ad (List.replicate yn (O none 0 0)) (s.alloc (.cells (Gw yn) 25)) s.heap.size:=by
  have:=Ad.newA (Gw yn) 25 s;simpa [Gw] using this
 have J:=Aa u;obtain ⟨b0,b1,b2,b3,b4,b5,b6,b7⟩:=rc8 f;obtain ⟨c0,c1,c2,c3,c4,c5,c6,c7⟩:=rc8 g;clear V T t q E f g B u a0 a1 a2 a3 a4 a5 a6 a7;go_wp2_with fail;refine (I.o).mono ?_;rintro e w3 ⟨bb,rfl,q,ae,G,C⟩;rw [<-L.o];have Q:=Aa G;have Z:=Aa (And.intro (J.o.over C) (F.o.trans (C.mono F.o.size)));clear G C I b0 b1 b2 b3 b4 b5 b6 b7 c0 c1 c2 c3 c4 c5 c6 c7;go_wp2_with fail;go_loopw [37] (fun i wr=>∃ j:Nat,i=zd U (j:Int)/\j<=yn/\wr=w3) (fun i _=>yn - (intOf i).toNat)
 case atStart=>exact ⟨0,rfl,Nat.zero_le _,rfl⟩
 case round=>
  obtain ⟨j,rfl,hj,rfl⟩:=hrel;by_cases hjl:j < yn
  ·have A:j < ls.length:=by rw [<-L.o];exact hjl
   have hx:CE wr bb j (zg false):=by
    have:=Q.o.row j (zg (CB touch who (Ar (Ax gs) n ls[j]))) (by simp [A]);rw [S.o ls[j] (List.getElem_mem A)] at this;exact this
   have ac:(j:Int) < (yn:Int):=by omega
   clear A;go_wp2_with fail;exact ⟨⟨j+1,by go_num,by omega,by first | rfl | trivial⟩,by simp [intOf];omega⟩
  ·go_wp2_with fail
   go_ret2
   exact ⟨s.heap.size,rfl,Z.o.1,Z.o.2⟩
theorem PK:∀ b∈[JK],CB false 1 (Ar (Ax []) 2 b)=false:=by
 intro b e;simp at e;subst e;rfl
theorem PJ:∀ VB,[((1:Int),(1:Int),(0:Int),(7:Int))].filter (Dh (Gt 2 false 1 [] [⟨[],[]⟩]) VB)=[(1,1,0,7)]:=fun VB=>rfl
theorem NZ:∀ VB,[((1:Int),(1:Int),(0:Int),(7:Int))].filter (Dh (Gt 2 true 1 [] [⟨[],[]⟩]) VB)=[]:=fun VB=>rfl
abbrev ev1:List Ev4:=[((1:Int),(1:Int),(0:Int),(7:Int))]
theorem Il (w:World):Calls Tryz.prog 24 #[] w fun e w'=>e=zj (zg true)/\Ov w w':=by
 have F:Ov w (w.alloc (ze #[zd U 1,zd U 1,zd U 0,zd U 7] 136)):=bA w _;have E:=Ad.newA #[zd U 1,zd U 1,zd U 0,zd U 7] 136 w;have af:Ft (w.alloc (ze #[zd U 1,zd U 1,zd U 0,zd U 7] 136)) (O (some ⟨w.heap.size,0,none⟩) 1 1) ev1:=⟨_,_,rfl,by simp,by simp [maxLen],fun _=>⟨w.heap.size,rfl,E⟩⟩;have KB:=Aa Ia;have KI:=Aa fun (t q p s C:Nat) (xa:Option Addr) (xc:Nat) W (hb:Bad t q p s C W)=>LX 1 1 2 none 0 0 none 0 0 (some ⟨t,0,none⟩) 1 1 (some ⟨q,0,none⟩) 1 1 (some ⟨p,0,none⟩) 1 1 none 0 0 (some ⟨s,0,none⟩) 2 2 1 false xa xc [] [] [JK] [⟨[],[]⟩] [(false,⟨[],[]⟩)] [] [sm1,sm2] W (JJ hb) SL (by decide) PK;have KE:=Aa fun (L:Bool) (t q p s C:Nat) W (hb:Bad t q p s C W) (hE:EvL W (O (some ⟨w.heap.size,0,none⟩) 1 1) ev1)=>H4 1 1 2 none 0 0 none 0 0 (some ⟨t,0,none⟩) 1 1 (some ⟨q,0,none⟩) 1 1 (some ⟨p,0,none⟩) 1 1 none 0 0 (some ⟨s,0,none⟩) 2 2 1 L (some ⟨w.heap.size,0,none⟩) 1 1 ev1 [] [] [JK] [⟨[],[]⟩] [(false,⟨[],[]⟩)] [] [sm1,sm2] W (JJ hb) hE (by simp) SL (by decide) (by decide);have ay:=Aa F;have bg:=Aa af;clear F E af;go_enter Tryz.func24,Tryz.ntmps24;go_wp2_with fail;refine (KB.o _).mono ?_;rintro e Z ⟨t,q,p,s,C,rfl,b,B⟩;have S:=ay.o.trans (B.mono ay.o.size);have f:Ov Z ((Z.alloc (ze #[zd U 5] 3)).alloc (ze #[O (some ⟨Z.heap.size,0,none⟩) 1 1] 25)):=(bA Z _).alloc (by simp) _;have ah:=Aa (KI.o t q p s C (some ⟨Z.heap.size+1,0,none⟩) 1 _ ⟨b.ins.over f,b.pol.over f,b.outs.over f,b.vars.over f,b.main.over f⟩);have bf:=Aa (bg.o.over (B.trans (f.mono B.size)));have aw:=Aa (S.trans (f.mono S.size));clear b B S f;unfold Mt;go_wp2_with fail;refine (ah.o).mono ?_;rintro e w3 ⟨b3,rfl,aa,Q⟩;have be:=Aa (bf.o.over Q);have av:=Aa (aw.o.trans (Q.mono aw.o.size));have bb:=Aa aa;clear KI ah Q aa;go_wp2_with fail;refine (KB.o _).mono ?_;rintro e w4 ⟨t,q,p,s,C,rfl,b,A⟩;have al:=Aa (be.o.over A);have au:=Aa (av.o.trans (A.mono av.o.size));have a9:=Aa (bb.o.over A);have aj:=Aa (KE.o false t q p s C w4 b al.o.evL);clear b A;unfold Mt;go_wp2_with fail;refine (aj.o).mono ?_;rintro e w5 ⟨st,v5,rfl,-,-,N,y⟩;rw [PJ] at N;have R:=Ft.of_own N;obtain ⟨xa,xc,a2,-⟩:=id R;subst a2;have a6:=Aa R;have bd:=Aa (al.o.over y);have ar:=Aa (au.o.trans (y.mono au.o.size));have a8:=Aa (a9.o.over y);clear y N R aj;go_wp2_with fail;refine (KB.o _).mono ?_;rintro e w6 ⟨t,q,p,s,C,rfl,b,i⟩;have ak:=Aa (bd.o.over i);have a5:=Aa (a6.o.over i);have aq:=Aa (ar.o.trans (i.mono ar.o.size));have a7:=Aa (a8.o.over i);have ai:=Aa (KE.o true t q p s C w6 b ak.o.evL);clear b i KB KE;unfold Mt;go_wp2_with fail;refine (ai.o).mono ?_;rintro e w7 ⟨bx,v7,rfl,-,-,M,g⟩;rw [NZ] at M;have ae:=Ft.of_own (l:=[]) M;obtain ⟨ya,yc,a1,-⟩:=id ae;subst a1;have k:=ak.o.over g;have ad:=a5.o.over g;have ag:=aq.o.trans (g.mono aq.o.size);have r0:=(a7.o.over g) 0 _ rfl;have KS:=Aa (Io ev1 _ _ w7 ad k (by simp));have V:=Aa fun W (hW:Ov w7 W)=>I8 (some ⟨w.heap.size,0,none⟩) 1 1 (some ⟨w.heap.size,0,none⟩) 1 1 ev1 ev1 W (k.over hW).evL (k.over hW).evL;have T:=Aa fun W (hW:Ov w7 W)=>I8 (some ⟨w.heap.size,0,none⟩) 1 1 none 0 0 ev1 [] W (k.over hW).evL ⟨by simp [maxLen],none,0,rfl,fun h=>absurd rfl h⟩;have ac:D2 ev1 ev1=-1:=by decide
 have ab:D2 ev1 []=0:=by decide
 rw [ac] at V;rw [ab] at T;have ao:=Aa ag;clear g M ae ai k ad ag ac ab;go_wp2_with fail;refine (KS.o).mono ?_;rintro e w8 ⟨rfl,u⟩;have an:=Aa (ao.o.trans (u.mono ao.o.size));have I:=Aa (V.o w8 u);have J:=Aa u;clear KS u V;go_wp2_with fail;refine (I.o).mono ?_;rintro e w9 ⟨rfl,P⟩;have am:=Aa (an.o.trans (P.mono an.o.size));have H:=Aa (T.o w9 (J.o.trans (P.mono J.o.size)));clear I P T;go_wp2_with fail;refine (H.o).mono ?_;rintro e bu ⟨rfl,G⟩;have ax:=Aa (am.o.trans (G.mono am.o.size));clear H G;go_wp2_with fail;go_ret;exact ⟨by first | rfl | simp,ax.o⟩
def Fa (K kf:Nat) (m:Int) (vn yn on sn:Nat) (gs:List (Int × Int)) (sp:List Int) (ls ms:List Lab) (vs:List (Bool × Lab)) (fs:List FnD) (l:List D) (ins:List (List Int)) (fuel:Int) (B:Nat) (v:Value) (w:World):Prop:=
 okR K kf m vn yn on sn gs sp ls ms vs fs l ins fuel/\∃ (n:Nat) (st:ISt),m=n/\B2 n K kf gs vs ls fs l st/\w.ownsRow B 136 4 v (Bz n K kf fuel.toNat ins gs ls ms vs fs l (BH n K kf gs sp st.vs st.fs vs ls ms fs l) vn yn).ev.length (Bi (Bz n K kf fuel.toNat ins gs ls ms vs fs l (BH n K kf gs sp st.vs st.fs vs ls ms fs l) vn yn).ev)/\(Bz n K kf fuel.toNat ins gs ls ms vs fs l (BH n K kf gs sp st.vs st.fs vs ls ms fs l) vn yn).ev.length<=2000
def RI (K kf:Nat) (m:Int) (vn yn on sn:Nat) (gs:List (Int × Int)) (sp:List Int) (ls ms:List Lab) (vs:List (Bool × Lab)) (fs:List FnD) (l:List D) (ins:List (List Int)) (fuel:Int) (w:World) (e:Ending) (w':World):Prop:=
 ∃ (why:Int) (e1:Option Addr) (e2 e3:Nat) (a4:Option Addr) (a5 a6:Nat) (a7:Option Addr) (a8 a9:Nat) (x y z:Int) (l1:Option Addr) (l2 l3:Nat),e=zj (zk #[zh #[O e1 e2 e3,O a4 a5 a6,O a7 a8 a9,zd U x,zd U y,zd U z],O l1 l2 l3,zd U why])/\Ov w w'/\(why=0->Fa K kf m vn yn on sn gs sp ls ms vs fs l ins fuel w.heap.size (O e1 e2 e3) w')
theorem M4 (K kf:Nat) (m:Int) (ga gn gc sa sn sc ya yn yc oa on oc va vn vc fa fn fc ba bn bc) (xa xn xc) (ins) (fuel:Int) (gs sp ls ms vs fs l) (w:World) (h:BD K kf m ga gn gc sa sn sc ya yn yc oa on oc va vn vc fa fn fc ba bn bc gs sp ls ms vs fs l w) (hx:A8 w (O xa xn xc) ins) :
  Calls Tryz.prog 17 #[zh #[zd U m,O ga gn gc,O sa sn sc,O ya yn yc,O oa on oc,O va vn vc,O fa fn fc,O ba bn bc],O xa xn xc,zd U fuel] w (RI K kf m vn yn on sn gs sp ls ms vs fs l ins fuel w):=by
 refine (Gh K kf m ga gn gc sa sn sc ya yn yc oa on oc va vn vc fa fn fc ba bn bc xa xn xc ins fuel gs sp ls ms vs fs l w h hx).mono ?_;rintro e C ⟨g,i,q,f⟩;rcases f with ⟨hw,rfl⟩ | ⟨rfl,n,st,ev,J,I,u,s,t,k,y,rfl,b,-⟩
 ·exact ⟨g,none,0,0,none,0,0,none,0,0,0,0,0,none,0,0,rfl,q,fun h=>absurd h hw⟩
 ·have p:=i.1 rfl
  obtain ⟨B,el,A,rfl⟩:=AE b.own;refine ⟨0,B,el,A,_,_,_,_,_,_,_,_,_,_,_,_,rfl,q,fun _=>⟨p,n,st,k,y.1,b.own,?_⟩⟩;have H:=b.num.el;have G:=b.num.sb;have F:=p.f1;have E:=p.f0;omega
section
variable {K kf:Nat} {m:Int} {vn yn on sn:Nat} {gs:List (Int × Int)} {sp:List Int} {ls ms:List Lab} {vs:List (Bool × Lab)} {fs:List FnD} {l:List D} {ins:List (List Int)} {fuel:Int} {B b:Nat} {v:Value} {w w':World}
theorem Fa.over (h:Fa K kf m vn yn on sn gs sp ls ms vs fs l ins fuel B v w) (hb:Ov w w'):Fa K kf m vn yn on sn gs sp ls ms vs fs l ins fuel B v w':=by
 obtain ⟨i,n,st,g,f,e,b⟩:=h;exact ⟨i,n,st,g,f,Bw e hb,b⟩
theorem Fa.grown (h:Fa K kf m vn yn on sn gs sp ls ms vs fs l ins fuel B v w) (hg:w.grownBy w' (some b)) (hne:v.ownBlock≠some b):Fa K kf m vn yn on sn gs sp ls ms vs fs l ins fuel B v w':=by
 obtain ⟨k,n,st,i,g,f,e⟩:=h;exact ⟨k,n,st,i,g,f.kept hg (Or.inr hne),e⟩
theorem Fa.lt (h:Fa K kf m vn yn on sn gs sp ls ms vs fs l ins fuel B v w) {g:Nat} (hg:v.ownBlock=some g):B<=g/\g < w.heap.size:=by
 obtain ⟨k,n,st,i,f,b,e⟩:=h;exact Pc b hg
end
theorem Ej {w w' w2:World} {r:Option Nat} (h:w.grownBy w' r) (k:w'.grownBy w2 r):w.grownBy w2 r:=⟨k.os.trans h.os,k.tape.trans h.tape,k.output.trans h.output,Nat.le_trans h.size k.size,fun i hi hr=>(k.block i (Nat.lt_of_lt_of_le hi h.size) hr).trans (h.block i hi hr)⟩
theorem Jq {b:Nat} {A w w':World} (h:Ov A w) (hg:w.grownBy w' (some b)) (hb:A.heap.size<=b):Ov A w':=⟨hg.os.trans h.os,hg.tape.trans h.tape,hg.output.trans h.output,Nat.le_trans h.size hg.size,fun k hk=>(hg.block k (Nat.lt_of_lt_of_le hk h.size) (fun e=>by injection e with e;omega)).trans (h.block k hk)⟩
structure Z6 (b:Nat) (w:World):Prop where
 row:Ad [O none 0 0,O none 0 0,O none 0 0,zd U 0,zd U 0,zd U 0] w b
 fz:∀ j,w.frozen? ⟨b,j,none⟩=false
theorem Lt (t:Nat) (w:World):Z6 w.heap.size (w.alloc (ze #[O none 0 0,O none 0 0,O none 0 0,zd U 0,zd U 0,zd U 0] t)):=⟨Ad.newA #[O none 0 0,O none 0 0,O none 0 0,zd U 0,zd U 0,zd U 0] t w,fun j=>by simp [go_sem]⟩
theorem Z6.over {b:Nat} {w w':World} (h:Z6 b w) (hb:Ov w w'):Z6 b w':=⟨h.row.over hb,fun j=>((An hb).2 b j (bL (h.row 0 _ rfl))).trans (h.fz j)⟩
def FG (W:World) (b:Nat) (v0 v1 v2 v3 v4 v5:Value):World:=(((((W.setCell ⟨b,0,none⟩ v0).setCell ⟨b,1,none⟩ v1).setCell ⟨b,2,none⟩ v2).setCell ⟨b,3,none⟩ v3).setCell ⟨b,4,none⟩ v4).setCell ⟨b,5,none⟩ v5
theorem Em (W:World) (b:Nat) {v0 v1 v2 v3 v4 v5:Value}:W.grownBy (FG W b v0 v1 v2 v3 v4 v5) (some b):=Ej (Ej (Ej (Ej (Ej Bg Bg) Bg) Bg) Bg) Bg
theorem Z6.fill {b:Nat} {W:World} (h:Z6 b W) (v0 v1 v2 v3 v4 v5:Value):Ad [v0,v1,v2,v3,v4,v5] (FG W b v0 v1 v2 v3 v4 v5) b:=by
 have:=(((((h.row.set (j:=0) (v:=v0) (by simp)).set (j:=1) (v:=v1) (by simp)).set (j:=2) (v:=v2) (by simp)).set (j:=3) (v:=v3) (by simp)).set (j:=4) (v:=v4) (by simp)).set (j:=5) (v:=v5) (by simp);simpa [FG] using this
theorem readsLaw (K kf:Nat) (m:Int) (ga gn gc sa sn sc ya yn yc oa on oc va vn vc fa fn fc ba bn bc) (xa xn xc qa qn qc) (ins others) (who fuel:Int) (gs sp ls ms vs fs l) (w:World) (h:BD K kf m ga gn gc sa sn sc ya yn yc oa on oc va vn vc fa fn fc ba bn bc gs sp ls ms vs fs l w) (hx:A8 w (O xa xn xc) ins) (hq:A8 w (O qa qn qc) others) :
  Calls Tryz.prog 6 #[zh #[zd U m,O ga gn gc,O sa sn sc,O ya yn yc,O oa on oc,O va vn vc,O fa fn fc,O ba bn bc],zd U who,O xa xn xc,O qa qn qc,zd U fuel] w fun e w'=>e=zj (zg true)/\Ov w w':=by
 have dh:Ov w (w.alloc (ze #[zd U m,O ga gn gc,O sa sn sc,O ya yn yc,O oa on oc,O va vn vc,O fa fn fc,O ba bn bc] 31)):=bA w _;have K1:=Aa fun W (hW:Ov w W)=>M4 K kf m ga gn gc sa sn sc ya yn yc oa on oc va vn vc fa fn fc ba bn bc xa xn xc ins fuel gs sp ls ms vs fs l W (h.over hW) (hx.over hW);have d8:=Aa GW;have dz:=Aa Il;have db:=Ad.new [zd U m,O ga gn gc,O sa sn sc,O ya yn yc,O oa on oc,O va vn vc,O fa fn fc,O ba bn bc] 31 w;have cd:=Aa db;have a1:=Aa dh;have HH:=Aa h;have HX:=Aa hx;have HQ:=Aa hq;clear h hx hq dh db;go_enter Tryz.func6,Tryz.ntmps6;go_wp2_with fail;refine (d8.o _).mono ?_;obtain ⟨WB,di⟩:=nm (w.alloc (ze #[zd U m,O ga gn gc,O sa sn sc,O ya yn yc,O oa on oc,O va vn vc,O fa fn fc,O ba bn bc] 31));rw [<-di] at cd a1 ⊢;rintro e w1 ⟨rfl,dg⟩;go_wp2_with fail;refine (dz.o _).mono ?_;rintro e w2 ⟨rfl,df⟩;have ad:=Ac dg df;have a0:=Aa (a1.o.trans (ad.mono a1.o.size));have ch:=Aa (cd.o.over ad);obtain ⟨c0,c1,c2,c3,c4,c5,c6,c7⟩:=rc8 ch.o;clear dg df ad di cd a1 d8 dz;have KW:=Aa (K1.o w2 a0.o);clear K1;go_wp2_with fail;refine (KW.o).mono ?_;rintro e w3 ⟨cp,e1,e2,e3,a4,a5,a6,a7,a8,a9,x,y,z,l1,l2,l3,rfl,b4,hg⟩;have cl:=Aa (a0.o.trans (b4.mono a0.o.size));have eb:=Aa (ch.o.over b4);have am:Hx (Ov w (w3.alloc (ze #[O e1 e2 e3,O a4 a5 a6,O a7 a8 a9,zd U x,zd U y,zd U z] 55))):=cl.o.alloc cl.o.size _;have an:Hx (Ov w3 (w3.alloc (ze #[O e1 e2 e3,O a4 a5 a6,O a7 a8 a9,zd U x,zd U y,zd U z] 55))):=bA _ _;have b5:=eb.o.over an.o;obtain ⟨d0,d1,d2,d3,d4,d5,d6,d7⟩:=rc8 b5;have cg:=Aa b5;have HG:=Aa hg;clear b4 hg c0 c1 c2 c3 c4 c5 c6 c7 KW b5;by_cases hwy:cp=0;rotate_left
 ·have ep:(cp == 0)=false:=by simpa using hwy
  go_wp2_with fail;go_ret;exact ⟨rfl,am.o⟩
 subst hwy;obtain ⟨b2,n,st,er,dd,a3,bb⟩:=HG.o rfl;subst er;obtain ⟨M,hn,h1,h6,-⟩:=Dr b2.prog.chk;obtain rfl:M=n:=by omega
 have KA:=Aa fun W=>Kv (M:Int) who (by omega) (O ga gn gc) W;have L:=Aa b2;have ax:=Aa dd;have ci:=Aa (Bw a3 an.o);have bu:=Aa bb;have bz:=Ad.newA #[O e1 e2 e3,O a4 a5 a6,O a7 a8 a9,zd U x,zd U y,zd U z] 55 w3;obtain ⟨WC,ae⟩:=nm (w3.alloc (ze #[O e1 e2 e3,O a4 a5 a6,O a7 a8 a9,zd U x,zd U y,zd U z] 55));obtain ⟨br,ao⟩:=nm w3.heap.size;rw [<-ao,<-ae] at bz;rw [<-ae] at am ci cg;have d9:=Aa bz;have bf:Hx (br < WC.heap.size):=by rw [ao,ae];show _ < _;simp
 clear b2 dd a3 bb hn HG an cl eb ch a0 bz;go_wp2_with fail;rw [<-ae,<-ao];refine (KA.o _).mono ?_;clear ae ao d0 d1 d2 d3 d4 d5 d6 d7;rintro e R ⟨rfl,Z⟩;have H:=Aa (am.o.trans (Z.mono am.o.size));have cf:=Aa (cg.o.over Z);have bs:=Aa (Bw ci.o Z);have bp:=Aa (d9.o.over Z);have fk:Hx (br < R.heap.size):=Nat.lt_of_lt_of_le bf.o Z.size;obtain ⟨c0,c1,c2,c3,c4,c5,c6,c7⟩:=rc8 cf.o;clear Z am cg ci d9 bf KA
 cases hwho:BB (M:Int) who with
 | false=>
  go_wp2_with fail;go_ret;exact ⟨rfl,H.o⟩
 | true=>
  have cz:0<=who/\who < M:=by simpa [BB] using hwho
  obtain ⟨q,rfl⟩:=Int.eq_ofNat_of_zero_le cz.1;have b1:q < M:=by omega
  have gg:q<=9223372036854775807:=by omega
  clear hwho cz;have cy:yn=ls.length:=by obtain ⟨-,a,c,he,-⟩:=HH.o.ins;injection he
  have c8:vn=vs.length:=by obtain ⟨-,a,c,he,-⟩:=HH.o.vars;injection he
  obtain ⟨MX,b6⟩:=nm (FZ M q false gs ls ins others);have KM:Hx (∀ W,Ov R W->Calls Tryz.prog 26 #[zh #[zd U (M:Int),O ga gn gc,O sa sn sc,O ya yn yc,O oa on oc,O va vn vc,O fa fn fc,O ba bn bc],zd U (q:Int),zg false,O xa xn xc,O qa qn qc] W fun e w'=>∃ (ma:Option Addr) (mn mc:Nat),e=zj (O ma mn mc)/\A8 w' (O ma mn mc) MX/\Ov W w'):=fun W hW=>by
   have aq:=H.o.trans (hW.mono H.o.size);rw [b6];exact Nz M ga gn gc sa sn sc ya yn yc oa on oc va vn vc fa fn fc ba bn bc q false xa xn xc qa qn qc gs ls ins others W (Af HH.o.grants aq) (HH.o.ins.over aq) (fun b s=>L.o.prog.labs.1 b (List.mem_append.2 (Or.inl s))) b1 (HX.o.over aq) (HQ.o.over aq) (by rw [L.o.many,cy]) (by rw [L.o.many];exact L.o.prog.ok.ins)
  have av:Hx (∀ W,Ov R W->∀ ma mn mc,A8 W (O ma mn mc) MX->Calls Tryz.prog 17 #[zh #[zd U (M:Int),O ga gn gc,O sa sn sc,O ya yn yc,O oa on oc,O va vn vc,O fa fn fc,O ba bn bc],O ma mn mc,zd U fuel] W (RI K kf (M:Int) vn yn on sn gs sp ls ms vs fs l MX fuel W)):=fun W hW ma mn mc hm=>M4 K kf (M:Int) ga gn gc sa sn sc ya yn yc oa on oc va vn vc fa fn fc ba bn bc ma mn mc MX fuel gs sp ls ms vs fs l W (HH.o.over (H.o.trans (hW.mono H.o.size))) hm;have KE:Hx (∀ W,Ov R W->∀ la ln lc (T:RSt),FH on vn T.ev=0->T.ev.length<=2000->∀ B,W.ownsRow B 136 4 (O la ln lc) T.ev.length (Bi T.ev)->_):=fun W hW la ln lc T h1 h2 B h3=>H4 K kf M ga gn gc sa sn sc ya yn yc oa on oc va vn vc fa fn fc ba bn bc q false la ln lc T.ev gs sp ls ms vs fs l W (HH.o.over (H.o.trans (hW.mono H.o.size))) (Ft.of_own h3).evL (by omega) L.o.prog b1 h1;have HV:=Aa (And.intro c8 b6);clear cy c8 b6;go_wp2_with fail;refine Cw (fun bm Wn=>∃ (bq:Nat) (why2:Int) (y12 y15 y19 y20 y21 y22 y23 y24 y25 y26 y27 y28 y29 y30 y31 y32 y33 y34 y35 y36 y37 y38 y39 y40 y41 y42 y43 y44 y45 y46 y47 y48 y49 y50 y51 y52 y53:Value) (f1:Option Addr) (f2 f3:Nat) (r1 r2 r3 r4 r5:Value) (B:Nat),bm={ tmps:=#[zh #[zd U (M:Int),O ga gn gc,O sa sn sc,O ya yn yc,O oa on oc,O va vn vc,O fa fn fc,O ba bn bc],zd U (q:Int),O xa xn xc,O qa qn qc,zd U fuel,zi (some ⟨w.heap.size,0,none⟩),undef,undef,undef,undef,zg false,zi (some ⟨br,0,none⟩),y12,zd U why2,zi (some ⟨bq,0,none⟩),y15,undef,undef,undef,y19,y20,y21,y22,y23,y24,y25,y26,y27,y28,y29,y30,y31,y32,y33,y34,y35,y36,y37,y38,y39,y40,y41,y42,y43,y44,y45,y46,y47,y48,y49,y50,y51,y52,y53,undef,undef,undef,undef,undef,undef,undef,undef,undef,undef,undef,undef,undef,undef,undef,undef,undef,undef,undef,undef,undef,undef,undef,undef,undef,undef,undef,undef,undef],defers:=[] }/\Ov R Wn/\Ad [O f1 f2 f3,r1,r2,r3,r4,r5] Wn bq/\(why2=0->Fa K kf (M:Int) vn yn on sn gs sp ls ms vs fs l MX fuel B (O f1 f2 f3) Wn)) ?_ ?_
  ·refine gS (fun Wz=>Ov R Wz) (bD _) fun f=>?_
   generalize R.drew=W at f ⊢;refine kO 0 ?_;refine kO 1 ?_;refine kO 2 ?_;refine kO 3 ?_;refine kO 4 ?_;refine kO 6 ?_;refine rdB 5 12 rfl (fun K t=>?_) rfl fun K t=>?_
   ·go_simp
    obtain ⟨Wc,rfl⟩:=nm W;refine (KM.o _ f).mono ?_;rintro e0 W ⟨ma,mn,mc,rfl,ab,s⟩;have E:=Aa ab;have aw:Hx (Wc.heap.size<=W.heap.size):=s.size;(try replace i:=Aa (i.o.over s))
    clear ab;go_simp;refine xK t (Ac f s) fun f=>?_;clear t K;refine rdB 7 12 rfl (fun K t=>?_) rfl fun K t=>?_
    ·go_simp
     obtain ⟨Wc,rfl⟩:=nm W;refine (av.o _ f _ _ _ E.o).mono ?_;rintro e0 W ⟨why2,f1,f2,f3,g4,g5,g6,g7,g8,g9,x2,y2,z2,m1,m2,m3,rfl,s,u⟩;have A:=Aa u;have ak:Hx (why2=0->∀ g,(Value.slice f1 f2 f3).ownBlock=some g->Wc.heap.size<=g/\g < W.heap.size):=fun G g hg=>(u G).lt hg;have ah:Hx (Wc.heap.size<=W.heap.size):=s.size;(try replace i:=Aa (i.o.over s))
     clear u;go_simp;refine xK t (Ac f s) fun f=>?_;clear t K;refine kO 8 ?_;refine kO 9 ?_;refine kO 10 ?_;refine kO 11 ?_;refine rdA 12 rfl fun K t=>?_;obtain ⟨I,rfl⟩:=nm W;obtain ⟨W,p⟩:=nm (I.alloc (ze #[O none 0 0,O none 0 0,O none 0 0,zd U 0,zd U 0,zd U 0] 55));have s:Ov I W:=by rw [p];exact bA _ _
     obtain ⟨bq,hq⟩:∃ b:Nat,b=I.heap.size:=⟨_,rfl⟩;have i:Hx (Z6 bq W):=by rw [hq,p];exact Lt _ _
     have J:Hx (bq=I.heap.size/\W.heap.size=I.heap.size+1):=⟨hq,by rw [p];simp⟩;have al:Hx (R.heap.size<=bq):=by rw [hq];exact f.size
     (try replace E:=Aa (E.o.over s))
     (try replace A:=Aa (fun G=>(A.o G).over s))
     go_simp;rw [<-p,<-hq];clear p hq;refine xK t (Ac f s) fun f=>?_;clear t K;refine rdA 13 rfl fun K t=>?_;obtain ⟨d0,d1,d2,d3,d4,d5⟩:=rc6 i.o.row;have p0:=i.o.fz 0;have p1:=i.o.fz 1;have p2:=i.o.fz 2;have p3:=i.o.fz 3;have p4:=i.o.fz 4;have p5:=i.o.fz 5;obtain ⟨W9,k⟩:=nm (FG W bq (O f1 f2 f3) (O g4 g5 g6) (O g7 g8 g9) (zd U x2) (zd U y2) (zd U z2));have C:W.grownBy W9 (some bq):=by rw [k];exact Em _ _
     have F:Hx (Ov R W9):=Jq f C al.o;have ai:Hx (Ad [O f1 f2 f3,O g4 g5 g6,O g7 g8 g9,zd U x2,zd U y2,zd U z2] W9 bq):=by rw [k];exact i.o.fill _ _ _ _ _ _
     have ag:=Aa fun G=>(A.o G).grown C (fun hq=>by have h1:=ak.o G _ hq;have h2:=ah.o;have h3:=J.o;have h4:=aw.o;omega);unfold FG at k;go_simp;rw [<-k];clear k d0 d1 d2 d3 d4 d5 p0 p1 p2 p3 p4 p5 C;refine xK t (F.o) fun f=>?_;clear t K;refine kO 14 ?_;refine kO 15 ?_;refine gE ?_;exact Ba ⟨bq,why2,_,_,_,_,_,_,_,_,_,_,_,_,_,_,_,_,_,_,_,_,_,_,_,_,_,_,_,_,_,_,_,_,_,_,_,_,_,f1,f2,f3,_,_,_,_,_,_,rfl,F.o,ai.o,ag.o⟩
    ·obtain ⟨I,rfl⟩:=nm W
     obtain ⟨W,p⟩:=nm (I.alloc (ze #[O none 0 0,O none 0 0,O none 0 0,zd U 0,zd U 0,zd U 0] 55));have s:Ov I W:=by rw [p];exact bA _ _
     obtain ⟨bq,hq⟩:∃ b:Nat,b=I.heap.size:=⟨_,rfl⟩;have i:Hx (Z6 bq W):=by rw [hq,p];exact Lt _ _
     have J:Hx (bq=I.heap.size/\W.heap.size=I.heap.size+1):=⟨hq,by rw [p];simp⟩;have al:Hx (R.heap.size<=bq):=by rw [hq];exact f.size
     (try replace E:=Aa (E.o.over s))
     (try replace A:=Aa (fun G=>(A.o G).over s))
     go_simp;rw [<-p,<-hq];clear p hq;refine xK t (Ac f s) fun f=>?_;clear t K;refine rdA 7 rfl fun K t=>?_;go_simp;obtain ⟨Wc,rfl⟩:=nm W;refine (av.o _ f _ _ _ E.o).mono ?_;rintro e0 W ⟨why2,f1,f2,f3,g4,g5,g6,g7,g8,g9,x2,y2,z2,m1,m2,m3,rfl,s,u⟩;have A:=Aa u;have ak:Hx (why2=0->∀ g,(Value.slice f1 f2 f3).ownBlock=some g->Wc.heap.size<=g/\g < W.heap.size):=fun G g hg=>(u G).lt hg;have ah:Hx (Wc.heap.size<=W.heap.size):=s.size;(try replace i:=Aa (i.o.over s))
     clear u;go_simp;refine xK t (Ac f s) fun f=>?_;clear t K;refine kO 8 ?_;refine kO 9 ?_;refine kO 10 ?_;refine kO 11 ?_;refine rdA 13 rfl fun K t=>?_;obtain ⟨d0,d1,d2,d3,d4,d5⟩:=rc6 i.o.row;have p0:=i.o.fz 0;have p1:=i.o.fz 1;have p2:=i.o.fz 2;have p3:=i.o.fz 3;have p4:=i.o.fz 4;have p5:=i.o.fz 5;obtain ⟨W9,k⟩:=nm (FG W bq (O f1 f2 f3) (O g4 g5 g6) (O g7 g8 g9) (zd U x2) (zd U y2) (zd U z2));have C:W.grownBy W9 (some bq):=by rw [k];exact Em _ _
     have F:Hx (Ov R W9):=Jq f C al.o;have ai:Hx (Ad [O f1 f2 f3,O g4 g5 g6,O g7 g8 g9,zd U x2,zd U y2,zd U z2] W9 bq):=by rw [k];exact i.o.fill _ _ _ _ _ _
     have ag:=Aa fun G=>(A.o G).grown C (fun hq=>by have h1:=ak.o G _ hq;have h2:=ah.o;have h3:=J.o;have h4:=aw.o;omega);unfold FG at k;go_simp;rw [<-k];clear k d0 d1 d2 d3 d4 d5 p0 p1 p2 p3 p4 p5 C;refine xK t (F.o) fun f=>?_;clear t K;refine kO 14 ?_;refine kO 15 ?_;refine gE ?_;exact Ba ⟨bq,why2,_,_,_,_,_,_,_,_,_,_,_,_,_,_,_,_,_,_,_,_,_,_,_,_,_,_,_,_,_,_,_,_,_,_,_,_,_,f1,f2,f3,_,_,_,_,_,_,rfl,F.o,ai.o,ag.o⟩
   ·obtain ⟨I,rfl⟩:=nm W
    obtain ⟨W,p⟩:=nm (I.alloc (ze #[O none 0 0,O none 0 0,O none 0 0,zd U 0,zd U 0,zd U 0] 55));have s:Ov I W:=by rw [p];exact bA _ _
    obtain ⟨bq,hq⟩:∃ b:Nat,b=I.heap.size:=⟨_,rfl⟩;have i:Hx (Z6 bq W):=by rw [hq,p];exact Lt _ _
    have J:Hx (bq=I.heap.size/\W.heap.size=I.heap.size+1):=⟨hq,by rw [p];simp⟩;have al:Hx (R.heap.size<=bq):=by rw [hq];exact f.size
    (try replace E:=Aa (E.o.over s))
    (try replace A:=Aa (fun G=>(A.o G).over s))
    go_simp;rw [<-p,<-hq];clear p hq;refine xK t (Ac f s) fun f=>?_;clear t K;refine rdA 5 rfl fun K t=>?_;go_simp;obtain ⟨Wc,rfl⟩:=nm W;refine (KM.o _ f).mono ?_;rintro e0 W ⟨ma,mn,mc,rfl,ab,s⟩;have E:=Aa ab;have aw:Hx (Wc.heap.size<=W.heap.size):=s.size;(try replace i:=Aa (i.o.over s))
    clear ab;go_simp;refine xK t (Ac f s) fun f=>?_;clear t K;refine rdA 7 rfl fun K t=>?_;go_simp;obtain ⟨Wc,rfl⟩:=nm W;refine (av.o _ f _ _ _ E.o).mono ?_;rintro e0 W ⟨why2,f1,f2,f3,g4,g5,g6,g7,g8,g9,x2,y2,z2,m1,m2,m3,rfl,s,u⟩;have A:=Aa u;have ak:Hx (why2=0->∀ g,(Value.slice f1 f2 f3).ownBlock=some g->Wc.heap.size<=g/\g < W.heap.size):=fun G g hg=>(u G).lt hg;have ah:Hx (Wc.heap.size<=W.heap.size):=s.size;(try replace i:=Aa (i.o.over s))
    clear u;go_simp;refine xK t (Ac f s) fun f=>?_;clear t K;refine kO 8 ?_;refine kO 9 ?_;refine kO 10 ?_;refine kO 11 ?_;refine rdA 13 rfl fun K t=>?_;obtain ⟨d0,d1,d2,d3,d4,d5⟩:=rc6 i.o.row;have p0:=i.o.fz 0;have p1:=i.o.fz 1;have p2:=i.o.fz 2;have p3:=i.o.fz 3;have p4:=i.o.fz 4;have p5:=i.o.fz 5;obtain ⟨W9,k⟩:=nm (FG W bq (O f1 f2 f3) (O g4 g5 g6) (O g7 g8 g9) (zd U x2) (zd U y2) (zd U z2));have C:W.grownBy W9 (some bq):=by rw [k];exact Em _ _
    have F:Hx (Ov R W9):=Jq f C al.o;have ai:Hx (Ad [O f1 f2 f3,O g4 g5 g6,O g7 g8 g9,zd U x2,zd U y2,zd U z2] W9 bq):=by rw [k];exact i.o.fill _ _ _ _ _ _
    have ag:=Aa fun G=>(A.o G).grown C (fun hq=>by have h1:=ak.o G _ hq;have h2:=ah.o;have h3:=J.o;have h4:=aw.o;omega);unfold FG at k;go_simp;rw [<-k];clear k d0 d1 d2 d3 d4 d5 p0 p1 p2 p3 p4 p5 C;refine xK t (F.o) fun f=>?_;clear t K;refine kO 14 ?_;refine kO 15 ?_;refine gE ?_;exact Ba ⟨bq,why2,_,_,_,_,_,_,_,_,_,_,_,_,_,_,_,_,_,_,_,_,_,_,_,_,_,_,_,_,_,_,_,_,_,_,_,_,_,f1,f2,f3,_,_,_,_,_,_,rfl,F.o,ai.o,ag.o⟩
  ·rintro bm Wn ⟨bq,why2,y12,y15,y19,y20,y21,y22,y23,y24,y25,y26,y27,y28,y29,y30,y31,y32,y33,y34,y35,y36,y37,y38,y39,y40,y41,y42,y43,y44,y45,y46,y47,y48,y49,y50,y51,y52,y53,f1,f2,f3,r1,r2,r3,r4,r5,B,rfl,S,da,u⟩
   have ay:=Aa S;have az:=Aa (H.o.trans (S.mono H.o.size));have ce:=Aa (cf.o.over S);have aj:=Aa (Bw bs.o S);have bo:=Aa (bp.o.over S);have ea:=Aa da;have A:=Aa u;clear S da u c0 c1 c2 c3 c4 c5 c6 c7 KM av;by_cases hwy:why2=0;rotate_left
   ·have ep:(why2 == 0)=false:=by simpa using hwy
    go_wp2_with fail;go_ret;exact ⟨rfl,az.o⟩
   subst hwy;obtain ⟨dc,n2,gf,eq,bd,N,Q⟩:=A.o rfl;obtain rfl:n2=M:=by omega
   obtain rfl:=DW ax.o bd;obtain ⟨T1,au⟩:=nm (Bz n2 K kf fuel.toNat ins gs ls ms vs fs l (BH n2 K kf gs sp st.vs st.fs vs ls ms fs l) vn yn);obtain ⟨T2,ar⟩:=nm (Bz n2 K kf fuel.toNat MX gs ls ms vs fs l (BH n2 K kf gs sp st.vs st.fs vs ls ms fs l) vn yn);rw [<-au] at aj bu;rw [<-ar] at N Q;have ff:Hx (FH on vn T1.ev=0):=by rw [au];exact IC L.o.prog _
   have fe:Hx (FH on vn T2.ev=0):=by rw [ar];exact IC L.o.prog _
   have fg:Hx (Alk 2 (T1.ev.filter (J3 n2 q gs ms st)) (T2.ev.filter (J3 n2 q gs ms st))):=by rw [au,ar,HV.o.2];exact JU L.o.prog HV.o.1 ax.o b1 _
   have bt:=Aa N;have cj:=Aa Q;obtain ⟨c0,c1,c2,c3,c4,c5,c6,c7⟩:=rc8 ce.o;have b0:=bo.o 0 _ rfl;have dy:=Aa (KE.o Wn ay.o e1 e2 e3 T1 ff.o bu.o _ aj.o);clear dc eq bd N Q au ar bs bp cf A aj;go_wp2_with fail;refine (dy.o).mono ?_;rintro e w7 ⟨eo,v1,rfl,ac,-,P,V⟩;obtain rfl:=DW ax.o ac;have dk:=(Ft.of_own P).evL;obtain ⟨e4,ey,ez,rfl⟩:=AE P;have ec:=Aa dk;have bv:=Aa (ay.o.trans (V.mono ay.o.size));have ck:=Aa (az.o.trans (V.mono az.o.size));have dx:=Aa (KE.o w7 bv.o f1 f2 f3 T2 fe.o cj.o _ (Bw bt.o V));obtain ⟨t0,t1,t2,t3,t4,t5,t6,t7⟩:=rc8 (ce.o.over V);have u0:=(ea.o.over V) 0 _ rfl;clear ac P V dk c0 c1 c2 c3 c4 c5 c6 c7 b0 dy KE ay az bt ce bo ea;go_wp2_with fail;refine (dx.o).mono ?_;rintro e w8 ⟨eo,v1,rfl,ac,-,P,b3⟩;obtain rfl:=DW ax.o ac;have dj:=(Ft.of_own P).evL;obtain ⟨ew,et,eu,rfl⟩:=AE P;have fb:=Aa (N7 e4 ey ez ew et eu 2 false _ _ w8 (ec.o.over b3) dj (Alk.d fg.o));have ed:=Aa (ck.o.trans (b3.mono ck.o.size));clear ac P b3 dj dx ec ck bv t0 t1 t2 t3 t4 t5 t6 t7 u0;go_wp2_with fail;refine (fb.o).mono ?_;rintro e w9 ⟨rfl,de⟩;have F:=Aa (ed.o.trans (de.mono ed.o.size));clear de;go_wp2_with fail;go_ret;exact ⟨rfl,F.o⟩
end Go.Proofs.YtfffpjkcfnekaaaGreat.Ex
