/- What one sees of channels; lists of which one sees some: the document's functions. -/
import Derived.Test.YtfffpjkcfnekaaaGreatE14
import Derived.Laws.AppendOwnNone
set_option linter.unusedVariables false
set_option maxHeartbeats 8000000
set_option maxRecDepth 100000
namespace Go.Proofs.YtfffpjkcfnekaaaGreat.Ex
open Go.RowKit
open Go.Value renaming slice -> O, int -> zd, bool -> zg, agg -> zh, pointer -> zi, tuple -> zk
open Go.IntKind renaming i64 -> U
open Go.Obj renaming cells -> ze
open Go.Ending renaming returned -> zj
theorem O3 (who:Nat) (touch:Bool) (ra rn rc wa wn wc) (L) (w:World) (hL:A3 w (zh #[O ra rn rc,O wa wn wc]) L) (hr:who < L.r.length) (hw:who < L.w.length) (hwm:who<=100) :
  Calls Tryz.prog 130 #[zh #[O ra rn rc,O wa wn wc],zd U (who:Int),zg touch] w fun e w'=>e=zj (zg (CB touch who L))/\Ov w w':=by
 have a:Ov w (w.alloc (ze #[O ra rn rc,O wa wn wc] 50)):=bA w _;obtain ⟨F,E,j,⟨R,M,B,f⟩,⟨Q,K,A,d⟩⟩:=hL;simp only [Value.agg.injEq,Array.mk.injEq,List.cons.injEq,and_true] at j;obtain ⟨z,y⟩:=j;subst z y;injection B with u t s;injection A with q p o;obtain ⟨P,H,x,h⟩:=f (by intro i;rw [i] at hr;simp at hr);obtain ⟨N,G,v,g⟩:=d (by intro i;rw [i] at hw;simp at hw);have n:=Ab a _ _ (h who hr);have m:=Ab a _ _ (g who hw);subst x v;subst u q;have J:(who:Int) < (rn:Int):=by omega
 have I:(who:Int) < (wn:Int):=by omega
 have l:L.r.getD who false=L.r[who]:=by simp [hr]
 have k:L.w.getD who false=L.w[who]:=by simp [hw]
 unfold CB;rw [l,k];obtain ⟨D,c⟩:=nm (L.r[who]);obtain ⟨C,b⟩:=nm (L.w[who]);rw [<-c] at n ⊢;rw [<-b] at m ⊢;clear f d h g l k c b t s p o hr hw;cases touch with
 | true=>
  go_enter Tryz.func130,Tryz.ntmps130;go_wp2_with fail;go_ret;exact ⟨by simp,a⟩
 | false=>
  go_enter Tryz.func130,Tryz.ntmps130;go_wp2_with fail;go_ret;exact ⟨by simp,a⟩
theorem Lx (n:Nat) (ga gn gc sa sn sc ya yn yc oa on oc va vn vc fa fn fc ba bn bc) (who:Nat) (touch:Bool) (gs:List (Int × Int)) (ls:List Lab) (j:Nat) (hj:j < ls.length) (w:World) (hg:AA w (O ga gn gc) gs) (hl:AW w (O ya yn yc) ls) (hlab:∀ b∈ls,Bb (n:Int) gs b=0) (hwho:who < n) :
  Calls Tryz.prog 77 #[zh #[zd U (n:Int),O ga gn gc,O sa sn sc,O ya yn yc,O oa on oc,O va vn vc,O fa fn fc,O ba bn bc],zd U (who:Int),zg touch,zd U (j:Int)] w fun e w'=>e=zj (zg (CB touch who (Ar (Ax gs) n ls[j])))/\Ov w w':=by
 have h:Ov w (w.alloc (ze #[zd U (n:Int),O ga gn gc,O sa sn sc,O ya yn yc,O oa on oc,O va vn vc,O fa fn fc,O ba bn bc] 31)):=bA w _;have g:=Ad.newA #[zd U (n:Int),O ga gn gc,O sa sn sc,O ya yn yc,O oa on oc,O va vn vc,O fa fn fc,O ba bn bc] 31 w;obtain ⟨a0,a1,a2,a3,a4,a5,a6,a7⟩:=rc8 g;have m:=hl.1;obtain ⟨-,ao,aj,he,f⟩:=hl;injection he with R e2 e3;obtain ⟨S,N,s,f⟩:=f (by intro hh;rw [hh] at hj;simp at hj);obtain ⟨Y,X,x,v,l,k⟩:=f j hj;have y:ya=some ⟨S,N,none⟩:=R.trans s;subst y;have aa:(j:Int) < (yn:Int):=by omega
 have ab:j<=9223372036854775807:=by have:maxLen<=9223372036854775807:=by decide +kernel
                      omega
 obtain ⟨i,Z,h1,h6,q,t,r,p,-⟩:=MW (hlab _ (List.getElem_mem hj));obtain rfl:i=n:=by omega
 have T:=Aa fun W (hW:Ov w W)=>Ko i h1 h6 (O ga gn gc) Y X (Ax gs) ls[j] W (by rw [q];exact Af hg hW) t r (Ak l hW) (Ak k hW) p;obtain ⟨L,Q⟩:=nm (Ar (Ax gs) i ls[j]);have c:(Ar (Ax gs) i ls[j]).len i:=⟨AH _ _,AH _ _⟩;rw [<-Q] at T c ⊢;have K2:=Aa fun W M I J F D E (hW:A3 W (zh #[O M I J,O F D E]) L)=>O3 who touch M I J F D E L W hW (by rw [c.1];exact hwho) (by rw [c.2];exact hwho) (by omega);obtain ⟨aq,z3,rfl,-⟩:=l;obtain ⟨an,z4,rfl,-⟩:=k;obtain ⟨x,v⟩:=co2 h x v;have d:=Aa h;have u:=Aa c;clear g f R e2 e3 s m h hg hlab p r q t Q c Z;go_enter Tryz.func77,Tryz.ntmps77;go_wp2_with fail;obtain ⟨V,P⟩:=nm (w.alloc (ze #[zd U (i:Int),O ga gn gc,O sa sn sc,O (some ⟨S,N,none⟩) yn yc,O oa on oc,O va vn vc,O fa fn fc,O ba bn bc] 31));rw [<-P] at d a0 a1 a2 a3 a4 a5 a6 a7 x v ⊢;clear P;refine gS (fun Wz=>Ov V Wz) (bD _) fun a=>?_;generalize V.drew=W at a ⊢;refine kO 0 ?_;refine kO 1 ?_;refine kO 2 ?_;refine kO 3 ?_;refine kO 4 ?_;refine kO 5 ?_;refine kO 6 ?_;refine kO 8 ?_;refine kO 9 ?_;refine rdA 7 rfl fun K B=>?_;go_simp;refine (T.o _ (d.o.trans (a.mono d.o.size))).mono ?_;rintro e W2 ⟨H,G,rfl,z,hw,-,hb⟩;have C:Hx (A3 W2 (zh #[H,G]) L):=⟨H,G,rfl,B4 (by rw [u.o.1];exact z),B4 (by rw [u.o.2];exact hw)⟩;obtain ⟨o1,o2,o3,rfl⟩:=AE z;obtain ⟨o4,o5,o6,rfl⟩:=AE hw;clear z hw;go_simp;refine xK B (Ac a hb) fun a=>?_;refine rdA 10 rfl fun K B=>?_;go_simp;refine (K2.o _ _ _ _ _ _ _ C.o).mono ?_;rintro e W3 ⟨rfl,A⟩;go_simp;refine xK B (Ac a A) fun a=>?_;refine kO 11 ?_;refine gE ?_;have HF:=Aa (d.o.trans (a.mono d.o.size));clear a;go_wp2_with fail;go_ret;exact ⟨rfl,HF.o⟩
structure GN (B:Nat) (mv:Value) (j:Nat) (us:List Value) (ml:List (List Int)) (w:World):Prop where
 own:w.ownsRow B 25 1 mv j us
 len:ml.length=j
 one:∀ i (h:i < ml.length),∃ u,us[i]? = some u/\AN w u ml[i]/\(ml[i]≠[]->∀ k,u.ownBlock=some k->mv.ownBlock≠some k/\k < w.heap.size)/\ml[i].length<=9223372036854775807
theorem GN.over {B:Nat} {mv:Value} {j:Nat} {us:List Value} {ml:List (List Int)} {w w':World} (h:GN B mv j us ml w) (hb:Ov w w'):GN B mv j us ml w':=
 ⟨Bw h.own hb,h.len,fun i hi=>by
  obtain ⟨u,h1,h2,h3,h5⟩:=h.one i hi;exact ⟨u,h1,h2.over hb,fun hne k hk=>⟨(h3 hne k hk).1,Nat.lt_of_lt_of_le (h3 hne k hk).2 hb.size⟩,h5⟩⟩
theorem GN.lists {B:Nat} {mv:Value} {j:Nat} {us:List Value} {ml:List (List Int)} {w:World} (h:GN B mv j us ml w) (hj:j<=maxLen):A8 w mv ml:=by
 have d:=h.len;rcases h.own.2 with ⟨f,e⟩ | ⟨g,b,o,c,q,p,f,e,s,r⟩
 ·refine ⟨by omega,none,0,by rw [f,d,e],fun a=>absurd (List.length_eq_zero_iff.1 (by omega)) a⟩
 ·refine ⟨by omega,_,b,by rw [c,d],fun _=>⟨g,0,rfl,fun i k=>?_⟩⟩
  obtain ⟨u,n,m,-,l⟩:=h.one i k;have:=h.own.cells (g:=g) (by rw [c];rfl) i u n;rw [Addr.add_lit] at this;exact ⟨u,this,m,l⟩
theorem Hr {w w':World} {row:Option Nat} {u:Value} {l:List Int} (h:AN w u l) (hg:w.grownBy w' row) (hne:l≠[]->∀ k,u.ownBlock=some k->row≠some k):AN w' u l:=by
 obtain ⟨m,d,rfl,j⟩:=h;refine ⟨m,d,rfl,fun e=>?_⟩;obtain ⟨b,a,rfl,c⟩:=j e;exact ⟨b,a,rfl,fun i g=>hg.cell (c i g) (fun f=>hne e b rfl f.symm)⟩
theorem GN.snoc {B:Nat} {mv mv':Value} {j:Nat} {us:List Value} {ml:List (List Int)} {w w':World} (h:GN B mv j us ml w) (hg:w.grownBy w' mv.ownBlock) (hat:mv'.ownBlock=mv.ownBlock\/mv'.ownBlock=some w.heap.size)
  {u:Value} {l:List Int} (ho:w'.ownsRow B 25 1 mv' (j+1) (us++[u])) (hu:AN w u l) (hne:l≠[]->∀ k,u.ownBlock=some k->mv.ownBlock≠some k/\k < w.heap.size) (hl:l.length<=9223372036854775807):GN B mv' (j+1) (us++[u]) (ml++[l]) w':=by
 have c:=h.len;have d:us.length=j:=by have:=h.own.1;omega
 have m:∀ k,mv.ownBlock≠some k/\k < w.heap.size->mv'.ownBlock≠some k/\k < w'.heap.size:=fun k a=>by
  refine ⟨?_,Nat.lt_of_lt_of_le a.2 hg.size⟩;rcases hat with e | e
  ·rw [e];exact a.1
  ·rw [e];intro g;injection g with g;have:=a.2;omega
 refine ⟨ho,by simp [c],fun i o=>?_⟩;by_cases hij:i < ml.length
 ·obtain ⟨x,r,q,n,p⟩:=h.one i hij
  rw [List.getElem_append_left hij];exact ⟨x,by rw [List.getElem?_append_left (by omega)];exact r,Hr q hg (fun b k a=>(n b k a).1),fun b k a=>m k (n b k a),p⟩
 ·have f:i=ml.length:=by simp at o;omega
  subst f;have e:(ml++[l])[ml.length]'hi=l:=by simp
  rw [e];exact ⟨u,by rw [List.getElem?_append_right (by omega)];simp [c,d],Hr hu hg (fun b k a=>(hne b k a).1),fun b k a=>m k (hne b k a),hl⟩
theorem Tryz.infoSl:(Tryz.prog.info? 25).map (fun i=>(i.zero,i.size,i.bytes))=some (some (O none 0 0),1,24):=by kernel_rfl
theorem MS {w:World} {a:Option Addr} {m c:Nat} {ls:List (List Int)} (h:A8 w (O a m c) ls) {j:Nat} (hj:j < ls.length):∃ b off la lc,a=some ⟨b,off,none⟩/\m=ls.length/\w.cell? ⟨b,off+j,none⟩=some (O la ls[j].length lc)/\AN w (O la ls[j].length lc) ls[j]/\ls[j].length<=9223372036854775807/\(ls[j]≠[]->∀ k,(Value.slice la ls[j].length lc).ownBlock=some k->k < w.heap.size):=by
 obtain ⟨-,B,x,r,d⟩:=h;injection r with v t A;obtain ⟨b,off,i,d⟩:=d (by intro f;rw [f] at hj;simp at hj);obtain ⟨u,o,n,q⟩:=d j hj;have g:=n;obtain ⟨la,lc,rfl,s⟩:=n;refine ⟨b,off,la,lc,v.trans i,t,o,g,q,fun f k l=>?_⟩;obtain ⟨z,y,rfl,e⟩:=s f;have p:0 < ls[j].length:=List.length_pos_iff.2 f;have:=bL (e 0 p);simp [Value.ownBlock] at l;subst l;exact this
theorem Pg {n q:Nat} {gs:List (Int × Int)} {ls:List Lab} {ins others:List (List Int)} {touch:Bool} {j:Nat} (hj:j < ins.length):(FZ n q touch gs ls ins others).take (j+1)=(FZ n q touch gs ls ins others).take j++[if CB touch q (Ar (Ax gs) n (ls.getD j ⟨[],[]⟩))=true\/others.length<=j then ins.getD j [] else others.getD j []]:=by
 have a:j < (FZ n q touch gs ls ins others).length:=by simp [FZ,hj]
 rw [List.take_succ_eq_append_getElem a];simp [FZ]
abbrev zcM (w:World) (n:Nat) (ga:Option Addr) (gn gc:Nat) (sa:Option Addr) (sn sc:Nat) (ya:Option Addr) (yn yc:Nat) (oa:Option Addr) (on oc:Nat) (va:Option Addr) (vn vc:Nat) (fa:Option Addr) (fn fc:Nat) (ba:Option Addr) (bn bc:Nat) (W:World):Prop:=Ad [zd U (n:Int),O ga gn gc,O sa sn sc,O ya yn yc,O oa on oc,O va vn vc,O fa fn fc,O ba bn bc] W w.heap.size
theorem Nz (n:Nat) (ga gn gc sa sn sc ya yn yc oa on oc va vn vc fa fn fc ba bn bc) (who:Nat) (touch:Bool) (xa xn xc qa qn qc) (gs:List (Int × Int)) (ls:List Lab) (ins others:List (List Int)) (w:World) (hg:AA w (O ga gn gc) gs) (hl:AW w (O ya yn yc) ls) (hlab:∀ b∈ls,Bb (n:Int) gs b=0) (hwho:who < n) (hx:A8 w (O xa xn xc) ins) (hq:A8 w (O qa qn qc) others) (hil:ins.length=ls.length) (hi5:ins.length<=5) :
  Calls Tryz.prog 26 #[zh #[zd U (n:Int),O ga gn gc,O sa sn sc,O ya yn yc,O oa on oc,O va vn vc,O fa fn fc,O ba bn bc],zd U (who:Int),zg touch,O xa xn xc,O qa qn qc] w fun e w'=>∃ (ma:Option Addr) (mn mc:Nat),e=zj (O ma mn mc)/\A8 w' (O ma mn mc) (FZ n who touch gs ls ins others)/\Ov w w':=by
 have I:Ov w (w.alloc (ze #[zd U (n:Int),O ga gn gc,O sa sn sc,O ya yn yc,O oa on oc,O va vn vc,O fa fn fc,O ba bn bc] 31)):=bA w _;have S:=Ad.newA #[zd U (n:Int),O ga gn gc,O sa sn sc,O ya yn yc,O oa on oc,O va vn vc,O fa fn fc,O ba bn bc] 31 w;have K1:=Aa fun W (hW:Ov w W) j hj=>Lx n ga gn gc sa sn sc ya yn yc oa on oc va vn vc fa fn fc ba bn bc who touch gs ls j hj W (Af hg hW) (hl.over hW) hlab hwho;have aq:xn=ins.length:=by obtain ⟨-,a,c,he,-⟩:=hx;injection he
 have ac:qn=others.length:=by obtain ⟨-,a,c,he,-⟩:=hq;injection he
 have ca:qn<=9223372036854775807:=by rw [ac];exact hq.1
 obtain ⟨i0,hi,ab,aa,Z⟩:=info_parts Tryz.infoSl;obtain ⟨V,hV⟩:=nm (w.alloc (ze #[zd U (n:Int),O ga gn gc,O sa sn sc,O ya yn yc,O oa on oc,O va vn vc,O fa fn fc,O ba bn bc] 31));rw [<-hV] at I;have a6:Hx (zcM w n ga gn gc sa sn sc ya yn yc oa on oc va vn vc fa fn fc ba bn bc V):=by rw [hV];exact S
 have HX:=Aa (hx.over I);have HQ:=Aa (hq.over I);have R:=Aa I;have bt:=Aa hil;have a4:=Aa aq;have a7:=Aa ac;obtain ⟨J,Q⟩:=nm (FZ n who touch gs ls ins others);have bs:Hx (∀ j (hj:j < ls.length),J.take (j+1)=J.take j++[if CB touch who (Ar (Ax gs) n ls[j])=true\/others.length<=j then ins.getD j [] else others.getD j []]):=fun j hj=>by
  have:=Pg (n:=n) (q:=who) (gs:=gs) (ls:=ls) (ins:=ins) (others:=others) (touch:=touch) (j:=j) (by rw [hil];exact hj);rw [<-Q] at this;rw [this];simp [List.getD_eq_getElem?_getD,hj]
 have a8:Hx (J.length=ins.length):=by show _=_;rw [Q];simp [FZ]
 rw [<-Q];have b9:xn<=5:=by omega
 clear hg hl hlab hx hq S I hil Q aq ac;go_enter Tryz.func26,Tryz.ntmps26;go_wp2_with fail;rw [<-hV];clear hV;go_loopw [11,12] (fun u i wr=>∃ (j:Nat) (us:List Value),i=zd U (j:Int)/\j<=xn/\GN V.heap.size u j us (J.take j) wr/\Ov V wr) (fun _ i _=>xn - (intOf i).toNat)
 case atStart=>exact ⟨0,[],rfl,Nat.zero_le _,⟨World.ownsRow_nil _ _ _ _,by simp,fun i hi=>by simp at hi⟩,Below.refl _ _⟩
 case round=>
  rename_i u11 u12;obtain ⟨j,us,rfl,hj,hM,T⟩:=hrel;by_cases hjl:j < xn;rotate_left
  ·have az:j=J.length:=by have:=a8.o;have:=a4.o;omega
   have hz:¬ (j:Int) < (xn:Int):=by omega
   rw [az,List.take_length] at hM;have au:=hM.lists (by have:(100:Nat)<=maxLen:=by decide +kernel
                omega)
   obtain ⟨ma,mn,mc,rfl⟩:=AE hM.own;have Y:=Aa (And.intro au (R.o.trans (T.mono R.o.size)));clear hM au T az;go_wp2_with fail;go_ret;exact ⟨_,_,_,rfl,Y.o.1,Y.o.2⟩
  have ay:j < ins.length:=by have:=a4.o;omega
  have ax:j < ls.length:=by have:=bt.o;omega
  have bx:(j:Int) < (xn:Int):=by omega
  obtain ⟨b0,b1,b2,b3,b4,b5,b6,b7⟩:=rc8 (a6.o.over T);have HM:=Aa hM;have F:=Aa T;have HK:=Aa (K1.o wr (R.o.trans (T.mono R.o.size)) j ax);have hT:=bs.o j ax;obtain ⟨y,hy⟩:=nm (CB touch who (Ar (Ax gs) n ls[j]));rw [<-hy] at HK hT;obtain ⟨xb,xo,H,G,bj,-,c0,P,av,as⟩:=MS HX.o ay;subst bj;replace c0:=Ab T _ _ c0;replace P:=P.over T;have a1:ins.getD j []=ins[j]:=by simp [ay]
  rw [a1] at hT;have HT:=Aa hT;have be:=Aa P;have bb:=Aa av;have a9:=Aa as;have b8:=bL c0;have a5:=Aa c0;clear hM T hT P av as a1 hy c0;go_wp2_with fail;refine (HK.o).mono ?_;rintro e W ⟨rfl,D⟩;have ce:=Aa D;cases y with
  | true=>
   have A:J.take (j+1)=J.take j++[ins[j]]:=by rw [HT.o];simp
   clear HT;have B:=HM.o.over D;have X:=Ab D _ _ a5.o;have f:=bA W (ze #[O H ins[j].length G] 25);have C:=B.over f;have d:=C.own;have m:V.heap.size<=(W.alloc (ze #[O H ins[j].length G] 25)).heap.size:=Nat.le_trans (Nat.le_trans F.o.size D.size) f.size;have p:=Aa (Ad.newA #[O H ins[j].length G] 25 W);have s:=Aa C;have t:=Aa (AN.over (be.o.over D) f);have r:Hx (ins[j]≠[]->∀ k,(Value.slice H ins[j].length G).ownBlock=some k->u11.ownBlock≠some k/\k < (W.alloc (ze #[O H ins[j].length G] 25)).heap.size):=fun hz k hk=>by
    have h1:=a9.o hz k hk;refine ⟨fun hx=>?_,?_⟩
    ·have:=(B.own.lt k hx).1
     omega
    ·have:=D.size
     have:=f.size;have:=F.o.size;omega
   have v:=Aa ((F.o.trans (D.mono F.o.size)).trans (f.mono (Nat.le_trans F.o.size D.size)));have g:=bb.o;obtain ⟨I0,E⟩:=nm ins[j];rw [<-E] at f X d m p s t r v g A;have K:=Aa A;obtain ⟨ll,z⟩:=nm I0.length;rw [<-z] at f X d m p s t r v g;have L:=Aa z;clear E z A B C HK HM;go_wp2_with (at_builtin;refine wpList_append_own_at _ rfl _ _ 52 rfl V.heap.size 25 i0 (O none 0 0) 1 24 Tryz.underlying52 hi ab aa Z rfl (by decide) _ _ _ rfl d ⟨W.heap.size,0,none⟩ 1 1 [O H ll G] rfl rfl (fun jj uu hu=>by rw [Addr.add_lit,Nat.zero_add];exact p.o jj uu hu) (by simp [Value.oneCell']) (by unfold maxLen;omega) (by omega) m ?_);intro an w5 h l _ x;have Y:=Aa (GN.snoc s.o l (by simpa using x) h t.o r.o (by rw [<-L.o];exact g));have M:=Aa (v.o.trans (B5 d l m));clear h l x d f s t r v p;go_wp2_with fail;exact ⟨⟨j+1,_,by go_num,by omega,by rw [K.o];exact Y.o,M.o⟩,by simp [intOf];omega⟩
  | false=>
   by_cases hjq:j < others.length;rotate_left
   ·have bk:(qn:Int)<=(j:Int):=by have:=a7.o;omega
    have A:J.take (j+1)=J.take j++[ins[j]]:=by rw [HT.o];simp [Nat.le_of_not_lt hjq]
    clear HT;have B:=HM.o.over D;have X:=Ab D _ _ a5.o;have f:=bA W (ze #[O H ins[j].length G] 25);have C:=B.over f;have d:=C.own;have m:V.heap.size<=(W.alloc (ze #[O H ins[j].length G] 25)).heap.size:=Nat.le_trans (Nat.le_trans F.o.size D.size) f.size;have p:=Aa (Ad.newA #[O H ins[j].length G] 25 W);have s:=Aa C;have t:=Aa (AN.over (be.o.over D) f);have r:Hx (ins[j]≠[]->∀ k,(Value.slice H ins[j].length G).ownBlock=some k->u11.ownBlock≠some k/\k < (W.alloc (ze #[O H ins[j].length G] 25)).heap.size):=fun hz k hk=>by
     have h1:=a9.o hz k hk;refine ⟨fun hx=>?_,?_⟩
     ·have:=(B.own.lt k hx).1
      omega
     ·have:=D.size
      have:=f.size;have:=F.o.size;omega
    have v:=Aa ((F.o.trans (D.mono F.o.size)).trans (f.mono (Nat.le_trans F.o.size D.size)));have g:=bb.o;obtain ⟨I0,E⟩:=nm ins[j];rw [<-E] at f X d m p s t r v g A;have K:=Aa A;obtain ⟨ll,z⟩:=nm I0.length;rw [<-z] at f X d m p s t r v g;have L:=Aa z;clear E z A B C HK HM;go_wp2_with (at_builtin;refine wpList_append_own_at _ rfl _ _ 52 rfl V.heap.size 25 i0 (O none 0 0) 1 24 Tryz.underlying52 hi ab aa Z rfl (by decide) _ _ _ rfl d ⟨W.heap.size,0,none⟩ 1 1 [O H ll G] rfl rfl (fun jj uu hu=>by rw [Addr.add_lit,Nat.zero_add];exact p.o jj uu hu) (by simp [Value.oneCell']) (by unfold maxLen;omega) (by omega) m ?_);intro an w5 h l _ x;have Y:=Aa (GN.snoc s.o l (by simpa using x) h t.o r.o (by rw [<-L.o];exact g));have M:=Aa (v.o.trans (B5 d l m));clear h l x d f s t r v p;go_wp2_with fail;exact ⟨⟨j+1,_,by go_num,by omega,by rw [K.o];exact Y.o,M.o⟩,by simp [intOf];omega⟩
   have bk:¬ (qn:Int)<=(j:Int):=by have:=a7.o;omega
   have A:J.take (j+1)=J.take j++[others[j]]:=by rw [HT.o];simp [Nat.not_le_of_lt hjq,hjq]
   obtain ⟨qb,qo,za,zc,bl,-,z0,N,al,ak⟩:=MS HQ.o hjq;subst bl;replace z0:=Ab F.o _ _ z0;replace N:=N.over F.o;have br:=Aa z0;have bq:=Aa N;have bp:=Aa al;have bo:=Aa ak;have bw:(j:Int) < (qn:Int):=by omega
   clear z0 N al ak HT;have B:=HM.o.over D;have X:=Ab D _ _ br.o;have f:=bA W (ze #[O za others[j].length zc] 25);have C:=B.over f;have d:=C.own;have m:V.heap.size<=(W.alloc (ze #[O za others[j].length zc] 25)).heap.size:=Nat.le_trans (Nat.le_trans F.o.size D.size) f.size;have p:=Aa (Ad.newA #[O za others[j].length zc] 25 W);have s:=Aa C;have t:=Aa (AN.over (bq.o.over D) f);have r:Hx (others[j]≠[]->∀ k,(Value.slice za others[j].length zc).ownBlock=some k->u11.ownBlock≠some k/\k < (W.alloc (ze #[O za others[j].length zc] 25)).heap.size):=fun hz k hk=>by
    have h1:=bo.o hz k hk;refine ⟨fun hx=>?_,?_⟩
    ·have:=(B.own.lt k hx).1
     omega
    ·have:=D.size
     have:=f.size;have:=F.o.size;omega
   have v:=Aa ((F.o.trans (D.mono F.o.size)).trans (f.mono (Nat.le_trans F.o.size D.size)));have g:=bp.o;obtain ⟨I0,E⟩:=nm others[j];rw [<-E] at f X d m p s t r v g A;have K:=Aa A;obtain ⟨ll,z⟩:=nm I0.length;rw [<-z] at f X d m p s t r v g;have L:=Aa z;clear E z A B C HK HM;go_wp2_with (at_builtin;refine wpList_append_own_at _ rfl _ _ 52 rfl V.heap.size 25 i0 (O none 0 0) 1 24 Tryz.underlying52 hi ab aa Z rfl (by decide) _ _ _ rfl d ⟨W.heap.size,0,none⟩ 1 1 [O za ll zc] rfl rfl (fun jj uu hu=>by rw [Addr.add_lit,Nat.zero_add];exact p.o jj uu hu) (by simp [Value.oneCell']) (by unfold maxLen;omega) (by omega) m ?_);intro an w5 h l _ x;have Y:=Aa (GN.snoc s.o l (by simpa using x) h t.o r.o (by rw [<-L.o];exact g));have M:=Aa (v.o.trans (B5 d l m));clear h l x d f s t r v p;go_wp2_with fail;exact ⟨⟨j+1,_,by go_num,by omega,by rw [K.o];exact Y.o,M.o⟩,by simp [intOf];omega⟩
def Q0 (kd:Int) (done:Bool):List Ev4->List Ev4->Prop
 | x::a,y::b=>(x=y/\Q0 kd done a b)\/(x≠y/\x.1=kd/\y.1=kd/\x.2.1=y.2.1/\x.2.2.1=y.2.2.1)
 | [],[]=>True
 | _,_=>done=false
theorem N7 (la ln lc ma mn mc) (kd:Int) (done:Bool) (l m:List Ev4) (w:World) (hl:EvL w (O la ln lc) l) (hm:EvL w (O ma mn mc) m) (hA:Q0 kd done l m) :
  Calls Tryz.prog 28 #[O la ln lc,O ma mn mc,zd U kd,zg done] w fun e w'=>e=zj (zg true)/\Ov w w':=by
 have H:ln=l.length:=by obtain ⟨-,a,c,J,-⟩:=hl;injection J
 have F:mn=m.length:=by obtain ⟨-,a,c,J,-⟩:=hm;injection J
 have ao:l.length<=9223372036854775807:=hl.1;have an:m.length<=9223372036854775807:=hm.1;have HL:=Aa hl;have HM:=Aa hm;have HA:=Aa hA;subst H F;clear hl hm hA;go_enter Tryz.func28,Tryz.ntmps28;go_wp2_with fail;go_loopw [9] (fun i wr=>∃ j:Nat,i=zd U (j:Int)/\j<=l.length/\j<=m.length/\Q0 kd done (l.drop j) (m.drop j)/\Ov w wr) (fun i _=>l.length - (intOf i).toNat)
 case atStart=>exact ⟨0,rfl,Nat.zero_le _,Nat.zero_le _,HA.o,Below.refl _ _⟩
 case round=>
  obtain ⟨j,rfl,aq,ap,b,v⟩:=hrel;have h:=Aa v;by_cases h1:j < l.length;rotate_left
  ·have k:¬ (j:Int) < (l.length:Int):=by omega
   have d:l.drop j=[]:=List.drop_eq_nil_of_le (by omega);have HD:Hx (done=true->l.length=m.length):=fun K=>by
    rw [d] at b;by_cases h2:j < m.length
    ·rw [List.drop_eq_getElem_cons h2] at b
     exact absurd b (by show ¬ done=false;simp [K])
    ·omega
   clear b d v;cases done with
   | false=>
    go_wp2_with fail;go_ret;exact ⟨rfl,h.o⟩
   | true=>
    have as:((l.length:Int) == (m.length:Int))=true:=by rw [HD.o rfl];simp
    go_wp2_with fail;go_ret;exact ⟨rfl,h.o⟩
  by_cases h2:j < m.length;rotate_left
  ·have hy:(j:Int) < (l.length:Int):=by omega
   have k:¬ (j:Int) < (m.length:Int):=by omega
   have d:m.drop j=[]:=List.drop_eq_nil_of_le (by omega);have K:done=false:=by
    rw [d,List.drop_eq_getElem_cons h1] at b;exact b
   subst K;clear b d v;go_wp2_with fail;go_ret;exact ⟨rfl,h.o⟩
  rw [List.drop_eq_getElem_cons h1,List.drop_eq_getElem_cons h2] at b;obtain ⟨-,lo,ab,I,s⟩:=HL.o;injection I with e1 e2 e3;obtain ⟨lb,aa,q,g⟩:=s (by intro k;rw [k] at h1;simp at h1);obtain ⟨X,W,V,T⟩:=g j h1;have M:=e1.trans q;subst M;obtain ⟨-,mo,Z,G,r⟩:=HM.o;injection G with f1 f2 f3;obtain ⟨mb,Y,p,f⟩:=r (by intro k;rw [k] at h2;simp at h2);obtain ⟨S,R,Q,P⟩:=f j h2;have L:=f1.trans p;subst L;obtain ⟨E,D,C,B,A,z,y,x⟩:=co8 v X W V T S R Q P;obtain ⟨E1,u⟩:=nm (l[j]);obtain ⟨E2,t⟩:=nm (m[j]);rw [<-u] at E D C B b;rw [<-t] at A z y x b;have i1:(j:Int) < (l.length:Int):=by omega
  have i2:(j:Int) < (m.length:Int):=by omega
  clear s g r f X W V T S R Q P e1 e2 e3 f1 f2 f3 q p u t v;rcases b with ⟨rfl,b⟩ | ⟨n,k0,k1,k2,k3⟩
  ·have HT:=Aa b
   obtain ⟨x0,x1,x2,N⟩:=E1;dsimp only at E D C B A z y x;clear b;go_wp2_with fail;go_region;go_wp2_with fail;exact ⟨⟨j+1,by go_num,h1,h2,HT.o,h.o.trans ((below_drewN (Below.refl _ _) 1).mono h.o.size)⟩,by simp [intOf];omega⟩
  ·obtain ⟨x0,x1,x2,N⟩:=E1
   obtain ⟨y0,y1,y2,y3⟩:=E2;dsimp only at E D C B A z y x k0 k1 k2 k3;subst k0 k1 k2 k3;have au:(N == y3)=false:=by
    rw [beq_eq_false_iff_ne];intro hh;exact n (by rw [hh])
   clear n;go_wp2_with fail;go_region;go_wp2_with fail;go_region;go_wp2_with fail;go_ret;exact ⟨rfl,h.o.trans ((below_drewN (Below.refl _ _) 2).mono h.o.size)⟩
theorem Alk.d {kd:Int}:∀ {l m:List Ev4},Alk kd l m->Q0 kd false l m
 | [],[],_=>trivial
 | [],_::_,_=>rfl
 | _::_,[],_=>rfl
 | _::_,_::_,h=>h.elim (fun h=>Or.inl ⟨h.1,Alk.d h.2⟩) Or.inr
def fd:List Ev4->List Ev4->Nat
 | a::l,b::m=>if a=b then fd l m+1 else 0
 | _,_=>0
def D2 (l m:List Ev4):Int:=if fd l m=l.length/\fd l m=m.length then -1 else (fd l m:Int)
theorem Ld:∀ (j:Nat) (l m:List Ev4),j<=l.length->j<=m.length->l.take j=m.take j->(j=l.length\/j=m.length\/l[j]?≠m[j]?)->fd l m=j
 | 0,[],m,_,_,_,_=>by cases m <;> rfl
 | 0,a::l,[],_,_,_,_=>rfl
 | 0,a::l,b::m,_,_,_,h=>by
  have hne:a≠b:=fun he=>by
   rcases h with h | h | h
   ·simp at h
   ·simp at h
   ·exact h (by simp [he])
  simp [fd,hne]
 | j+1,[],m,h,_,_,_=>by simp at h
 | j+1,a::l,[],_,h,_,_=>by simp at h
 | j+1,a::l,b::m,h1,h2,h3,h4=>by
  simp only [List.take_succ_cons,List.cons.injEq] at h3;obtain ⟨rfl,h3⟩:=h3;have:=Ld j l m (by simpa using h1) (by simpa using h2) h3 (by simpa using h4);simp [fd,this]
theorem IG {l m:List Ev4} {j:Nat} (h:l.take j=m.take j) (h1:j < l.length) (h2:j < m.length) (he:l[j]=m[j]):l.take (j+1)=m.take (j+1):=by
 rw [List.take_succ_eq_append_getElem h1,List.take_succ_eq_append_getElem h2,h,he]
theorem I8 (la ln lc ma mn mc) (l m:List Ev4) (w:World) (hl:EvL w (O la ln lc) l) (hm:EvL w (O ma mn mc) m) :
  Calls Tryz.prog 75 #[O la ln lc,O ma mn mc] w fun e w'=>e=zj (zd U (D2 l m))/\Ov w w':=by
 have ax:ln=l.length:=by obtain ⟨-,a,c,he,-⟩:=hl;injection he
 have aw:mn=m.length:=by obtain ⟨-,a,c,he,-⟩:=hm;injection he
 have bk:l.length<=9223372036854775807:=hl.1;have bj:m.length<=9223372036854775807:=hm.1;have HL:=Aa hl;have HM:=Aa hm;subst ax aw;clear hl hm;have x:∀ j,fd l m=j->j < l.length->D2 l m=(j:Int):=fun j h1 h2=>by
  unfold D2;rw [h1,if_neg (by omega)]
 by_cases hlt:m.length < l.length
 ·go_enter Tryz.func75,Tryz.ntmps75
  go_wp2_with fail;go_loopw [13] (fun i wr=>∃ j:Nat,i=zd U (j:Int)/\j<=m.length/\l.take j=m.take j/\Ov w wr) (fun i _=>m.length - (intOf i).toNat)
  case atStart=>exact ⟨0,rfl,Nat.zero_le _,by simp,Below.refl _ _⟩
  case round=>
   obtain ⟨j,rfl,hj,p,H⟩:=hrel;by_cases hjB:j < m.length;rotate_left
   ·have A:j=m.length:=by omega
    have B:=Ld j l m (by omega) (by omega) p (Or.inr (Or.inl A));have E:D2 l m=if l.length=m.length then -1 else (m.length:Int):=by
     unfold D2;rw [B,A];by_cases hq:l.length=m.length
     ·rw [if_pos (by omega),if_pos hq]
     ·rw [if_neg (by omega),if_neg hq]
    have I:=Aa E;have n:=Aa H;clear E H p x B;by_cases hq:l.length=m.length
    ·have K:((l.length:Int) == (m.length:Int))=true:=by simp [hq]
     go_wp2_with fail;go_ret;exact ⟨by rw [I.o,if_pos hq];rfl,n.o⟩
    ·have K:((l.length:Int) == (m.length:Int))=false:=by simp;omega
     go_wp2_with fail;go_ret;exact ⟨by rw [I.o,if_neg hq];rfl,n.o⟩
   have d:j < l.length:=by omega
   have q:j < m.length:=by omega
   obtain ⟨-,lo,as,M,D⟩:=HL.o;injection M with e1 e2 e3;obtain ⟨lb,ar,z,u⟩:=D (by intro J;rw [J] at d;simp at d);obtain ⟨p0,p1,p2,p3⟩:=u j d;have P:=e1.trans z;subst P;obtain ⟨-,mo,aq,L,C⟩:=HM.o;injection L with f1 f2 f3;obtain ⟨mb,ap,y,t⟩:=C (by intro J;rw [J] at q;simp at q);obtain ⟨r0,r1,r2,r3⟩:=t j q;have N:=f1.trans y;subst N;obtain ⟨q0,q1,q2,q3,s0,s1,s2,Z⟩:=co8 H p0 p1 p2 p3 r0 r1 r2 r3;have s:l[j]=m[j]->l.take (j+1)=m.take (j+1):=fun h=>IG p d q h;have r:l[j]≠m[j]->fd l m=j:=fun h=>Ld j l m (by omega) (by omega) p (Or.inr (Or.inr (by rw [List.getElem?_eq_getElem d,List.getElem?_eq_getElem q];intro hh;exact h (Option.some.inj hh))));obtain ⟨E1,G⟩:=nm (l[j]);obtain ⟨E2,F⟩:=nm (m[j]);rw [<-G] at q0 q1 q2 q3 s r;rw [<-F] at s0 s1 s2 Z s r;obtain ⟨Y,X,W,V⟩:=E1;obtain ⟨T,S,R,Q⟩:=E2;dsimp only at q0 q1 q2 q3 s0 s1 s2 Z;have k:=Aa s;have f:=Aa r;have n:=Aa H;have g:=Aa x;have i1:(j:Int) < (l.length:Int):=by omega
   have i2:(j:Int) < (m.length:Int):=by omega
   clear D u C t p0 p1 p2 p3 r0 r1 r2 r3 e1 e2 e3 f1 f2 f3 z y s r G F H x p;by_cases d0:Y=T;rotate_left
   ·have a3:(Y == T)=false:=by simpa using d0
    have b:=f.o (by intro h;simp only [Prod.mk.injEq] at h;exact d0 (by simp [h]));have v:=Aa (g.o j b d);clear b f k g d0;go_wp2_with fail;go_region;go_wp2_with fail;go_ret;exact ⟨by rw [v.o];rfl,n.o.trans ((below_drewN (Below.refl _ _) 1).mono n.o.size)⟩
   subst d0;by_cases d1:X=S;rotate_left
   ·have a2:(X == S)=false:=by simpa using d1
    have b:=f.o (by intro h;simp only [Prod.mk.injEq] at h;exact d1 (by simp [h]));have v:=Aa (g.o j b d);clear b f k g d1;go_wp2_with fail;go_region;go_wp2_with fail;go_ret;exact ⟨by rw [v.o];rfl,n.o.trans ((below_drewN (Below.refl _ _) 1).mono n.o.size)⟩
   subst d1;by_cases d2:W=R;rotate_left
   ·have a1:(W == R)=false:=by simpa using d2
    have b:=f.o (by intro h;simp only [Prod.mk.injEq] at h;exact d2 (by simp [h]));have v:=Aa (g.o j b d);clear b f k g d2;go_wp2_with fail;go_region;go_wp2_with fail;go_ret;exact ⟨by rw [v.o];rfl,n.o.trans ((below_drewN (Below.refl _ _) 1).mono n.o.size)⟩
   subst d2;by_cases d3:V=Q;rotate_left
   ·have a0:(V == Q)=false:=by simpa using d3
    have b:=f.o (by intro h;simp only [Prod.mk.injEq] at h;exact d3 (by simp [h]));have v:=Aa (g.o j b d);clear b f k g d3;go_wp2_with fail;go_region;go_wp2_with fail;go_ret;exact ⟨by rw [v.o];rfl,n.o.trans ((below_drewN (Below.refl _ _) 1).mono n.o.size)⟩
   subst d3;have HT:=Aa (k.o rfl);clear f k g;go_wp2_with fail;go_region;go_wp2_with fail;exact ⟨⟨j+1,by go_num,by omega,HT.o,n.o.trans ((below_drewN (Below.refl _ _) 1).mono n.o.size)⟩,by simp [intOf];omega⟩
 ·go_enter Tryz.func75,Tryz.ntmps75
  go_wp2_with fail;go_loopw [13] (fun i wr=>∃ j:Nat,i=zd U (j:Int)/\j<=l.length/\l.take j=m.take j/\Ov w wr) (fun i _=>l.length - (intOf i).toNat)
  case atStart=>exact ⟨0,rfl,Nat.zero_le _,by simp,Below.refl _ _⟩
  case round=>
   obtain ⟨j,rfl,hj,p,H⟩:=hrel;by_cases hjB:j < l.length;rotate_left
   ·have A:j=l.length:=by omega
    have B:=Ld j l m (by omega) (by omega) p (Or.inl A);have E:D2 l m=if l.length=m.length then -1 else (l.length:Int):=by
     unfold D2;rw [B,A];by_cases hq:l.length=m.length
     ·rw [if_pos (by omega),if_pos hq]
     ·rw [if_neg (by omega),if_neg hq]
    have I:=Aa E;have n:=Aa H;clear E H p x B;by_cases hq:l.length=m.length
    ·have K:((l.length:Int) == (m.length:Int))=true:=by simp [hq]
     go_wp2_with fail;go_ret;exact ⟨by rw [I.o,if_pos hq];rfl,n.o⟩
    ·have K:((l.length:Int) == (m.length:Int))=false:=by simp;omega
     go_wp2_with fail;go_ret;exact ⟨by rw [I.o,if_neg hq];rfl,n.o⟩
   have d:j < l.length:=by omega
   have q:j < m.length:=by omega
   obtain ⟨-,lo,as,M,D⟩:=HL.o;injection M with e1 e2 e3;obtain ⟨lb,ar,z,u⟩:=D (by intro J;rw [J] at d;simp at d);obtain ⟨p0,p1,p2,p3⟩:=u j d;have P:=e1.trans z;subst P;obtain ⟨-,mo,aq,L,C⟩:=HM.o;injection L with f1 f2 f3;obtain ⟨mb,ap,y,t⟩:=C (by intro J;rw [J] at q;simp at q);obtain ⟨r0,r1,r2,r3⟩:=t j q;have N:=f1.trans y;subst N;obtain ⟨q0,q1,q2,q3,s0,s1,s2,Z⟩:=co8 H p0 p1 p2 p3 r0 r1 r2 r3;have s:l[j]=m[j]->l.take (j+1)=m.take (j+1):=fun h=>IG p d q h;have r:l[j]≠m[j]->fd l m=j:=fun h=>Ld j l m (by omega) (by omega) p (Or.inr (Or.inr (by rw [List.getElem?_eq_getElem d,List.getElem?_eq_getElem q];intro hh;exact h (Option.some.inj hh))));obtain ⟨E1,G⟩:=nm (l[j]);obtain ⟨E2,F⟩:=nm (m[j]);rw [<-G] at q0 q1 q2 q3 s r;rw [<-F] at s0 s1 s2 Z s r;obtain ⟨Y,X,W,V⟩:=E1;obtain ⟨T,S,R,Q⟩:=E2;dsimp only at q0 q1 q2 q3 s0 s1 s2 Z;have k:=Aa s;have f:=Aa r;have n:=Aa H;have g:=Aa x;have i1:(j:Int) < (l.length:Int):=by omega
   have i2:(j:Int) < (m.length:Int):=by omega
   clear D u C t p0 p1 p2 p3 r0 r1 r2 r3 e1 e2 e3 f1 f2 f3 z y s r G F H x p;by_cases d0:Y=T;rotate_left
   ·have a3:(Y == T)=false:=by simpa using d0
    have b:=f.o (by intro h;simp only [Prod.mk.injEq] at h;exact d0 (by simp [h]));have v:=Aa (g.o j b d);clear b f k g d0;go_wp2_with fail;go_region;go_wp2_with fail;go_ret;exact ⟨by rw [v.o];rfl,n.o.trans ((below_drewN (Below.refl _ _) 1).mono n.o.size)⟩
   subst d0;by_cases d1:X=S;rotate_left
   ·have a2:(X == S)=false:=by simpa using d1
    have b:=f.o (by intro h;simp only [Prod.mk.injEq] at h;exact d1 (by simp [h]));have v:=Aa (g.o j b d);clear b f k g d1;go_wp2_with fail;go_region;go_wp2_with fail;go_ret;exact ⟨by rw [v.o];rfl,n.o.trans ((below_drewN (Below.refl _ _) 1).mono n.o.size)⟩
   subst d1;by_cases d2:W=R;rotate_left
   ·have a1:(W == R)=false:=by simpa using d2
    have b:=f.o (by intro h;simp only [Prod.mk.injEq] at h;exact d2 (by simp [h]));have v:=Aa (g.o j b d);clear b f k g d2;go_wp2_with fail;go_region;go_wp2_with fail;go_ret;exact ⟨by rw [v.o];rfl,n.o.trans ((below_drewN (Below.refl _ _) 1).mono n.o.size)⟩
   subst d2;by_cases d3:V=Q;rotate_left
   ·have a0:(V == Q)=false:=by simpa using d3
    have b:=f.o (by intro h;simp only [Prod.mk.injEq] at h;exact d3 (by simp [h]));have v:=Aa (g.o j b d);clear b f k g d3;go_wp2_with fail;go_region;go_wp2_with fail;go_ret;exact ⟨by rw [v.o];rfl,n.o.trans ((below_drewN (Below.refl _ _) 1).mono n.o.size)⟩
   subst d3;have HT:=Aa (k.o rfl);clear f k g;go_wp2_with fail;go_region;go_wp2_with fail;exact ⟨⟨j+1,by go_num,by omega,HT.o,n.o.trans ((below_drewN (Below.refl _ _) 1).mono n.o.size)⟩,by simp [intOf];omega⟩
def Gw (n:Nat):Array Value:=(List.replicate n (Value.slice none 0 0)).toArray
theorem Tryz.infoLL:(Tryz.prog.info? 25).map (fun i=>(i.zero,i.size,i.bytes))=some (some (O none 0 0),1,24):=by kernel_rfl
theorem St (n:Nat) (hn:n<=100) (w:World):(Instr.makeSlice 52 (zd U n) (zd U n)).run Tryz.prog w=.ok (O (some ⟨w.heap.size,0,none⟩) n n) (w.alloc (.cells (Gw n) 25)):=by
 obtain ⟨i,d,c,b,a⟩:=info_parts Tryz.infoLL;have:=run_make (P:=Tryz.prog) w 52 25 i (O none 0 0) Tryz.underlying52 d c U U (n:Int) (n:Int) (by omega) (by omega) (by rw [a];omega) (by omega);rw [this,b];simp only [Int.toNat_natCast,Nat.mul_one];have e:madeCells (Value.slice none 0 0).cells n=Gw n:=by
  unfold Gw;apply Array.ext
  ·simp [madeCells]
  ·intro j b a
   simp [madeCells,Value.cells,Nat.mod_one]
 rw [e]
theorem LX (K kf n:Nat) (ga gn gc sa sn sc ya yn yc oa on oc va vn vc fa fn fc ba bn bc) (who:Nat) (touch:Bool) (xa:Option Addr) (xc:Nat) (gs sp ls ms vs fs l) (w:World) (h:BD K kf (n:Int) ga gn gc sa sn sc ya yn yc oa on oc va vn vc fa fn fc ba bn bc gs sp ls ms vs fs l w) (hX:Ey.xP K kf (n:Int) vn yn on sn gs sp ls ms vs fs l) (hwho:who < n) (hno:∀ b∈ls,CB touch who (Ar (Ax gs) n b)=false) :
  Calls Tryz.prog 74 #[zh #[zd U (n:Int),O ga gn gc,O sa sn sc,O ya yn yc,O oa on oc,O va vn vc,O fa fn fc,O ba bn bc],zd U (who:Int),zg touch,O xa yn xc] w fun e w'=>∃ b,e=zj (zk #[O (some ⟨b,0,none⟩) yn yn,zd U 0])/\Ad (List.replicate yn (O none 0 0)) w' b/\Ov w w':=by
 have k:Ov w (w.alloc (ze #[zd U (n:Int),O ga gn gc,O sa sn sc,O ya yn yc,O oa on oc,O va vn vc,O fa fn fc,O ba bn bc] 31)):=bA w _;have g:=Ad.newA #[zd U (n:Int),O ga gn gc,O sa sn sc,O ya yn yc,O oa on oc,O va vn vc,O fa fn fc,O ba bn bc] 31 w;have M:=Aa (EZ K kf (n:Int) ga gn gc sa sn sc ya yn yc oa on oc va vn vc fa fn fc ba bn bc (who:Int) gs sp ls ms vs fs l _ (h.over k));have A:yn=ls.length:=by obtain ⟨-,a,c,S,-⟩:=h.ins;injection S
 have s:∀ b∈ls,Bb (n:Int) gs b=0:=fun b V=>hX.labs.1 b (List.mem_append_left _ V);have G:n<=6:=by obtain ⟨n',h1,-,h2,-⟩:=Dr hX.chk;omega
 have Q:yn<=5:=hX.ok.ins;have L:=Aa fun W (hW:Ov w W)=>FJ n ga gn gc sa sn sc ya yn yc oa on oc va vn vc fa fn fc ba bn bc who touch ya yn yc gs ls W (Af h.grants hW) (h.ins.over hW) s hwho G (by omega);have mk:=St yn (by omega);have HX:=Aa hX;have E:=Aa k;have I:=Aa g;have D:=Aa A;have J:=Aa hno;obtain ⟨a0,a1,a2,a3,a4,a5,a6,a7⟩:=rc8 g;clear h hX g s hno A k;go_enter Tryz.func74,Tryz.ntmps74;go_wp2_with fail;refine (M.o).mono ?_;rintro e p ⟨F,rfl,q,m⟩;have X:F=0:=q.2 ⟨HX.o,by omega,by omega⟩;subst X;have x:=E.o.trans (m.mono E.o.size);have d:=I.o.over m;have u:Ov p (p.alloc (.cells (Gw yn) 25)):=bA p _;have f:=d.over u;have y:=Aa (x.trans (u.mono x.size));have B:=Aa (L.o (p.alloc (.cells (Gw yn) 25)) y.o);have r:Ad (List.replicate yn (O none 0 0)) (p.alloc (.cells (Gw yn) 25)) p.heap.size:=by
  have:=Ad.newA (Gw yn) 25 p;simpa [Gw] using this
 have C:=Aa r;obtain ⟨b0,b1,b2,b3,b4,b5,b6,b7⟩:=rc8 d;obtain ⟨c0,c1,c2,c3,c4,c5,Z,Y⟩:=rc8 f;clear M L q m x d f u r a0 a1 a2 a3 a4 a5 a6 a7;go_wp2_with fail;refine (B.o).mono ?_;rintro e P ⟨bb,rfl,m,T,z,v⟩;rw [<-D.o];have H:=Aa z;have N:=Aa (And.intro (C.o.over v) (y.o.trans (v.mono y.o.size)));clear z v B b0 b1 b2 b3 b4 b5 b6 b7 c0 c1 c2 c3 c4 c5 Z Y;go_wp2_with fail;go_loopw [37] (fun i wr=>∃ j:Nat,i=zd U (j:Int)/\j<=yn/\wr=P) (fun i _=>yn - (intOf i).toNat)
 case atStart=>exact ⟨0,rfl,Nat.zero_le _,rfl⟩
 case round=>
  obtain ⟨j,rfl,hj,rfl⟩:=hrel;by_cases hjl:j < yn
  ·have t:j < ls.length:=by rw [<-D.o];exact hjl
   have hx:CE wr bb j (zg false):=by
    have:=H.o.row j (zg (CB touch who (Ar (Ax gs) n ls[j]))) (by simp [t]);rw [J.o ls[j] (List.getElem_mem t)] at this;exact this
   have R:(j:Int) < (yn:Int):=by omega
   clear t;go_wp2_with fail;exact ⟨⟨j+1,by go_num,by omega,by first | rfl | trivial⟩,by simp [intOf];omega⟩
  ·go_wp2_with fail
   go_ret2
   exact ⟨p.heap.size,rfl,N.o.1,N.o.2⟩
theorem PK:∀ b∈[JK],CB false 1 (Ar (Ax []) 2 b)=false:=by
 intro b a;simp at a;subst a;rfl
theorem PJ:∀ VB,[((1:Int),(1:Int),(0:Int),(7:Int))].filter (Dh (Gt 2 false 1 [] [⟨[],[]⟩]) VB)=[(1,1,0,7)]:=fun VB=>rfl
theorem NZ:∀ VB,[((1:Int),(1:Int),(0:Int),(7:Int))].filter (Dh (Gt 2 true 1 [] [⟨[],[]⟩]) VB)=[]:=fun VB=>rfl
abbrev ev1:List Ev4:=[((1:Int),(1:Int),(0:Int),(7:Int))]
theorem Il (w:World):Calls Tryz.prog 24 #[] w fun e w'=>e=zj (zg true)/\Ov w w':=by
 have t:Ov w (w.alloc (ze #[zd U 1,zd U 1,zd U 0,zd U 7] 136)):=bA w _;have s:=Ad.newA #[zd U 1,zd U 1,zd U 0,zd U 7] 136 w;have P:Ft (w.alloc (ze #[zd U 1,zd U 1,zd U 0,zd U 7] 136)) (O (some ⟨w.heap.size,0,none⟩) 1 1) ev1:=⟨_,_,rfl,by simp,by simp [maxLen],fun _=>⟨w.heap.size,rfl,s⟩⟩;have KB:=Aa Ia;have KI:=Aa fun (k i g j r:Nat) (xa:Option Addr) (xc:Nat) W (hb:Bad k i g j r W)=>LX 1 1 2 none 0 0 none 0 0 (some ⟨k,0,none⟩) 1 1 (some ⟨i,0,none⟩) 1 1 (some ⟨g,0,none⟩) 1 1 none 0 0 (some ⟨j,0,none⟩) 2 2 1 false xa xc [] [] [JK] [⟨[],[]⟩] [(false,⟨[],[]⟩)] [] [sm1,sm2] W (JJ hb) SL (by decide) PK;have KE:=Aa fun (z:Bool) (k i g j r:Nat) W (hb:Bad k i g j r W) (hE:EvL W (O (some ⟨w.heap.size,0,none⟩) 1 1) ev1)=>H4 1 1 2 none 0 0 none 0 0 (some ⟨k,0,none⟩) 1 1 (some ⟨i,0,none⟩) 1 1 (some ⟨g,0,none⟩) 1 1 none 0 0 (some ⟨j,0,none⟩) 2 2 1 z (some ⟨w.heap.size,0,none⟩) 1 1 ev1 [] [] [JK] [⟨[],[]⟩] [(false,⟨[],[]⟩)] [] [sm1,sm2] W (JJ hb) hE (by simp) SL (by decide) (by decide);have ah:=Aa t;have ay:=Aa P;clear t s P;go_enter Tryz.func24,Tryz.ntmps24;go_wp2_with fail;refine (KB.o _).mono ?_;rintro e I ⟨k,i,g,j,r,rfl,a,q⟩;have F:=ah.o.trans (q.mono ah.o.size);have b:Ov I ((I.alloc (ze #[zd U 5] 3)).alloc (ze #[O (some ⟨I.heap.size,0,none⟩) 1 1] 25)):=(bA I _).alloc (by simp) _;have R:=Aa (KI.o k i g j r (some ⟨I.heap.size+1,0,none⟩) 1 _ ⟨a.ins.over b,a.pol.over b,a.outs.over b,a.vars.over b,a.main.over b⟩);have ax:=Aa (ay.o.over (q.trans (b.mono q.size)));have af:=Aa (F.trans (b.mono F.size));clear a q F b;unfold Mt;go_wp2_with fail;refine (R.o).mono ?_;rintro e w3 ⟨b3,rfl,J,D⟩;have aw:=Aa (ax.o.over D);have ae:=Aa (af.o.trans (D.mono af.o.size));have au:=Aa J;clear KI R D J;go_wp2_with fail;refine (KB.o _).mono ?_;rintro e w4 ⟨k,i,g,j,r,rfl,a,p⟩;have X:=Aa (aw.o.over p);have ad:=Aa (ae.o.trans (p.mono ae.o.size));have as:=Aa (au.o.over p);have T:=Aa (KE.o false k i g j r w4 a X.o.evL);clear a p;unfold Mt;go_wp2_with fail;refine (T.o).mono ?_;rintro e w5 ⟨st,v5,rfl,-,-,B,n⟩;rw [PJ] at B;have E:=Ft.of_own B;obtain ⟨xa,xc,al,-⟩:=id E;subst al;have ap:=Aa E;have av:=Aa (X.o.over n);have ac:=Aa (ad.o.trans (n.mono ad.o.size));have ar:=Aa (as.o.over n);clear n B E T;go_wp2_with fail;refine (KB.o _).mono ?_;rintro e w6 ⟨k,i,g,j,r,rfl,a,d⟩;have V:=Aa (av.o.over d);have ao:=Aa (ap.o.over d);have ab:=Aa (ac.o.trans (d.mono ac.o.size));have aq:=Aa (ar.o.over d);have S:=Aa (KE.o true k i g j r w6 a V.o.evL);clear a d KB KE;unfold Mt;go_wp2_with fail;refine (S.o).mono ?_;rintro e w7 ⟨a8,v7,rfl,-,-,A,c⟩;rw [NZ] at A;have N:=Ft.of_own (l:=[]) A;obtain ⟨ya,yc,ak,-⟩:=id N;subst ak;have f:=V.o.over c;have M:=ao.o.over c;have Q:=ab.o.trans (c.mono ab.o.size);have r0:=(aq.o.over c) 0 _ rfl;have KS:=Aa (Io ev1 _ _ w7 M f (by simp));have H:=Aa fun W (hW:Ov w7 W)=>I8 (some ⟨w.heap.size,0,none⟩) 1 1 (some ⟨w.heap.size,0,none⟩) 1 1 ev1 ev1 W (f.over hW).evL (f.over hW).evL;have G:=Aa fun W (hW:Ov w7 W)=>I8 (some ⟨w.heap.size,0,none⟩) 1 1 none 0 0 ev1 [] W (f.over hW).evL ⟨by simp [maxLen],none,0,rfl,fun h=>absurd rfl h⟩;have L:D2 ev1 ev1=-1:=by decide
 have K:D2 ev1 []=0:=by decide
 rw [L] at H;rw [K] at G;have aa:=Aa Q;clear c A N S f M Q L K;go_wp2_with fail;refine (KS.o).mono ?_;rintro e w8 ⟨rfl,m⟩;have Z:=Aa (aa.o.trans (m.mono aa.o.size));have x:=Aa (H.o w8 m);have y:=Aa m;clear KS m H;go_wp2_with fail;refine (x.o).mono ?_;rintro e w9 ⟨rfl,C⟩;have Y:=Aa (Z.o.trans (C.mono Z.o.size));have v:=Aa (G.o w9 (y.o.trans (C.mono y.o.size)));clear x C G;go_wp2_with fail;refine (v.o).mono ?_;rintro e a7 ⟨rfl,u⟩;have ag:=Aa (Y.o.trans (u.mono Y.o.size));clear v u;go_wp2_with fail;go_ret;exact ⟨by first | rfl | simp,ag.o⟩
def Fa (K kf:Nat) (m:Int) (vn yn on sn:Nat) (gs:List (Int × Int)) (sp:List Int) (ls ms:List Lab) (vs:List (Bool × Lab)) (fs:List FnD) (l:List D) (ins:List (List Int)) (fuel:Int) (B:Nat) (v:Value) (w:World):Prop:=
 okR K kf m vn yn on sn gs sp ls ms vs fs l ins fuel/\∃ (n:Nat) (st:ISt),m=n/\B2 n K kf gs vs ls fs l st/\w.ownsRow B 136 4 v (Bz n K kf fuel.toNat ins gs ls ms vs fs l (BH n K kf gs sp st.vs st.fs vs ls ms fs l) vn yn).ev.length (Bi (Bz n K kf fuel.toNat ins gs ls ms vs fs l (BH n K kf gs sp st.vs st.fs vs ls ms fs l) vn yn).ev)/\(Bz n K kf fuel.toNat ins gs ls ms vs fs l (BH n K kf gs sp st.vs st.fs vs ls ms fs l) vn yn).ev.length<=2000
def RI (K kf:Nat) (m:Int) (vn yn on sn:Nat) (gs:List (Int × Int)) (sp:List Int) (ls ms:List Lab) (vs:List (Bool × Lab)) (fs:List FnD) (l:List D) (ins:List (List Int)) (fuel:Int) (w:World) (e:Ending) (w':World):Prop:=
 ∃ (why:Int) (e1:Option Addr) (e2 e3:Nat) (a4:Option Addr) (a5 a6:Nat) (a7:Option Addr) (a8 a9:Nat) (x y z:Int) (l1:Option Addr) (l2 l3:Nat),e=zj (zk #[zh #[O e1 e2 e3,O a4 a5 a6,O a7 a8 a9,zd U x,zd U y,zd U z],O l1 l2 l3,zd U why])/\Ov w w'/\(why=0->Fa K kf m vn yn on sn gs sp ls ms vs fs l ins fuel w.heap.size (O e1 e2 e3) w')
theorem M4 (K kf:Nat) (m:Int) (ga gn gc sa sn sc ya yn yc oa on oc va vn vc fa fn fc ba bn bc) (xa xn xc) (ins) (fuel:Int) (gs sp ls ms vs fs l) (w:World) (h:BD K kf m ga gn gc sa sn sc ya yn yc oa on oc va vn vc fa fn fc ba bn bc gs sp ls ms vs fs l w) (hx:A8 w (O xa xn xc) ins) :
  Calls Tryz.prog 17 #[zh #[zd U m,O ga gn gc,O sa sn sc,O ya yn yc,O oa on oc,O va vn vc,O fa fn fc,O ba bn bc],O xa xn xc,zd U fuel] w (RI K kf m vn yn on sn gs sp ls ms vs fs l ins fuel w):=by
 refine (Gh K kf m ga gn gc sa sn sc ya yn yc oa on oc va vn vc fa fn fc ba bn bc xa xn xc ins fuel gs sp ls ms vs fs l w h hx).mono ?_;rintro e t ⟨c,d,i,b⟩;rcases b with ⟨hw,rfl⟩ | ⟨rfl,n,p,z,B,A,o,j,k,f,q,rfl,a,-⟩
 ·exact ⟨c,none,0,0,none,0,0,none,0,0,0,0,0,none,0,0,rfl,i,fun h=>absurd h hw⟩
 ·have g:=d.1 rfl
  obtain ⟨s,el,r,rfl⟩:=AE a.own;refine ⟨0,s,el,r,_,_,_,_,_,_,_,_,_,_,_,_,rfl,i,fun _=>⟨g,n,p,f,q.1,a.own,?_⟩⟩;have y:=a.num.el;have x:=a.num.sb;have v:=g.f1;have u:=g.f0;omega
section
variable {K kf:Nat} {m:Int} {vn yn on sn:Nat} {gs:List (Int × Int)} {sp:List Int} {ls ms:List Lab} {vs:List (Bool × Lab)} {fs:List FnD} {l:List D} {ins:List (List Int)} {fuel:Int} {B b:Nat} {v:Value} {w w':World}
theorem Fa.over (h:Fa K kf m vn yn on sn gs sp ls ms vs fs l ins fuel B v w) (hb:Ov w w'):Fa K kf m vn yn on sn gs sp ls ms vs fs l ins fuel B v w':=by
 obtain ⟨f,n,a,e,d,c,b⟩:=h;exact ⟨f,n,a,e,d,Bw c hb,b⟩
theorem Fa.grown (h:Fa K kf m vn yn on sn gs sp ls ms vs fs l ins fuel B v w) (hg:w.grownBy w' (some b)) (hne:v.ownBlock≠some b):Fa K kf m vn yn on sn gs sp ls ms vs fs l ins fuel B v w':=by
 obtain ⟨g,n,a,f,e,d,c⟩:=h;exact ⟨g,n,a,f,e,d.kept hg (Or.inr hne),c⟩
theorem Fa.lt (h:Fa K kf m vn yn on sn gs sp ls ms vs fs l ins fuel B v w) {g:Nat} (hg:v.ownBlock=some g):B<=g/\g < w.heap.size:=by
 obtain ⟨f,n,b,e,d,a,c⟩:=h;exact Pc a hg
end
theorem Ej {w w' w2:World} {r:Option Nat} (h:w.grownBy w' r) (k:w'.grownBy w2 r):w.grownBy w2 r:=⟨k.os.trans h.os,k.tape.trans h.tape,k.output.trans h.output,Nat.le_trans h.size k.size,fun i hi hr=>(k.block i (Nat.lt_of_lt_of_le hi h.size) hr).trans (h.block i hi hr)⟩
theorem Jq {b:Nat} {A w w':World} (h:Ov A w) (hg:w.grownBy w' (some b)) (hb:A.heap.size<=b):Ov A w':=⟨hg.os.trans h.os,hg.tape.trans h.tape,hg.output.trans h.output,Nat.le_trans h.size hg.size,fun k hk=>(hg.block k (Nat.lt_of_lt_of_le hk h.size) (fun e=>by injection e with e;omega)).trans (h.block k hk)⟩
structure Z6 (b:Nat) (w:World):Prop where
 row:Ad [O none 0 0,O none 0 0,O none 0 0,zd U 0,zd U 0,zd U 0] w b
 fz:∀ j,w.frozen? ⟨b,j,none⟩=false
theorem Lt (t:Nat) (w:World):Z6 w.heap.size (w.alloc (ze #[O none 0 0,O none 0 0,O none 0 0,zd U 0,zd U 0,zd U 0] t)):=⟨Ad.newA #[O none 0 0,O none 0 0,O none 0 0,zd U 0,zd U 0,zd U 0] t w,fun j=>by simp [go_sem]⟩
theorem Z6.over {b:Nat} {w w':World} (h:Z6 b w) (hb:Ov w w'):Z6 b w':=⟨h.row.over hb,fun j=>((An hb).2 b j (bL (h.row 0 _ rfl))).trans (h.fz j)⟩
def FG (W:World) (b:Nat) (v0 v1 v2 v3 v4 v5:Value):World:=(((((W.setCell ⟨b,0,none⟩ v0).setCell ⟨b,1,none⟩ v1).setCell ⟨b,2,none⟩ v2).setCell ⟨b,3,none⟩ v3).setCell ⟨b,4,none⟩ v4).setCell ⟨b,5,none⟩ v5
theorem Em (W:World) (b:Nat) {v0 v1 v2 v3 v4 v5:Value}:W.grownBy (FG W b v0 v1 v2 v3 v4 v5) (some b):=Ej (Ej (Ej (Ej (Ej Bg Bg) Bg) Bg) Bg) Bg
theorem Z6.fill {b:Nat} {W:World} (h:Z6 b W) (v0 v1 v2 v3 v4 v5:Value):Ad [v0,v1,v2,v3,v4,v5] (FG W b v0 v1 v2 v3 v4 v5) b:=by
 have:=(((((h.row.set (j:=0) (v:=v0) (by simp)).set (j:=1) (v:=v1) (by simp)).set (j:=2) (v:=v2) (by simp)).set (j:=3) (v:=v3) (by simp)).set (j:=4) (v:=v4) (by simp)).set (j:=5) (v:=v5) (by simp);simpa [FG] using this
theorem readsLaw (K kf:Nat) (m:Int) (ga gn gc sa sn sc ya yn yc oa on oc va vn vc fa fn fc ba bn bc) (xa xn xc qa qn qc) (ins others) (who fuel:Int) (gs sp ls ms vs fs l) (w:World) (h:BD K kf m ga gn gc sa sn sc ya yn yc oa on oc va vn vc fa fn fc ba bn bc gs sp ls ms vs fs l w) (hx:A8 w (O xa xn xc) ins) (hq:A8 w (O qa qn qc) others) :
  Calls Tryz.prog 6 #[zh #[zd U m,O ga gn gc,O sa sn sc,O ya yn yc,O oa on oc,O va vn vc,O fa fn fc,O ba bn bc],zd U who,O xa xn xc,O qa qn qc,zd U fuel] w fun e w'=>e=zj (zg true)/\Ov w w':=by
 have c8:Ov w (w.alloc (ze #[zd U m,O ga gn gc,O sa sn sc,O ya yn yc,O oa on oc,O va vn vc,O fa fn fc,O ba bn bc] 31)):=bA w _;have K1:=Aa fun W (hW:Ov w W)=>M4 K kf m ga gn gc sa sn sc ya yn yc oa on oc va vn vc fa fn fc ba bn bc xa xn xc ins fuel gs sp ls ms vs fs l W (h.over hW) (hx.over hW);have dt:=Aa GW;have ds:=Aa Il;have cu:=Ad.new [zd U m,O ga gn gc,O sa sn sc,O ya yn yc,O oa on oc,O va vn vc,O fa fn fc,O ba bn bc] 31 w;have b6:=Aa cu;have as:=Aa c8;have HH:=Aa h;have HX:=Aa hx;have HQ:=Aa hq;clear h hx hq c8 cu;go_enter Tryz.func6,Tryz.ntmps6;go_wp2_with fail;refine (dt.o _).mono ?_;obtain ⟨WB,c9⟩:=nm (w.alloc (ze #[zd U m,O ga gn gc,O sa sn sc,O ya yn yc,O oa on oc,O va vn vc,O fa fn fc,O ba bn bc] 31));rw [<-c9] at b6 as ⊢;rintro e w1 ⟨rfl,cz⟩;go_wp2_with fail;refine (ds.o _).mono ?_;rintro e w2 ⟨rfl,cy⟩;have X:=Ac cz cy;have ar:=Aa (as.o.trans (X.mono as.o.size));have ca:=Aa (b6.o.over X);obtain ⟨c0,c1,c2,c3,c4,c5,c6,c7⟩:=rc8 ca.o;clear cz cy X c9 b6 as dt ds;have KW:=Aa (K1.o w2 ar.o);clear K1;go_wp2_with fail;refine (KW.o).mono ?_;rintro e w3 ⟨cj,e1,e2,e3,a4,a5,a6,a7,a8,a9,x,y,z,l1,l2,l3,rfl,bv,hg⟩;have ce:=Aa (ar.o.trans (bv.mono ar.o.size));have dw:=Aa (ca.o.over bv);have ag:Hx (Ov w (w3.alloc (ze #[O e1 e2 e3,O a4 a5 a6,O a7 a8 a9,zd U x,zd U y,zd U z] 55))):=ce.o.alloc ce.o.size _;have ah:Hx (Ov w3 (w3.alloc (ze #[O e1 e2 e3,O a4 a5 a6,O a7 a8 a9,zd U x,zd U y,zd U z] 55))):=bA _ _;have bw:=dw.o.over ah.o;obtain ⟨d0,d1,d2,d3,d4,d5,d6,d7⟩:=rc8 bw;have b9:=Aa bw;have HG:=Aa hg;clear bv hg c0 c1 c2 c3 c4 c5 c6 c7 KW bw;by_cases hwy:cj=0;rotate_left
 ·have eg:(cj == 0)=false:=by simpa using hwy
  go_wp2_with fail;go_ret;exact ⟨rfl,ag.o⟩
 subst hwy;obtain ⟨bt,n,st,ei,cw,ax,ay⟩:=HG.o rfl;subst ei;obtain ⟨H,hn,h1,h6,-⟩:=Dr bt.prog.chk;obtain rfl:H=n:=by omega
 have KA:=Aa fun W=>Kv (H:Int) who (by omega) (O ga gn gc) W;have G:=Aa bt;have ao:=Aa cw;have cb:=Aa (Bw ax ah.o);have bl:=Aa ay;have bp:=Ad.newA #[O e1 e2 e3,O a4 a5 a6,O a7 a8 a9,zd U x,zd U y,zd U z] 55 w3;obtain ⟨WC,Y⟩:=nm (w3.alloc (ze #[O e1 e2 e3,O a4 a5 a6,O a7 a8 a9,zd U x,zd U y,zd U z] 55));obtain ⟨br,ai⟩:=nm w3.heap.size;rw [<-ai,<-Y] at bp;rw [<-Y] at ag cb b9;have du:=Aa bp;have a1:Hx (br < WC.heap.size):=by rw [ai,Y];show _ < _;simp
 clear bt cw ax ay hn HG ah ce dw ca ar bp;go_wp2_with fail;rw [<-Y,<-ai];refine (KA.o _).mono ?_;clear Y ai d0 d1 d2 d3 d4 d5 d6 d7;rintro e M ⟨rfl,Q⟩;have D:=Aa (ag.o.trans (Q.mono ag.o.size));have b8:=Aa (b9.o.over Q);have bj:=Aa (Bw cb.o Q);have bi:=Aa (du.o.over Q);have e8:Hx (br < M.heap.size):=Nat.lt_of_lt_of_le a1.o Q.size;obtain ⟨c0,c1,c2,c3,c4,c5,c6,c7⟩:=rc8 b8.o;clear Q ag b9 cb du a1 KA;cases hwho:BB (H:Int) who with
 | false=>
  go_wp2_with fail;go_ret;exact ⟨rfl,D.o⟩
 | true=>
  have cr:0<=who/\who < H:=by simpa [BB] using hwho
  obtain ⟨q,rfl⟩:=Int.eq_ofNat_of_zero_le cr.1;have bs:q < H:=by omega
  have fw:q<=9223372036854775807:=by omega
  clear hwho cr;have cq:yn=ls.length:=by obtain ⟨-,a,c,he,-⟩:=HH.o.ins;injection he
  have cs:vn=vs.length:=by obtain ⟨-,a,c,he,-⟩:=HH.o.vars;injection he
  obtain ⟨MX,bx⟩:=nm (FZ H q false gs ls ins others);have KM:Hx (∀ W,Ov M W->Calls Tryz.prog 26 #[zh #[zd U (H:Int),O ga gn gc,O sa sn sc,O ya yn yc,O oa on oc,O va vn vc,O fa fn fc,O ba bn bc],zd U (q:Int),zg false,O xa xn xc,O qa qn qc] W fun e w'=>∃ (ma:Option Addr) (mn mc:Nat),e=zj (O ma mn mc)/\A8 w' (O ma mn mc) MX/\Ov W w'):=fun W hW=>by
   have aj:=D.o.trans (hW.mono D.o.size);rw [bx];exact Nz H ga gn gc sa sn sc ya yn yc oa on oc va vn vc fa fn fc ba bn bc q false xa xn xc qa qn qc gs ls ins others W (Af HH.o.grants aj) (HH.o.ins.over aj) (fun b p=>G.o.prog.labs.1 b (List.mem_append.2 (Or.inl p))) bs (HX.o.over aj) (HQ.o.over aj) (by rw [G.o.many,cq]) (by rw [G.o.many];exact G.o.prog.ok.ins)
  have am:Hx (∀ W,Ov M W->∀ ma mn mc,A8 W (O ma mn mc) MX->Calls Tryz.prog 17 #[zh #[zd U (H:Int),O ga gn gc,O sa sn sc,O ya yn yc,O oa on oc,O va vn vc,O fa fn fc,O ba bn bc],O ma mn mc,zd U fuel] W (RI K kf (H:Int) vn yn on sn gs sp ls ms vs fs l MX fuel W)):=fun W hW ma mn mc hm=>M4 K kf (H:Int) ga gn gc sa sn sc ya yn yc oa on oc va vn vc fa fn fc ba bn bc ma mn mc MX fuel gs sp ls ms vs fs l W (HH.o.over (D.o.trans (hW.mono D.o.size))) hm;have KE:Hx (∀ W,Ov M W->∀ la ln lc (T:RSt),FH on vn T.ev=0->T.ev.length<=2000->∀ B,W.ownsRow B 136 4 (O la ln lc) T.ev.length (Bi T.ev)->_):=fun W hW la ln lc T h1 h2 B h3=>H4 K kf H ga gn gc sa sn sc ya yn yc oa on oc va vn vc fa fn fc ba bn bc q false la ln lc T.ev gs sp ls ms vs fs l W (HH.o.over (D.o.trans (hW.mono D.o.size))) (Ft.of_own h3).evL (by omega) G.o.prog bs h1;have HV:=Aa (And.intro cs bx);clear cq cs bx;go_wp2_with fail;refine Cw (fun bg Wn=>∃ (bq:Nat) (why2:Int) (y12 y15 y19 y20 y21 y22 y23 y24 y25 y26 y27 y28 y29 y30 y31 y32 y33 y34 y35 y36 y37 y38 y39 y40 y41 y42 y43 y44 y45 y46 y47 y48 y49 y50 y51 y52 y53:Value) (f1:Option Addr) (f2 f3:Nat) (r1 r2 r3 r4 r5:Value) (B:Nat),bg={ tmps:=#[zh #[zd U (H:Int),O ga gn gc,O sa sn sc,O ya yn yc,O oa on oc,O va vn vc,O fa fn fc,O ba bn bc],zd U (q:Int),O xa xn xc,O qa qn qc,zd U fuel,zi (some ⟨w.heap.size,0,none⟩),undef,undef,undef,undef,zg false,zi (some ⟨br,0,none⟩),y12,zd U why2,zi (some ⟨bq,0,none⟩),y15,undef,undef,undef,y19,y20,y21,y22,y23,y24,y25,y26,y27,y28,y29,y30,y31,y32,y33,y34,y35,y36,y37,y38,y39,y40,y41,y42,y43,y44,y45,y46,y47,y48,y49,y50,y51,y52,y53,undef,undef,undef,undef,undef,undef,undef,undef,undef,undef,undef,undef,undef,undef,undef,undef,undef,undef,undef,undef,undef,undef,undef,undef,undef,undef,undef,undef,undef],defers:=[] }/\Ov M Wn/\Ad [O f1 f2 f3,r1,r2,r3,r4,r5] Wn bq/\(why2=0->Fa K kf (H:Int) vn yn on sn gs sp ls ms vs fs l MX fuel B (O f1 f2 f3) Wn)) ?_ ?_
  ·refine gS (fun Wz=>Ov M Wz) (bD _) fun f=>?_
   generalize M.drew=W at f ⊢;refine kO 0 ?_;refine kO 1 ?_;refine kO 2 ?_;refine kO 3 ?_;refine kO 4 ?_;refine kO 6 ?_;refine rdB 5 12 rfl (fun K r=>?_) rfl fun K r=>?_
   ·go_simp
    obtain ⟨R,rfl⟩:=nm W;refine (KM.o _ f).mono ?_;rintro e0 W ⟨ma,mn,mc,rfl,S,p⟩;have v:=Aa S;have an:Hx (R.heap.size<=W.heap.size):=p.size;(try replace i:=Aa (i.o.over p))
    clear S;go_simp;refine xK r (Ac f p) fun f=>?_;clear r K;refine rdB 7 12 rfl (fun K r=>?_) rfl fun K r=>?_
    ·go_simp
     obtain ⟨R,rfl⟩:=nm W;refine (am.o _ f _ _ _ v.o).mono ?_;rintro e0 W ⟨why2,f1,f2,f3,g4,g5,g6,g7,g8,g9,x2,y2,z2,m1,m2,m3,rfl,p,s⟩;have t:=Aa s;have ae:Hx (why2=0->∀ g,(Value.slice f1 f2 f3).ownBlock=some g->R.heap.size<=g/\g < W.heap.size):=fun C g hg=>(s C).lt hg;have ab:Hx (R.heap.size<=W.heap.size):=p.size;(try replace i:=Aa (i.o.over p))
     clear s;go_simp;refine xK r (Ac f p) fun f=>?_;clear r K;refine kO 8 ?_;refine kO 9 ?_;refine kO 10 ?_;refine kO 11 ?_;refine rdA 12 rfl fun K r=>?_;obtain ⟨E,rfl⟩:=nm W;obtain ⟨W,k⟩:=nm (E.alloc (ze #[O none 0 0,O none 0 0,O none 0 0,zd U 0,zd U 0,zd U 0] 55));have p:Ov E W:=by rw [k];exact bA _ _
     obtain ⟨bq,hq⟩:∃ b:Nat,b=E.heap.size:=⟨_,rfl⟩;have i:Hx (Z6 bq W):=by rw [hq,k];exact Lt _ _
     have F:Hx (bq=E.heap.size/\W.heap.size=E.heap.size+1):=⟨hq,by rw [k];simp⟩;have af:Hx (M.heap.size<=bq):=by rw [hq];exact f.size
     (try replace v:=Aa (v.o.over p))
     (try replace t:=Aa (fun C=>(t.o C).over p))
     go_simp;rw [<-k,<-hq];clear k hq;refine xK r (Ac f p) fun f=>?_;clear r K;refine rdA 13 rfl fun K r=>?_;obtain ⟨d0,d1,d2,d3,d4,d5⟩:=rc6 i.o.row;have p0:=i.o.fz 0;have p1:=i.o.fz 1;have p2:=i.o.fz 2;have p3:=i.o.fz 3;have p4:=i.o.fz 4;have p5:=i.o.fz 5;obtain ⟨Z,j⟩:=nm (FG W bq (O f1 f2 f3) (O g4 g5 g6) (O g7 g8 g9) (zd U x2) (zd U y2) (zd U z2));have u:W.grownBy Z (some bq):=by rw [j];exact Em _ _
     have A:Hx (Ov M Z):=Jq f u af.o;have ac:Hx (Ad [O f1 f2 f3,O g4 g5 g6,O g7 g8 g9,zd U x2,zd U y2,zd U z2] Z bq):=by rw [j];exact i.o.fill _ _ _ _ _ _
     have aa:=Aa fun C=>(t.o C).grown u (fun hq=>by have h1:=ae.o C _ hq;have h2:=ab.o;have h3:=F.o;have h4:=an.o;omega);unfold FG at j;go_simp;rw [<-j];clear j d0 d1 d2 d3 d4 d5 p0 p1 p2 p3 p4 p5 u;refine xK r (A.o) fun f=>?_;clear r K;refine kO 14 ?_;refine kO 15 ?_;refine gE ?_;exact Ba ⟨bq,why2,_,_,_,_,_,_,_,_,_,_,_,_,_,_,_,_,_,_,_,_,_,_,_,_,_,_,_,_,_,_,_,_,_,_,_,_,_,f1,f2,f3,_,_,_,_,_,_,rfl,A.o,ac.o,aa.o⟩
    ·obtain ⟨E,rfl⟩:=nm W
     obtain ⟨W,k⟩:=nm (E.alloc (ze #[O none 0 0,O none 0 0,O none 0 0,zd U 0,zd U 0,zd U 0] 55));have p:Ov E W:=by rw [k];exact bA _ _
     obtain ⟨bq,hq⟩:∃ b:Nat,b=E.heap.size:=⟨_,rfl⟩;have i:Hx (Z6 bq W):=by rw [hq,k];exact Lt _ _
     have F:Hx (bq=E.heap.size/\W.heap.size=E.heap.size+1):=⟨hq,by rw [k];simp⟩;have af:Hx (M.heap.size<=bq):=by rw [hq];exact f.size
     (try replace v:=Aa (v.o.over p))
     (try replace t:=Aa (fun C=>(t.o C).over p))
     go_simp;rw [<-k,<-hq];clear k hq;refine xK r (Ac f p) fun f=>?_;clear r K;refine rdA 7 rfl fun K r=>?_;go_simp;obtain ⟨R,rfl⟩:=nm W;refine (am.o _ f _ _ _ v.o).mono ?_;rintro e0 W ⟨why2,f1,f2,f3,g4,g5,g6,g7,g8,g9,x2,y2,z2,m1,m2,m3,rfl,p,s⟩;have t:=Aa s;have ae:Hx (why2=0->∀ g,(Value.slice f1 f2 f3).ownBlock=some g->R.heap.size<=g/\g < W.heap.size):=fun C g hg=>(s C).lt hg;have ab:Hx (R.heap.size<=W.heap.size):=p.size;(try replace i:=Aa (i.o.over p))
     clear s;go_simp;refine xK r (Ac f p) fun f=>?_;clear r K;refine kO 8 ?_;refine kO 9 ?_;refine kO 10 ?_;refine kO 11 ?_;refine rdA 13 rfl fun K r=>?_;obtain ⟨d0,d1,d2,d3,d4,d5⟩:=rc6 i.o.row;have p0:=i.o.fz 0;have p1:=i.o.fz 1;have p2:=i.o.fz 2;have p3:=i.o.fz 3;have p4:=i.o.fz 4;have p5:=i.o.fz 5;obtain ⟨Z,j⟩:=nm (FG W bq (O f1 f2 f3) (O g4 g5 g6) (O g7 g8 g9) (zd U x2) (zd U y2) (zd U z2));have u:W.grownBy Z (some bq):=by rw [j];exact Em _ _
     have A:Hx (Ov M Z):=Jq f u af.o;have ac:Hx (Ad [O f1 f2 f3,O g4 g5 g6,O g7 g8 g9,zd U x2,zd U y2,zd U z2] Z bq):=by rw [j];exact i.o.fill _ _ _ _ _ _
     have aa:=Aa fun C=>(t.o C).grown u (fun hq=>by have h1:=ae.o C _ hq;have h2:=ab.o;have h3:=F.o;have h4:=an.o;omega);unfold FG at j;go_simp;rw [<-j];clear j d0 d1 d2 d3 d4 d5 p0 p1 p2 p3 p4 p5 u;refine xK r (A.o) fun f=>?_;clear r K;refine kO 14 ?_;refine kO 15 ?_;refine gE ?_;exact Ba ⟨bq,why2,_,_,_,_,_,_,_,_,_,_,_,_,_,_,_,_,_,_,_,_,_,_,_,_,_,_,_,_,_,_,_,_,_,_,_,_,_,f1,f2,f3,_,_,_,_,_,_,rfl,A.o,ac.o,aa.o⟩
   ·obtain ⟨E,rfl⟩:=nm W
    obtain ⟨W,k⟩:=nm (E.alloc (ze #[O none 0 0,O none 0 0,O none 0 0,zd U 0,zd U 0,zd U 0] 55));have p:Ov E W:=by rw [k];exact bA _ _
    obtain ⟨bq,hq⟩:∃ b:Nat,b=E.heap.size:=⟨_,rfl⟩;have i:Hx (Z6 bq W):=by rw [hq,k];exact Lt _ _
    have F:Hx (bq=E.heap.size/\W.heap.size=E.heap.size+1):=⟨hq,by rw [k];simp⟩;have af:Hx (M.heap.size<=bq):=by rw [hq];exact f.size
    (try replace v:=Aa (v.o.over p))
    (try replace t:=Aa (fun C=>(t.o C).over p))
    go_simp;rw [<-k,<-hq];clear k hq;refine xK r (Ac f p) fun f=>?_;clear r K;refine rdA 5 rfl fun K r=>?_;go_simp;obtain ⟨R,rfl⟩:=nm W;refine (KM.o _ f).mono ?_;rintro e0 W ⟨ma,mn,mc,rfl,S,p⟩;have v:=Aa S;have an:Hx (R.heap.size<=W.heap.size):=p.size;(try replace i:=Aa (i.o.over p))
    clear S;go_simp;refine xK r (Ac f p) fun f=>?_;clear r K;refine rdA 7 rfl fun K r=>?_;go_simp;obtain ⟨R,rfl⟩:=nm W;refine (am.o _ f _ _ _ v.o).mono ?_;rintro e0 W ⟨why2,f1,f2,f3,g4,g5,g6,g7,g8,g9,x2,y2,z2,m1,m2,m3,rfl,p,s⟩;have t:=Aa s;have ae:Hx (why2=0->∀ g,(Value.slice f1 f2 f3).ownBlock=some g->R.heap.size<=g/\g < W.heap.size):=fun C g hg=>(s C).lt hg;have ab:Hx (R.heap.size<=W.heap.size):=p.size;(try replace i:=Aa (i.o.over p))
    clear s;go_simp;refine xK r (Ac f p) fun f=>?_;clear r K;refine kO 8 ?_;refine kO 9 ?_;refine kO 10 ?_;refine kO 11 ?_;refine rdA 13 rfl fun K r=>?_;obtain ⟨d0,d1,d2,d3,d4,d5⟩:=rc6 i.o.row;have p0:=i.o.fz 0;have p1:=i.o.fz 1;have p2:=i.o.fz 2;have p3:=i.o.fz 3;have p4:=i.o.fz 4;have p5:=i.o.fz 5;obtain ⟨Z,j⟩:=nm (FG W bq (O f1 f2 f3) (O g4 g5 g6) (O g7 g8 g9) (zd U x2) (zd U y2) (zd U z2));have u:W.grownBy Z (some bq):=by rw [j];exact Em _ _
    have A:Hx (Ov M Z):=Jq f u af.o;have ac:Hx (Ad [O f1 f2 f3,O g4 g5 g6,O g7 g8 g9,zd U x2,zd U y2,zd U z2] Z bq):=by rw [j];exact i.o.fill _ _ _ _ _ _
    have aa:=Aa fun C=>(t.o C).grown u (fun hq=>by have h1:=ae.o C _ hq;have h2:=ab.o;have h3:=F.o;have h4:=an.o;omega);unfold FG at j;go_simp;rw [<-j];clear j d0 d1 d2 d3 d4 d5 p0 p1 p2 p3 p4 p5 u;refine xK r (A.o) fun f=>?_;clear r K;refine kO 14 ?_;refine kO 15 ?_;refine gE ?_;exact Ba ⟨bq,why2,_,_,_,_,_,_,_,_,_,_,_,_,_,_,_,_,_,_,_,_,_,_,_,_,_,_,_,_,_,_,_,_,_,_,_,_,_,f1,f2,f3,_,_,_,_,_,_,rfl,A.o,ac.o,aa.o⟩
  ·rintro bg Wn ⟨bq,why2,y12,y15,y19,y20,y21,y22,y23,y24,y25,y26,y27,y28,y29,y30,y31,y32,y33,y34,y35,y36,y37,y38,y39,y40,y41,y42,y43,y44,y45,y46,y47,y48,y49,y50,y51,y52,y53,f1,f2,f3,r1,r2,r3,r4,r5,B,rfl,N,ct,s⟩
   have ap:=Aa N;have aq:=Aa (D.o.trans (N.mono D.o.size));have b7:=Aa (b8.o.over N);have ad:=Aa (Bw bj.o N);have bh:=Aa (bi.o.over N);have dv:=Aa ct;have t:=Aa s;clear N ct s c0 c1 c2 c3 c4 c5 c6 c7 KM am;by_cases hwy:why2=0;rotate_left
   ·have eg:(why2 == 0)=false:=by simpa using hwy
    go_wp2_with fail;go_ret;exact ⟨rfl,aq.o⟩
   subst hwy;obtain ⟨cv,n2,fv,eh,az,I,L⟩:=t.o rfl;obtain rfl:n2=H:=by omega
   obtain rfl:=DW ao.o az;obtain ⟨T1,al⟩:=nm (Bz n2 K kf fuel.toNat ins gs ls ms vs fs l (BH n2 K kf gs sp st.vs st.fs vs ls ms fs l) vn yn);obtain ⟨T2,ak⟩:=nm (Bz n2 K kf fuel.toNat MX gs ls ms vs fs l (BH n2 K kf gs sp st.vs st.fs vs ls ms fs l) vn yn);rw [<-al] at ad bl;rw [<-ak] at I L;have ez:Hx (FH on vn T1.ev=0):=by rw [al];exact IC G.o.prog _
   have ey:Hx (FH on vn T2.ev=0):=by rw [ak];exact IC G.o.prog _
   have e4:Hx (Alk 2 (T1.ev.filter (J3 n2 q gs ms st)) (T2.ev.filter (J3 n2 q gs ms st))):=by rw [al,ak,HV.o.2];exact JU G.o.prog HV.o.1 ao.o bs _
   have bk:=Aa I;have cc:=Aa L;obtain ⟨c0,c1,c2,c3,c4,c5,c6,c7⟩:=rc8 b7.o;have b0:=bh.o 0 _ rfl;have dr:=Aa (KE.o Wn ap.o e1 e2 e3 T1 ez.o bl.o _ ad.o);clear cv eh az I L al ak bj bi b8 t ad;go_wp2_with fail;refine (dr.o).mono ?_;rintro e w7 ⟨ef,v1,rfl,V,-,J,P⟩;obtain rfl:=DW ao.o V;have db:=(Ft.of_own J).evL;obtain ⟨eq,eo,ep,rfl⟩:=AE J;have dx:=Aa db;have bm:=Aa (ap.o.trans (P.mono ap.o.size));have cd:=Aa (aq.o.trans (P.mono aq.o.size));have dq:=Aa (KE.o w7 bm.o f1 f2 f3 T2 ey.o cc.o _ (Bw bk.o P));obtain ⟨t0,t1,t2,t3,t4,t5,t6,t7⟩:=rc8 (b7.o.over P);have u0:=(dv.o.over P) 0 _ rfl;clear V J P db c0 c1 c2 c3 c4 c5 c6 c7 b0 dr KE ap aq bk b7 bh dv;go_wp2_with fail;refine (dq.o).mono ?_;rintro e w8 ⟨ef,v1,rfl,V,-,J,bu⟩;obtain rfl:=DW ao.o V;have da:=(Ft.of_own J).evL;obtain ⟨em,ek,el,rfl⟩:=AE J;have ex:=Aa (N7 eq eo ep em ek el 2 false _ _ w8 (dx.o.over bu) da (Alk.d e4.o));have dy:=Aa (cd.o.trans (bu.mono cd.o.size));clear V J bu da dq dx cd bm t0 t1 t2 t3 t4 t5 t6 t7 u0;go_wp2_with fail;refine (ex.o).mono ?_;rintro e w9 ⟨rfl,cx⟩;have A:=Aa (dy.o.trans (cx.mono dy.o.size));clear cx;go_wp2_with fail;go_ret;exact ⟨rfl,A.o⟩
end Go.Proofs.YtfffpjkcfnekaaaGreat.Ex
