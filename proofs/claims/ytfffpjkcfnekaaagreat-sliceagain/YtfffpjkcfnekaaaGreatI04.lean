/- The commands of the small program: how many there are. -/
import Derived.Deep.QuietTactic
import Derived.BigQuiet
import Derived.Defers
import Derived.Recover
import Derived.Test.YtfffpjkcfnekaaaGreatI03
import Derived.Laws.AppendOwnNone
import Derived.Deep.RegionHeld2
set_option linter.unusedVariables false
set_option maxHeartbeats 8000000
set_option maxRecDepth 100000
namespace Go.Proofs.YtfffpjkcfnekaaaGreat.Ex
open Go.RowKit
open Go.Value renaming slice -> O, int -> zd, bool -> zg, agg -> zh, pointer -> zj, tuple -> zm
open Go.IntKind renaming i64 -> U
open Go.Obj renaming cells -> ze
open Go.Ending renaming returned -> zk
def B0:List Value:=[zd U 3,zd U 0,zd U 0,zd U 0,zd U 0,O none 0 0,O none 0 0,O none 0 0,O none 0 0,zd U 4,zd U 0,zd U 0,zd U 2,zd U 0,O none 0 0,O none 0 0,O none 0 0,O none 0 0]
def Ad (cs:List Value) (w:World) (b:Nat):Prop:=∀ j u,cs[j]? = some u->w.cell? ⟨b,j,none⟩=some u
theorem Ad.over {cs:List Value} {w w':World} {b:Nat} (h:Ad cs w b) (hB:Ov w w'):Ad cs w' b:=fun j u hu=>Ab hB _ _ (h j u hu)
abbrev E6 (bi bo bv bm:Nat):Value:=zh #[zd U 1,O none 0 0,O none 0 0,O (some ⟨bi,0,none⟩) 1 1,O (some ⟨bo,0,none⟩) 1 1,O (some ⟨bv,0,none⟩) 1 1,O none 0 0,O (some ⟨bm,0,none⟩) 2 2]
abbrev DU (bi bo bv bm:Nat) (t:Nat):Obj:=ze #[zd U 1,O none 0 0,O none 0 0,O (some ⟨bi,0,none⟩) 1 1,O (some ⟨bo,0,none⟩) 1 1,O (some ⟨bv,0,none⟩) 1 1,O none 0 0,O (some ⟨bm,0,none⟩) 2 2] t
theorem Tryz.infoL:(Tryz.prog.info? 39).map (fun i=>(i.zero,i.size,i.bytes))=some (some (zh #[O none 0 0,O none 0 0]),2,48):=by kernel_rfl
abbrev KZ (bi bo bv bm:Nat):List Value:=[zd U 1,O none 0 0,O none 0 0,O (some ⟨bi,0,none⟩) 1 1,O (some ⟨bo,0,none⟩) 1 1,O (some ⟨bv,0,none⟩) 1 1,O none 0 0,O (some ⟨bm,0,none⟩) 2 2]
theorem Ad.new (cs:List Value) (t:Nat) (w:World):Ad cs (w.alloc (.cells cs.toArray t)) w.heap.size:=fun j u hu=>by
 rw [Lib.cell_of_heap (heap_alloc_new w _)];simpa using hu
structure IQ (bi bo bv bm:Nat) (w:World):Prop where
 ins:Ad [O none 0 0,O none 0 0] w bi
 outs:Ad [O none 0 0,O none 0 0] w bo
 vars:Ad [zg false,O none 0 0,O none 0 0] w bv
 main:Ad B0 w bm
theorem IQ.over {bi bo bv bm:Nat} {w w':World} (h:IQ bi bo bv bm w) (hB:Ov w w'):IQ bi bo bv bm w':=
 ⟨h.ins.over hB,h.outs.over hB,h.vars.over hB,h.main.over hB⟩
theorem LZ (p q:Addr) (w:World) :
  CallsD Tryz.prog 170 #[zj (some p),zj (some q)] .returning w fun e u' w'=>e=zk (zm #[])/\u'=.returning/\w'=w:=by
 refine callsD_of_wpS Tryz.func170 rfl fun c cs b=>?_;apply wpS_seq;apply wpS_region;simp [wpOpsS,go_sem,recoverD,b,Tryz.ntmps170,Exit.thenS];refine wpS_of_wp ?_
 change Code.wp Tryz.prog _ _ { tmps:=#[zj (some p),zj (some q),.nilIface,undef,.nilIface,undef,undef,undef,undef,undef,undef,undef,undef],defers:=[] } w
 go_wp2
 cases c
 simp_all [bodyPostS,results,Tryz.results170]
theorem AQ.prefix {w:World} {ao:Option Addr} {cap:Nat} {vs:List Int} (h:AQ w (O ao vs.length cap) vs) {i:Nat} (hi:i<=vs.length) (c:Nat):AQ w (O ao i c) (vs.take i):=by
 obtain ⟨z,y,p,q⟩:=h;injection p with s u t;subst s;refine ⟨ao,c,by simp [Nat.min_eq_left hi],fun d=>?_⟩;obtain ⟨b,off,k,g⟩:=q (by rintro rfl;simp at d);refine ⟨b,off,k,fun j l=>?_⟩;have f:j < vs.length:=by simp at l;omega
 rw [List.getElem_take];exact g j f
def okF (K:Nat) (nv ni no:Nat) (ahead:Int) (fs:List FnD) (k:Nat) (f:FnD):Prop:=
 f.ps.length<=4/\(∀ p∈f.ps,0<=p/\p < nv)/\(∀ s∈f.body,okS K nv ni no ahead fs k s)/\AF nv K f.res=0
def BE (w:World):List Lab->List Value->Prop
 | [],xs=>xs=[]
 | l::r,xs=>∃ (pr pw:Value) (ys:List Value),xs=pr::pw::ys/\Au w pr l.r/\Au w pw l.w/\BE w r ys
theorem BE.over {w w':World} (hb:Ov w w'):∀ {l:List Lab} {xs:List Value},BE w l xs->BE w' l xs
 | [],_,h=>h
 | a::l,_,h=>by
  obtain ⟨pr,pw,ys,rfl,h1,h2,h3⟩:=h;exact ⟨pr,pw,ys,rfl,Ah h1 hb,Ah h2 hb,h3.over hb⟩
theorem BE.append {w:World}:∀ {l m:List Lab} {xs ys:List Value},BE w l xs->BE w m ys->BE w (l++m) (xs++ys)
 | [],_,_,_,h,h'=>by have e:_=_:=h;subst e;exact h'
 | a::l,_,_,_,h,h'=>by
  obtain ⟨pr,pw,zs,rfl,h1,h2,h3⟩:=h;exact ⟨pr,pw,zs++_,rfl,h1,h2,h3.append h'⟩
theorem BE.length {w:World}:∀ {l:List Lab} {xs:List Value},BE w l xs->xs.length=l.length*2
 | [],_,h=>by have e:_=_:=h;subst e;rfl
 | a::l,_,h=>by
  obtain ⟨pr,pw,zs,rfl,h1,h2,h3⟩:=h;have:=h3.length;simp;omega
theorem BE.one {w:World}:∀ {l:List Lab} {xs:List Value},BE w l xs->∀ u∈xs,u.oneCell'=true
 | [],_,h,u,hu=>by have e:_=_:=h;subst e;cases hu
 | a::l,_,h,u,hu=>by
  obtain ⟨pr,pw,zs,rfl,h1,h2,h3⟩:=h;obtain ⟨x,n,c,rfl⟩:=AR h1;obtain ⟨y,n',c',rfl⟩:=AR h2;simp only [List.mem_cons] at hu;rcases hu with rfl | rfl | hu
  ·rfl
  ·rfl
  ·exact h3.one u hu
theorem BE.at {w:World}:∀ {l:List Lab} {xs:List Value},BE w l xs->∀ (j:Nat) (hj:j < l.length),∃ pr pw,xs[j*2]? = some pr/\xs[j*2+1]? = some pw/\Au w pr l[j].r/\Au w pw l[j].w
 | a::l,_,h,0,hj=>by
  obtain ⟨pr,pw,zs,rfl,h1,h2,h3⟩:=h;exact ⟨pr,pw,rfl,rfl,h1,h2⟩
 | a::l,_,h,j+1,hj=>by
  obtain ⟨pr,pw,zs,rfl,h1,h2,h3⟩:=h;obtain ⟨pr',pw',e1,e2,e3,e4⟩:=h3.at j (by simpa using hj);exact ⟨pr',pw',by rw [Nat.succ_mul];exact e1,by rw [Nat.succ_mul];exact e2,e3,e4⟩
theorem GY {w:World} {b off:Nat}:∀ (ls:List Lab) (o:Nat),(∀ i (h:i < ls.length),∃ (pr pw:Value),w.cell? ⟨b,o+i*2,none⟩=some pr/\w.cell? ⟨b,o+i*2+1,none⟩=some pw/\Au w pr ls[i].r/\Au w pw ls[i].w) ->
  ∃ xs,BE w ls xs/\∀ j u,xs[j]? = some u->w.cell? ⟨b,o+j,none⟩=some u
 | [],o,_=>⟨[],rfl,fun j u hu=>by simp at hu⟩
 | l::ls,o,h=>by
  obtain ⟨pr,pw,h0,h1,h2,h3⟩:=h 0 (by simp);obtain ⟨xs,hx,hc⟩:=GY (w:=w) (b:=b) (off:=off) ls (o+2) (fun i hi=>by
   obtain ⟨pr',pw',e0,e1,e2,e3⟩:=h (i+1) (by simpa using hi);refine ⟨pr',pw',?_,?_,e2,e3⟩
   ·rw [<-e0];congr 2;omega
   ·rw [<-e1];congr 2;omega)
  refine ⟨pr::pw::xs,⟨pr,pw,xs,rfl,h2,h3,hx⟩,fun j u hu=>?_⟩
  match j,hu with
  | 0,hu=>simp at hu;subst hu;simpa using h0
  | 1,hu=>simp at hu;subst hu;simpa using h1
  | j+2,hu=>
   have:=hc j u (by simpa using hu);rw [<-this];congr 2;omega
theorem Qk (w:World):Calls Tryz.prog 241 #[O none 0 0,zd U 0] w fun e w'=>∃ v,e=zk v/\w'.ownsRow w.heap.size 39 2 v 0 []/\Ov w w':=by
 go_enter Tryz.func241,Tryz.ntmps241;go_wp2_with fail;go_ret;exact ⟨_,rfl,World.ownsRow_nil _ _ _ _,Below.refl _ _⟩
theorem Qj (w:World):Calls Tryz.prog 241 #[O none 0 0,zd U 1] w fun e w'=>∃ v,e=zk v/\w'.ownsRow w.heap.size 39 2 v 0 []/\Ov w w':=by
 go_enter Tryz.func241,Tryz.ntmps241;go_wp2_with fail;go_ret;refine ⟨_,rfl,⟨rfl,Or.inr ⟨w.heap.size,grownCap w 1 0 39,_,rfl,Nat.le_refl _,heap_alloc_new w _,Nat.zero_le _,grownCap_le_maxLen _ _ _ _ (by decide),?_,rfl⟩⟩,(bA w _).drew⟩;have:=grownCap_ge w 1 0 39;simp [Builtin.zeroCells];unfold grownCap at this ⊢;omega
theorem Qi (w:World):Calls Tryz.prog 241 #[O none 0 0,zd U 2] w fun e w'=>∃ v,e=zk v/\w'.ownsRow w.heap.size 39 2 v 0 []/\Ov w w':=by
 go_enter Tryz.func241,Tryz.ntmps241;go_wp2_with fail;go_ret;refine ⟨_,rfl,⟨rfl,Or.inr ⟨w.heap.size,grownCap w 2 0 39,_,rfl,Nat.le_refl _,heap_alloc_new w _,Nat.zero_le _,grownCap_le_maxLen _ _ _ _ (by decide),?_,rfl⟩⟩,(bA w _).drew⟩;have:=grownCap_ge w 2 0 39;simp [Builtin.zeroCells];unfold grownCap at this ⊢;omega
theorem Qh (w:World):Calls Tryz.prog 241 #[O none 0 0,zd U 3] w fun e w'=>∃ v,e=zk v/\w'.ownsRow w.heap.size 39 2 v 0 []/\Ov w w':=by
 go_enter Tryz.func241,Tryz.ntmps241;go_wp2_with fail;go_ret;refine ⟨_,rfl,⟨rfl,Or.inr ⟨w.heap.size,grownCap w 3 0 39,_,rfl,Nat.le_refl _,heap_alloc_new w _,Nat.zero_le _,grownCap_le_maxLen _ _ _ _ (by decide),?_,rfl⟩⟩,(bA w _).drew⟩;have:=grownCap_ge w 3 0 39;simp [Builtin.zeroCells];unfold grownCap at this ⊢;omega
theorem Qg (w:World):Calls Tryz.prog 241 #[O none 0 0,zd U 4] w fun e w'=>∃ v,e=zk v/\w'.ownsRow w.heap.size 39 2 v 0 []/\Ov w w':=by
 go_enter Tryz.func241,Tryz.ntmps241;go_wp2_with fail;go_ret;refine ⟨_,rfl,⟨rfl,Or.inr ⟨w.heap.size,grownCap w 4 0 39,_,rfl,Nat.le_refl _,heap_alloc_new w _,Nat.zero_le _,grownCap_le_maxLen _ _ _ _ (by decide),?_,rfl⟩⟩,(bA w _).drew⟩;have:=grownCap_ge w 4 0 39;simp [Builtin.zeroCells];unfold grownCap at this ⊢;omega
theorem Qf (w:World):Calls Tryz.prog 241 #[O none 0 0,zd U 5] w fun e w'=>∃ v,e=zk v/\w'.ownsRow w.heap.size 39 2 v 0 []/\Ov w w':=by
 go_enter Tryz.func241,Tryz.ntmps241;go_wp2_with fail;go_ret;refine ⟨_,rfl,⟨rfl,Or.inr ⟨w.heap.size,grownCap w 5 0 39,_,rfl,Nat.le_refl _,heap_alloc_new w _,Nat.zero_le _,grownCap_le_maxLen _ _ _ _ (by decide),?_,rfl⟩⟩,(bA w _).drew⟩;have:=grownCap_ge w 5 0 39;simp [Builtin.zeroCells];unfold grownCap at this ⊢;omega
theorem Qe (w:World):Calls Tryz.prog 241 #[O none 0 0,zd U 6] w fun e w'=>∃ v,e=zk v/\w'.ownsRow w.heap.size 39 2 v 0 []/\Ov w w':=by
 go_enter Tryz.func241,Tryz.ntmps241;go_wp2_with fail;go_ret;refine ⟨_,rfl,⟨rfl,Or.inr ⟨w.heap.size,grownCap w 6 0 39,_,rfl,Nat.le_refl _,heap_alloc_new w _,Nat.zero_le _,grownCap_le_maxLen _ _ _ _ (by decide),?_,rfl⟩⟩,(bA w _).drew⟩;have:=grownCap_ge w 6 0 39;simp [Builtin.zeroCells];unfold grownCap at this ⊢;omega
theorem Qd (w:World):Calls Tryz.prog 241 #[O none 0 0,zd U 7] w fun e w'=>∃ v,e=zk v/\w'.ownsRow w.heap.size 39 2 v 0 []/\Ov w w':=by
 go_enter Tryz.func241,Tryz.ntmps241;go_wp2_with fail;go_ret;refine ⟨_,rfl,⟨rfl,Or.inr ⟨w.heap.size,grownCap w 7 0 39,_,rfl,Nat.le_refl _,heap_alloc_new w _,Nat.zero_le _,grownCap_le_maxLen _ _ _ _ (by decide),?_,rfl⟩⟩,(bA w _).drew⟩;have:=grownCap_ge w 7 0 39;simp [Builtin.zeroCells];unfold grownCap at this ⊢;omega
theorem Qc (w:World):Calls Tryz.prog 241 #[O none 0 0,zd U 8] w fun e w'=>∃ v,e=zk v/\w'.ownsRow w.heap.size 39 2 v 0 []/\Ov w w':=by
 go_enter Tryz.func241,Tryz.ntmps241;go_wp2_with fail;go_ret;refine ⟨_,rfl,⟨rfl,Or.inr ⟨w.heap.size,grownCap w 8 0 39,_,rfl,Nat.le_refl _,heap_alloc_new w _,Nat.zero_le _,grownCap_le_maxLen _ _ _ _ (by decide),?_,rfl⟩⟩,(bA w _).drew⟩;have:=grownCap_ge w 8 0 39;simp [Builtin.zeroCells];unfold grownCap at this ⊢;omega
theorem Qb (w:World):Calls Tryz.prog 241 #[O none 0 0,zd U 9] w fun e w'=>∃ v,e=zk v/\w'.ownsRow w.heap.size 39 2 v 0 []/\Ov w w':=by
 go_enter Tryz.func241,Tryz.ntmps241;go_wp2_with fail;go_ret;refine ⟨_,rfl,⟨rfl,Or.inr ⟨w.heap.size,grownCap w 9 0 39,_,rfl,Nat.le_refl _,heap_alloc_new w _,Nat.zero_le _,grownCap_le_maxLen _ _ _ _ (by decide),?_,rfl⟩⟩,(bA w _).drew⟩;have:=grownCap_ge w 9 0 39;simp [Builtin.zeroCells];unfold grownCap at this ⊢;omega
theorem O8 (w:World):Calls Tryz.prog 241 #[O none 0 0,zd U 10] w fun e w'=>∃ v,e=zk v/\w'.ownsRow w.heap.size 39 2 v 0 []/\Ov w w':=by
 go_enter Tryz.func241,Tryz.ntmps241;go_wp2_with fail;go_ret;refine ⟨_,rfl,⟨rfl,Or.inr ⟨w.heap.size,grownCap w 10 0 39,_,rfl,Nat.le_refl _,heap_alloc_new w _,Nat.zero_le _,grownCap_le_maxLen _ _ _ _ (by decide),?_,rfl⟩⟩,(bA w _).drew⟩;have:=grownCap_ge w 10 0 39;simp [Builtin.zeroCells];unfold grownCap at this ⊢;omega
theorem RJ (n:Nat) (hn:n<=10) (w:World):Calls Tryz.prog 241 #[O none 0 0,zd U n] w fun e w'=>∃ v,e=zk v/\w'.ownsRow w.heap.size 39 2 v 0 []/\Ov w w':=by
 match n,hn with
 | 0,_=>exact Qk w
 | 1,_=>exact Qj w
 | 2,_=>exact Qi w
 | 3,_=>exact Qh w
 | 4,_=>exact Qg w
 | 5,_=>exact Qf w
 | 6,_=>exact Qe w
 | 7,_=>exact Qd w
 | 8,_=>exact Qc w
 | 9,_=>exact Qb w
 | 10,_=>exact O8 w
theorem AX.src2 {w:World} {ad:Addr} {n cap:Nat} {ls:List Lab} (h:AX w (O (some ad) n cap) ls):∃ xs,BE w ls xs/\∀ j u,xs[j]? = some u->w.cell? (ad.add j)=some u:=by
 obtain ⟨-,C,p,t,y⟩:=h;injection t with z B A;rcases hl:ls with _ | ⟨a,l⟩
 ·exact ⟨[],rfl,fun j u g=>by simp at g⟩
 ·obtain ⟨b,off,d,k⟩:=y (by rw [hl];simp)
  rw [<-z] at d;have c:=Option.some.inj d;subst c;obtain ⟨xs,q,f⟩:=GY (w:=w) (b:=b) (off:=off) ls off (fun i s=>k i s);refine ⟨xs,hl ▸ q,fun j u g=>?_⟩;rw [Addr.add_lit];exact f j u g
theorem LS (g:Nat) (ya yn yc oa on oc) (ls ms) (w:World) (hg:Ad [O ya yn yc,O oa on oc] w g) (h1:AX w (O ya yn yc) ls) (h2:AX w (O oa on oc) ms) (hy:yn<=5) (ho:on<=5) (hyc:ya=none->yc=0) (hoc:oa=none->oc=0) :
  Calls Tryz.prog 216 #[O (some ⟨g,0,none⟩) 2 2] w fun e w'=>∃ v xs,e=zk v/\w'.ownsRow w.heap.size 39 2 v (ls++ms).length xs/\BE w' (ls++ms) xs/\Ov w w':=by
 obtain ⟨Z,hi,S,R,Q⟩:=info_parts Tryz.infoL;have K1:=Aa (RJ (yn+on) (by omega) w);have HG:=Aa hg;have H1:=Aa h1;have H2:=Aa h2;have V:yn=ls.length:=by obtain ⟨-,a,c,I,-⟩:=h1;injection I
 have W:on=ms.length:=by obtain ⟨-,a,c,I,-⟩:=h2;injection I
 have G:=Aa V;have M:=Aa W;clear hg h1 h2 V W;go_enter Tryz.func216,Tryz.ntmps216;go_wp2_with fail;go_loopw [3,11] (fun s i wr=>∃ j:Int,0<=j/\j<=2/\i=zd U j/\s=zd U (if j=0 then 0 else if j=1 then (yn:Int) else (yn:Int)+on)/\wr=w) (fun _ i _=>2 - (intOf i).toNat)
 case atStart=>exact ⟨0,by omega,by omega,rfl,rfl,rfl⟩
 case round=>
  obtain ⟨j,ag,hj,rfl,rfl,hw⟩:=hrel;have ac:=hw.symm;subst ac;clear hw;rcases (by omega:j=0\/j=1\/j=2) with rfl | rfl | rfl
  ·have q:=HG.o 0 _ rfl
   rw [if_pos rfl];go_wp2_with fail;exact ⟨⟨1,by omega,by omega,by first | rfl | go_num,by first | rfl | simp,by first | rfl | trivial⟩,by simp [intOf]⟩
  ·have q:=HG.o 1 _ rfl
   rw [if_neg (by omega),if_pos rfl];go_wp2_with fail;exact ⟨⟨2,by omega,by omega,by first | rfl | go_num,by first | rfl | simp,by first | rfl | trivial⟩,by simp [intOf]⟩
  ·rw [if_neg (by omega),if_neg (by omega)]
   have L:Hx (Calls Tryz.prog 241 #[O none 0 0,zd U ((yn:Int)+on)] w fun e w'=>∃ v,e=zk v/\w'.ownsRow w.heap.size 39 2 v 0 []/\Ov w w'):=by
    have:=K1.o;rw [Int.natCast_add] at this;exact this
   obtain ⟨T,hT⟩:=nm ((yn:Int)+on);rw [<-hT] at L ⊢;have aw:0<=T:=by omega
   have av:T<=10:=by omega
   clear hT;go_wp2_with fail;refine (L.o).mono ?_;rintro e w1 ⟨v,rfl,d,X⟩;clear K1 L;obtain ⟨va,vn,vc,ae⟩:∃ a n c,v=O a n c:=by
    rcases d.2 with ⟨h,_⟩ | ⟨g,a1,az,h,_⟩
    ·exact ⟨_,_,_,h⟩
    ·exact ⟨_,_,_,h⟩
   subst ae;go_wp2_with fail;go_loopw [6,27] (fun nv i wq=>∃ (j:Int) (xs:List Value),0<=j/\j<=2/\i=zd U j/\wq.ownsRow w.heap.size 39 2 nv (if j=0 then [] else if j=1 then ls else ls++ms).length xs/\BE w (if j=0 then [] else if j=1 then ls else ls++ms) xs/\Ov w wq) (fun _ i _=>2 - (intOf i).toNat)
   case atStart=>exact ⟨0,[],by omega,by omega,rfl,d,rfl,X⟩
   case round=>
    clear d X;obtain ⟨j,xs,ag,hj,rfl,d,f,t⟩:=hrel;rcases (by omega:j=0\/j=1\/j=2) with rfl | rfl | rfl
    ·rw [if_pos rfl] at d f
     have q:=HG.o.over t 0 _ rfl;have A:w.heap.size<=wr.heap.size:=t.size
     cases ya with
     | none=>
      have K:=hyc rfl;have p:ls=[]:=by
       obtain ⟨-,a0,c0,I,J⟩:=H1.o;injection I with e1 e2 e3;rcases h:ls with _ | ⟨x,r⟩
       ·rfl
       ·obtain ⟨b,off,E,-⟩:=J (by rw [h];simp)
        rw [<-e1] at E;cases E
      have H:yn=0:=by rw [G.o,p];rfl
      subst K H;go_wp2_with (at_builtin;refine wpList_append_own_none rfl _ _ 26 rfl w.heap.size 39 Z 2 Tryz.underlying26 hi _ _ _ rfl d rfl ?_);go_wp2_with fail;refine ⟨⟨1,xs,by omega,by omega,by first | rfl | go_num,?_,?_,t⟩,by simp [intOf]⟩
      ·rw [if_neg (by omega),if_pos rfl]
       rw [p];simpa using d
      ·rw [if_neg (by omega),if_pos rfl]
       rw [p];simpa using f
     | some ad=>
      obtain ⟨P,k,z⟩:=H1.o.src2;have y:=fun j u hu=>Ab t _ _ (z j u hu);have ah:([]:List Lab).length+yn<=10:=by simp;omega
      go_wp2_with (at_builtin;refine wpList_append_own _ rfl _ _ 26 rfl w.heap.size 39 Z (zh #[O none 0 0,O none 0 0]) 2 48 Tryz.underlying26 hi S R Q rfl (by decide) _ _ _ rfl d ad yn yc P rfl (by rw [k.length,G.o]) y k.one (by unfold maxLen;omega) (by omega) A ?_);intro v2 w3 l B _;have F:=Bz d B A;have N:=Aa l;have C:=(f.append k);go_wp2_with fail;refine ⟨⟨1,xs++P,by omega,by omega,by first | rfl | go_num,?_,?_,t.trans F⟩,by simp [intOf]⟩
      ·rw [if_neg (by omega),if_pos rfl]
       have Y:=N.o;rw [G.o] at Y;simpa using Y
      ·rw [if_neg (by omega),if_pos rfl]
       simpa using C
    ·rw [if_neg (by omega),if_pos rfl] at d f
     have q:=HG.o.over t 1 _ rfl;have A:w.heap.size<=wr.heap.size:=t.size
     cases oa with
     | none=>
      have K:=hoc rfl;have p:ms=[]:=by
       obtain ⟨-,a0,c0,I,J⟩:=H2.o;injection I with e1 e2 e3;rcases h:ms with _ | ⟨x,r⟩
       ·rfl
       ·obtain ⟨b,off,E,-⟩:=J (by rw [h];simp)
        rw [<-e1] at E;cases E
      have H:on=0:=by rw [M.o,p];rfl
      subst K H;go_wp2_with (at_builtin;refine wpList_append_own_none rfl _ _ 26 rfl w.heap.size 39 Z 2 Tryz.underlying26 hi _ _ _ rfl d rfl ?_);go_wp2_with fail;refine ⟨⟨2,xs,by omega,by omega,by first | rfl | go_num,?_,?_,t⟩,by simp [intOf]⟩
      ·rw [if_neg (by omega),if_neg (by omega)]
       rw [p];simpa using d
      ·rw [if_neg (by omega),if_neg (by omega)]
       rw [p];simpa using f
     | some ad=>
      obtain ⟨P,k,z⟩:=H2.o.src2;have y:=fun j u hu=>Ab t _ _ (z j u hu);have ah:ls.length+on<=10:=by have:=G.o;omega
      go_wp2_with (at_builtin;refine wpList_append_own _ rfl _ _ 26 rfl w.heap.size 39 Z (zh #[O none 0 0,O none 0 0]) 2 48 Tryz.underlying26 hi S R Q rfl (by decide) _ _ _ rfl d ad on oc P rfl (by rw [k.length,M.o]) y k.one (by unfold maxLen;omega) (by omega) A ?_);intro v2 w3 l B _;have F:=Bz d B A;have N:=Aa l;have C:=(f.append k);go_wp2_with fail;refine ⟨⟨2,xs++P,by omega,by omega,by first | rfl | go_num,?_,?_,t.trans F⟩,by simp [intOf]⟩
      ·rw [if_neg (by omega),if_neg (by omega)]
       have Y:=N.o;rw [M.o] at Y;simpa using Y
      ·rw [if_neg (by omega),if_neg (by omega)]
       simpa using C
    ·rw [if_neg (by omega),if_neg (by omega)] at d f
     go_wp2_with fail;go_ret;exact ⟨_,xs,rfl,d,f.over t,t⟩
theorem Li {W:World} {B e:Nat} {v:Value} {n:Nat} {xs:List Value} (h:W.ownsRow B e 2 v n xs) (hn:0 < n):∃ g cap,v=O (some ⟨g,0,none⟩) n cap/\B<=g/\g < W.heap.size/\∀ j u,xs[j]? = some u->W.cell? ((⟨g,0,none⟩:Addr).add j)=some u:=by
 rcases h.2 with ⟨_,s⟩ | ⟨g,cap,k,d,f,c,q,p,l,i⟩
 ·omega
 ·refine ⟨g,cap,d,f,(Array.getElem?_eq_some_iff.1 c).1,fun j u b=>?_⟩
  rw [Addr.add_lit,Lib.cell_of_heap c];rw [<-i,List.getElem?_take] at b;split at b
  ·simpa using b
  ·cases b
def Fe (m:Int) (gs:List (Int × Int)) (ls:List Lab) (vs:List (Bool × Lab)):Prop:=
 (∀ b∈ls,Bs m gs b=0)/\(∀ v∈vs,Bs m gs v.2=0)/\∀ v∈vs,v.1=false->v.2.r=[]/\v.2.w=[]
theorem EF {α:Type} {P:α->Prop} {l:List α} {n:Nat} (h:n < l.length) (h1:∀ b∈l.take n,P b) (h2:P l[n]):∀ b∈l.take (n+1),P b:=fun b hb=>by
 rw [List.take_succ_eq_append_getElem h,List.mem_append,List.mem_singleton] at hb;rcases hb with hb | rfl
 ·exact h1 b hb
 ·exact h2
theorem EG {α:Type} {P:α->Prop} {l:List α} {n:Nat} (h:l.length<=n) (h1:∀ b∈l.take n,P b):∀ b∈l,P b:=by
 rw [List.take_of_length_le h] at h1;exact h1
theorem JH {w:World} {a:Option Addr} {n c:Nat} {ps:List Pol} (h:Au w (O a n c) ps):n=ps.length:=by
 obtain ⟨f,d,b,-⟩:=h;injection b
structure Bg (K kf:Nat) (m:Int) (ga:Option Addr) (gn gc:Nat) (sa:Option Addr) (sn sc:Nat) (ya:Option Addr) (yn yc:Nat) (oa:Option Addr) (on oc:Nat) (va:Option Addr) (vn vc:Nat) (fa:Option Addr) (fn fc:Nat) (ba:Option Addr) (bn bc:Nat) (gs:List (Int × Int)) (sp:List Int) (ls ms:List Lab) (vs:List (Bool × Lab)) (fs:List FnD) (l:List D) (w:World):Prop where
 m64:Cq m
 grants:AB w (O ga gn gc) gs
 speak:AQ w (O sa sn sc) sp
 speakL:sp.length<=9223372036854775807
 ins:AX w (O ya yn yc) ls
 outs:AX w (O oa on oc) ms
 vars:Bo w (O va vn vc) vs
 funcs:Bi w K kf (O fa fn fc) fs
 main:AI w K kf (O ba bn bc) l
 insN:ya=none->yc=0
 outsN:oa=none->oc=0
theorem Bg.over {K kf:Nat} {m:Int} {ga:Option Addr} {gn gc:Nat} {sa:Option Addr} {sn sc:Nat} {ya:Option Addr} {yn yc:Nat} {oa:Option Addr} {on oc:Nat} {va:Option Addr} {vn vc:Nat} {fa:Option Addr} {fn fc:Nat} {ba:Option Addr} {bn bc:Nat} {gs:List (Int × Int)} {sp:List Int} {ls ms:List Lab} {vs:List (Bool × Lab)} {fs:List FnD} {l:List D} {w w':World} (h:Bg K kf m ga gn gc sa sn sc ya yn yc oa on oc va vn vc fa fn fc ba bn bc gs sp ls ms vs fs l w) (hb:Ov w w'):Bg K kf m ga gn gc sa sn sc ya yn yc oa on oc va vn vc fa fn fc ba bn bc gs sp ls ms vs fs l w':=
 ⟨h.m64,Aj h.grants hb,h.speak.over hb,h.speakL,h.ins.over hb,h.outs.over hb,h.vars.over hb,h.funcs.over hb,h.main.over hb,h.insN,h.outsN⟩
structure okP (K kf:Nat) (m:Int) (vn yn on:Nat) (gs:List (Int × Int)) (sp:List Int) (ls ms:List Lab) (vs:List (Bool × Lab)) (fs:List FnD) (l:List D):Prop where
 chk:AN m gs=0
 speak:∀ x∈sp,0<=x/\x < m
 labs:Fe m gs (ls++ms) vs
 outs:on<=5
 vars:vn<=16
 ins:yn<=5
 funcs:fs.length<=5
 many:Ap kf fs+Ai kf l<=50
 body:∀ i (h:i < fs.length),okF K vn yn on (i:Int) fs kf fs[i]
 main:∀ s∈l,okS K vn yn on (fs.length:Int) fs kf s
theorem Qy (v:Value) (w:World):(Instr.typeAssert (.iface 230 v) 20 230 false).run Tryz.prog w=.ok v w:=by
 simp [Instr.typeAssert,run_underlying Tryz.underlying230,go_sem,Result.andThen]
theorem L5 (B:Nat) (x y a e:Int) (older:List PanicEntry) (w:World) (hB:B+2<=w.heap.size)
  (c0:w.cell? ⟨B,0,none⟩=some (zd U x)) (c1:w.cell? ⟨B+1,0,none⟩=some (zd U y))
  (f0:w.frozen? ⟨B,0,none⟩=false) (f1:w.frozen? ⟨B+1,0,none⟩=false) :
  CallsD Tryz.prog 170 #[zj (some ⟨B,0,none⟩),zj (some ⟨B+1,0,none⟩)] (.panicking ({ v:=.iface 230 (zh #[zd U a,zd U e]),recovered:=false }::older)) w fun en u' w'=>
   en=zk (zm #[])/\u'=.panicking ({ v:=.iface 230 (zh #[zd U a,zd U e]),recovered:=true }::older) /\
   w'.cell? ⟨B,0,none⟩=some (zd U a)/\w'.cell? ⟨B+1,0,none⟩=some (zd U e)/\Below B w w':=by
 have f:=Qy;refine callsD_of_wpS Tryz.func170 rfl fun g cs d=>?_;apply wpS_seq;apply wpS_region;simp [wpOpsS,go_sem,recoverD,d,Tryz.ntmps170,Exit.thenS];refine wpS_of_wp ?_
 change Code.wp Tryz.prog _ _ { tmps:=#[zj (some ⟨B,0,none⟩),zj (some ⟨B+1,0,none⟩),.iface 230 (zh #[zd U a,zd U e]),undef,.iface 230 (zh #[zd U a,zd U e]),undef,undef,undef,undef,undef,undef,undef,undef],defers:=[] } w
 go_wp2
 have c:B < w.heap.size:=by omega
 have b:B+1 < w.heap.size:=by omega
 go_region
 go_wp2
 refine ⟨rfl,_,by cases g;simp_all,zm #[],by simp [results,Tryz.results170],rfl,rfl,?_⟩;refine ⟨by simp [go_sem,c,c0],by simp [go_sem,b,c1],?_⟩;exact (((((Below.refl B w).setCell (by simp) _).setCell (by simp) _)).alloc (by simp [World.setCell];omega) _).drew
end Go.Proofs.YtfffpjkcfnekaaaGreat.Ex
namespace Go.Proofs.YtfffpjkcfnekaaaGreat.Ex.Ey
open Go.RowKit
open Go.Value renaming slice -> O, int -> zd, bool -> zg, agg -> zh, pointer -> zj, tuple -> zm
open Go.IntKind renaming i64 -> U
open Go.Obj renaming cells -> ze
open Go.Ending renaming returned -> zk
def Dc (ok:Prop) (w:World) (e:Ending) (w':World):Prop:=((ok/\e=zk (zm #[]))\/(¬ ok/\∃ why:Int,why≠0/\e=Az why))/\Ov w w'
theorem Dc.imp {p q:Prop} {w:World} {e:Ending} {w':World} (h:Dc p w e w') (hpq:p ↔ q):Dc q w e w':=by
 have:p=q:=propext hpq;subst this;exact h
theorem Cd (K:Nat) (m:Int) (ga gn gc sa sn sc ya yn yc oa on oc va vn vc fa fn fc ba bn bc) (cs:List Value) (d) (w:World) (h:RX w K cs d) (hv:vn<=9223372036854775807):Calls Tryz.prog 219 #[zh #[zd U m,O ga gn gc,O sa sn sc,O ya yn yc,O oa on oc,O va vn vc,O fa fn fc,O ba bn bc],.agg cs.toArray] w (Dc (AF vn K d=0) w):=by
 have q:=Aa fun W C=>check_any K cs d W (vn:Int) (by omega) (by omega) (h.over C);have E:=Aa GM;obtain ⟨u,t,rfl⟩:=h.form;obtain ⟨A,g⟩:=nm (AD d);obtain ⟨z,f⟩:=nm (A5 d);obtain ⟨s,c⟩:=nm ((AC d).length);rw [<-g,<-f,<-c] at q ⊢;clear g f c h;obtain ⟨r,y⟩:=nm (AF vn K d);rw [<-y] at q ⊢;clear y;have b:Ov w ((w.alloc (ze #[zd U m,O ga gn gc,O sa sn sc,O ya yn yc,O oa on oc,O va vn vc,O fa fn fc,O ba bn bc] 184)).alloc (ze #[zd U A,zd U z,O u s t] 94)):=(bA w _).alloc (by simp) _;show Calls Tryz.prog 219 #[zh #[zd U m,O ga gn gc,O sa sn sc,O ya yn yc,O oa on oc,O va vn vc,O fa fn fc,O ba bn bc],zh #[zd U A,zd U z,O u s t]] w _;go_enter Tryz.func219,Tryz.ntmps219;go_wp2_with fail;refine (q.o _ b).mono ?_;rintro e G ⟨rfl,p⟩;have i:=b.trans (p.mono b.size);go_wp2_with fail;refine (E.o _ _).mono ?_;rintro e F ⟨B,rfl⟩;rcases B with ⟨l,rfl⟩ | ⟨l,rfl⟩
 ·have k:r=0:=by simpa using l
  clear l;subst k;go_wp2_with fail;go_end0;exact ⟨Or.inl ⟨by first | rfl | trivial,rfl⟩,i⟩
 ·have k:r≠0:=by simpa using l
  unfold Az;go_wp2_with fail;exact ⟨rfl,Or.inr ⟨by first | exact k | simp,r,k,rfl⟩,i⟩
theorem F4 {w w0 w1:World} {a0 a1 a2 a3 a4 a5 a6 a7 a8 a9 a10:Addr} {v0 v1 v2 v3 v4 v5 v6 v7 v8 v9 v10:Value}
  (h:w0.cell? a0=some v0/\w0.cell? a1=some v1/\w0.cell? a2=some v2/\w0.cell? a3=some v3/\w0.cell? a4=some v4/\w0.cell? a5=some v5/\w0.cell? a6=some v6/\w0.cell? a7=some v7/\w0.cell? a8=some v8/\w0.cell? a9=some v9/\w0.cell? a10=some v10/\Ov w w0) (hb:Ov w0 w1) :
  w1.cell? a0=some v0/\w1.cell? a1=some v1/\w1.cell? a2=some v2/\w1.cell? a3=some v3/\w1.cell? a4=some v4/\w1.cell? a5=some v5/\w1.cell? a6=some v6/\w1.cell? a7=some v7/\w1.cell? a8=some v8/\w1.cell? a9=some v9/\w1.cell? a10=some v10/\Ov w w1:=by
 obtain ⟨t,s,q,p,l,k,i,g,f,d,b,c⟩:=h;exact ⟨Ab hb _ _ t,Ab hb _ _ s,Ab hb _ _ q,Ab hb _ _ p,Ab hb _ _ l,Ab hb _ _ k,Ab hb _ _ i,Ab hb _ _ g,Ab hb _ _ f,Ab hb _ _ d,Ab hb _ _ b,c.trans (hb.mono c.size)⟩
theorem Rn (K k:Nat) (fs de das) (funcs:Int) (m:Int) (ga gn gc sa sn sc) (ya:Option Addr) (yn yc:Nat) (oa:Option Addr) (on oc:Nat) (va:Option Addr) (vn vc:Nat) (fa fn fc ba bn bc) (vr ot ek en:Int) (xa xl xc aa al ac ta tl tc ea el ec) (w:World) (hv:vn<=9223372036854775807) (i1:Cq vr) (i2:Cq ot) (h0f:0<=funcs) (h1f:funcs<=9223372036854775807) (hyl:yn<=9223372036854775807) (hol:on<=9223372036854775807)
  (hde:RX w K [zd U ek,zd U en,O xa xl xc] de) (hda:XS 3 (RX w K) w (O aa al ac) das) (hfs:Bi w K k (O fa fn fc) fs) (hff:funcs<=fs.length) :
  Calls Tryz.prog 220 #[zh #[zd U m,O ga gn gc,O sa sn sc,O ya yn yc,O oa on oc,O va vn vc,O fa fn fc,O ba bn bc],zh #[zd U 3,zd U vr,zd U ot,zd U ek,zd U en,O xa xl xc,O aa al ac,O ta tl tc,O ea el ec],zd U funcs] w (Dc ((0<=vr/\vr < vn)/\(0<=ot/\ot < (yn:Int))/\(ek=0/\en=0/\xl=0)/\(al=0)/\(tl=0)/\(el=0)) w):=by
 obtain ⟨Q,C⟩:∃ Q:Prop,Q=((0<=vr/\vr < vn)/\(0<=ot/\ot < (yn:Int))/\(ek=0/\en=0/\xl=0)/\(al=0)/\(tl=0)/\(el=0)):=⟨_,rfl⟩;rw [<-C];have HQ:Hx (((0<=vr/\vr < vn)/\(0<=ot/\ot < (yn:Int))/\(ek=0/\en=0/\xl=0)/\(al=0)/\(tl=0)/\(el=0))->Q):=Aa (fun p=>by rw [C];exact p);have N1:Hx (¬ (0<=vr/\vr < vn)->¬ Q):=Aa (fun h p=>by rw [C] at p;exact h p.1);have N2:Hx (¬ (0<=ot/\ot < (yn:Int))->¬ Q):=Aa (fun h p=>by rw [C] at p;exact h p.2.1);have Z:Hx (¬ (ek=0/\en=0/\xl=0)->¬ Q):=Aa (fun h p=>by rw [C] at p;exact h p.2.2.1);have N4:Hx (¬ (al=0)->¬ Q):=Aa (fun h p=>by rw [C] at p;exact h p.2.2.2.1);have N5:Hx (¬ (tl=0)->¬ Q):=Aa (fun h p=>by rw [C] at p;exact h p.2.2.2.2.1);have N6:Hx (¬ (el=0)->¬ Q):=Aa (fun h p=>by rw [C] at p;exact h p.2.2.2.2.2);clear C;have K1:=Aa Ok;have y:=Aa BZ;have K3:=Aa Bq;have K4:=Aa fun W=>Ck 3 funcs m ga gn gc sa sn sc ya yn yc oa on oc va vn vc fa fn fc ba bn bc W;simp only [Int.reduceEq,if_true,if_false] at K4;have K5:=Aa fun W (hB:Ov w W)=>Cd K m ga gn gc sa sn sc ya yn yc oa on oc va vn vc fa fn fc ba bn bc _ _ W (hde.over hB) hv;have a3:al<=9223372036854775807/\al=das.length:=⟨by obtain ⟨hm,ao,b6,b,-⟩:=hda;injection b with e1 e2 e3;rw [e2];exact hm,by obtain ⟨hm,ao,b6,b,-⟩:=hda;injection b⟩;obtain ⟨a3,T⟩:=a3;have d7:=Aa T;obtain ⟨i1,dl⟩:=i1;obtain ⟨i2,dk⟩:=i2;clear hde hda hfs T;obtain ⟨c0,c1,c2,c3,c4,c5,c6,c7⟩:=rc8 (Gt w [zd U m,O ga gn gc,O sa sn sc,O ya yn yc,O oa on oc,O va vn vc,O fa fn fc,O ba bn bc] 184 (ze #[zd U 3,zd U vr,zd U ot,zd U ek,zd U en,O xa xl xc,O aa al ac,O ta tl tc,O ea el ec] 130));obtain ⟨s0,s1,s2,s3,s4,s5,s6,s7,s8⟩:=rc9 (Hw w (ze #[zd U m,O ga gn gc,O sa sn sc,O ya yn yc,O oa on oc,O va vn vc,O fa fn fc,O ba bn bc] 184) [zd U 3,zd U vr,zd U ot,zd U ek,zd U en,O xa xl xc,O aa al ac,O ta tl tc,O ea el ec] 130);have g:Ov w ((w.alloc (ze #[zd U m,O ga gn gc,O sa sn sc,O ya yn yc,O oa on oc,O va vn vc,O fa fn fc,O ba bn bc] 184)).alloc (ze #[zd U 3,zd U vr,zd U ot,zd U ek,zd U en,O xa xl xc,O aa al ac,O ta tl tc,O ea el ec] 130)):=(bA w _).alloc (by simp) _;go_enter Tryz.func220,Tryz.ntmps220;go_wp2_with fail;refine (K1.o _).mono ?_;rintro e P ⟨rfl,Y⟩;have b4:=g.trans (Y.mono g.size);have d:=Ac Y (bA P (ze #[zg true,zg true,zg false,zg false,zg false,zg false] 288));have q:=g.trans (d.mono g.size);obtain ⟨N,M,L,J,I,H,G,F,B,ax⟩:=CY d c0 c1 c2 c3 c4 c5 c6 c7 s0 s1;obtain ⟨A,au,aq,am,aj,ah,af⟩:=co7 d s2 s3 s4 s5 s6 s7 s8;obtain ⟨bg,E,bd,a9,a7,a5⟩:=rc6 (AP P [zg true,zg true,zg false,zg false,zg false,zg false] 288);clear Y d g b4 c0 c1 c2 c3 c4 c5 c6 c7 s0 s1 s2 s3 s4 s5 s6 s7 s8;go_wp2_with fail;refine (y.o _ _ _).mono ?_;rintro e z ⟨b,rfl⟩;have f:=orT b;subst f;clear b;go_wp2_with fail;refine (K3.o _ _ _).mono ?_;rintro e z ⟨rfl,rfl⟩;go_wp2_with fail;refine (y.o _ _ _).mono ?_;rintro e z ⟨b,rfl⟩;rcases b with ⟨S,rfl⟩ | ⟨c,rfl⟩;rotate_left
 ·skip
  have s:=nO N1 N2 Z N4 N5 N6 c;clear c;unfold Az;go_wp2_with fail;exact ⟨rfl,Or.inr ⟨s.o,5,by decide,rfl⟩,q⟩
 have t:0<=vr/\vr < vn:=by simpa using S
 have bz:=Aa t;clear S t;go_wp2_with fail;have V:=Below.refl (P.alloc (ze #[zg true,zg true,zg false,zg false,zg false,zg false] 288)).heap.size (P.alloc (ze #[zg true,zg true,zg false,zg false,zg false,zg false] 288));obtain ⟨ob,X⟩:=nm (decide (0<=ot/\ot < (yn:Int)));have ab:=Aa fun W=>Bq ot (yn:Int) W;rw [<-X] at ab;have b0:=Aa X;clear X
 cases ob with
 | false=>
  have cc:=Aa (N2.o (by have hq:=b0.o;simp at hq;omega));go_region_held2 (fun W=>W.cell? ⟨w.heap.size,0,none⟩=some (zd U m)/\W.cell? ⟨w.heap.size,1,none⟩=some (O ga gn gc)/\W.cell? ⟨w.heap.size,2,none⟩=some (O sa sn sc)/\W.cell? ⟨w.heap.size,3,none⟩=some (O ya yn yc)/\W.cell? ⟨w.heap.size,4,none⟩=some (O oa on oc)/\W.cell? ⟨w.heap.size,5,none⟩=some (O va vn vc)/\W.cell? ⟨w.heap.size,6,none⟩=some (O fa fn fc)/\W.cell? ⟨w.heap.size,7,none⟩=some (O ba bn bc)/\W.cell? ⟨w.heap.size+1,0,none⟩=some (zd U 3)/\W.cell? ⟨w.heap.size+1,2,none⟩=some (zd U ot)/\W.cell? ⟨P.heap.size,1,none⟩=some (zg true)/\Ov (P.alloc (ze #[zg true,zg true,zg false,zg false,zg false,zg false] 288)) W) (first | assumption | exact ⟨N,M,L,J,I,H,G,F,B,A,E,below_drewN V 1⟩ | exact F4 (by assumption) hbp | fail) (first | (go_at_call 244;refine (K4.o _).mono ?_;rintro e wp ⟨rfl,hbp⟩) | (go_at_call 173;refine (ab.o _).mono ?_;rintro e wq ⟨rfl,rfl⟩) | (go_at_call 172;refine (y.o false 5 _).mono ?_;rintro e wq ⟨b,rfl⟩;rcases b with ⟨hb,rfl⟩ | ⟨hb,rfl⟩;rotate_left;exact ⟨rfl,Or.inr ⟨cc.o,5,by decide,rfl⟩,q.trans ((by assumption:_/\_/\_/\_/\_/\_/\_/\_/\_/\_/\_/\Below _ _ _).2.2.2.2.2.2.2.2.2.2.2.mono q.size)⟩;have a1:=Aa hb;clear hb));exact absurd a1.o (by simp)
 | true=>
  have a0:0<=ot/\ot < (yn:Int):=by simpa using b0.o.symm
  have cb:=Aa a0;clear a0;go_region_held3 (fun W=>W.cell? ⟨w.heap.size,0,none⟩=some (zd U m)/\W.cell? ⟨w.heap.size,1,none⟩=some (O ga gn gc)/\W.cell? ⟨w.heap.size,2,none⟩=some (O sa sn sc)/\W.cell? ⟨w.heap.size,3,none⟩=some (O ya yn yc)/\W.cell? ⟨w.heap.size,4,none⟩=some (O oa on oc)/\W.cell? ⟨w.heap.size,5,none⟩=some (O va vn vc)/\W.cell? ⟨w.heap.size,6,none⟩=some (O fa fn fc)/\W.cell? ⟨w.heap.size,7,none⟩=some (O ba bn bc)/\W.cell? ⟨w.heap.size+1,0,none⟩=some (zd U 3)/\W.cell? ⟨w.heap.size+1,2,none⟩=some (zd U ot)/\W.cell? ⟨P.heap.size,1,none⟩=some (zg true)/\Ov (P.alloc (ze #[zg true,zg true,zg false,zg false,zg false,zg false] 288)) W) (first | assumption | exact ⟨N,M,L,J,I,H,G,F,B,A,E,below_drewN V 1⟩ | exact F4 (by assumption) hbp | fail) (first | (go_at_call 244;refine (K4.o _).mono ?_;rintro e wp ⟨rfl,hbp⟩) | (go_at_call 173;refine (ab.o _).mono ?_;rintro e wq ⟨rfl,rfl⟩) | (go_at_call 172;refine (BU 5 _).mono ?_;rintro e wq ⟨rfl,rfl⟩));have d:=(by assumption:_/\_/\_/\_/\_/\_/\_/\_/\_/\_/\_/\Below _ _ _).2.2.2.2.2.2.2.2.2.2.2;have l:=q.trans (d.mono q.size);obtain ⟨bp,bo,bm,bl,bk,bj,bi,bh,ay,aw⟩:=CY d N M L J I H G F B ax;obtain ⟨av,ar,an,ak,ai,ag,ae,bf,be,bb⟩:=CY d A au aq am aj ah af bg E bd;obtain ⟨a8,a6,a4⟩:=co3 d a9 a7 a5;clear d q V N M L J I H G F B ax A au aq am aj ah af bg E bd a9 a7 a5;go_wp2_with fail;refine (y.o _ _ _).mono ?_;rintro e z ⟨b,rfl⟩;have f:=orT b;subst f;clear b;go_wp2_with fail;refine (y.o _ _ _).mono ?_;rintro e z ⟨b,rfl⟩;have f:=orT b;subst f;clear b;by_cases z1:ek=0;rotate_left
  ·have zb:(ek == 0)=false:=by simpa using z1
   have s:=Aa (Z.o (by omega));go_wp2_with fail;refine (y.o _ _ _).mono ?_;rintro e z ⟨b,rfl⟩;have f:e=Az 1:=by
    rcases b with ⟨b,_⟩ | ⟨_,b⟩
    ·cases b
    ·exact b
   subst f;clear b;unfold Az;go_wp2_with fail;exact ⟨rfl,Or.inr ⟨s.o,1,by decide,rfl⟩,l⟩
  have cx:(ek == 0)=true:=by simpa using z1
  have b9:=Aa z1;clear z1;by_cases z2:en=0;rotate_left
  ·have zb:(en == 0)=false:=by simpa using z2
   have s:=Aa (Z.o (by omega));go_wp2_with fail;refine (y.o _ _ _).mono ?_;rintro e z ⟨b,rfl⟩;have f:e=Az 1:=by
    rcases b with ⟨b,_⟩ | ⟨_,b⟩
    ·cases b
    ·exact b
   subst f;clear b;unfold Az;go_wp2_with fail;exact ⟨rfl,Or.inr ⟨s.o,1,by decide,rfl⟩,l⟩
  have cv:(en == 0)=true:=by simpa using z2
  have b8:=Aa z2;clear z2;go_wp2_with fail;refine (y.o _ _ _).mono ?_;rintro e z ⟨b,rfl⟩;rcases b with ⟨c,rfl⟩ | ⟨c,rfl⟩;rotate_left
  ·skip
   have s:=nO N1 N2 Z N4 N5 N6 c;clear c;unfold Az;go_wp2_with fail;exact ⟨rfl,Or.inr ⟨s.o,1,by decide,rfl⟩,l⟩
  have R:xl=0:=by simp at c;omega
  have ca:=Aa R;clear c R;go_wp2_with fail;refine (y.o _ _ _).mono ?_;rintro e z ⟨b,rfl⟩;rcases b with ⟨u,rfl⟩ | ⟨c,rfl⟩;rotate_left
  ·skip
   have s:=nO N1 N2 Z N4 N5 N6 c;clear c;unfold Az;go_wp2_with fail;exact ⟨rfl,Or.inr ⟨s.o,1,by decide,rfl⟩,l⟩
  have a2:al=0:=by simp at u;omega
  subst a2;clear u;go_wp2_with fail;refine (y.o _ _ _).mono ?_;rintro e z ⟨b,rfl⟩;rcases b with ⟨c,rfl⟩ | ⟨c,rfl⟩;rotate_left
  ·skip
   have s:=nO N1 N2 Z N4 N5 N6 c;clear c;unfold Az;go_wp2_with fail;exact ⟨rfl,Or.inr ⟨s.o,1,by decide,rfl⟩,l⟩
  have bw:=Aa c;clear c;go_wp2_with fail;refine (y.o _ _ _).mono ?_;rintro e z ⟨b,rfl⟩;rcases b with ⟨c,rfl⟩ | ⟨c,rfl⟩;rotate_left
  ·skip
   have s:=nO N1 N2 Z N4 N5 N6 c;clear c;unfold Az;go_wp2_with fail;exact ⟨rfl,Or.inr ⟨s.o,1,by decide,rfl⟩,l⟩
  have bv:=Aa c;clear c;go_wp2_with fail
  go_quiet ((go_at_call 172;exact Calls.quiet_of_same (BU _ _)))
  obtain ⟨d2,d1,d0,dz,dy,dx,dw,dv,di,dh⟩:=Db (n:=nq) bp bo bm bl bk bj bi bh ay aw;obtain ⟨dg,df,dd,dc,db,da,c8,dt,ds,dr⟩:=Db (n:=nq) av ar an ak ai ag ae bf be bb;obtain ⟨dq,dn,dm⟩:=cn3 (n:=nq) a8 a6 a4;have b3:=below_drewN l nq;clear bp bo bm bl bk bj bi bh ay aw av ar an ak ai ag ae bf be bb a8 a6 a4;go_wp2_with fail;go_loopw [138] (fun i wr=>i=zd U 0/\Ov w wr) (fun _ _=>0)
  case atStart=>exact ⟨rfl,b3⟩
  case round=>
   obtain ⟨rfl,hB⟩:=hrel;go_wp2_with fail;go_end0;refine ⟨Or.inl ⟨HQ.o ⟨?_,?_,?_,?_,?_,?_⟩,rfl⟩,hB⟩;all_goals first | trivial | exact bz.o | exact cb.o | exact HEX.o | exact ⟨b9.o,b8.o,ca.o⟩ | (have hq:=bw.o;simp at hq;omega) | (have hq:=bv.o;simp at hq;omega) | omega
theorem Rm (K k:Nat) (fs de das) (funcs:Int) (m:Int) (ga gn gc sa sn sc) (ya:Option Addr) (yn yc:Nat) (oa:Option Addr) (on oc:Nat) (va:Option Addr) (vn vc:Nat) (fa fn fc ba bn bc) (vr ot ek en:Int) (xa xl xc aa al ac ta tl tc ea el ec) (w:World) (hv:vn<=9223372036854775807) (i1:Cq vr) (i2:Cq ot) (h0f:0<=funcs) (h1f:funcs<=9223372036854775807) (hyl:yn<=9223372036854775807) (hol:on<=9223372036854775807)
  (hde:RX w K [zd U ek,zd U en,O xa xl xc] de) (hda:XS 3 (RX w K) w (O aa al ac) das) (hfs:Bi w K k (O fa fn fc) fs) (hff:funcs<=fs.length) :
  Calls Tryz.prog 220 #[zh #[zd U m,O ga gn gc,O sa sn sc,O ya yn yc,O oa on oc,O va vn vc,O fa fn fc,O ba bn bc],zh #[zd U 4,zd U vr,zd U ot,zd U ek,zd U en,O xa xl xc,O aa al ac,O ta tl tc,O ea el ec],zd U funcs] w (Dc ((vr=0)/\(0<=ot/\ot < (on:Int))/\(AF vn K de=0)/\(al=0)/\(tl=0)/\(el=0)) w):=by
 obtain ⟨Q,z⟩:∃ Q:Prop,Q=((vr=0)/\(0<=ot/\ot < (on:Int))/\(AF vn K de=0)/\(al=0)/\(tl=0)/\(el=0)):=⟨_,rfl⟩;rw [<-z];have HQ:Hx (((vr=0)/\(0<=ot/\ot < (on:Int))/\(AF vn K de=0)/\(al=0)/\(tl=0)/\(el=0))->Q):=Aa (fun p=>by rw [z];exact p);have N1:Hx (¬ (vr=0)->¬ Q):=Aa (fun h p=>by rw [z] at p;exact h p.1);have N2:Hx (¬ (0<=ot/\ot < (on:Int))->¬ Q):=Aa (fun h p=>by rw [z] at p;exact h p.2.1);have N3:Hx (¬ (AF vn K de=0)->¬ Q):=Aa (fun h p=>by rw [z] at p;exact h p.2.2.1);have N4:Hx (¬ (al=0)->¬ Q):=Aa (fun h p=>by rw [z] at p;exact h p.2.2.2.1);have N5:Hx (¬ (tl=0)->¬ Q):=Aa (fun h p=>by rw [z] at p;exact h p.2.2.2.2.1);have N6:Hx (¬ (el=0)->¬ Q):=Aa (fun h p=>by rw [z] at p;exact h p.2.2.2.2.2);clear z;have K1:=Aa Oj;have L:=Aa BZ;have K3:=Aa Bq;have K4:=Aa fun W=>Ck 4 funcs m ga gn gc sa sn sc ya yn yc oa on oc va vn vc fa fn fc ba bn bc W;simp only [Int.reduceEq,if_false] at K4;have K5:=Aa fun W (hB:Ov w W)=>Cd K m ga gn gc sa sn sc ya yn yc oa on oc va vn vc fa fn fc ba bn bc _ _ W (hde.over hB) hv;have be:al<=9223372036854775807/\al=das.length:=⟨by obtain ⟨hm,ao,c8,b,-⟩:=hda;injection b with e1 e2 e3;rw [e2];exact hm,by obtain ⟨hm,ao,c8,b,-⟩:=hda;injection b⟩;obtain ⟨be,R⟩:=be;have ex:=Aa R;obtain ⟨i1,d8⟩:=i1;obtain ⟨i2,d7⟩:=i2;clear hde hda hfs R;obtain ⟨c0,c1,c2,c3,c4,c5,c6,c7⟩:=rc8 (Gt w [zd U m,O ga gn gc,O sa sn sc,O ya yn yc,O oa on oc,O va vn vc,O fa fn fc,O ba bn bc] 184 (ze #[zd U 4,zd U vr,zd U ot,zd U ek,zd U en,O xa xl xc,O aa al ac,O ta tl tc,O ea el ec] 130));obtain ⟨s0,s1,s2,s3,s4,s5,s6,s7,s8⟩:=rc9 (Hw w (ze #[zd U m,O ga gn gc,O sa sn sc,O ya yn yc,O oa on oc,O va vn vc,O fa fn fc,O ba bn bc] 184) [zd U 4,zd U vr,zd U ot,zd U ek,zd U en,O xa xl xc,O aa al ac,O ta tl tc,O ea el ec] 130);have f:Ov w ((w.alloc (ze #[zd U m,O ga gn gc,O sa sn sc,O ya yn yc,O oa on oc,O va vn vc,O fa fn fc,O ba bn bc] 184)).alloc (ze #[zd U 4,zd U vr,zd U ot,zd U ek,zd U en,O xa xl xc,O aa al ac,O ta tl tc,O ea el ec] 130)):=(bA w _).alloc (by simp) _;go_enter Tryz.func220,Tryz.ntmps220;go_wp2_with fail;refine (K1.o _).mono ?_;rintro e N ⟨rfl,Y⟩;have cy:=f.trans (Y.mono f.size);have c:=Ac Y (bA N (ze #[zg false,zg true,zg true,zg false,zg false,zg false] 288));have t:=f.trans (c.mono f.size);obtain ⟨J,I,H,G,F,E,C,B,y,a4⟩:=CY c c0 c1 c2 c3 c4 c5 c6 c7 s0 s1;obtain ⟨u,az,aw,ar,am,ai,af⟩:=co7 c s2 s3 s4 s5 s6 s7 s8;obtain ⟨b0,A,bt,bp,bl,bi⟩:=rc6 (AP N [zg false,zg true,zg true,zg false,zg false,zg false] 288);clear Y c f cy c0 c1 c2 c3 c4 c5 c6 c7 s0 s1 s2 s3 s4 s5 s6 s7 s8;go_wp2_with fail;refine (L.o _ _ _).mono ?_;rintro e S ⟨b,rfl⟩;have g:=orT b;subst g;clear b;go_wp2_with fail;refine (L.o _ _ _).mono ?_;rintro e S ⟨b,rfl⟩;have g:=orT b;subst g;clear b;go_wp2_with fail;have T:=Below.refl (N.alloc (ze #[zg false,zg true,zg true,zg false,zg false,zg false] 288)).heap.size (N.alloc (ze #[zg false,zg true,zg true,zg false,zg false,zg false] 288));obtain ⟨ob,X⟩:=nm (decide (0<=ot/\ot < (on:Int)));have ab:=Aa fun W=>Bq ot (on:Int) W;rw [<-X] at ab;have co:=Aa X;clear X
 cases ob with
 | false=>
  have dc:=Aa (N2.o (by have V:=co.o;simp at V;omega));go_region_held2 (fun W=>W.cell? ⟨w.heap.size,0,none⟩=some (zd U m)/\W.cell? ⟨w.heap.size,1,none⟩=some (O ga gn gc)/\W.cell? ⟨w.heap.size,2,none⟩=some (O sa sn sc)/\W.cell? ⟨w.heap.size,3,none⟩=some (O ya yn yc)/\W.cell? ⟨w.heap.size,4,none⟩=some (O oa on oc)/\W.cell? ⟨w.heap.size,5,none⟩=some (O va vn vc)/\W.cell? ⟨w.heap.size,6,none⟩=some (O fa fn fc)/\W.cell? ⟨w.heap.size,7,none⟩=some (O ba bn bc)/\W.cell? ⟨w.heap.size+1,0,none⟩=some (zd U 4)/\W.cell? ⟨w.heap.size+1,2,none⟩=some (zd U ot)/\W.cell? ⟨N.heap.size,1,none⟩=some (zg true)/\Ov (N.alloc (ze #[zg false,zg true,zg true,zg false,zg false,zg false] 288)) W) (first | assumption | exact ⟨J,I,H,G,F,E,C,B,y,u,A,below_drewN T 1⟩ | exact F4 (by assumption) hbp | fail) (first | (go_at_call 244;refine (K4.o _).mono ?_;rintro e wp ⟨rfl,hbp⟩) | (go_at_call 173;refine (ab.o _).mono ?_;rintro e wq ⟨rfl,rfl⟩) | (go_at_call 172;refine (L.o false 5 _).mono ?_;rintro e wq ⟨b,rfl⟩;rcases b with ⟨hb,rfl⟩ | ⟨hb,rfl⟩;rotate_left;exact ⟨rfl,Or.inr ⟨dc.o,5,by decide,rfl⟩,t.trans ((by assumption:_/\_/\_/\_/\_/\_/\_/\_/\_/\_/\_/\Below _ _ _).2.2.2.2.2.2.2.2.2.2.2.mono t.size)⟩;have bb:=Aa hb;clear hb));exact absurd bb.o (by simp)
 | true=>
  have a8:0<=ot/\ot < (on:Int):=by simpa using co.o.symm
  have db:=Aa a8;clear a8;go_region_held3 (fun W=>W.cell? ⟨w.heap.size,0,none⟩=some (zd U m)/\W.cell? ⟨w.heap.size,1,none⟩=some (O ga gn gc)/\W.cell? ⟨w.heap.size,2,none⟩=some (O sa sn sc)/\W.cell? ⟨w.heap.size,3,none⟩=some (O ya yn yc)/\W.cell? ⟨w.heap.size,4,none⟩=some (O oa on oc)/\W.cell? ⟨w.heap.size,5,none⟩=some (O va vn vc)/\W.cell? ⟨w.heap.size,6,none⟩=some (O fa fn fc)/\W.cell? ⟨w.heap.size,7,none⟩=some (O ba bn bc)/\W.cell? ⟨w.heap.size+1,0,none⟩=some (zd U 4)/\W.cell? ⟨w.heap.size+1,2,none⟩=some (zd U ot)/\W.cell? ⟨N.heap.size,1,none⟩=some (zg true)/\Ov (N.alloc (ze #[zg false,zg true,zg true,zg false,zg false,zg false] 288)) W) (first | assumption | exact ⟨J,I,H,G,F,E,C,B,y,u,A,below_drewN T 1⟩ | exact F4 (by assumption) hbp | fail) (first | (go_at_call 244;refine (K4.o _).mono ?_;rintro e wp ⟨rfl,hbp⟩) | (go_at_call 173;refine (ab.o _).mono ?_;rintro e wq ⟨rfl,rfl⟩) | (go_at_call 172;refine (BU 5 _).mono ?_;rintro e wq ⟨rfl,rfl⟩));have c:=(by assumption:_/\_/\_/\_/\_/\_/\_/\_/\_/\_/\_/\Below _ _ _).2.2.2.2.2.2.2.2.2.2.2;have s:=t.trans (c.mono t.size);obtain ⟨cg,ce,cc,ca,b8,b6,b4,b2,a6,a3⟩:=CY c J I H G F E C B y a4;obtain ⟨a1,ay,av,aq,ak,ah,ae,bz,bv,bs⟩:=CY c u az aw ar am ai af b0 A bt;obtain ⟨bo,bk,bh⟩:=co3 c bp bl bi;clear c t T J I H G F E C B y a4 u az aw ar am ai af b0 A bt bp bl bi;go_wp2_with fail;refine (L.o _ _ _).mono ?_;rintro e S ⟨b,rfl⟩;rcases b with ⟨d,rfl⟩ | ⟨d,rfl⟩;rotate_left
  ·skip
   have M:=nO N1 N2 N3 N4 N5 N6 d;clear d;unfold Az;go_wp2_with fail;exact ⟨rfl,Or.inr ⟨M.o,1,by decide,rfl⟩,s⟩
  have cn:=Aa d;clear d;go_wp2_with fail;refine (L.o _ _ _).mono ?_;rintro e S ⟨b,rfl⟩;have g:=orT b;subst g;clear b;go_wp2_with fail;refine (L.o _ _ _).mono ?_;rintro e S ⟨b,rfl⟩;have g:=orT b;subst g;clear b;go_wp2_with fail;refine (L.o _ _ _).mono ?_;rintro e S ⟨b,rfl⟩;rcases b with ⟨q,rfl⟩ | ⟨d,rfl⟩;rotate_left
  ·skip
   have M:=nO N1 N2 N3 N4 N5 N6 d;clear d;unfold Az;go_wp2_with fail;exact ⟨rfl,Or.inr ⟨M.o,1,by decide,rfl⟩,s⟩
  have bd:al=0:=by simp at q;omega
  subst bd;clear q;go_wp2_with fail;refine (L.o _ _ _).mono ?_;rintro e S ⟨b,rfl⟩;rcases b with ⟨d,rfl⟩ | ⟨d,rfl⟩;rotate_left
  ·skip
   have M:=nO N1 N2 N3 N4 N5 N6 d;clear d;unfold Az;go_wp2_with fail;exact ⟨rfl,Or.inr ⟨M.o,1,by decide,rfl⟩,s⟩
  have cm:=Aa d;clear d;go_wp2_with fail;refine (L.o _ _ _).mono ?_;rintro e S ⟨b,rfl⟩;rcases b with ⟨d,rfl⟩ | ⟨d,rfl⟩;rotate_left
  ·skip
   have M:=nO N1 N2 N3 N4 N5 N6 d;clear d;unfold Az;go_wp2_with fail;exact ⟨rfl,Or.inr ⟨M.o,1,by decide,rfl⟩,s⟩
  have ck:=Aa d;clear d;go_wp2_with fail
  go_quiet ((go_at_call 172;exact Calls.quiet_of_same (BU _ _)))
  obtain ⟨cf,cd,cb,b9,b7,b5,b3,b1,a5,a2⟩:=Db (n:=nq) cg ce cc ca b8 b6 b4 b2 a6 a3;obtain ⟨a0,ax,au,an,aj,ag,ad,bw,bu,br⟩:=Db (n:=nq) a1 ay av aq ak ah ae bz bv bs;obtain ⟨bm,bj,bg⟩:=cn3 (n:=nq) bo bk bh;have Z:=below_drewN s nq;clear cg ce cc ca b8 b6 b4 b2 a6 a3 a1 ay av aq ak ah ae bz bv bs bo bk bh;go_wp2_with fail;refine (K5.o _ Z).mono ?_;rintro e w5 ⟨b,l⟩;have bf:=Z.trans (l.mono Z.size);rcases b with ⟨a9,rfl⟩ | ⟨P,cv,a7,rfl⟩;rotate_left
  ·have M:=Aa (N3.o P)
   clear P;unfold Az;go_wp2_with fail;exact ⟨rfl,Or.inr ⟨M.o,cv,a7,rfl⟩,bf⟩
  obtain ⟨es,er,eq,ep,eo,em,ej,ei,d5,d4⟩:=CY l cf cd cb b9 b7 b5 b3 b1 a5 a2;obtain ⟨d3,d2,d1,d0,dz,dy,dx,eg,ef,ee⟩:=CY l a0 ax au an aj ag ad bw bu br;obtain ⟨ed,eb,d9⟩:=co3 l bm bj bg;have dd:=Aa a9;clear a9 l cf cd cb b9 b7 b5 b3 b1 a5 a2 a0 ax au an aj ag ad bw bu br bm bj bg;go_wp2_with fail;go_loopw [138] (fun i wr=>i=zd U 0/\Ov w wr) (fun _ _=>0)
  case atStart=>exact ⟨rfl,bf⟩
  case round=>
   obtain ⟨rfl,hB⟩:=hrel;go_wp2_with fail;go_end0;refine ⟨Or.inl ⟨HQ.o ⟨?_,?_,?_,?_,?_,?_⟩,rfl⟩,hB⟩;all_goals first | trivial | exact HVAR.o | exact db.o | exact dd.o | exact ⟨HZ1.o,HZ2.o,HXL.o⟩ | (have V:=cn.o;simp at V;omega) | (have V:=cm.o;simp at V;omega) | (have V:=ck.o;simp at V;omega) | omega
end Go.Proofs.YtfffpjkcfnekaaaGreat.Ex.Ey
