/- One who judges: who acts for whom. -/
import Derived.Test.YtfffpjkcfnekaaaGreatI17
set_option linter.unusedVariables false
set_option maxHeartbeats 8000000
set_option maxRecDepth 100000
namespace Go.Proofs.YtfffpjkcfnekaaaGreat.Ex
open Go.RowKit
open Go.Value renaming slice -> O, int -> zd, bool -> zg, agg -> zh, pointer -> zj, tuple -> zm
open Go.IntKind renaming i64 -> U
open Go.Obj renaming cells -> ze
open Go.Ending renaming returned -> zk
def Ec (gn:List (Nat × Nat)) (n i j:Nat):Bool:=(acts gn n i)[j]?.getD false
structure JAc (c:WC) (w0:World) (av:Value) (gn:List (Nat × Nat)) (sp:List Int):Prop where
 acts:∃ ob,av=O (some ⟨ob,0,none⟩) c.n c.n/\C4 w0 ob c.n gn c.n
 speak:AQ w0 (O c.sa c.sn c.sc) sp
 s6:sp.length<=6
 sIn:∀ x∈sp,0<=x/\x < (c.n:Int)
abbrev QT (bx bj bw who ob:Nat) (c:WC) (kb other:Nat) (r:Bool) (Wz:World):Prop:=Wz.cell? ⟨bx,0,none⟩=some (zj (some ⟨bj,0,none⟩))/\CE Wz bw 0 (zd U (who:Int))/\CE Wz bj 10 (O (some ⟨ob,0,none⟩) c.n c.n)/\CE Wz ob who (O (some ⟨kb,0,none⟩) c.n c.n)/\CE Wz kb other (zg r)
theorem Th (c) (w0:World) (bj:Nat) (av:Value) (fl) (fv:Value) (gn:List (Nat × Nat)) (sp) (A:JAc c w0 av gn sp) (bx bw who other:Nat) (W:World) (h:AV c.cs w0 bj av fl fv W) (n6:c.n<=6) (hx:W.cell? ⟨bx,0,none⟩=some (zj (some ⟨bj,0,none⟩))) (hw:W.cell? ⟨bw,0,none⟩=some (zd U (who:Int))) (h1:who < c.n) (h2:other < c.n) :
  Calls Tryz.prog 238 #[zd U (other:Int),zj (some ⟨bx,0,none⟩),zj (some ⟨bw,0,none⟩)] W fun e W'=>e=zk (zg (Ec gn c.n who other))/\Ov W W':=by
 obtain ⟨g,rfl,p⟩:=A.acts;obtain ⟨i,-,k,q⟩:=p who h1;have d:=(q other (by rw [BW];exact h2)).1;have l:(acts gn c.n who)[other]'(by rw [BW];exact h2)=Ec gn c.n who other:=by unfold Ec;rw [List.getElem?_eq_getElem (by rw [BW];exact h2)];rfl
 rw [l] at d;generalize Ec gn c.n who other=r at d ⊢;have b:QT bx bj bw who g c i other r W:=⟨hx,hw,h.c10,Ab h.below _ _ k,Ab h.below _ _ d⟩;obtain ⟨z,y,u,t,s⟩:=id b;have C:(who:Int) < (c.n:Int):=by omega
 have B:(other:Int) < (c.n:Int):=by omega
 clear h A p q k d l hx hw;go_enter Tryz.func238,Tryz.ntmps238;go_wp2_with fail;refine gS (QT bx bj bw who g c i other r) (b) fun f=>?_;refine kT 0 ?_;refine kT 1 ?_;refine kT 2 ?_;refine kT 3 ?_;refine kT 4 ?_;refine kT 5 ?_;refine kT 6 ?_;refine kT 7 ?_;refine kT 8 ?_;refine kT 9 ?_;refine kT 10 ?_;refine gE ?_;go_wp2_with fail;go_ret;exact ⟨rfl,(bD _)⟩
theorem Nx (args:Array Value) (w:World):(callFunc 238 args).run Tryz.prog w=.ok (.enter 238 args) w:=by simp [go_sem]
abbrev QS (bx bj bw other ob:Nat) (c:WC) (who kb:Nat) (r:Bool) (Wz:World):Prop:=Wz.cell? ⟨bx,0,none⟩=some (zj (some ⟨bj,0,none⟩))/\CE Wz bw 0 (zd U (other:Int))/\CE Wz bj 10 (O (some ⟨ob,0,none⟩) c.n c.n)/\CE Wz ob who (O (some ⟨kb,0,none⟩) c.n c.n)/\CE Wz kb other (zg r)
theorem RB (c) (w0:World) (bj:Nat) (av:Value) (fl) (fv:Value) (gn:List (Nat × Nat)) (sp) (A:JAc c w0 av gn sp) (bx bw who other:Nat) (W:World) (h:AV c.cs w0 bj av fl fv W) (n6:c.n<=6) (hx:W.cell? ⟨bx,0,none⟩=some (zj (some ⟨bj,0,none⟩))) (hw:W.cell? ⟨bw,0,none⟩=some (zd U (other:Int))) (h1:who < c.n) (h2:other < c.n) :
  Calls Tryz.prog 237 #[zd U (who:Int),zj (some ⟨bx,0,none⟩),zj (some ⟨bw,0,none⟩)] W fun e W'=>e=zk (zg (Ec gn c.n who other))/\Ov W W':=by
 obtain ⟨g,rfl,p⟩:=A.acts;obtain ⟨i,-,k,q⟩:=p who h1;have d:=(q other (by rw [BW];exact h2)).1;have l:(acts gn c.n who)[other]'(by rw [BW];exact h2)=Ec gn c.n who other:=by unfold Ec;rw [List.getElem?_eq_getElem (by rw [BW];exact h2)];rfl
 rw [l] at d;generalize Ec gn c.n who other=r at d ⊢;have b:QS bx bj bw other g c who i r W:=⟨hx,hw,h.c10,Ab h.below _ _ k,Ab h.below _ _ d⟩;obtain ⟨z,y,u,t,s⟩:=id b;have C:(who:Int) < (c.n:Int):=by omega
 have B:(other:Int) < (c.n:Int):=by omega
 clear h A p q k d l hx hw;go_enter Tryz.func237,Tryz.ntmps237;go_wp2_with fail;refine gS (QS bx bj bw other g c who i r) (b) fun f=>?_;refine kT 0 ?_;refine kT 1 ?_;refine kT 2 ?_;refine kT 3 ?_;refine kT 4 ?_;refine kT 5 ?_;refine kT 6 ?_;refine kT 7 ?_;refine kT 8 ?_;refine kT 9 ?_;refine kT 10 ?_;refine kT 11 ?_;refine gE ?_;go_wp2_with fail;go_ret;exact ⟨rfl,(bD _)⟩
theorem Kr (args:Array Value) (w:World):(callFunc 237 args).run Tryz.prog w=.ok (.enter 237 args) w:=by simp [go_sem]
def Kc (gn:List (Nat × Nat)) (n:Nat) (sp:List Int) (who:Nat):Bool:=sp.any fun x=>Ec gn n who x.toNat
def Fw (gn:List (Nat × Nat)) (n:Nat) (sp:List Int) (o:Nat):Bool:=!(sp.any fun x=>Ec gn n x.toNat o)
theorem RL (c) (w0:World) (bj:Nat) (av:Value) (fl) (fv:Value) (gn:List (Nat × Nat)) (sp) (A:JAc c w0 av gn sp) (who:Nat) (W:World) (h:AV c.cs w0 bj av fl fv W) (n6:c.n<=6) (h1:who < c.n) :
  Calls Tryz.prog 206 #[zj (some ⟨bj,0,none⟩),zd U (who:Int)] W fun e W'=>e=zk (zg (Kc gn c.n sp who))/\Ov W W':=by
 have k:Ov W ((W.alloc (ze #[zj (some ⟨bj,0,none⟩)] 161)).alloc (ze #[zd U (who:Int)] 3)):=(bA W _).alloc (by simp) _;have f:=h.over k;have q:=Gt W [zj (some ⟨bj,0,none⟩)] 161 (ze #[zd U (who:Int)] 3) 0 _ rfl;have p:=Hw W (ze #[zj (some ⟨bj,0,none⟩)] 161) [zd U (who:Int)] 3 0 _ rfl;have s:=f.cw 2 _ rfl;have K:=Aa (Fg 238 [zj (some ⟨W.heap.size,0,none⟩),zj (some ⟨W.heap.size+1,0,none⟩)] (fun x=>Ec gn c.n who x.toNat) (O c.sa c.sn c.sc) sp _ (Be A.speak f.below) A.s6
  (Aa fun i l g b=>by
   obtain ⟨x0,x1⟩:=A.sIn _ (List.getElem_mem l);have:=Th c w0 bj av fl fv gn sp A W.heap.size (W.heap.size+1) who (sp[i].toNat) g (f.over b) n6 (Ab b _ _ q) (Ab b _ _ p) h1 (by omega)
   rwa [Int.toNat_of_nonneg x0] at this) Nx)
 have d:(sp.any fun x=>Ec gn c.n who x.toNat)=Kc gn c.n sp who:=rfl;rw [d] at K;clear f h A d;go_enter Tryz.func206,Tryz.ntmps206;go_wp2_with fail;refine (K.o).mono ?_;rintro e g ⟨rfl,b⟩;go_wp2_with fail;go_ret;exact ⟨rfl,Ac k b⟩
theorem SA (c) (w0:World) (bj:Nat) (av:Value) (fl) (fv:Value) (gn:List (Nat × Nat)) (sp) (A:JAc c w0 av gn sp) (bx:Nat) (o:Nat) (na nn nc) (W:World) (h:AV c.cs w0 bj av fl fv W) (n6:c.n<=6) (hx:W.cell? ⟨bx,0,none⟩=some (zj (some ⟨bj,0,none⟩))) (h1:o < c.n) :
  Calls Tryz.prog 236 #[zh #[zd U (o:Int),O na nn nc],zj (some ⟨bx,0,none⟩)] W fun e W'=>e=zk (zg (Fw gn c.n sp o))/\Ov W W':=by
 have g:Ov W (W.alloc (ze #[zd U (o:Int),O na nn nc] 87)):=bA W _;have f:=h.over g;have q:=Ab g _ _ hx;have p:=AP W [zd U (o:Int),O na nn nc] 87 0 _ rfl;have s:=f.cw 2 _ rfl;have K:=Aa (Fg 237 [zj (some ⟨bx,0,none⟩),zj (some ⟨W.heap.size,0,none⟩)] (fun x=>Ec gn c.n x.toNat o) (O c.sa c.sn c.sc) sp _ (Be A.speak f.below) A.s6
  (Aa fun i l k b=>by
   obtain ⟨x0,x1⟩:=A.sIn _ (List.getElem_mem l);have:=RB c w0 bj av fl fv gn sp A bx W.heap.size (sp[i].toNat) o k (f.over b) n6 (Ab b _ _ q) (Ab b _ _ p) (by omega) h1
   rwa [Int.toNat_of_nonneg x0] at this) Kr)
 have d:(!(sp.any fun x=>Ec gn c.n x.toNat o))=Fw gn c.n sp o:=rfl;rw [<-d];generalize (sp.any fun x=>Ec gn c.n x.toNat o)=r at K ⊢;clear f h A d hx;go_enter Tryz.func236,Tryz.ntmps236;go_wp2_with fail;refine (K.o).mono ?_;rintro e k ⟨rfl,b⟩;go_wp2_with fail;go_ret;exact ⟨rfl,Ac g b⟩
theorem L6 (args:Array Value) (w:World):(callFunc 236 args).run Tryz.prog w=.ok (.enter 236 args) w:=by simp [go_sem]
theorem QW (c) (w0:World) (bj:Nat) (av:Value) (fl) (fv:Value) (gn:List (Nat × Nat)) (sp) (A:JAc c w0 av gn sp) (v:Value) (ps:List Pol) (W:World) (h:AV c.cs w0 bj av fl fv W) (n6:c.n<=6) (hp:Au W v ps) (hp6:ps.length<=6) (hin:∀ q∈ps,0<=q.owner/\q.owner < (c.n:Int)) :
  Calls Tryz.prog 202 #[zj (some ⟨bj,0,none⟩),v] W fun e W'=>e=zk (zg (ps.any fun q=>Fw gn c.n sp q.owner.toNat))/\Ov W W':=by
 have f:Ov W (W.alloc (ze #[zj (some ⟨bj,0,none⟩)] 161)):=bA W _;have k:=h.over f;have s:=AP W [zj (some ⟨bj,0,none⟩)] 161 0 _ rfl;have K:=Aa (LR 236 [zj (some ⟨W.heap.size,0,none⟩)] (fun q=>Fw gn c.n sp q.owner.toNat) v ps _ (Ah hp f) hp6
  (Aa fun i p g b z d=>by
   obtain ⟨x0,x1⟩:=hin _ (List.getElem_mem p);obtain ⟨n1,l,rfl,-⟩:=d;have:=SA c w0 bj av fl fv gn sp A W.heap.size (ps[i].owner.toNat) n1 ps[i].names.length l g (k.over b) n6 (Ab b _ _ s) (by omega)
   rwa [Int.toNat_of_nonneg x0] at this) L6)
 obtain ⟨y,t,u,rfl⟩:∃ a n c,v=O a n c:=by obtain ⟨a,c,e,-⟩:=hp;exact ⟨_,_,_,e⟩
 generalize (ps.any fun q=>Fw gn c.n sp q.owner.toNat)=r at K ⊢;clear k h A hp hin;go_enter Tryz.func202,Tryz.ntmps202;go_wp2_with fail;refine (K.o).mono ?_;rintro e g ⟨rfl,b⟩;go_wp2_with fail;go_ret;exact ⟨rfl,Ac f b⟩
theorem FR (c:WC) (w0:World) (bj:Nat) (av:Value) (fl) (fv:Value) (F:FuncId) (cap:List Value) (p:Nat->Bool) (W:World) (h:AV c.cs w0 bj av fl fv W) (n6:c.n<=6)
  (hF:Hx (∀ (i:Nat),i < c.n->∀ (w1:World),Ov W w1->Calls Tryz.prog F (zd U (i:Int)::cap).toArray w1 fun e w2=>e=zk (zg (p i))/\Ov w1 w2))
  (hC:∀ (args:Array Value) (w:World),(callFunc F args).run Tryz.prog w=.ok (.enter F args) w) :
  Calls Tryz.prog 203 #[zj (some ⟨bj,0,none⟩),.func (.func F) #[] cap.toArray] W fun e W'=>e=zk (zg ((List.range c.n).any p))/\Ov W W':=by
 have E:=h.cw 0 _ rfl;clear h;go_enter Tryz.func203,Tryz.ntmps203;go_wp2_with fail;go_loopw [13] (fun i wr=>∃ k:Nat,k<=c.n/\i=zd U k/\(∀ j,j < k->p j=false)/\Ov W wr) (fun i _=>c.n - (intOf i).toNat)
 case atStart=>exact ⟨0,Nat.zero_le _,rfl,fun j t=>absurd t (by omega),Below.refl _ W⟩
 case round=>
  obtain ⟨k,hk,rfl,g,b⟩:=hrel;by_cases hkl:k < c.n
  ·have d:=hF.o k hkl
   have s:p k=true->(List.range c.n).any p=true:=fun u=>List.any_eq_true.2 ⟨k,List.mem_range.2 hkl,u⟩;have l:p k=false->∀ j,j < k+1->p j=false:=fun u j t=>by
    by_cases hjk:j=k
    ·rw [hjk];exact u
    ·exact g j (by omega)
   generalize p k=r at d s l;have y:=Aa d;have C:=Aa s;have B:=Aa l;clear d s l hF g;have A:(k:Int) < (c.n:Int):=by omega
   cases r with
   | true=>
    go_wp2_with fail;refine (y.o _ b).mono ?_;rintro e w2 ⟨rfl,q⟩;have f:Ov W w2:=b.trans (q.mono b.size);go_wp2_with fail;go_ret;exact ⟨by rw [C.o (by first | rfl | trivial)];rfl,f⟩
   | false=>
    go_wp2_with fail;refine (y.o _ b).mono ?_;rintro e w2 ⟨rfl,q⟩;have f:Ov W w2:=b.trans (q.mono b.size);go_wp2_with fail;exact ⟨⟨k+1,by omega,by go_num,B.o (by first | rfl | trivial),f⟩,by simp [intOf];omega⟩
  ·have z:(List.range c.n).any p=false:=by
    rw [List.any_eq_false];intro j t;rw [g j (by have:=List.mem_range.1 t;omega)];simp
   clear g hF;go_wp2_with fail;go_ret;exact ⟨by rw [z];rfl,b⟩
section
variable {c:WC} {w0 W W':World} {bj:Nat} {av:Value} {fl:List (Int × Int)} {fv:Value} {gs:List (Int × Int)} {Ls Fs:List Lev}
theorem AV.xold (h:AV c.cs w0 bj av fl fv W) {k:Nat} (hk:k < w0.heap.size):¬ XJ bj W k:=fun e=>by have:=(h.xlt k e).1;omega
theorem GX {n:Nat} (h1:1<=n) (h:AV c.cs w0 bj av fl fv W) {v:Value} {l:Lev} (hl:Bn w0 v l) (hll:l.len n):A0 n (XJ bj) W v l:=by
 have lt:∀ (v:Value) (l:List Bool),A3 w0 v l->l.length=n->∀ a m c,v=O (some a) m c->a.block < w0.heap.size:=by
  intro v l p hl a m c e;obtain ⟨s,q,f,d⟩:=p;obtain ⟨b,off,g,d⟩:=d (by rintro rfl;simp at hl;omega);rw [f,g] at e;injection e with i;injection i with i;rw [<-i];exact bL (d 0 (by omega))
 obtain ⟨x,y,f,bx,k⟩:=id hl;exact ⟨AW hl h.below,hll,x,y,f,fun a m c e=>h.xold (lt _ _ bx hll.1 a m c e),fun a m c e=>h.xold (lt _ _ k hll.2 a m c e)⟩
theorem FZ {n:Nat} (h1:1<=n) (h:AV c.cs w0 bj av fl fv W) {v:Value} {Ls:List Lev} (hl:Cp w0 v Ls) (hll:∀ x∈Ls,x.len n):Bk n (XJ bj) W v Ls:=by
 obtain ⟨s,k,q,d⟩:=hl;refine ⟨s,k,q,fun f=>?_⟩;obtain ⟨b,off,g,d⟩:=d f;refine ⟨b,off,g,fun i l=>?_⟩;obtain ⟨rv,p,c0,c1,hl⟩:=d i l;exact ⟨rv,p,Ab h.below _ _ c0,Ab h.below _ _ c1,GX h1 h hl (hll _ (List.getElem_mem l))⟩
theorem SE (J:JSt c w0 gs Ls Fs) (fs:List FnD) (hF:Fs.length=fs.length):Fi c w0 Ls.length fs gs (fun _:List (Int × Int)=>Ls) (fun _=>Fs) (fun fl W=>∃ fv,AV c.cs w0 bj av fl fv W) (XJ bj) where
 n1:=J.n1
 n6:=J.n6
 gr:=J.gr
 chk:=J.chk
 nv16:=J.l16
 below:=fun _ _ ⟨_,h⟩=>h.below
 levs:=fun _ _ ⟨_,h⟩=>⟨FZ J.n1 h J.levs J.lens,rfl⟩
 flevs:=fun _ _ ⟨_,h⟩=>⟨FZ J.n1 h J.flevs J.flens,hF⟩
 over:=fun _ _ _ ⟨fv,h⟩ hb=>⟨fv,h.over hb⟩
 xok:=An bj
 xlt:=fun _ _ ⟨_,h⟩ k hk=>(h.xlt k hk).2
theorem Jw (J:JSt c w0 gs Ls Fs) (h:AV c.cs w0 bj av fl fv W) (v:Value) (l) (K:Nat) (cs:List Value) (d) (hl:A0 c.n (XJ bj) W v l) (hx:RX w0 K cs d) (hv:∀ x∈Ar K d,0<=x/\x < (Ls.length:Int)) :
  Calls Tryz.prog 103 #[c.v,v,.agg cs.toArray] W fun e w'=>
   (∃ p1 q1 r1 p2 q2 r2,e=zk (zh #[O p1 q1 r1,O p2 q2 r2])/\A0 c.n (XJ bj) w' (zh #[O p1 q1 r1,O p2 q2 r2]) (AY c.n Ls l (Ar K d)))/\Ov W w':=
 EU c J.n1 J.n6 gs Ls (XJ bj) (An bj) v l K cs d W (Aj J.gr h.below) J.chk (FZ J.n1 h J.levs J.lens) hl J.l16 (fun k hk=>(h.xlt k hk).2) (hx.over h.below) hv
end
structure Ew (bj s:Nat) (a:Int) (st lv:List Value) (W:World):Prop where
 j:W.cell? ⟨s,0,none⟩=some (zj (some ⟨bj,0,none⟩))
 a:W.cell? ⟨s+1,0,none⟩=some (zd U a)
 st:Ad st W (s+1+1)
 lv:Ad lv W (s+1+1+1)
 x:∀ i,s<=i->i<=s+3->¬ XJ bj W i
 lt:s+3 < W.heap.size
theorem Ew.keep {bj s:Nat} {a:Int} {st lv:List Value} {W W':World} (h:Ew bj s a st lv W) (hf:FrW (XJ bj) W W'):Ew bj s a st lv W':=
 ⟨hf.cell h.j (h.x s (Nat.le_refl _) (by omega)),hf.cell h.a (h.x _ (by omega) (by omega)),hf.row h.st (h.x _ (by omega) (by omega)),hf.row h.lv (h.x _ (by omega) (by omega)),fun i h0 h1 e=>h.x i h0 h1 (hf.mov i (by have:=h.lt;omega) e),Nat.lt_of_lt_of_le h.lt hf.size⟩
theorem Dq (bj:Nat) (a:Int) (st lv:List Value) (W:World) (hx:∀ k,XJ bj W k->k < W.heap.size) :
  Ew bj W.heap.size a st lv ((((W.alloc (ze #[zj (some ⟨bj,0,none⟩)] 161)).alloc (ze #[zd U a] 3)).alloc (.cells st.toArray 130)).alloc (.cells lv.toArray 50)) /\
  Ov W ((((W.alloc (ze #[zj (some ⟨bj,0,none⟩)] 161)).alloc (ze #[zd U a] 3)).alloc (.cells st.toArray 130)).alloc (.cells lv.toArray 50)):=by
 have b:Ov W ((((W.alloc (ze #[zj (some ⟨bj,0,none⟩)] 161)).alloc (ze #[zd U a] 3)).alloc (.cells st.toArray 130)).alloc (.cells lv.toArray 50)):=(((bA W _).alloc (by simp) _).alloc (by simp <;> omega) _).alloc (by simp <;> omega) _
 refine ⟨⟨by simp [go_sem],by simp [go_sem],?_,?_,fun i d c e=>?_,by simp <;> omega⟩,b⟩
 ·have r:=(Ad.new st 130 ((W.alloc (ze #[zj (some ⟨bj,0,none⟩)] 161)).alloc (ze #[zd U a] 3))).over (bA _ (.cells lv.toArray 50))
  simpa using r
 ·have r:=Ad.new lv 50 (((W.alloc (ze #[zj (some ⟨bj,0,none⟩)] 161)).alloc (ze #[zd U a] 3)).alloc (.cells st.toArray 130))
  simpa using r
 ·have:=hx i ((An bj).below _ _ b i e)
  omega
abbrev QR (W:World) (bj:Nat) (c:WC) (vr ek en:Int) (xa:Option Addr) (xl xc:Nat) (p1:Option Addr) (q1 r1:Nat) (p2:Option Addr) (q2 r2:Nat) (Wz:World):Prop:=Wz.cell? ⟨W.heap.size,0,none⟩=some (zj (some ⟨bj,0,none⟩))/\CE Wz bj 0 (zd U (c.n:Int))/\CE Wz bj 1 (O c.ga c.gn c.gc)/\CE Wz bj 2 (O c.sa c.sn c.sc)/\CE Wz bj 3 (O c.ya c.yn c.yc)/\CE Wz bj 4 (O c.oa c.on c.oc)/\CE Wz bj 5 (O c.va c.vn c.vc)/\CE Wz bj 6 (O c.fa c.fn c.fc)/\CE Wz bj 7 (O c.ba c.bn c.bc)/\CE Wz bj 8 (O c.la c.ln c.lc)/\CE Wz bj 9 (O c.ka c.kn c.kc)/\CE Wz (W.heap.size+1+1) 1 (zd U vr)/\CE Wz (W.heap.size+1+1) 3 (zd U ek)/\CE Wz (W.heap.size+1+1) 4 (zd U en)/\CE Wz (W.heap.size+1+1) 5 (O xa xl xc)/\CE Wz (W.heap.size+1+1+1) 0 (O p1 q1 r1)/\CE Wz (W.heap.size+1+1+1) 1 (O p2 q2 r2)
theorem Rf (c) (w0:World) (bj:Nat) (av:Value) (gs Ls Fs) (J:JSt c w0 gs Ls Fs) (sp) (A:JAc c w0 av (AE gs) sp) (K ni no:Nat) (fs vs) (hvs:Bo w0 (O c.va c.vn c.vc) vs) (hvn:vs.length=Ls.length) (hvc:∀ v∈vs,Bs c.n gs v.2=0) (ls) (hls:AX w0 (O c.ya c.yn c.yc) ls) (hlc:∀ b∈ls,Bs c.n gs b=0) (hni:ls.length=ni) (hni5:ni<=5) (os) (hos:AX w0 (O c.oa c.on c.oc) os) (hoc:∀ b∈os,Bs c.n gs b=0) (hno:os.length=no) (hno5:no<=5)
  (fl:List (Int × Int)) (hfl:fl.length<=900) (fv:Value) (W:World) (a:Int) (k:Nat) (cs:List Value) (d:D) (v:Value) (p:Lev) (funcs:Int) (h:AV c.cs w0 bj av fl fv W) (hrs:RS w0 K (k+1) cs d) (hok:Cs K Ls.length ni no funcs fs d) (hl:A0 c.n (XJ bj) W v p) (hk:Af d=1) :
  Calls Tryz.prog 88 #[zj (some ⟨bj,0,none⟩),zd U a,.agg cs.toArray,v] W fun e W'=>e=zk (zm #[])/\(∃ fv',AV c.cs w0 bj av (addF a 1 fl (!Aw (AY c.n Ls p (Ar K (Ao d))) (Ls.getD (Ax d).toNat AL) c.n)) fv' W')/\FrW (XJ bj) W W':=by
 obtain ⟨p1,Y,V,Z,X,T,rfl⟩:=hl.form;obtain ⟨E,C,B,y,z,aa,ac,ta,tc,ea,ec,rfl,i0,i1,i2,hX,hA,hT,hE,-,-,-⟩:=hrs.form;have ah:sC (Af d) (Ax d) (Ae d) E C B y z aa (Al d).length ac ta (Ag d).length tc ea (Ak d).length ec=sC 1 (Ax d) (Ae d) E C B y z aa (Al d).length ac ta (Ag d).length tc ea (Ak d).length ec:=by rw [hk]
 rw [ah];clear ah;have a4:=hok.2.1 (by omega);obtain ⟨jv,H⟩:∃ j:Nat,Ax d=(j:Int):=⟨(Ax d).toNat,by omega⟩;have I:jv < Ls.length:=by omega
 have ai:Ls.getD (Ax d).toNat AL=Ls[jv]:=by rw [H];simp [List.getD_eq_getElem?_getD,I]
 rw [ai];obtain ⟨S,G⟩:=nm (Ax d);obtain ⟨ot,ag⟩:=nm (Ae d);obtain ⟨al,ak⟩:=nm ((Al d).length);obtain ⟨tl,af⟩:=nm ((Ag d).length);obtain ⟨el,aj⟩:=nm ((Ak d).length);rw [<-G,<-ag,<-ak,<-af,<-aj];obtain ⟨q,hb⟩:=Dq bj a [zd U 1,zd U S,zd U ot,zd U E,zd U C,O B y z,O aa al ac,O ta tl tc,O ea el ec] [O p1 Y V,O Z X T] W (fun k hk=>(h.xlt k hk).2);have u:=FrW.of_below (An bj) hb;have M:=u.trans (FrW.of_below (An bj) (bD _));have cf:=Aa u;have ay:=Aa (h.over hb);have az:=Aa q;have ce:=Aa (hl.keep J.n1 u);have P:=Aa (ay.o.over (bD _));have F:=Aa (q.keep (FrW.of_below (An bj) (bD _)));have bh:=Aa (hl.keep J.n1 M);have bl:=Aa M;have KW:=Aa (fun (g:World) (i:AV c.cs w0 bj av fl fv g) (a6:A0 c.n (XJ bj) g (zh #[O p1 Y V,O Z X T]) p)=>Jw J i _ p K [zd U E,zd U C,O B y z] (Ao d) a6 hX (BF hok));obtain ⟨r,hr⟩:=nm (Aw (AY c.n Ls p (Ar K (Ao d))) Ls[jv] c.n);have KR:Hx (∀ (g:World),AV c.cs w0 bj av fl fv g->∀ (x:Value),A0 c.n (XJ bj) g x (AY c.n Ls p (Ar K (Ao d)))->Calls Tryz.prog 150 #[zj (some ⟨bj,0,none⟩),x,zd U S] g fun e W'=>e=zk (zg r)/\Ov g W'):=fun g i x hx=>by
  rw [hr,G,H];exact Fq c w0 bj av fl fv gs Ls Fs J x _ jv g i hx.at_ hx.len I
 rw [<-hr];have KB:=Aa (fun (g:World) (i:AV c.cs w0 bj av fl fv g) (f:Ew bj W.heap.size a [zd U 1,zd U S,zd U ot,zd U E,zd U C,O B y z,O aa al ac,O ta tl tc,O ea el ec] [O p1 Y V,O Z X T] g) (is:Bool)=>F9 c.cs w0 bj av fl fv a 1 is W.heap.size (W.heap.size+1) g i f.j f.a (f.x _ (Nat.le_refl _) (by omega)) (f.x _ (by omega) (by omega)) (by omega));have HS:Hx (∀ (g:World) (fl2:List (Int × Int)) (fv2:Value),AV c.cs w0 bj av fl2 fv2 g->Ew bj W.heap.size a [zd U 1,zd U S,zd U ot,zd U E,zd U C,O B y z,O aa al ac,O ta tl tc,O ea el ec] [O p1 Y V,O Z X T] g->QR W bj c S E C B y z p1 Y V Z X T g):=fun g fl2 fv2 i f=>⟨f.j,i.cw 0 _ rfl,i.cw 1 _ rfl,i.cw 2 _ rfl,i.cw 3 _ rfl,i.cw 4 _ rfl,i.cw 5 _ rfl,i.cw 6 _ rfl,i.cw 7 _ rfl,i.cw 8 _ rfl,i.cw 9 _ rfl,f.st 1 _ rfl,f.st 3 _ rfl,f.st 4 _ rfl,f.st 5 _ rfl,f.lv 0 _ rfl,f.lv 1 _ rfl⟩;have bd:=Aa (HS.o _ _ _ P.o F.o);obtain ⟨t0,t1,t2,t3,t4,t5,t6,t7,t8,t9,b1,b0,bz,bw,bv,bu,bt⟩:=HS.o _ _ _ ay.o az.o;have g0:=q.st 0 _ rfl;clear hr ai H a4 G ag ak af aj q hb u M h hl hrs hX hA hT hE hok J A hvs hvc hls hlc hos hoc hfl hk i0 i1 i2 I;go_enter Tryz.func88,Tryz.ntmps88;go_wp2_with fail;refine gS (QR W bj c S E C B y z p1 Y V Z X T) (bd.o) fun l=>?_;refine kT 0 ?_;refine kT 1 ?_;refine kT 2 ?_;refine kT 3 ?_;refine kT 4 ?_;refine kT 5 ?_;refine kT 6 ?_;refine kT 7 ?_;refine kT 8 ?_;refine kT 10 ?_;refine kT 11 ?_;refine rdA 9 rfl fun K hK=>?_;go_simp;refine (KW.o _ P.o bh.o).mono ?_;rintro e W3 ⟨⟨o1,o2,o3,o4,o5,o6,rfl,am⟩,t⟩;have bi:=Aa am;have Q:=Aa (P.o.over t);have a0:=Aa (F.o.keep (FrW.of_below (An bj) t));have bg:=Aa (HS.o W3 _ _ Q.o a0.o);have bp:=Aa (bl.o.trans (FrW.of_below (An bj) t));clear am t;go_simp;refine xK hK (bg.o) fun l=>?_;refine rdA 12 rfl fun K hK=>?_;go_simp;refine (KR.o _ Q.o _ bi.o).mono ?_;rintro e W4 ⟨rfl,s⟩;have ax:=Aa (Q.o.over s);have R:=Aa (a0.o.keep (FrW.of_below (An bj) s));have bf:=Aa (HS.o W4 _ _ ax.o R.o);have bo:=Aa (bp.o.trans (FrW.of_below (An bj) s));clear s;go_simp;refine xK hK (bf.o) fun l=>?_;refine kT 13 ?_;refine rdA 14 rfl fun K hK=>?_;go_simp;refine (KB.o _ ax.o R.o _).mono ?_;rintro e W5 ⟨rfl,⟨a8,L⟩,N⟩;have bk:=Aa L;have be:=Aa (HS.o W5 _ _ L (R.o.keep N));have bm:=Aa (bo.o.trans N);clear L N;go_simp;refine xK hK (be.o) fun l=>?_;refine gE ?_;go_end0;exact ⟨rfl,⟨a8,bk.o⟩,bm.o⟩
theorem OI {K nv ni no:Nat} {funcs:Int} {fs:List FnD} {d:D} (h:Cs K nv ni no funcs fs d) (hk:Af d=4):0<=Ae d/\Ae d < no:=by
 unfold Cs at h
 grind
theorem El (gn:List (Nat × Nat)) (n:Nat) (b:Lab):(AH gn n b).len n:=⟨A7 _ _,A7 _ _⟩
abbrev QQ (W:World) (bj:Nat) (c:WC) (bo oo jo:Nat) (ek en:Int) (xa:Option Addr) (xl xc:Nat) (p1:Option Addr) (q1 r1:Nat) (p2:Option Addr) (q2 r2:Nat) (pa1:Option Addr) (pn1 pc1:Nat) (pa2:Option Addr) (pn2 pc2:Nat) (Wz:World):Prop:=Wz.cell? ⟨W.heap.size,0,none⟩=some (zj (some ⟨bj,0,none⟩))/\CE Wz bj 0 (zd U (c.n:Int))/\CE Wz bj 1 (O c.ga c.gn c.gc)/\CE Wz bj 2 (O c.sa c.sn c.sc)/\CE Wz bj 3 (O c.ya c.yn c.yc)/\CE Wz bj 4 (O (some ⟨bo,oo,none⟩) c.on c.oc)/\CE Wz bj 5 (O c.va c.vn c.vc)/\CE Wz bj 6 (O c.fa c.fn c.fc)/\CE Wz bj 7 (O c.ba c.bn c.bc)/\CE Wz bj 8 (O c.la c.ln c.lc)/\CE Wz bj 9 (O c.ka c.kn c.kc)/\CE Wz (W.heap.size+1+1) 2 (zd U (jo:Int))/\CE Wz (W.heap.size+1+1) 3 (zd U ek)/\CE Wz (W.heap.size+1+1) 4 (zd U en)/\CE Wz (W.heap.size+1+1) 5 (O xa xl xc)/\CE Wz (W.heap.size+1+1+1) 0 (O p1 q1 r1)/\CE Wz (W.heap.size+1+1+1) 1 (O p2 q2 r2)/\CE Wz bo (oo+jo*2) (O pa1 pn1 pc1)/\CE Wz bo (oo+jo*2+1) (O pa2 pn2 pc2)
theorem Rc (c) (w0:World) (bj:Nat) (av:Value) (gs Ls Fs) (J:JSt c w0 gs Ls Fs) (sp) (A:JAc c w0 av (AE gs) sp) (K ni no:Nat) (fs vs) (hvs:Bo w0 (O c.va c.vn c.vc) vs) (hvn:vs.length=Ls.length) (hvc:∀ v∈vs,Bs c.n gs v.2=0) (ls) (hls:AX w0 (O c.ya c.yn c.yc) ls) (hlc:∀ b∈ls,Bs c.n gs b=0) (hni:ls.length=ni) (hni5:ni<=5) (os) (hos:AX w0 (O c.oa c.on c.oc) os) (hoc:∀ b∈os,Bs c.n gs b=0) (hno:os.length=no) (hno5:no<=5)
  (fl:List (Int × Int)) (hfl:fl.length<=900) (fv:Value) (W:World) (a:Int) (k:Nat) (cs:List Value) (d:D) (v:Value) (p:Lev) (funcs:Int) (h:AV c.cs w0 bj av fl fv W) (hrs:RS w0 K (k+1) cs d) (hok:Cs K Ls.length ni no funcs fs d) (hl:A0 c.n (XJ bj) W v p) (hk:Af d=4) :
  Calls Tryz.prog 88 #[zj (some ⟨bj,0,none⟩),zd U a,.agg cs.toArray,v] W fun e W'=>e=zk (zm #[])/\(∃ fv',AV c.cs w0 bj av (addF a 4 fl (!Aw (AY c.n Ls p (Ar K (Ao d))) (AH (AE gs) c.n (os.getD (Ae d).toNat ⟨[],[]⟩)) c.n)) fv' W')/\FrW (XJ bj) W W':=by
 obtain ⟨E,B,u,C,z,t,rfl⟩:=hl.form;obtain ⟨ek,en,H,F,G,aa,ac,ta,tc,ea,ec,rfl,i0,i1,i2,hX,hA,hT,hE,-,-,-⟩:=hrs.form;have a8:sC (Af d) (Ax d) (Ae d) ek en H F G aa (Al d).length ac ta (Ag d).length tc ea (Ak d).length ec=sC 4 (Ax d) (Ae d) ek en H F G aa (Al d).length ac ta (Ag d).length tc ea (Ak d).length ec:=by rw [hk]
 rw [a8];clear a8;have b2:0<=Ae d/\Ae d < no:=OI hok hk;obtain ⟨bz,cy,cx,b0,a5⟩:=hos;injection b0 with y1 y2 y3;obtain ⟨R,am⟩:∃ j:Nat,Ae d=(j:Int):=⟨(Ae d).toNat,by omega⟩;have q:R < os.length:=by omega
 obtain ⟨bo,oo,a4,ae⟩:=a5 (by intro h;rw [h] at q;simp at q);obtain ⟨pr,pw,l0,l1,T,S⟩:=ae R q;obtain ⟨Q,L,N,rfl⟩:=AR T;obtain ⟨P,I,M,rfl⟩:=AR S;have ai:c.oa=some ⟨bo,oo,none⟩:=y1.trans a4;have bw:c.on=os.length:=y2;have a9:os.getD (Ae d).toNat ⟨[],[]⟩=os[R]:=by rw [am];simp [List.getD_eq_getElem?_getD,q]
 rw [a9];have ak:=hoc os[R] (List.getElem_mem q);generalize os[R]=lb at ak T S ⊢;obtain ⟨vr,a6⟩:=nm (Ax d);obtain ⟨ot,aj⟩:=nm (Ae d);obtain ⟨al,bd⟩:=nm ((Al d).length);obtain ⟨tl,a7⟩:=nm ((Ag d).length);obtain ⟨el,bb⟩:=nm ((Ak d).length);rw [<-a6,<-aj,<-bd,<-a7,<-bb];obtain ⟨l,hb⟩:=Dq bj a [zd U 4,zd U vr,zd U ot,zd U ek,zd U en,O H F G,O aa al ac,O ta tl tc,O ea el ec] [O E B u,O C z t] W (fun k hk=>(h.xlt k hk).2);have Z:=FrW.of_below (An bj) hb;have aq:=Z.trans (FrW.of_below (An bj) (bD _));have dw:=Aa Z;have bm:=Aa (h.over hb);have bp:=Aa l;have dv:=Aa (hl.keep J.n1 Z);have aw:=Aa (bm.o.over (bD _));have ag:=Aa (l.keep (FrW.of_below (An bj) (bD _)));have ce:=Aa (hl.keep J.n1 aq);have cj:=Aa aq;have af:ot=(R:Int):=by rw [aj,am]
 have V:c.v=(zh #[zd U (c.n:Int),O c.ga c.gn c.gc,O c.sa c.sn c.sc,O c.ya c.yn c.yc,O (some ⟨bo,oo,none⟩) c.on c.oc,O c.va c.vn c.vc,O c.fa c.fn c.fc,O c.ba c.bn c.bc,O c.la c.ln c.lc,O c.ka c.kn c.kc]):=by show Value.agg #[zd U (c.n:Int),O c.ga c.gn c.gc,O c.sa c.sn c.sc,O c.ya c.yn c.yc,O c.oa c.on c.oc,O c.va c.vn c.vc,O c.fa c.fn c.fc,O c.ba c.bn c.bc,O c.la c.ln c.lc,O c.ka c.kn c.kc]=_;rw [ai]
 have KW:Hx (∀ (W2:World),AV c.cs w0 bj av fl fv W2->A0 c.n (XJ bj) W2 (zh #[O E B u,O C z t]) p->Calls Tryz.prog 103 #[(zh #[zd U (c.n:Int),O c.ga c.gn c.gc,O c.sa c.sn c.sc,O c.ya c.yn c.yc,O (some ⟨bo,oo,none⟩) c.on c.oc,O c.va c.vn c.vc,O c.fa c.fn c.fc,O c.ba c.bn c.bc,O c.la c.ln c.lc,O c.ka c.kn c.kc]),(zh #[O E B u,O C z t]),zh #[zd U ek,zd U en,O H F G]] W2 fun e w'=>(∃ E B u C z t,e=zk (zh #[O E B u,O C z t])/\A0 c.n (XJ bj) w' (zh #[O E B u,O C z t]) (AY c.n Ls p (Ar K (Ao d))))/\Ov W2 w'):=fun W2 g b3=>by
  have:=Jw J g _ p K [zd U ek,zd U en,O H F G] (Ao d) b3 hX (BF hok);rw [V] at this;exact this
 have KL:Hx (∀ (W2:World),AV c.cs w0 bj av fl fv W2->Calls Tryz.prog 114 #[(zh #[zd U (c.n:Int),O c.ga c.gn c.gc,O c.sa c.sn c.sc,O c.ya c.yn c.yc,O (some ⟨bo,oo,none⟩) c.on c.oc,O c.va c.vn c.vc,O c.fa c.fn c.fc,O c.ba c.bn c.bc,O c.la c.ln c.lc,O c.ka c.kn c.kc]),zh #[O Q L N,O P I M]] W2 fun e w'=>∃ vj,e=zk vj/\Bh W2 w' vj (AH (AE gs) c.n lb)/\Ov W2 w'):=fun W2 g=>by
  have:=OX c gs (O Q L N) (O P I M) lb W2 (Aj J.gr g.below) (Ah T g.below) (Ah S g.below) ak;rw [V] at this;exact this
 obtain ⟨r,hr⟩:=nm (Aw (AY c.n Ls p (Ar K (Ao d))) (AH (AE gs) c.n lb) c.n);have KF:Hx (∀ (W2:World) (x:Value),AV c.cs w0 bj av fl fv W2->∀ (y:Value),A0 c.n (XJ bj) W2 x (AY c.n Ls p (Ar K (Ao d)))->Bn W2 y (AH (AE gs) c.n lb)->Calls Tryz.prog 57 #[(zh #[zd U (c.n:Int),O c.ga c.gn c.gc,O c.sa c.sn c.sc,O c.ya c.yn c.yc,O (some ⟨bo,oo,none⟩) c.on c.oc,O c.va c.vn c.vc,O c.fa c.fn c.fc,O c.ba c.bn c.bc,O c.la c.ln c.lc,O c.ka c.kn c.kc]),x,y] W2 fun e W'=>e=zk (zg r)/\Ov W2 W'):=fun W2 x g y hx hy=>by
  have:=Hi c gs x y _ _ W2 (Aj J.gr g.below) J.chk hx.at_ hx.len hy (El _ _ _);rw [V,<-hr] at this;exact this
 rw [<-hr];have KB:=Aa (fun (W2:World) (g:AV c.cs w0 bj av fl fv W2) (f:Ew bj W.heap.size a [zd U 4,zd U vr,zd U ot,zd U ek,zd U en,O H F G,O aa al ac,O ta tl tc,O ea el ec] [O E B u,O C z t] W2) (is:Bool)=>F9 c.cs w0 bj av fl fv a 4 is W.heap.size (W.heap.size+1) W2 g f.j f.a (f.x _ (Nat.le_refl _) (by omega)) (f.x _ (by omega) (by omega)) (by omega));have HS:Hx (∀ (W2:World) (fl2:List (Int × Int)) (fv2:Value),AV c.cs w0 bj av fl2 fv2 W2->Ew bj W.heap.size a [zd U 4,zd U vr,zd U ot,zd U ek,zd U en,O H F G,O aa al ac,O ta tl tc,O ea el ec] [O E B u,O C z t] W2->QQ W bj c bo oo R ek en H F G E B u C z t Q L N P I M W2):=fun W2 fl2 fv2 g f=>⟨f.j,g.cw 0 _ rfl,g.cw 1 _ rfl,g.cw 2 _ rfl,g.cw 3 _ rfl,by rw [<-ai];exact g.cw 4 _ rfl,g.cw 5 _ rfl,g.cw 6 _ rfl,g.cw 7 _ rfl,g.cw 8 _ rfl,g.cw 9 _ rfl,by rw [<-af];exact f.st 2 _ rfl,f.st 3 _ rfl,f.st 4 _ rfl,f.st 5 _ rfl,f.lv 0 _ rfl,f.lv 1 _ rfl,Ab g.below _ _ l0,Ab g.below _ _ l1⟩;have b9:=Aa (HS.o _ _ _ aw.o ag.o);obtain ⟨t0,t1,t2,t3,t4,t5,t6,t7,t8,t9,db,da,c8,c7,c6,c5,c4,c3,c2⟩:=HS.o _ _ _ bm.o bp.o;have g0:=l.st 0 _ rfl;have dk:(R:Int) < (c.on:Int):=by omega
 have dj:c.on<=5:=by omega
 clear hr a9 af am b2 ak V ai bw a5 ae a4 bz y1 y2 y3 l0 l1 T S a6 aj bd a7 bb l hb Z aq h hl hrs hX hA hT hE hok J A hvs hvc hls hlc hoc hfl hk i0 i1 i2 q hno hni;go_enter Tryz.func88,Tryz.ntmps88;go_wp2_with fail;refine gS (QQ W bj c bo oo R ek en H F G E B u C z t Q L N P I M) (b9.o) fun i=>?_;refine kT 0 ?_;refine kT 1 ?_;refine kT 2 ?_;refine kT 3 ?_;refine kT 4 ?_;refine kT 5 ?_;refine kT 6 ?_;refine kT 7 ?_;refine kT 8 ?_;refine kT 9 ?_;refine kT 10 ?_;refine kT 11 ?_;refine kT 13 ?_;refine kT 14 ?_;refine kT 15 ?_;refine kT 16 ?_;refine kT 17 ?_;refine kT 18 ?_;refine kT 19 ?_;refine kT 20 ?_;refine kT 21 ?_;refine kT 22 ?_;refine kT 23 ?_;refine kT 24 ?_;refine kT 25 ?_;refine kT 26 ?_;refine rdA 12 rfl fun K hK=>?_;go_simp;refine (KW.o _ aw.o ce.o).mono ?_;rintro e W3 ⟨⟨o1,o2,o3,o4,o5,o6,rfl,bf⟩,Y⟩;have cg:=Aa bf;have ay:=Aa (aw.o.over Y);have bs:=Aa (ag.o.keep (FrW.of_below (An bj) Y));have cd:=Aa (HS.o W3 _ _ ay.o bs.o);have co:=Aa (cj.o.trans (FrW.of_below (An bj) Y));clear bf Y;go_simp;refine xK hK (cd.o) fun i=>?_;refine rdA 27 rfl fun K hK=>?_;go_simp;refine (KL.o _ ay.o).mono ?_;rintro e W4 ⟨vj,rfl,be,s⟩;have b8:=Aa be;have ax:=Aa (ay.o.over s);have br:=Aa (bs.o.keep (FrW.of_below (An bj) s));have cc:=Aa (HS.o W4 _ _ ax.o br.o);have cn:=Aa (co.o.trans (FrW.of_below (An bj) s));have cf:=Aa (cg.o.over (An bj) s);clear be s;go_simp;refine xK hK (cc.o) fun i=>?_;refine rdA 28 rfl fun K hK=>?_;go_simp;refine (KF.o _ _ ax.o _ cf.o (Av b8.o)).mono ?_;rintro e W5 ⟨rfl,X⟩;have bl:=Aa (ax.o.over X);have az:=Aa (br.o.keep (FrW.of_below (An bj) X));have cb:=Aa (HS.o W5 _ _ bl.o az.o);have cm:=Aa (cn.o.trans (FrW.of_below (An bj) X));clear X;go_simp;refine xK hK (cb.o) fun i=>?_;refine kT 29 ?_;refine rdA 30 rfl fun K hK=>?_;go_simp;refine (KB.o _ bl.o az.o _).mono ?_;rintro e W6 ⟨rfl,⟨b5,ao⟩,ar⟩;have ch:=Aa ao;have ca:=Aa (HS.o W6 _ _ ao (az.o.keep ar));have ck:=Aa (cm.o.trans ar);clear ao ar;go_simp;refine xK hK (ca.o) fun i=>?_;refine gE ?_;go_end0;exact ⟨rfl,⟨b5,ch.o⟩,ck.o⟩
end Go.Proofs.YtfffpjkcfnekaaaGreat.Ex
