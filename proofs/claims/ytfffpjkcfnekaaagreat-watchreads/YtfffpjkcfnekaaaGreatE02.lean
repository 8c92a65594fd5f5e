/- The document's own answer who may, by policies. -/
import Derived.Test.YtfffpjkcfnekaaaGreatE01
import Derived.Deep.CutRange
import Derived.Maps.AppendAt
import Derived.Deep.QuietTactic
import Derived.BigQuiet
import Derived.Deep.RegionHeld2
import Derived.Deep.RegionHeld3
import Derived.Deep.DrawnRows
set_option linter.unusedVariables false
set_option maxHeartbeats 8000000
set_option maxRecDepth 100000
namespace Go.Proofs.YtfffpjkcfnekaaaGreat
open Go.RowKit
open Go.Value renaming slice -> O, int -> zd, bool -> zg, agg -> zh, pointer -> zi, tuple -> zk
open Go.IntKind renaming i64 -> U
open Go.Obj renaming cells -> ze
open Go.Ending renaming returned -> zj
def AN (w:World) (v:Value) (l:List Int):Prop:=
 ∃ ao cap,v=O ao l.length cap/\(l≠[]->∃ b off,ao=some ⟨b,off,none⟩/\∀ i (h:i < l.length),w.cell? ⟨b,off+i,none⟩=some (zd U l[i]))
theorem BT {w w':World} {v:Value} {l:List Int} (h:AN w v l) (hb:Ov w w'):AN w' v l:=by
 obtain ⟨k,e,rfl,j⟩:=h;refine ⟨k,e,rfl,fun c=>?_⟩;obtain ⟨b,a,rfl,d⟩:=j c;refine ⟨b,a,rfl,fun i g=>?_⟩;have f:=d i g;rw [(An hb).1 _ _ (bL f)];exact f
structure Pol where
 owner:Int
 names:List Int
def AL (w:World) (v:Value) (ps:List Pol):Prop:=
 ∃ ao cap,v=O ao ps.length cap/\(ps≠[]->∃ b off,ao=some ⟨b,off,none⟩/\∀ i (h:i < ps.length),w.cell? ⟨b,off+i*2,none⟩=some (zd U ps[i].owner)/\∃ nv,w.cell? ⟨b,off+i*2+1,none⟩=some nv/\AN w nv ps[i].names)
theorem Ak {w w':World} {v:Value} {ps:List Pol} (h:AL w v ps) (hb:Ov w w'):AL w' v ps:=by
 obtain ⟨n,e,rfl,l⟩:=h;refine ⟨n,e,rfl,fun c=>?_⟩;obtain ⟨b,a,rfl,d⟩:=l c;refine ⟨b,a,rfl,fun i k=>?_⟩;obtain ⟨g,j,f,m⟩:=d i k;exact ⟨by rw [(An hb).1 _ _ (bL g)];exact g,j,by rw [(An hb).1 _ _ (bL f)];exact f,BT m hb⟩
def CT (gn:List (Nat × Nat)) (n who:Nat) (x:Int):Bool:=(acts gn n who)[x.toNat]?.getD false
def Qa (gn:List (Nat × Nat)) (n who:Nat) (p:Pol):Bool:=CT gn n who p.owner || p.names.any (CT gn n who)
def Cy (gn:List (Nat × Nat)) (n who:Nat) (ps:List Pol):Bool:=ps.all (Qa gn n who)
def E5 (n:Nat) (p:Pol):Prop:=(0<=p.owner/\p.owner < n)/\p.names.length<=6/\∀ x∈p.names,0<=x/\x < (n:Int)
theorem J6 (n who:Nat) (x:Int) (hn:n<=6) (hw:who < n) (hx:0<=x/\x < n) (v:Value) (gn:List (Nat × Nat)) (w:World) (hv:AA w v (gn.map toI)) (hlen:gn.length<=20) (hb:∀ g∈gn,g.1 < n/\g.2 < n) :
  Calls Tryz.prog 231 #[zh #[zd U n,v],zd U who,zd U x] w fun e w'=>e=zj (zg (CT gn n who x))/\Ov w w':=by
 have h:=J7 n who x.toNat hn hw (by omega) v gn w hv hlen hb;have e:((x.toNat:Nat):Int)=x:=by omega
 rw [e] at h;exact h
theorem Px {w w0 w1:World} {b0 o0 b1 o1 b2 o2:Nat} {v0 v1 v2:Value} (h:w0.cell? ⟨b0,o0,none⟩=some v0/\w0.cell? ⟨b1,o1,none⟩=some v1/\w0.cell? ⟨b2,o2,none⟩=some v2/\Ov w w0)
  (hb:Ov w0 w1):w1.cell? ⟨b0,o0,none⟩=some v0/\w1.cell? ⟨b1,o1,none⟩=some v1/\w1.cell? ⟨b2,o2,none⟩=some v2/\Ov w w1:=by
 obtain ⟨e,d,c,b⟩:=h;obtain ⟨a,f⟩:=An hb;refine ⟨?_,?_,?_,b.trans (hb.mono b.size)⟩
 ·rw [a _ _ (bL e)];exact e
 ·rw [a _ _ (bL d)];exact d
 ·rw [a _ _ (bL c)];exact c
theorem MQ (n who:Nat) (hn:n<=6) (hw:who < n) (v vp:Value) (gn:List (Nat × Nat)) (ps:List Pol) (w:World) (hv:AA w v (gn.map toI)) (hlen:gn.length<=20) (hb:∀ g∈gn,g.1 < n/\g.2 < n)
  (hp:AL w vp ps) (hps:ps.length<=4) (hin:∀ p∈ps,E5 n p) :
  Calls Tryz.prog 194 #[zh #[zd U n,v],zd U who,vp] w fun e w'=>e=zj (zg (Cy gn n who ps))/\Ov w w':=by
 have KX:=Aa fun (x:Int) (L:0<=x/\x < n) (W:World) (hW:Ov w W)=>J6 n who x hn hw L v gn W (Af hv hW) hlen hb;have au:=Aa hin;obtain ⟨ao,a6,rfl,Y⟩:=hp;have aw:=Aa Y;clear hv hb hin Y;go_enter Tryz.func194,Tryz.ntmps194;go_wp2_with fail;go_loopw [7] (fun i wr=>∃ k:Nat,k<=ps.length/\i=zd U k/\Cy gn n who (ps.take k)=true/\wr.cell? ⟨w.heap.size,0,none⟩=some (zd U n)/\wr.cell? ⟨w.heap.size,1,none⟩=some v/\Ov w wr) (fun i _=>ps.length - (intOf i).toNat)
 case atStart=>exact ⟨0,Nat.zero_le _,rfl,rfl,by simp [go_sem],by simp [go_sem],bA w _⟩
 case round=>
  obtain ⟨k,hk,rfl,f,c0,c1,s⟩:=hrel;by_cases hkl:k < ps.length
  ·obtain ⟨b,B,rfl,X⟩:=aw.o (by rintro rfl;simp at hkl)
   obtain ⟨E,nv,q1,q2⟩:=X k hkl;have J:=bL E;obtain ⟨⟨P,N⟩,ai,C⟩:=au.o ps[k] (List.getElem_mem hkl);have q:Qa gn n who ps[k]=true->Cy gn n who (ps.take (k+1))=true:=fun h=>by
    unfold Cy at f ⊢;rw [List.take_succ_eq_append_getElem hkl,List.all_append,f];simp [h]
   have m:Qa gn n who ps[k]=false->Cy gn n who ps=false:=fun h=>by
    unfold Cy;rw [List.all_eq_false];exact ⟨ps[k],List.getElem_mem hkl,by simp [h]⟩
   have c:Qa gn n who ps[k]=(CT gn n who ps[k].owner || ps[k].names.any (CT gn n who)):=rfl;obtain ⟨ow,M⟩:=nm (ps[k].owner);obtain ⟨ns,Q⟩:=nm (ps[k].names);rw [<-M] at E P N c;rw [<-Q] at q2 ai C c;obtain ⟨a4,u,rfl,R⟩:=q2;have ag:=E;have H:=q1;rw [<-(An s).1 _ _ J] at E q1;have an:=Aa q;have ap:=Aa m;have HP:=Aa c;have ar:=Aa R;have as:=Aa C;have aq:=Aa H;have a:=KX.o ow ⟨P,N⟩;obtain ⟨x,L⟩:=nm (CT gn n who ow);rw [<-L] at a;have r:=Aa a;have HX:=Aa L;clear q m c R C a L M Q X f ag H;go_wp2_with fail;first | go_region_held3 (fun w'=>w'.cell? ⟨w.heap.size,0,none⟩=some (zd U n)/\w'.cell? ⟨w.heap.size,1,none⟩=some v/\w'.cell? ⟨b,B+k*2,none⟩=some (zd U ow)/\Ov w w') (first | assumption | exact ⟨c0,c1,E,below_drewN s 1⟩ | exact Px (by assumption) hb1) (first | (go_at_call 231;refine (r.o _ (by assumption:_/\_/\_/\_).2.2.2).mono ?_;rintro e w1 ⟨rfl,hb1⟩)) | fail
   all_goals go_wp2_with fail
   all_goals obtain ⟨G,F,d2,t⟩:=(by assumption:_/\_/\_/\Below _ _ _)
   clear c0 c1 s E q1 d2;go_loopw [8,9] (fun I i A=>∃ j:Nat,j<=ns.length/\i=zd U j/\I=zg (x || (ns.take j).any (CT gn n who))/\A.cell? ⟨w.heap.size,0,none⟩=some (zd U n)/\A.cell? ⟨w.heap.size,1,none⟩=some v/\Ov w A) (fun _ i _=>ns.length - (intOf i).toNat)
   case atStart=>exact ⟨0,Nat.zero_le _,rfl,by simp,G,F,t⟩
   case round=>
    clear G F t;obtain ⟨j,hj,rfl,rfl,G,F,t⟩:=hrel;have r1:=aq.o;rw [<-(An t).1 _ _ J] at r1;by_cases hjl:j < ns.length
    ·obtain ⟨nb,no,rfl,T⟩:=ar.o (by rintro rfl;simp at hjl)
     have Z:=T j hjl;rw [<-(An t).1 _ _ (bL Z)] at Z;have hy:=as.o ns[j] (List.getElem_mem hjl);have d:(x || (ns.take (j+1)).any (CT gn n who))=((x || (ns.take j).any (CT gn n who)) || CT gn n who ns[j]):=by
      rw [List.take_succ_eq_append_getElem hjl,List.any_append];simp [Bool.or_assoc]
     obtain ⟨I,l⟩:=nm ((x || (ns.take j).any (CT gn n who)));obtain ⟨y,K⟩:=nm (ns[j]);rw [<-K] at Z hy d;rw [<-l] at d;have a:=KX.o y hy;obtain ⟨z,hz⟩:=nm (CT gn n who y);rw [<-hz] at a d;have av:=Aa a;have ab:=Aa d;rw [<-l];clear a d hz K T l r;cases I with
     | true=>
      go_wp2_with fail;refine wp_region_held_drew (S:=(fun w'=>w'.cell? ⟨w.heap.size,0,none⟩=some (zd U n)/\w'.cell? ⟨w.heap.size,1,none⟩=some v/\w'.cell? ⟨b,B+k*2+1,none⟩=some (O (some ⟨nb,no,none⟩) ns.length u)/\w'.cell? ⟨nb,no+j,none⟩=some (zd U y)/\Ov w w')) (by kernel_rfl) ⟨G,F,r1,Z,below_drewN t 1⟩ (fun D=>?_);refine kL 0 ?_;refine kL 1 ?_;refine kU 2 ?_;refine kU 3 ?_;refine kU 4 ?_;refine kU 5 ?_;refine kU 6 ?_;refine kU 7 ?_;refine kU 8 ?_;refine kU 9 ?_;refine kU 10 ?_;refine kU 11 ?_;refine kU 12 ?_;refine kL 13 ?_;refine kL 14 ?_;refine gE ?_;obtain ⟨f0,f1,-,-,fB⟩:=D;go_wp2_with fail;exact ⟨⟨j+1,by omega,by go_num,by rw [ab.o];simp,f0,f1,fB⟩,by simp [intOf];omega⟩
     | false=>
      go_wp2_with fail;first | go_region_held3 (fun w'=>w'.cell? ⟨w.heap.size,0,none⟩=some (zd U n)/\w'.cell? ⟨w.heap.size,1,none⟩=some v/\w'.cell? ⟨b,B+k*2+1,none⟩=some (O (some ⟨nb,no,none⟩) ns.length u)/\w'.cell? ⟨nb,no+j,none⟩=some (zd U y)/\Ov w w') (first | assumption | exact ⟨G,F,r1,Z,below_drewN t 1⟩ | exact Pw (by assumption) hb1) (first | (go_at_call 231;refine (av.o _ (by assumption:_/\_/\_/\_/\_).2.2.2.2).mono ?_;rintro e w1 ⟨rfl,hb1⟩)) | fail
      all_goals go_wp2_with fail
      all_goals obtain ⟨f0,f1,-,-,fB⟩:=(by assumption:_/\_/\_/\_/\Below _ _ _)
      all_goals exact ⟨⟨j+1,by omega,by go_num,by rw [ab.o];simp,f0,f1,fB⟩,by simp [intOf];omega⟩
    ·have V:j=ns.length:=by omega
     rw [V,List.take_length];have c:=HP.o;rw [<-HX.o] at c;obtain ⟨I,l⟩:=nm ((x || ns.any (CT gn n who)));rw [<-l] at c ⊢;have aa:=Aa c;clear l c;subst V;cases I with
     | true=>
      go_wp2_with fail;exact ⟨⟨k+1,by omega,by go_num,an.o aa.o,G,F,t⟩,by simp [intOf];omega⟩
     | false=>
      go_wp2_with fail;go_ret;exact ⟨by rw [ap.o aa.o];rfl,t⟩
  ·have aj:k=ps.length:=by omega
   rw [aj,List.take_length] at f;have HA:=Aa f;clear f;go_wp2_with fail;go_ret;exact ⟨by rw [HA.o];rfl,s⟩
def Ed:List Int->Bool
 | x::y::l=>decide (x < y) && Ed (y::l)
 | _=>true
def Di (m:Int) (p:Pol):Int:=
 if BB m p.owner=true then (if p.names.length<=6 then (if p.names.all (BB m)=true then (if Ed p.names=true then 0 else 4) else 5) else 2) else 5
def Ct (m:Int):List Pol->Int
 | []=>0
 | p::ps=>if Di m p=0 then Ct m ps else Di m p
def Cv (m:Int) (ps:List Pol):Int:=if ps.length<=4 then Ct m ps else 2
theorem Ix {m:Int} {ps:List Pol} {k:Nat} (hk:k < ps.length):Ct m (ps.drop k)=if Di m ps[k]=0 then Ct m (ps.drop (k+1)) else Di m ps[k]:=by
 rw [List.drop_eq_getElem_cons hk];rfl
theorem IM (l:List Int):Ed l=true ↔ ∀ i (h:i+1 < l.length),l[i] < l[i+1]:=by
 induction l with
 | nil=>simp [Ed]
 | cons x l ih=>
  cases l with
  | nil=>simp [Ed]
  | cons y l=>
   simp only [Ed,Bool.and_eq_true,decide_eq_true_eq,ih];constructor
   ·rintro ⟨c,b⟩ i a
    cases i with
    | zero=>exact c
    | succ i=>exact b i (by simpa using a)
   ·intro h
    exact ⟨h 0 (by simp),fun i a=>h (i+1) (by simpa using a)⟩
def Kx (p:Int->Bool) (l:List Int):Int:=match l.findIdx? p with | some i=>i | none=>-1
theorem Qr {p:Int->Bool} {l:List Int} {k:Nat} (hk:k < l.length) (h:(l.take k).all (fun g=>!p g)=true) (hp:p l[k]=true):Kx p l=k:=by
 have:l.findIdx? p=some k:=by
  rw [List.findIdx?_eq_some_iff_getElem];refine ⟨hk,hp,fun j a=>?_⟩;have:=List.all_eq_true.1 h l[j] (by rw [List.mem_take_iff_getElem];exact ⟨j,by omega,rfl⟩);simpa using this
 simp [Kx,this]
theorem NP {p:Int->Bool} {l:List Int} (h:l.all (fun g=>!p g)=true):Kx p l=-1:=by
 have:l.findIdx? p=none:=by
  rw [List.findIdx?_eq_none_iff];intro x a;have:=List.all_eq_true.1 h x a;simpa using this
 simp [Kx,this]
theorem Pu (p:Int->Bool) (l):decide (0<=Kx p l)=l.any p:=by
 unfold Kx;cases h:l.findIdx? p with
 | none=>
  have:l.any p=false:=by rw [List.any_eq_false];intro x a;have:=(List.findIdx?_eq_none_iff.1 h) x a;simpa using this
  rw [this];rfl
 | some i=>
  obtain ⟨c,b,_⟩:=List.findIdx?_eq_some_iff_getElem.1 h;have:l.any p=true:=List.any_eq_true.2 ⟨_,List.getElem_mem c,b⟩;rw [this];simp
theorem JA (F:FuncId) (cv:Value) (p:Int->Bool) (v:Value) (l) (w:World) (hv:AN w v l) (hn:l.length<=6)
  (hF:Hx (∀ (i:Nat) (h:i < l.length) (w1:World),Ov w w1->Calls Tryz.prog F #[zd U l[i],cv] w1 fun e w2=>e=zj (zg (p l[i]))/\Ov w1 w2))
  (hC:∀ (args:Array Value) (w:World),(callFunc F args).run Tryz.prog w=.ok (.enter F args) w) :
  Calls Tryz.prog 190 #[v,.func (.func F) #[] #[cv]] w fun e w'=>e=zj (zd U (Kx p l))/\Ov w w':=by
 obtain ⟨K,E,rfl,m⟩:=hv;go_enter Tryz.func190,Tryz.ntmps190;go_wp2_with fail;go_loopw [8] (fun i wr=>∃ k:Nat,k<=l.length/\i=zd U k/\(l.take k).all (fun g=>!p g)=true/\Ov w wr) (fun i _=>l.length - (intOf i).toNat)
 case atStart=>exact ⟨0,Nat.zero_le _,rfl,rfl,Below.refl _ w⟩
 case round=>
  obtain ⟨k,I,rfl,d,a⟩:=hrel;by_cases hkl:k < l.length
  ·obtain ⟨b,C,rfl,t⟩:=m (by rintro rfl;simp at hkl)
   have u:=t k hkl;have y:=bL u;rw [<-(An a).1 _ _ y] at u;have c:=hF.o k hkl;have q:=fun (x:p l[k]=true)=>Qr hkl d x;have j:p l[k]=false->(l.take (k+1)).all (fun g=>!p g)=true:=fun x=>by
    rw [List.take_succ_eq_append_getElem hkl,List.all_append,d];simp [x]
   obtain ⟨r,A⟩:=nm (p l[k]);obtain ⟨J,s⟩:=nm (l[k]);rw [<-A] at c q j;rw [<-s] at u c;have B:=Aa c;have H:=Aa q;have G:=Aa j;clear A s c q j t m hF;cases r with
   | true=>
    go_wp2_with fail;refine (B.o _ a).mono ?_;rintro e w2 ⟨rfl,n⟩;have f:Ov w w2:=a.trans (n.mono a.size);go_wp2_with fail;go_ret;exact ⟨by rw [H.o (by first | rfl | trivial)];rfl,f⟩
   | false=>
    go_wp2_with fail;refine (B.o _ a).mono ?_;rintro e w2 ⟨rfl,n⟩;have f:Ov w w2:=a.trans (n.mono a.size);go_wp2_with fail;exact ⟨⟨k+1,by omega,by go_num,G.o (by first | rfl | trivial),f⟩,by simp [intOf];omega⟩
  ·have z:k=l.length:=by omega
   rw [z,List.take_length] at d;have D:=NP d;clear d m hF;go_wp2_with fail;go_ret;exact ⟨by rw [D];rfl,a⟩
theorem D7 (F:FuncId) (cv:Value) (p:Int->Bool) (v:Value) (l) (w:World) (hv:AN w v l) (hn:l.length<=6)
  (hF:Hx (∀ (i:Nat) (h:i < l.length) (w1:World),Ov w w1->Calls Tryz.prog F #[zd U l[i],cv] w1 fun e w2=>e=zj (zg (p l[i]))/\Ov w1 w2))
  (hC:∀ (args:Array Value) (w:World),(callFunc F args).run Tryz.prog w=.ok (.enter F args) w) :
  Calls Tryz.prog 124 #[v,.func (.func F) #[] #[cv]] w fun e w'=>e=zj (zg (l.any p))/\Ov w w':=by
 have c:=JA F cv p v l w hv hn hF hC;have a:=Pu p l;obtain ⟨r,d⟩:=nm (Kx p l);rw [<-d] at c a;rw [<-a];have f:=Aa c;clear c a d hv hC hF;obtain ⟨u,g⟩:=nm v;go_enter Tryz.func124,Tryz.ntmps124;go_wp2_with fail;refine (f.o).mono ?_;rintro e w1 ⟨rfl,b⟩;go_wp2_with fail;go_ret;exact ⟨by simp,b⟩
theorem SC (args:Array Value) (w:World):(callFunc 213 args).run Tryz.prog w=.ok (.enter 213 args) w:=by simp [go_sem]
theorem SD (args:Array Value) (w:World):(callFunc 128 args).run Tryz.prog w=.ok (.enter 128 args) w:=by simp [go_sem]
theorem Hp (m x:Int) (b:Nat) (w:World) (h0:w.cell? ⟨b,0,none⟩=some (zd U m)) :
  Calls Tryz.prog 213 #[zd U x,zi (some ⟨b,0,none⟩)] w fun e w'=>e=zj (zg (!BB m x))/\Ov w w':=by
 by_cases h1:x < 0
 ·have a:BB m x=false:=by simp [BB];omega
  rw [a];clear a;go_enter Tryz.func213,Tryz.ntmps213;go_wp2_with fail;go_ret;exact ⟨by simp,Below.refl _ w⟩
 ·by_cases h2:m<=x
  ·have a:BB m x=false:=by simp [BB];omega
   rw [a];clear a;go_enter Tryz.func213,Tryz.ntmps213;go_wp2_with fail;go_ret;exact ⟨by simp,Below.refl _ w⟩
  ·have a:BB m x=true:=by simp [BB];omega
   rw [a];clear a;go_enter Tryz.func213,Tryz.ntmps213;go_wp2_with fail;go_ret;exact ⟨by simp,Below.refl _ w⟩
theorem O5 (v:Value) (l) (w:World) (hv:AN w v l) (hn:l.length<=6) :
  Calls Tryz.prog 214 #[v] w fun e w'=>e=zj (zg (Ed l))/\Ov w w':=by
 obtain ⟨J,E,rfl,m⟩:=hv;have g:=Aa m;clear m;go_enter Tryz.func214,Tryz.ntmps214;go_wp2_with fail;go_loopw [3] (fun i wr=>∃ k n:Nat,k<=6/\i=zd U ((k:Int)+1)/\(∀ j (h:j+1 < l.length),j < k->l[j] < l[j+1])/\wr=w.drewN n) (fun i _=>10 - (intOf i).toNat)
 case atStart=>exact ⟨0,0,Nat.zero_le _,rfl,fun j _ h=>absurd h (Nat.not_lt_zero _),rfl⟩
 case round=>
  obtain ⟨k,n,I,rfl,d,rfl⟩:=hrel;by_cases hkl:k+1 < l.length
  ·obtain ⟨b,q,rfl,f⟩:=g.o (by rintro rfl;simp at hkl)
   have A:=f k (by omega);have p:=f (k+1) hkl;have c:l[k] < l[k+1]->∀ j (h:j+1 < l.length),j < k+1->l[j] < l[j+1]:=fun h j t C=>by
    by_cases e:j=k
    ·subst e;exact h
    ·exact d j t (by omega)
   have a:¬ l[k] < l[k+1]->Ed l=false:=fun h=>by
    rw [Bool.eq_false_iff];intro D;exact h ((IM l).1 D k hkl)
   obtain ⟨x,s⟩:=nm (l[k]);obtain ⟨y,r⟩:=nm (l[k+1]);rw [<-s] at A;rw [<-r] at p;rw [<-s,<-r] at c a;have H:=Aa c;have F:=Aa a;have B:((k:Int)+1) < (l.length:Int):=by omega
   have M:(0:Int)<=(k:Int)+1:=by omega
   have L:(0:Int)<=(k:Int):=by omega
   have K:(k:Int) < (l.length:Int):=by omega
   have z:w.cell? ⟨b,q+(k+1),none⟩=some (zd U y):=p;clear c a s r f d g p;by_cases hxy:y<=x
   ·go_wp2_with fail
    go_region;go_wp2_with fail;go_ret;exact ⟨by rw [F.o (by omega)];rfl,below_drewN (Below.refl _ w) (n+1)⟩
   ·go_wp2_with fail
    go_region;go_wp2_with fail;exact ⟨⟨k+1,n+1,by omega,by go_num,H.o (by omega),by first | rfl | trivial⟩,by simp [intOf];omega⟩
  ·have u:Ed l=true:=(IM l).2 fun j t=>d j t (by omega)
   have G:=Aa u;have B:¬ ((k:Int)+1) < (l.length:Int):=by omega
   clear u d g;go_wp2_with fail;go_ret;exact ⟨by rw [G.o];rfl,below_drewN (Below.refl _ w) n⟩
theorem GK (m:Int) (s:Value) (p:Pol) (nv:Value) (w:World) (hp:AN w nv p.names) :
  Calls Tryz.prog 169 #[zh #[zd U m,s],zh #[zd U p.owner,nv]] w fun e w'=>e=zj (zd U (Di m p))/\Ov w w':=by
 obtain ⟨q,names⟩:=p;have D:Di m ⟨q,names⟩=if BB m q=true then (if names.length<=6 then (if (names.any fun x=>!BB m x)=true then 5 else (if Ed names=true then 0 else 4)) else 2) else 5:=by
  unfold Di;have:names.all (BB m)=!(names.any fun x=>!BB m x):=by rw [List.any_eq_not_all_not];simp
  simp only [this];cases (names.any fun x=>!BB m x) <;> simp
 simp only at hp ⊢;have c:Ov w ((w.alloc (ze #[zd U m,s] 24)).alloc (ze #[zd U q,nv] 87)):=(bA w _).alloc (by simp) _;have V:=Aa fun (W:World) (z:Ov w W)=>BT hp z;have B:=fun (W:World) (h:W.cell? ⟨w.heap.size,0,none⟩=some (zd U m))=>Hp m q w.heap.size W h;have C:=fun (W:World) (f:names.length<=6) (E:Ov w W) (h:W.cell? ⟨w.heap.size,0,none⟩=some (zd U m))=>D7 213 (zi (some ⟨w.heap.size,0,none⟩)) (fun x=>!BB m x) nv names W (BT hp E) f (Aa fun i T g z=>Hp m names[i] w.heap.size g (by rw [(An z).1 _ _ (bL h)];exact h)) SC;have A:=fun (W:World) (f:names.length<=6) (E:Ov w W)=>O5 nv names W (BT hp E) f;obtain ⟨Q,l⟩:=nm (BB m q);obtain ⟨P,k⟩:=nm (names.any fun x=>!BB m x);obtain ⟨N,j⟩:=nm (Ed names);rw [<-l,<-k,<-j] at D;rw [<-l] at B;rw [<-k] at C;rw [<-j] at A;have G:=Aa B;have L:=Aa C;have K:=Aa A;have u:=Aa D;obtain ⟨J,t,rfl,-⟩:=hp;clear B C A D l k j;cases Q with
 | false=>
  go_enter Tryz.func169,Tryz.ntmps169;go_wp2_with fail;refine (G.o _ (by simp [go_sem])).mono ?_;rintro e g ⟨rfl,d⟩;have a:Ov w g:=c.trans (d.mono (by simp;omega));go_wp2_with fail;go_ret;exact ⟨by rw [u.o];rfl,a⟩
 | true=>
  go_enter Tryz.func169,Tryz.ntmps169;go_wp2_with fail;refine (G.o _ (by simp [go_sem])).mono ?_;rintro e g ⟨rfl,d⟩;obtain ⟨v,R⟩:=An d;have I:g.cell? ⟨w.heap.size,0,none⟩=some (zd U m):=by rw [v _ _ (by simp;omega)];simp [go_sem]
  have F:g.cell? ⟨w.heap.size+1,1,none⟩=some (O J names.length t):=by rw [v _ _ (by simp)];simp [go_sem]
  have a:Ov w g:=c.trans (d.mono (by simp;omega));clear v R d c G;by_cases f:names.length<=6
  ·go_wp2_with fail
   refine (L.o _ f a I).mono ?_;rintro e H ⟨rfl,r⟩;have b:Ov w H:=a.trans (r.mono a.size);have S:H.cell? ⟨w.heap.size+1,1,none⟩=some (O J names.length t):=by rw [(An r).1 _ _ (bL F)];exact F
   clear I F L;cases P with
   | true=>
    go_wp2_with fail;go_ret;exact ⟨by rw [u.o];simp [f],b⟩
   | false=>
    go_wp2_with fail;refine (K.o _ f b).mono ?_;rintro e M ⟨rfl,y⟩;have n:Ov w M:=b.trans (y.mono b.size);clear S K;cases N;all_goals go_wp2_with fail
    all_goals go_ret
    all_goals exact ⟨by rw [u.o];simp [f],n⟩
  ·go_wp2_with fail
   go_ret;exact ⟨by rw [u.o];simp [f],a⟩
theorem IY {w:World} {v:Value} {ps:List Pol} (h:AL w v ps) {i:Nat} (hi:i < ps.length):∃ b off cap nv,v=O (some ⟨b,off,none⟩) ps.length cap/\w.cell? ⟨b,off+i*2,none⟩=some (zd U ps[i].owner)/\w.cell? ⟨b,off+i*2+1,none⟩=some nv/\AN w nv ps[i].names:=by
 obtain ⟨g,cap,rfl,c⟩:=h;obtain ⟨b,off,rfl,a⟩:=c (by rintro rfl;simp at hi);obtain ⟨f,nv,e,d⟩:=a i hi;exact ⟨b,off,cap,nv,rfl,f,e,d⟩
theorem D5 (m:Int) (s vp:Value) (ps:List Pol) (w:World) (hp:AL w vp ps) :
  Calls Tryz.prog 110 #[zh #[zd U m,s],vp] w fun e w'=>e=zj (zd U (Cv m ps))/\Ov w w':=by
 have HP:=Aa hp;obtain ⟨ao,ag,rfl,-⟩:=hp;have v:Ov w (w.alloc (ze #[zd U m,s] 24)):=bA w _;have A:Cv m ps=if ps.length<=4 then Ct m ps else 2:=rfl;have KP:=Aa fun (p:Pol) (x:Value) (W:World) (h:AN W x p.names)=>GK m s p x W h;by_cases hn:ps.length<=4
 ·rw [if_pos hn] at A
  have G:=Aa A;clear A;go_enter Tryz.func110,Tryz.ntmps110;go_wp2_with fail;go_loopw [13] (fun i wr=>∃ k:Nat,k<=ps.length/\i=zd U k/\Ct m ps=Ct m (ps.drop k)/\Ov w wr/\wr.cell? ⟨w.heap.size,0,none⟩=some (zd U m)/\wr.cell? ⟨w.heap.size,1,none⟩=some s) (fun i _=>ps.length - (intOf i).toNat)
  case atStart=>exact ⟨0,Nat.zero_le _,rfl,rfl,v,by simp [go_sem],by simp [go_sem]⟩
  case round=>
   obtain ⟨k,hk,rfl,l,t,D,F⟩:=hrel;by_cases hkl:k < ps.length
   ·obtain ⟨b,V,R,x,K,E,N,J⟩:=IY (Ak HP.o t) hkl
    injection K with e1 e2 e3;subst e1 e3;clear e2;have q:=Ix (m:=m) hkl;rw [<-l] at q;have Z:=bL E;have y:=bL D;have j:Ov wr (wr.alloc (ze #[zd U ps[k].owner,x] 87)):=bA wr _;have f:=KP.o ps[k] x (wr.alloc (ze #[zd U ps[k].owner,x] 87)) (BT J j);obtain ⟨r,Q⟩:=nm (Di m ps[k]);obtain ⟨T,C⟩:=nm (ps[k].owner);rw [<-Q] at q f;rw [<-C] at E j f;obtain ⟨X,Y,B,L⟩:∃ a c n,x=O a n c:=by obtain ⟨a,c,e,_⟩:=J;exact ⟨a,c,_,e⟩
    subst L;have H:=Aa f;have S:=Aa q;have d:=t.trans (j.mono t.size);clear Q C f q J l;by_cases hr0:r=0
    ·subst hr0
     go_wp2_with fail;refine (H.o).mono ?_;rintro e I ⟨rfl,g⟩;have z:=d.trans (g.mono d.size);have u:w.heap.size < (wr.alloc (ze #[zd U T,O X B Y] 87)).heap.size:=by simp;exact Nat.lt_succ_of_lt y
     have d0:I.cell? ⟨w.heap.size,0,none⟩=some (zd U m):=by rw [(An g).1 _ _ u,(An j).1 _ _ y];exact D
     have d1:I.cell? ⟨w.heap.size,1,none⟩=some s:=by rw [(An g).1 _ _ u,(An j).1 _ _ y];exact F
     clear d g j E N D F H;go_wp2_with fail;exact ⟨⟨k+1,by omega,by go_num,by rw [S.o];simp,z,d0,d1⟩,by simp [intOf];omega⟩
    ·have aa:(r != 0)=true:=by simpa using hr0
     go_wp2_with fail;refine (H.o).mono ?_;rintro e I ⟨rfl,g⟩;have z:=d.trans (g.mono d.size);clear d g j E N D F H;go_wp2_with fail;go_ret;exact ⟨by rw [G.o,S.o];simp [hr0],z⟩
   ·have M:k=ps.length:=by omega
    have P:Ct m ps=0:=by rw [l,M,List.drop_length];rfl
    have HZ:=Aa P;clear P l D F;go_wp2_with fail;go_ret;exact ⟨by rw [G.o,HZ.o];rfl,t⟩
 ·rw [if_neg hn] at A
  have G:=Aa A;clear A;go_enter Tryz.func110,Tryz.ntmps110;go_wp2_with fail;go_ret;exact ⟨by rw [G.o];rfl,v⟩
def AB (l:List Bool):List Value:=l.map Value.bool
theorem Bl (W:World) (o:Obj):(W.alloc o).heap[W.heap.size]? = some o:=heap_alloc_new W o
theorem Bp {W W':World} {B:Nat} {v:Value} {k:Nat} {xs:List Value} (h:W.ownsRow B 4 1 v k xs) (hb:Ov W W'):W'.ownsRow B 4 1 v k xs:=by
 obtain ⟨i,a⟩:=h;refine ⟨i,?_⟩;rcases a with a | ⟨g,c,b,e,f,d,r⟩
 ·exact Or.inl a
 ·refine Or.inr ⟨g,c,b,e,f,?_,r⟩
  rw [hb.block g (Array.getElem?_eq_some_iff.1 d).1];exact d
theorem LG {W:World} {B:Nat} {v:Value} {k:Nat} {xs:List Value} (h:W.ownsRow B 4 1 v k xs) (o:Obj):(W.alloc o).ownsRow B 4 1 v k xs:=
 Bp h (bA W o)
theorem AZ {W:World} {B:Nat} {v:Value} {k:Nat} {xs:List Value} (h:W.ownsRow B 4 1 v k xs) {p:Addr} (hp:p.block < B) (u:Value):(W.setCell p u).ownsRow B 4 1 v k xs:=
 ownsRow_setCell_below h hp u
theorem Jp {W:World} {B:Nat} {v:Value} {k:Nat} {xs:List Value} (h:W.ownsRow B 4 1 v k xs) {g:Nat} (hg:v.ownBlock=some g):B<=g/\g < W.heap.size:=by
 rcases h.2 with ⟨rfl,_⟩ | ⟨e,d,c,rfl,a,b,_⟩
 ·cases hg
 ·simp [Value.ownBlock] at hg
  subst hg;exact ⟨a,(Array.getElem?_eq_some_iff.1 b).1⟩
theorem BU {B:Nat} {W W':World} {v:Value} {k:Nat} {xs:List Value} (h:W.ownsRow B 4 1 v k xs) (hg:W.grownBy W' v.ownBlock) (hB:B<=W.heap.size):Below B W W':=
 ⟨hg.os,hg.tape,hg.output,hg.size,fun j hj=>hg.block j (Nat.lt_of_lt_of_le hj hB) (fun e=>by have:=(Jp h e.symm).1;omega)⟩
def FP (u v:Value):Prop:=u.ownBlock=none\/u.ownBlock≠v.ownBlock
theorem IT {W W':World} {B:Nat} {u v:Value} {k:Nat} {xs:List Value} (h:W.ownsRow B 4 1 u k xs) (hg:W.grownBy W' v.ownBlock) (ha:FP u v):W'.ownsRow B 4 1 u k xs:=h.kept hg ha
theorem I7 {W:World} {B:Nat} {u v v':Value} {k:Nat} {xs:List Value} (h:W.ownsRow B 4 1 u k xs) (ha:FP u v) (hv:v'.ownBlock=v.ownBlock\/v'.ownBlock=some W.heap.size):FP u v':=by
 rcases ha with ha | ha
 ·exact Or.inl ha
 ·rcases hv with hv | hv
  ·exact Or.inr (by rw [hv];exact ha)
  ·cases hu:u.ownBlock with
   | none=>exact Or.inl hu
   | some g=>
    right;rw [hv,hu];intro e;injection e with e;have:=(Jp h hu).2;omega
theorem Fl {u v:Value} (h:FP u v):FP v u:=by
 rcases h with h | h
 ·cases hv:v.ownBlock with
  | none=>exact a.inl hv
  | some g=>exact a.inr (by rw [h,hv];simp)
 ·exact a.inr (fun e=>h e.symm)
theorem info4:∃ i,Tryz.prog.info? 4=some i/\i.zero=some (zg false)/\i.size=1/\i.bytes=1:=by
 cases hi:Tryz.prog.info? 4 with
 | none=>have:=Tryz.info4;rw [hi] at this;cases this
 | some i=>
  have a:=Tryz.info4;rw [hi] at a;simp only [Option.map_some,Option.some.injEq,Prod.mk.injEq] at a;exact ⟨i,rfl,a.1,a.2.1,a.2.2⟩
section
variable {ops:Array Oper} {o:Oper} {a:Act} {W:World} {K:Act->World->Prop} {Q:Exit->Act->World->Prop} {E:Prop}
theorem Dc (hg:o.guard=none) (s x:Operand) (hop:o.op=Op.call { callee:=Callee.builtin Builtin.append,args:=#[s,x],argTypes:=#[48,48] })
  (B b:Nat) (v:Value) (k:Nat) (xs:List Bool) (z:Bool) (hs:a.eval s=v) (hx:a.eval x=O (some ⟨b,0,none⟩) 1 1)
  (hown:W.ownsRow B 4 1 v k (AB xs)) (hb:W.heap[b]? = some (ze #[zg z] 4 (0,0))) (hk:k<=100) (hB:B<=W.heap.size)
  (h:∀ v' W',W'.ownsRow B 4 1 v' (k+1) (AB (xs++[z]))->W.grownBy W' v.ownBlock->(v'.ownBlock=v.ownBlock\/v'.ownBlock=some W.heap.size)->(∃ g cap,v'=O (some ⟨g,0,none⟩) (k+1) cap)->K (a.put o.dst v') W') :
  if Region.wanted o (yielded ops a.tmps)=true then Oper.wp Tryz.prog o a W K Q else E:=by
 have hw:Region.wanted o (yielded ops a.tmps)=true:=by simp [Region.wanted,hg]
 rw [if_pos hw];obtain ⟨i,r,n,A,f⟩:=info4;obtain ⟨v',m,q,l,y,D,w⟩:=run_append_own_at (P:=Tryz.prog) W B 48 o.type 4 i _ 1 1 Tryz.underlying48 r n A f (by rfl) (by decide) v k (AB xs) hown ⟨b,0,none⟩ 1 1 [zg z] rfl (by
  intro j u c;rw [Addr.add_lit]
  match j,c with
  | 0,c=>simp at c;subst c;simp [World.cell?,hb]
  | j+1,c=>simp at c) (by intro u c;simp at c;subst c;rfl) (by simp only [maxLen];omega) (by omega) hB
 have d:∃ g cap,v'=O (some ⟨g,0,none⟩) (k+1) cap:=by
  rcases l.2 with ⟨_,h⟩ | ⟨g,cap,C,p,_⟩
  ·omega
  ·exact ⟨g,cap,p⟩
 have e:AB (xs++[z])=AB xs++[zg z]:=by simp [AB]
 have t:=h v' m (by rw [e];exact l) y w d;unfold Oper.wp execOp;simp only [hop,resolve,invoke,builtin,Sem.run_bind,Sem.run_pure,Result.andThen_ok,List.map_toArray,List.map_cons,List.map_nil,hs,hx,q];exact t
end
theorem B4 {W:World} {B:Nat} {v:Value} {l:List Bool} (h:W.ownsRow B 4 1 v l.length (AB l)):AJ W v l:=by
 have k:=fun g=>h.cells (g:=g);rcases h.2 with ⟨rfl,e⟩ | ⟨g,c,m,rfl,_⟩
 ·exact ⟨none,0,by rw [e],fun b=>absurd (List.eq_nil_of_length_eq_zero e) b⟩
 ·refine ⟨_,c,rfl,fun _=>⟨g,0,rfl,fun i j=>?_⟩⟩
  have f:(AB l)[i]? = some (zg l[i]):=by simp [AB,j]
  have d:=k g rfl _ _ f;have a:(⟨g,0,none⟩:Addr).add i=⟨g,i,none⟩:=by unfold Addr.add;split <;> simp_all
  rw [a] at d;simpa using d
abbrev Jb (w:World) (lr lw mr mw:Value) (Wz:World):Prop:=Wz.cell? ⟨w.heap.size,0,none⟩=some lr/\Wz.cell? ⟨w.heap.size,1,none⟩=some lw/\Wz.cell? ⟨w.heap.size+1,0,none⟩=some mr/\Wz.cell? ⟨w.heap.size+1,1,none⟩=some mw
def JSt (w:World) (lr lw mr mw:Value) (R Wr:List Bool) (ur uw:Value) (W:World):Prop:=
 (Jb w lr lw mr mw W) /\
 W.heap[w.heap.size+2]? = some (ze #[O none 0 0,O none 0 0] 50 (0,0))/\W.heap[w.heap.size+3]? = some (ze #[ur,uw] 50 (0,0)) /\
 W.ownsRow (w.heap.size+4) 4 1 ur R.length (AB R)/\W.ownsRow (w.heap.size+4) 4 1 uw Wr.length (AB Wr)/\FP ur uw/\Ov w W/\w.heap.size+4<=W.heap.size
theorem AY {W:World} {b T:Nat} {x y:Value} (h:W.heap[b]? = some (ze #[x,y] T (0,0))):W.cell? ⟨b,0,none⟩=some x/\W.cell? ⟨b,1,none⟩=some y/\W.frozen? ⟨b,0,none⟩=false/\W.frozen? ⟨b,1,none⟩=false:=by
 refine ⟨?_,?_,?_,?_⟩ <;> simp [World.cell?,World.frozen?,h]
theorem Kt {w W1 W2:World} {lr lw mr mw:Value} (h:Jb w lr lw mr mw W1)
  (hb:Below (w.heap.size+3) W1 W2):Jb w lr lw mr mw W2:=by
 have a:∀ b o,b < w.heap.size+3->W2.cell? ⟨b,o,none⟩=W1.cell? ⟨b,o,none⟩:=fun b o h=>hb.cell (p:=⟨b,o,none⟩) h;exact ⟨by rw [a _ _ (by omega)];exact h.1,by rw [a _ _ (by omega)];exact h.2.1,by rw [a _ _ (by omega)];exact h.2.2.1,by rw [a _ _ (by omega)];exact h.2.2.2⟩
theorem F5 {w wr W1 W2:World} {lr lw mr mw ur uw v':Value} {R Wr:List Bool} {z:Bool} (h:JSt w lr lw mr mw R Wr ur uw wr) (hB:Ov wr W1)
  (h1:W2.ownsRow (w.heap.size+4) 4 1 v' (R.length+1) (AB (R++[z]))) (hg:W1.grownBy W2 ur.ownBlock) (hv:v'.ownBlock=ur.ownBlock\/v'.ownBlock=some W1.heap.size) :
  JSt w lr lw mr mw (R++[z]) Wr v' uw (W2.setCell ⟨w.heap.size+3,0,none⟩ v'):=by
 obtain ⟨j,o,n,m,l,i,k,g⟩:=h;have u4:=Bp m hB;have u5:=Bp l hB;have c:w.heap.size+4<=W1.heap.size:=Nat.le_trans g hB.size;have d:Below (w.heap.size+4) W1 W2:=BU u4 hg c;have f:Below (w.heap.size+4) wr W2:=(hB.mono g).trans d;have a:Below (w.heap.size+3) wr (W2.setCell ⟨w.heap.size+3,0,none⟩ v'):=(f.mono (by omega)).setCell (by simp) _;have b:W2.ownsRow (w.heap.size+4) 4 1 uw Wr.length (AB Wr):=IT u5 hg (Fl i);refine ⟨Kt j a,?_,?_,?_,?_,?_,?_,?_⟩
 ·rw [a.block _ (by omega)];exact o
 ·have e:W2.heap[w.heap.size+3]? = some (ze #[ur,uw] 50 (0,0)):=by rw [f.block _ (by omega)];exact n
  have:=heap_setCell_same W2 _ 0 _ _ v' e;simpa using this
 ·rw [List.length_append]
  exact AZ h1 (by simp) _
 ·exact AZ b (by simp) _
 ·exact Fl (I7 u5 (Fl i) hv)
 ·exact k.trans ((a.mono (by omega)))
 ·have:=f.size
  simp;omega
theorem F4 {w wr W1 W2:World} {lr lw mr mw ur uw v':Value} {R Wr:List Bool} {z:Bool} (h:JSt w lr lw mr mw R Wr ur uw wr) (hB:Ov wr W1)
  (h1:W2.ownsRow (w.heap.size+4) 4 1 v' (Wr.length+1) (AB (Wr++[z]))) (hg:W1.grownBy W2 uw.ownBlock) (hv:v'.ownBlock=uw.ownBlock\/v'.ownBlock=some W1.heap.size) :
  JSt w lr lw mr mw R (Wr++[z]) ur v' (W2.setCell ⟨w.heap.size+3,1,none⟩ v'):=by
 obtain ⟨j,o,n,m,l,i,k,g⟩:=h;have u4:=Bp m hB;have u5:=Bp l hB;have c:w.heap.size+4<=W1.heap.size:=Nat.le_trans g hB.size;have d:Below (w.heap.size+4) W1 W2:=BU u5 hg c;have f:Below (w.heap.size+4) wr W2:=(hB.mono g).trans d;have a:Below (w.heap.size+3) wr (W2.setCell ⟨w.heap.size+3,1,none⟩ v'):=(f.mono (by omega)).setCell (by simp) _;have b:W2.ownsRow (w.heap.size+4) 4 1 ur R.length (AB R):=IT u4 hg i;refine ⟨Kt j a,?_,?_,?_,?_,?_,?_,?_⟩
 ·rw [a.block _ (by omega)];exact o
 ·have e:W2.heap[w.heap.size+3]? = some (ze #[ur,uw] 50 (0,0)):=by rw [f.block _ (by omega)];exact n
  have:=heap_setCell_same W2 _ 1 _ _ v' e;simpa using this
 ·exact AZ b (by simp) _
 ·rw [List.length_append]
  exact AZ h1 (by simp) _
 ·exact I7 u4 i hv
 ·exact k.trans ((a.mono (by omega)))
 ·have:=f.size
  simp;omega
def MA (B:Nat) (p1 p2 p3 p4:Nat × Nat) (v1 v2 v3 v4:Value) (W:World):Prop:=
 W.cell? ⟨p1.1,p1.2,none⟩=some v1/\W.cell? ⟨p2.1,p2.2,none⟩=some v2/\W.cell? ⟨p3.1,p3.2,none⟩=some v3/\W.cell? ⟨p4.1,p4.2,none⟩=some v4/\B+1<=W.heap.size/\p1.1 < B/\p2.1 < B/\p3.1 < B/\p4.1 < B
theorem MA.keep {B:Nat} {W W':World} {p1 p2 p3 p4:Nat × Nat} {v1 v2 v3 v4:Value} (h:MA B p1 p2 p3 p4 v1 v2 v3 v4 W) (hb:Below B W W'):MA B p1 p2 p3 p4 v1 v2 v3 v4 W':=by
 have a:∀ b o,b < B->W'.cell? ⟨b,o,none⟩=W.cell? ⟨b,o,none⟩:=fun b o h=>hb.cell (p:=⟨b,o,none⟩) h;obtain ⟨l,k,j,i,g,f,e,d,c⟩:=h;exact ⟨by rw [a _ _ f];exact l,by rw [a _ _ e];exact k,by rw [a _ _ d];exact j,by rw [a _ _ c];exact i,Nat.le_trans g hb.size,f,e,d,c⟩
theorem BR {w wr W2:World} {lr lw mr mw ur uw:Value} {R Wr:List Bool} (h:JSt w lr lw mr mw R Wr ur uw wr) (hb:Below (w.heap.size+4) wr W2):W2.heap[w.heap.size+3]? = some (ze #[ur,uw] 50 (0,0)):=by
 rw [hb.block _ (by omega)];exact h.2.2.1
theorem EI {W:World} {B B':Nat} {v:Value} {k:Nat} {xs:List Value} (h:W.ownsRow B 4 1 v k xs) (hb:B'<=B):W.ownsRow B' 4 1 v k xs:=by
 obtain ⟨i,a⟩:=h;refine ⟨i,?_⟩;rcases a with a | ⟨g,c,b,d,f,e,r⟩
 ·exact Or.inl a
 ·exact Or.inr ⟨g,c,b,d,Nat.le_trans hb f,e,r⟩
theorem IR {W:World} {B:Nat} {v:Value} {k:Nat} {xs:List Value} (h:W.ownsRow B 4 1 v k xs) (hk:1<=k):∃ g cap,v=O (some ⟨g,0,none⟩) k cap:=by
 rcases h.2 with ⟨_,h⟩ | ⟨c,a,d,b,_⟩
 ·omega
 ·exact ⟨c,a,b⟩
def GF (a b:List Bool) (i:Nat):Bool:=a[i]?.getD false && b[i]?.getD false
def LH (a b:List Bool) (i:Nat):Bool:=a[i]?.getD false || b[i]?.getD false
def BI (f:Nat->Bool) (n:Nat):List Bool:=(List.range n).map f
theorem Fd (f:Nat->Bool) (n:Nat):BI f (n+1)=BI f n++[f n]:=by simp [BI,List.range_succ]
theorem AH (f:Nat->Bool) (n:Nat):(BI f n).length=n:=by simp [BI]
def BA (l m:Lev) (n:Nat):Lev:=⟨BI (GF l.r m.r) n,BI (LH l.w m.w) n⟩
structure Lab where
 r:List Pol
 w:List Pol
def MU (n:Nat) (b:Lab):Prop:=(b.r.length<=4/\∀ p∈b.r,E5 n p)/\(b.w.length<=4/\∀ p∈b.w,E5 n p)
def Ar (gn:List (Nat × Nat)) (n:Nat) (b:Lab):Lev:=⟨BI (fun i=>Cy gn n i b.r) n,BI (fun i=>Cy gn n i b.w) n⟩
theorem Qh (w:World) (m v pr pw:Value):JSt w m v pr pw [] [] (O none 0 0) (O none 0 0)
  ((((w.alloc (ze #[m,v] 24)).alloc (ze #[pr,pw] 39)).alloc (ze #[O none 0 0,O none 0 0] 50)).alloc (ze #[O none 0 0,O none 0 0] 50)):=by
 refine ⟨⟨by simp [go_sem],by simp [go_sem],by simp [go_sem],by simp [go_sem]⟩,?_,?_,World.ownsRow_nil _ _ _ _,World.ownsRow_nil _ _ _ _,Or.inl rfl,?_,by simp⟩
 ·have h:=heap_alloc_new ((w.alloc (ze #[m,v] 24)).alloc (ze #[pr,pw] 39)) (ze #[O none 0 0,O none 0 0] 50)
  rw [((Below.refl _ (((w.alloc (ze #[m,v] 24)).alloc (ze #[pr,pw] 39)).alloc (ze #[O none 0 0,O none 0 0] 50))).alloc (Nat.le_refl _) _).block _ (by simp)];simpa using h
 ·have h:=heap_alloc_new (((w.alloc (ze #[m,v] 24)).alloc (ze #[pr,pw] 39)).alloc (ze #[O none 0 0,O none 0 0] 50)) (ze #[O none 0 0,O none 0 0] 50)
  simpa using h
 ·exact (((bA w _).alloc (by simp) _).alloc (by simp;omega) _).alloc (by simp;omega) _
theorem Ko (n:Nat) (h0:1<=n) (hn:n<=6) (v pr pw:Value) (gn:List (Nat × Nat)) (bl:Lab) (w:World) (hv:AA w v (gn.map toI)) (hlen:gn.length<=20) (hb:∀ g∈gn,g.1 < n/\g.2 < n)
  (hp:AL w pr bl.r) (hq:AL w pw bl.w) (hin:MU n bl) :
  Calls Tryz.prog 131 #[zh #[zd U n,v],zh #[pr,pw]] w fun e w'=>∃ vr vw,e=zj (zh #[vr,vw])/\w'.ownsRow w.heap.size 4 1 vr n (AB (Ar gn n bl).r)/\w'.ownsRow w.heap.size 4 1 vw n (AB (Ar gn n bl).w)/\FP vr vw/\Ov w w':=by
 have ak:=fun (i:Nat) (hi:i < n) (W:World) (hW:Ov w W)=>MQ n i hn hi v pr gn bl.r W (Af hv hW) hlen hb (Ak hp hW) hin.1.1 hin.1.2;have aj:=fun (i:Nat) (hi:i < n) (W:World) (hW:Ov w W)=>MQ n i hn hi v pw gn bl.w W (Af hv hW) hlen hb (Ak hq hW) hin.2.1 hin.2.2;have ac:=Aa ak;have ab:=Aa aj;have aq:=Aa (Qh w (zd U n) v pr pw);obtain ⟨bg,bf,ai,-⟩:=hp;obtain ⟨be,bd,ah,-⟩:=hq;clear ak aj hv hb hin;have a9:pr.oneCell'=true:=by rw [ai];rfl
 have a8:pw.oneCell'=true:=by rw [ah];rfl
 clear ai ah;go_enter Tryz.func131,Tryz.ntmps131;go_wp2_with fail;go_loopw [6] (fun i wr=>∃ (k:Nat) (ur uw:Value),k<=n/\i=zd U k/\JSt w (zd U n) v pr pw (BI (fun i=>Cy gn n i bl.r) k) (BI (fun i=>Cy gn n i bl.w) k) ur uw wr) (fun i _=>n - (intOf i).toNat)
 case atStart=>exact ⟨0,_,_,Nat.zero_le _,rfl,aq.o⟩
 case round=>
  clear aq;obtain ⟨k,ur,uw,hk,rfl,X⟩:=hrel;have d:=Aa X;obtain ⟨⟨y0,y1,y2,y3⟩,x2,x3,-,-,-,A,ag⟩:=X;obtain ⟨x0,x1,ae,ad⟩:=AY x3;by_cases hkn:k < n
  ·obtain ⟨R,hR⟩:=nm (BI (fun i=>Cy gn n i bl.r) k)
   obtain ⟨V,hV⟩:=nm (BI (fun i=>Cy gn n i bl.w) k);have M:R.length=k:=by rw [hR,AH]
   have S:V.length=k:=by rw [hV,AH]
   have am:BI (fun i=>Cy gn n i bl.r) (k+1)=R++[Cy gn n k bl.r]:=by rw [Fd,hR]
   have al:BI (fun i=>Cy gn n i bl.w) (k+1)=V++[Cy gn n k bl.w]:=by rw [Fd,hV]
   rw [<-hR,<-hV] at d;have Z:=Aa am;have N:=Aa al;clear hR hV am al;go_wp2_with fail
   go_cut [] from 7 to 32 (fun wc=>∃ u,JSt w (zd U n) v pr pw (R++[Cy gn n k bl.r]) V u uw wc)
   case first=>
    have Q:=ac.o k hkn;obtain ⟨z,P⟩:=nm (Cy gn n k bl.r);rw [<-P] at Q;have Y:=Aa P;have ao:=Aa fun (i:Nat) (_:i < n)=>Q;clear Q P ac ab Z N;have D:MA (w.heap.size+3) (w.heap.size,0) (w.heap.size,1) (w.heap.size+1,0) (w.heap.size+1,0) (zd U n) v pr pr wr.drew:=⟨y0,y1,y2,y2,d.o.2.2.2.2.2.2.2,by simp,by simp,by simp,by simp⟩;refine gS (fun W=>MA (w.heap.size+3) (w.heap.size,0) (w.heap.size,1) (w.heap.size+1,0) (w.heap.size+1,0) (zd U n) v pr pr W) D fun a=>?_;refine kL 0 ?_;refine kL 2 ?_;refine kL 3 ?_;refine kL 4 ?_;refine kL 5 ?_;have m:Ov wr wr.drew:=below_drewN (Below.refl _ _) 1;clear D;generalize wr.drew=W0 at a m ⊢;refine rdB 1 6 rfl (fun K b=>?_) rfl fun K b=>?_
    ·obtain ⟨s,y,x,t⟩:=AY (BR d.o (m.mono d.o.2.2.2.2.2.2.2))
     go_simp;refine xK b a fun a=>?_;clear b K s y x t;refine rdA 6 rfl fun K b=>?_;go_simp
     go_at_call 194
     refine (ao.o k hkn _ (A.trans (m.mono A.size))).mono ?_;rintro e h ⟨rfl,q⟩;have l:Ov wr h:=m.trans (q.mono m.size);refine xK b (a.keep (q.mono (by have:=a.2.2.2.2.1;omega))) fun a=>?_;clear b K q;refine rdA 7 rfl fun K b=>?_;go_simp;refine xK b (a.keep ((Below.refl _ h).alloc (by have:=a.2.2.2.2.1;omega) _)) fun a=>?_;have c:Ov wr (h.alloc (ze #[zg z] 4)):=l.trans ((Below.refl _ h).alloc l.size _);have F:=Bl h (ze #[zg z] 4);generalize h.alloc (ze #[zg z] 4)=W2 at a c F ⊢;refine rdA 8 rfl fun K b=>?_;have j:w.heap.size+4<=W2.heap.size:=a.2.2.2.2.1;have B:=Bp d.o.2.2.2.1 c;refine Dc rfl _ _ rfl (w.heap.size+4) h.heap.size ur R.length R z rfl rfl B F (by omega) j ?_;rintro v' I H C G ⟨g,E,rfl⟩;have f:=BU B C j;refine xK b (a.keep (f.mono (by omega))) fun a=>?_;have p:=F5 d.o c H C G;obtain ⟨s,y,x,t⟩:=AY (BR d.o ((c.mono d.o.2.2.2.2.2.2.2).trans f));clear H C G F B;refine kL 9 ?_;refine rdA 10 rfl fun K b=>?_;go_simp;refine xK b (a.keep ((Below.refl _ I).setCell (by simp) _)) fun a=>?_;clear b K s y x t;refine gE ?_;clear a d f;go_wp2_with fail
     go_meet
     rw [M] at p;exact ⟨_,by rw [<-Y.o];exact p⟩
    ·go_simp
     go_at_call 194
     refine (ao.o k hkn _ (A.trans (m.mono A.size))).mono ?_;rintro e h ⟨rfl,q⟩;have l:Ov wr h:=m.trans (q.mono m.size);refine xK b (a.keep (q.mono (by have:=a.2.2.2.2.1;omega))) fun a=>?_;clear b K q;refine rdB 1 7 rfl (fun K b=>?_) rfl fun K b=>?_
     ·obtain ⟨s,y,x,t⟩:=AY (BR d.o (l.mono d.o.2.2.2.2.2.2.2))
      go_simp;refine xK b a fun a=>?_;clear b K s y x t;refine rdA 7 rfl fun K b=>?_;go_simp;refine xK b (a.keep ((Below.refl _ h).alloc (by have:=a.2.2.2.2.1;omega) _)) fun a=>?_;have c:Ov wr (h.alloc (ze #[zg z] 4)):=l.trans ((Below.refl _ h).alloc l.size _);have F:=Bl h (ze #[zg z] 4);generalize h.alloc (ze #[zg z] 4)=W2 at a c F ⊢;refine rdA 8 rfl fun K b=>?_;have j:w.heap.size+4<=W2.heap.size:=a.2.2.2.2.1;have B:=Bp d.o.2.2.2.1 c;refine Dc rfl _ _ rfl (w.heap.size+4) h.heap.size ur R.length R z rfl rfl B F (by omega) j ?_;rintro v' I H C G ⟨g,E,rfl⟩;have f:=BU B C j;refine xK b (a.keep (f.mono (by omega))) fun a=>?_;have p:=F5 d.o c H C G;obtain ⟨s,y,x,t⟩:=AY (BR d.o ((c.mono d.o.2.2.2.2.2.2.2).trans f));clear H C G F B;refine kL 9 ?_;refine rdA 10 rfl fun K b=>?_;go_simp;refine xK b (a.keep ((Below.refl _ I).setCell (by simp) _)) fun a=>?_;clear b K s y x t;refine gE ?_;clear a d f;go_wp2_with fail
      go_meet
      rw [M] at p;exact ⟨_,by rw [<-Y.o];exact p⟩
     ·go_simp
      refine xK b (a.keep ((Below.refl _ h).alloc (by have:=a.2.2.2.2.1;omega) _)) fun a=>?_;have c:Ov wr (h.alloc (ze #[zg z] 4)):=l.trans ((Below.refl _ h).alloc l.size _);have F:=Bl h (ze #[zg z] 4);generalize h.alloc (ze #[zg z] 4)=W2 at a c F ⊢;refine rdA 1 rfl fun K b=>?_;obtain ⟨s,y,x,t⟩:=AY (BR d.o (c.mono d.o.2.2.2.2.2.2.2));go_simp;refine xK b a fun a=>?_;clear b K s y x t;refine rdA 8 rfl fun K b=>?_;have j:w.heap.size+4<=W2.heap.size:=a.2.2.2.2.1;have B:=Bp d.o.2.2.2.1 c;refine Dc rfl _ _ rfl (w.heap.size+4) h.heap.size ur R.length R z rfl rfl B F (by omega) j ?_;rintro v' I H C G ⟨g,E,rfl⟩;have f:=BU B C j;refine xK b (a.keep (f.mono (by omega))) fun a=>?_;have p:=F5 d.o c H C G;obtain ⟨s,y,x,t⟩:=AY (BR d.o ((c.mono d.o.2.2.2.2.2.2.2).trans f));clear H C G F B;refine kL 9 ?_;refine rdA 10 rfl fun K b=>?_;go_simp;refine xK b (a.keep ((Below.refl _ I).setCell (by simp) _)) fun a=>?_;clear b K s y x t;refine gE ?_;clear a d f;go_wp2_with fail
      go_meet
      rw [M] at p;exact ⟨_,by rw [<-Y.o];exact p⟩
   case rest=>
    clear y0 y1 y2 y3 x2 x3 x0 x1 ae ad A ag d;obtain ⟨u2,X⟩:=hcut;have d:=Aa X;obtain ⟨⟨y0,y1,y2,y3⟩,x2,x3,-,-,-,A,ag⟩:=X;obtain ⟨x0,x1,ae,ad⟩:=AY x3;rw [<-Z.o] at d;obtain ⟨R2,T⟩:=nm (BI (fun i=>Cy gn n i bl.r) (k+1));rw [<-T] at d;have aa:=Aa T;clear T Z M;go_wp2_with fail;have Q:=ab.o k hkn;obtain ⟨z,P⟩:=nm (Cy gn n k bl.w);rw [<-P] at Q;have Y:=Aa P;have an:=Aa fun (i:Nat) (_:i < n)=>Q;clear Q P ac ab;generalize wc=wr at *;have D:MA (w.heap.size+3) (w.heap.size,0) (w.heap.size,1) (w.heap.size+1,1) (w.heap.size+1,1) (zd U n) v pw pw wr.drew:=⟨y0,y1,y3,y3,d.o.2.2.2.2.2.2.2,by simp,by simp,by simp,by simp⟩;refine gS (fun W=>MA (w.heap.size+3) (w.heap.size,0) (w.heap.size,1) (w.heap.size+1,1) (w.heap.size+1,1) (zd U n) v pw pw W) D fun a=>?_;refine kL 0 ?_;refine kL 2 ?_;refine kL 3 ?_;refine kL 4 ?_;refine kL 5 ?_;have m:Ov wr wr.drew:=below_drewN (Below.refl _ _) 1;clear D;generalize wr.drew=W0 at a m ⊢;refine rdB 1 6 rfl (fun K b=>?_) rfl fun K b=>?_
    ·obtain ⟨s,y,x,t⟩:=AY (BR d.o (m.mono d.o.2.2.2.2.2.2.2))
     go_simp;refine xK b a fun a=>?_;clear b K s y x t;refine rdA 6 rfl fun K b=>?_;go_simp
     go_at_call 194
     refine (an.o k hkn _ (A.trans (m.mono A.size))).mono ?_;rintro e h ⟨rfl,q⟩;have l:Ov wr h:=m.trans (q.mono m.size);refine xK b (a.keep (q.mono (by have:=a.2.2.2.2.1;omega))) fun a=>?_;clear b K q;refine rdA 7 rfl fun K b=>?_;go_simp;refine xK b (a.keep ((Below.refl _ h).alloc (by have:=a.2.2.2.2.1;omega) _)) fun a=>?_;have c:Ov wr (h.alloc (ze #[zg z] 4)):=l.trans ((Below.refl _ h).alloc l.size _);have F:=Bl h (ze #[zg z] 4);generalize h.alloc (ze #[zg z] 4)=W2 at a c F ⊢;refine rdA 8 rfl fun K b=>?_;have j:w.heap.size+4<=W2.heap.size:=a.2.2.2.2.1;have B:=Bp d.o.2.2.2.2.1 c;refine Dc rfl _ _ rfl (w.heap.size+4) h.heap.size uw V.length V z rfl rfl B F (by omega) j ?_;rintro v' I H C G ⟨g,E,rfl⟩;have f:=BU B C j;refine xK b (a.keep (f.mono (by omega))) fun a=>?_;have p:=F4 d.o c H C G;obtain ⟨s,y,x,t⟩:=AY (BR d.o ((c.mono d.o.2.2.2.2.2.2.2).trans f));clear H C G F B;refine kL 9 ?_;refine rdA 10 rfl fun K b=>?_;go_simp;refine xK b (a.keep ((Below.refl _ I).setCell (by simp) _)) fun a=>?_;clear b K s y x t;refine gE ?_;clear a d f;go_wp2_with fail;rw [S] at p;refine ⟨⟨k+1,u2,O (some ⟨g,0,none⟩) (k+1) E,by omega,by go_num,?_⟩,by simp [intOf];omega⟩;rw [N.o,<-Y.o,<-aa.o];exact p
    ·go_simp
     go_at_call 194
     refine (an.o k hkn _ (A.trans (m.mono A.size))).mono ?_;rintro e h ⟨rfl,q⟩;have l:Ov wr h:=m.trans (q.mono m.size);refine xK b (a.keep (q.mono (by have:=a.2.2.2.2.1;omega))) fun a=>?_;clear b K q;refine rdB 1 7 rfl (fun K b=>?_) rfl fun K b=>?_
     ·obtain ⟨s,y,x,t⟩:=AY (BR d.o (l.mono d.o.2.2.2.2.2.2.2))
      go_simp;refine xK b a fun a=>?_;clear b K s y x t;refine rdA 7 rfl fun K b=>?_;go_simp;refine xK b (a.keep ((Below.refl _ h).alloc (by have:=a.2.2.2.2.1;omega) _)) fun a=>?_;have c:Ov wr (h.alloc (ze #[zg z] 4)):=l.trans ((Below.refl _ h).alloc l.size _);have F:=Bl h (ze #[zg z] 4);generalize h.alloc (ze #[zg z] 4)=W2 at a c F ⊢;refine rdA 8 rfl fun K b=>?_;have j:w.heap.size+4<=W2.heap.size:=a.2.2.2.2.1;have B:=Bp d.o.2.2.2.2.1 c;refine Dc rfl _ _ rfl (w.heap.size+4) h.heap.size uw V.length V z rfl rfl B F (by omega) j ?_;rintro v' I H C G ⟨g,E,rfl⟩;have f:=BU B C j;refine xK b (a.keep (f.mono (by omega))) fun a=>?_;have p:=F4 d.o c H C G;obtain ⟨s,y,x,t⟩:=AY (BR d.o ((c.mono d.o.2.2.2.2.2.2.2).trans f));clear H C G F B;refine kL 9 ?_;refine rdA 10 rfl fun K b=>?_;go_simp;refine xK b (a.keep ((Below.refl _ I).setCell (by simp) _)) fun a=>?_;clear b K s y x t;refine gE ?_;clear a d f;go_wp2_with fail;rw [S] at p;refine ⟨⟨k+1,u2,O (some ⟨g,0,none⟩) (k+1) E,by omega,by go_num,?_⟩,by simp [intOf];omega⟩;rw [N.o,<-Y.o,<-aa.o];exact p
     ·go_simp
      refine xK b (a.keep ((Below.refl _ h).alloc (by have:=a.2.2.2.2.1;omega) _)) fun a=>?_;have c:Ov wr (h.alloc (ze #[zg z] 4)):=l.trans ((Below.refl _ h).alloc l.size _);have F:=Bl h (ze #[zg z] 4);generalize h.alloc (ze #[zg z] 4)=W2 at a c F ⊢;refine rdA 1 rfl fun K b=>?_;obtain ⟨s,y,x,t⟩:=AY (BR d.o (c.mono d.o.2.2.2.2.2.2.2));go_simp;refine xK b a fun a=>?_;clear b K s y x t;refine rdA 8 rfl fun K b=>?_;have j:w.heap.size+4<=W2.heap.size:=a.2.2.2.2.1;have B:=Bp d.o.2.2.2.2.1 c;refine Dc rfl _ _ rfl (w.heap.size+4) h.heap.size uw V.length V z rfl rfl B F (by omega) j ?_;rintro v' I H C G ⟨g,E,rfl⟩;have f:=BU B C j;refine xK b (a.keep (f.mono (by omega))) fun a=>?_;have p:=F4 d.o c H C G;obtain ⟨s,y,x,t⟩:=AY (BR d.o ((c.mono d.o.2.2.2.2.2.2.2).trans f));clear H C G F B;refine kL 9 ?_;refine rdA 10 rfl fun K b=>?_;go_simp;refine xK b (a.keep ((Below.refl _ I).setCell (by simp) _)) fun a=>?_;clear b K s y x t;refine gE ?_;clear a d f;go_wp2_with fail;rw [S] at p;refine ⟨⟨k+1,u2,O (some ⟨g,0,none⟩) (k+1) E,by omega,by go_num,?_⟩,by simp [intOf];omega⟩;rw [N.o,<-Y.o,<-aa.o];exact p
  ·have a0:k=n:=by omega
   subst a0;have X:=d.o;obtain ⟨-,-,-,L,J,ap,-,-⟩:=X;rw [AH] at L J;obtain ⟨t0,s,bb,ba⟩:=AY x2;obtain ⟨ga,ca,rfl⟩:=IR L h0;obtain ⟨gb,cb,rfl⟩:=IR J h0;have a3:=Aa L;have a2:=Aa J;have AP:=Aa ap;clear L J ap;go_wp2_with fail;refine bodyPost_ret (v:=zh #[O (some ⟨ga,0,none⟩) k ca,O (some ⟨gb,0,none⟩) k cb]) ?_ rfl ⟨_,_,rfl,?_,?_,AP.o,?_⟩
   ·simp [results,Tryz.results131,go_sem,t0,s]
   ·exact EI (AZ (AZ a3.o (by simp) _) (by simp) _) (by omega)
   ·exact EI (AZ (AZ a2.o (by simp) _) (by simp) _) (by omega)
   ·exact (A.setCell (by simp;omega) _).setCell (by simp;omega) _
def LQ (m:Int) (b:Lab):Int:=if Cv m b.r=0 then Cv m b.w else Cv m b.r
theorem K9 {m:Int} {ps:List Pol} (h:Ct m ps=0):∀ p∈ps,Di m p=0:=by
 induction ps with
 | nil=>simp
 | cons p ps ih=>
  rw [Ct] at h;split at h
  ·rename_i a
   intro q hq;rcases List.mem_cons.1 hq with rfl | hq
   ·exact a
   ·exact ih h q hq
  ·rename_i a
   exact absurd h a
theorem Nk {n:Nat} {p:Pol} (h:Di n p=0):E5 n p:=by
 unfold Di at h;split at h
 ·split at h
  ·split at h
   ·rename_i a d c
    simp [BB] at a;refine ⟨a,d,fun x b=>?_⟩;have:=List.all_eq_true.1 c x b;simp [BB] at this;exact this
   ·cases h
  ·cases h
 ·cases h
theorem G9 {n:Nat} {ps:List Pol} (h:Cv n ps=0):ps.length<=4/\∀ p∈ps,E5 n p:=by
 unfold Cv at h;split at h
 ·rename_i b
  exact ⟨b,fun p a=>Nk (K9 h p a)⟩
 ·cases h
theorem IV {n:Nat} {b:Lab} (h:LQ n b=0):MU n b:=by
 unfold LQ at h;split at h
 ·rename_i a
  exact ⟨G9 a,G9 h⟩
 ·rename_i a
  exact absurd h a
def Ah:Lev:=⟨[],[]⟩
def A1 (w w':World) (v:Value) (L:Lev):Prop:=∃ vr vw,v=zh #[vr,vw]/\w'.ownsRow w.heap.size 4 1 vr L.r.length (AB L.r)/\w'.ownsRow w.heap.size 4 1 vw L.w.length (AB L.w)/\FP vr vw
theorem Gy {w w':World} {v:Value} {L:Lev} (h:A1 w w' v L):A3 w' v L:=by
 obtain ⟨b,a,rfl,d,c,_⟩:=h;exact ⟨b,a,rfl,B4 d,B4 c⟩
def Bb (m:Int) (gs:List (Int × Int)) (b:Lab):Int:=if AR m gs=0 then LQ m b else AR m gs
def Dn (m:Int) (gs:List (Int × Int)) (l:Lev):Int:=if AR m gs=0 then CN m l else AR m gs
def Fj (m:Int) (gs:List (Int × Int)) (l k:Lev):Int:=if Dn m gs l=0 then Dn m gs k else Dn m gs l
def QZ:Prop:=∀ (m:Int) (v:Value) (gs:List (Int × Int)) (pr pw:Value) (bl:Lab) (w:World),AA w v gs->AL w pr bl.r->AL w pw bl.w ->
 Calls Tryz.prog 48 #[zh #[zd U m,v],zh #[pr,pw]] w fun e w'=>e=zj (zd U (Bb m gs bl))/\Ov w w'
def QU:Prop:=∀ (m:Int) (v:Value) (gs:List (Int × Int)) (pr pw:Value) (bl:Lab) (w:World),AA w v gs->AL w pr bl.r->AL w pw bl.w ->
 Calls Tryz.prog 23 #[zh #[zd U m,v],zh #[pr,pw]] w fun e w'=>∃ vl,e=zj (zk #[vl,zd U (Bb m gs bl)])/\A1 w w' vl (if Bb m gs bl=0 then Ar (Ax gs) m.toNat bl else Ah)/\Ov w w'
def QQ:Prop:=∀ (m:Int) (v:Value) (gs:List (Int × Int)) (vl:Value) (l:Lev) (w:World),AA w v gs->A3 w vl l ->
 Calls Tryz.prog 49 #[zh #[zd U m,v],vl] w fun e w'=>e=zj (zd U (Dn m gs l))/\Ov w w'
def QW:Prop:=∀ (m:Int) (v:Value) (gs:List (Int × Int)) (vl vk:Value) (l k:Lev) (w:World),AA w v gs->A3 w vl l->A3 w vk k ->
 Calls Tryz.prog 16 #[zh #[zd U m,v],vl,vk] w fun e w'=>e=zj (zk #[zg (decide (Fj m gs l k=0) && Av l k m.toNat),zd U (Fj m gs l k)])/\Ov w w'
def SY:Prop:=∀ (m:Int) (v:Value) (gs:List (Int × Int)) (vl vk:Value) (l k:Lev) (w:World),AA w v gs->A3 w vl l->A3 w vk k ->
 Calls Tryz.prog 46 #[zh #[zd U m,v],vl,vk] w fun e w'=>∃ vj,e=zj (zk #[vj,zd U (Fj m gs l k)])/\A1 w w' vj (if Fj m gs l k=0 then BA l k m.toNat else Ah)/\Ov w w'
theorem Az {w:World} {v:Value} {ps:List Pol} (h:AL w v ps):∃ a n c,v=O a n c:=by
 obtain ⟨a,c,e,_⟩:=h;exact ⟨a,_,c,e⟩
theorem CK {w:World} {v:Value} {gs:List (Int × Int)} (h:AA w v gs):∃ a n c,v=O a n c:=by
 obtain ⟨a,c,e,_⟩:=h;exact ⟨a,_,c,e⟩
theorem M2:QZ:=by
 intro m v q R Q f w u z y;have a:Ov w ((w.alloc (ze #[zd U m,v] 24)).alloc (ze #[R,Q] 39)):=(bA w _).alloc (by simp) _;have F:=fun (W:World) (p:Ov w W)=>check_any m v q W (Af u p);have D:=fun (W:World) (p:Ov w W)=>D5 m v R f.r W (Ak z p);have C:=fun (W:World) (p:Ov w W)=>D5 m v Q f.w W (Ak y p);have E:Bb m q f=if AR m q=0 then (if Cv m f.r=0 then Cv m f.w else Cv m f.r) else AR m q:=rfl;obtain ⟨r,x⟩:=nm (AR m q);obtain ⟨S,h⟩:=nm (Cv m f.r);obtain ⟨p2,g⟩:=nm (Cv m f.w);rw [<-x,<-h,<-g] at E;rw [<-x] at F;rw [<-h] at D;rw [<-g] at C;obtain ⟨L,J,K,rfl⟩:=CK u;obtain ⟨pa,pn,pc,rfl⟩:=Az z;obtain ⟨P,M,N,rfl⟩:=Az y;have KC:=Aa F;have Z:=Aa D;have Y:=Aa C;have I:=Aa E;clear F D C E x h g u z y;go_enter Tryz.func48,Tryz.ntmps48;go_wp2_with fail;refine (KC.o _ a).mono ?_;rintro e k ⟨rfl,j⟩;obtain ⟨c,B⟩:=An j;have H:k.cell? ⟨w.heap.size,0,none⟩=some (zd U m):=by rw [c _ _ (by simp;omega)];simp [go_sem]
 have X:k.cell? ⟨w.heap.size,1,none⟩=some (O L J K):=by rw [c _ _ (by simp;omega)];simp [go_sem]
 have V:k.cell? ⟨w.heap.size+1,0,none⟩=some (O pa pn pc):=by rw [c _ _ (by simp)];simp [go_sem]
 have T:k.cell? ⟨w.heap.size+1,1,none⟩=some (O P M N):=by rw [c _ _ (by simp)];simp [go_sem]
 have b:Ov w k:=a.trans (j.mono (by simp;omega));clear c B j a KC;by_cases hr0:r=0
 ·subst hr0
  go_wp2_with fail;refine (Z.o _ b).mono ?_;rintro e s ⟨rfl,i⟩;have l:=bL H;have t:=bL V;obtain ⟨c,B⟩:=An i;have d0:s.cell? ⟨w.heap.size,0,none⟩=some (zd U m):=by rw [c _ _ l];exact H
  have d1:s.cell? ⟨w.heap.size,1,none⟩=some (O L J K):=by rw [c _ _ l];exact X
  have d3:s.cell? ⟨w.heap.size+1,1,none⟩=some (O P M N):=by rw [c _ _ t];exact T
  have d:Ov w s:=b.trans (i.mono b.size);clear c B i b H X V T Z;by_cases hp0:S=0
  ·subst hp0
   go_wp2_with fail;refine (Y.o _ d).mono ?_;rintro e w3 ⟨rfl,n⟩;have G:Ov w w3:=d.trans (n.mono d.size);clear d0 d1 d3 n Y;go_wp2_with fail;go_ret;exact ⟨by rw [I.o];simp,G⟩
  ·have A:(S != 0)=true:=by simpa using hp0
   go_wp2_with fail;go_ret;exact ⟨by rw [I.o];simp [hp0],d⟩
 ·have A:(r != 0)=true:=by simpa using hr0
  go_wp2_with fail;go_ret;exact ⟨by rw [I.o];simp [hr0],b⟩
def Ad (W:World) (b n:Nat) (l:List Bool):Prop:=l.length=n/\∀ i (h:i < l.length),W.cell? ⟨b,i,none⟩=some (zg l[i])
theorem Fe {W W':World} {b n:Nat} {l:List Bool} (h:Ad W b n l) (hb:Ov W W'):Ad W' b n l:=
 ⟨h.1,fun i hi=>by rw [(An hb).1 _ _ (bL (h.2 i hi))];exact h.2 i hi⟩
theorem JL (b kb n:Nat) (l:List Bool) (x:Int) (W:World) (hn:n<=6) (hx:0<=x/\x < n) (h0:W.cell? ⟨b,0,none⟩=some (O (some ⟨kb,0,none⟩) n n)) (hr:Ad W kb n l) :
  Calls Tryz.prog 128 #[zd U x,zi (some ⟨b,0,none⟩)] W fun e w'=>e=zj (zg (l[x.toNat]?.getD false))/\Ov W w':=by
 obtain ⟨k,rfl⟩:∃ k:Nat,x=k:=⟨x.toNat,by omega⟩;have d:k < l.length:=by rw [hr.1];omega
 have q:=hr.2 k d;have a:l[(k:Int).toNat]?.getD false=l[k]:=by simp [d]
 rw [a];obtain ⟨y,c⟩:=nm (l[k]);rw [<-c] at q ⊢;clear c a hr;go_enter Tryz.func128,Tryz.ntmps128;go_wp2_with fail;go_ret;exact ⟨by simp,Below.refl _ W⟩
def Jm (l:List Bool) (p:Pol):Bool:=(l[p.owner.toNat]?.getD false) || p.names.any (fun x=>l[x.toNat]?.getD false)
theorem FC (kb n:Nat) (l:List Bool) (vp:Value) (ps:List Pol) (w:World) (hn:n<=6) (hr:Ad w kb n l) (hp:AL w vp ps) (hps:ps.length<=4/\∀ p∈ps,E5 n p) :
  Calls Tryz.prog 72 #[O (some ⟨kb,0,none⟩) n n,vp] w fun e w'=>e=zj (zg (ps.all (Jm l)))/\Ov w w':=by
 have HP:=Aa hp;obtain ⟨ao,a3,rfl,-⟩:=hp;have I:Ov w (w.alloc (ze #[O (some ⟨kb,0,none⟩) n n] 48)):=bA w _;have KA:=Aa fun (x:Int) (W:World) (hx:0<=x/\x < n) (D:Ov w W) (E:W.cell? ⟨w.heap.size,0,none⟩=some (O (some ⟨kb,0,none⟩) n n))=>JL w.heap.size kb n l x W hn hx E (Fe hr D);have aw:=hps.1;have ab:=Aa hps.2;clear hps hr;go_enter Tryz.func72,Tryz.ntmps72;go_wp2_with fail;go_loopw [11] (fun i wr=>∃ k:Nat,k<=ps.length/\i=zd U k/\(ps.take k).all (Jm l)=true/\Ov w wr/\wr.cell? ⟨w.heap.size,0,none⟩=some (O (some ⟨kb,0,none⟩) n n)) (fun i _=>ps.length - (intOf i).toNat)
 case atStart=>exact ⟨0,Nat.zero_le _,rfl,rfl,I,by simp [go_sem]⟩
 case round=>
  obtain ⟨k,hk,rfl,g,s,M⟩:=hrel;by_cases hkl:k < ps.length
  ·obtain ⟨b,as,ai,R,T,N,q1,Q⟩:=IY (Ak HP.o s) hkl
   injection T with e1 e2 e3;subst e1 e3;clear e2;obtain ⟨u,y,v⟩:=ab.o ps[k] (List.getElem_mem hkl);have B:Jm l ps[k]=((l[ps[k].owner.toNat]?.getD false) || ps[k].names.any (fun x=>l[x.toNat]?.getD false)):=rfl;have q:Jm l ps[k]=true->(ps.take (k+1)).all (Jm l)=true:=fun h=>by
    rw [List.take_succ_eq_append_getElem hkl,List.all_append,g];simp [h]
   have m:Jm l ps[k]=false->ps.all (Jm l)=false:=fun h=>by
    rw [List.all_eq_false];exact ⟨ps[k],List.getElem_mem hkl,by simp [h]⟩
   have t:Ov wr (wr.alloc (ze #[zd U ps[k].owner,R] 87)):=bA wr _;have P:=fun (W:World) (D:Ov w W) (E:W.cell? ⟨w.heap.size,0,none⟩=some (O (some ⟨kb,0,none⟩) n n))=>KA.o ps[k].owner W u D E;have Y:=fun (W:World) (D:Ov w W) (Z:Ov wr W) (E:W.cell? ⟨w.heap.size,0,none⟩=some (O (some ⟨kb,0,none⟩) n n))=>D7 128 (zi (some ⟨w.heap.size,0,none⟩)) (fun x=>l[x.toNat]?.getD false) R ps[k].names W (BT Q Z) y (Aa fun i hi w1 hb=>KA.o ps[k].names[i] w1 (v _ (List.getElem_mem hi)) (D.trans (hb.mono D.size)) (by rw [(An hb).1 _ _ (bL E)];exact E)) SD;obtain ⟨x1,A⟩:=nm (l[ps[k].owner.toNat]?.getD false);obtain ⟨x2,z⟩:=nm (ps[k].names.any (fun x=>l[x.toNat]?.getD false));obtain ⟨ow,H⟩:=nm (ps[k].owner);rw [<-A,<-z] at B;rw [B] at q m;rw [<-A] at P;rw [<-z] at Y;rw [<-H] at N t P;obtain ⟨na,nn,nc,V⟩:∃ a n c,R=O a n c:=by obtain ⟨a,c,e,_⟩:=Q;exact ⟨a,_,c,e⟩
   subst V;have HN:=Aa q;have HS:=Aa m;have KO:=Aa P;have KN:=Aa Y;have d:=s.trans (t.mono s.size);have S:=bL M;have au:=bL N;have L:(wr.alloc (ze #[zd U ow,O na nn nc] 87)).cell? ⟨w.heap.size,0,none⟩=some (O (some ⟨kb,0,none⟩) n n):=by rw [(An t).1 _ _ S];exact M
   have j:=Aa L;clear A z H B q m P Y g Q L u y v;cases x1 with
   | true=>
    go_wp2_with fail;refine (KO.o _ d j.o).mono ?_;rintro e G ⟨rfl,f⟩;have r:=d.trans (f.mono d.size);have F:G.cell? ⟨w.heap.size,0,none⟩=some (O (some ⟨kb,0,none⟩) n n):=by rw [(An f).1 _ _ (bL j.o)];exact j.o
    clear f d M N q1 j;go_wp2_with fail;exact ⟨⟨k+1,by omega,by go_num,HN.o (by simp),r,F⟩,by simp [intOf];omega⟩
   | false=>
    go_wp2_with fail;refine (KO.o _ d j.o).mono ?_;rintro e G ⟨rfl,f⟩;have r:=d.trans (f.mono d.size);have F:G.cell? ⟨w.heap.size,0,none⟩=some (O (some ⟨kb,0,none⟩) n n):=by rw [(An f).1 _ _ (bL j.o)];exact j.o
    have d1:G.cell? ⟨wr.heap.size,1,none⟩=some (O na nn nc):=by rw [(An f).1 _ _ (by simp)];simp [go_sem]
    have K:Ov wr G:=t.trans (f.mono (by simp));clear f d M N q1 j;go_wp2_with fail;refine (KN.o _ r K F).mono ?_;rintro e w3 ⟨rfl,C⟩;have J:=r.trans (C.mono r.size);have f0:w3.cell? ⟨w.heap.size,0,none⟩=some (O (some ⟨kb,0,none⟩) n n):=by rw [(An C).1 _ _ (bL F)];exact F
    clear C r F d1 K KN KO;cases x2 with
    | true=>
     go_wp2_with fail;exact ⟨⟨k+1,by omega,by go_num,HN.o (by simp),J,f0⟩,by simp [intOf];omega⟩
    | false=>
     go_wp2_with fail;go_ret;exact ⟨by rw [HS.o (by simp)];rfl,J⟩
  ·have X:k=ps.length:=by omega
   have hz:ps.all (Jm l)=true:=by rw [X,List.take_length] at g;exact g
   have HZ:=Aa hz;clear hz g M;go_wp2_with fail;go_ret;exact ⟨by rw [HZ.o];rfl,s⟩
end Go.Proofs.YtfffpjkcfnekaaaGreat
namespace Go.Proofs.YtfffpjkcfnekaaaGreat.Ex
open Go.RowKit
open Go.Value renaming slice -> O, int -> zd, bool -> zg, agg -> zh, pointer -> zi, tuple -> zk
open Go.IntKind renaming i64 -> U
open Go.Obj renaming cells -> ze
open Go.Ending renaming returned -> zj
def sD (kd va ot:Int) (e:D) (ags ts es:List D):D:=.agg [.lit (.int U kd),.lit (.int U va),.lit (.int U ot),e,.slice ags [],.slice ts [],.slice es []]
def Ag:D->Int
 | .agg (.lit (.int _ n)::_)=>n
 | _=>0
def Ap:D->Int
 | .agg (_::.lit (.int _ n)::_)=>n
 | _=>0
def Ae:D->Int
 | .agg (_::_::.lit (.int _ n)::_)=>n
 | _=>0
def Am:D->D
 | .agg (_::_::_::e::_)=>e
 | d=>d
def Ai:D->List D
 | .agg (_::_::_::_::.slice l _::_)=>l
 | _=>[]
def Aj:D->List D
 | .agg (_::_::_::_::_::.slice l _::_)=>l
 | _=>[]
def Ao:D->List D
 | .agg (_::_::_::_::_::_::.slice l _::_)=>l
 | _=>[]
def RS (w:World) (K:Nat):Nat->List Value->D->Prop
 | 0,_,_=>False
 | k+1,cs,d=>∃ (kd va ot:Int) (x0 x1 x2:Value) (e:D) (vA:Value) (ags:List D) (vT:Value) (ts:List D) (vE:Value) (es:List D),
   cs=[zd U kd,zd U va,zd U ot,x0,x1,x2,vA,vT,vE]/\d=sD kd va ot e ags ts es/\Cu kd/\Cu va/\Cu ot/\RX w K [x0,x1,x2] e/\XS 3 (RX w K) w vA ags/\XS 9 (RS w K k) w vT ts/\XS 9 (RS w K k) w vE es
theorem RS.mono {w w':World} {K:Nat} (hw:∀ a u,w.cell? a=some u->w'.cell? a=some u) :
  ∀ (k m:Nat) (cs:List Value) (d:D),k<=m->RS w K k cs d->RS w' K m cs d:=by
 intro k
 induction k with
 | zero=>intro m cs d _ h;exact h.elim
 | succ k ih=>
  intro m cs d v h;obtain ⟨c,rfl⟩:∃ c,m=c + 1:=⟨m - 1,by omega⟩;obtain ⟨t,n,s,l,j,i,e,q,g,o,r,p,G,f,y,F,E,C,x,B,z,A⟩:=h;exact ⟨t,n,s,l,j,i,e,q,g,o,r,p,G,f,y,F,E,C,RX.mono hw K K _ e (Nat.le_refl _) x,
   B.mono hw (fun cs d _ b=>RX.mono hw K K cs d (Nat.le_refl _) b),z.mono hw (fun cs d _ b=>ih c cs d (by omega) b),A.mono hw (fun cs d _ b=>ih c cs d (by omega) b)⟩
def Bj (w:World) (K k:Nat) (v:Value) (l:List D):Prop:=XS 9 (RS w K k) w v l
theorem Bj.over {w w':World} {K k:Nat} {v:Value} {l:List D} (h:Bj w K k v l) (hb:Ov w w'):Bj w' K k v l:=
 XS.mono h (Ab hb) (fun cs d _ hh=>RS.mono (Ab hb) k k cs d (Nat.le_refl _) hh)
structure FnD where
 ps:List Int
 body:List D
 res:D
def BV (fs:List FnD) (c:Int):FnD:=fs.getD c.toNat ⟨[],[],.agg []⟩
def Tm (v:Value) (ps:List Int):Prop:=ps.length<=maxLen/\∃ pa pc,v=O pa ps.length pc/\ps.length<=pc/\pc<=maxLen
def Bv (w:World) (K k:Nat) (v:Value) (fs:List FnD):Prop:=
 fs.length<=maxLen/\∃ ao cap,v=O ao fs.length cap/\(fs≠[]->∃ b off,ao=some ⟨b,off,none⟩/\∀ i (h:i < fs.length),∃ (vP vB x0 x1 x2:Value),
  w.cell? ⟨b,off+i*5,none⟩=some vP/\w.cell? ⟨b,off+i*5+1,none⟩=some vB/\w.cell? ⟨b,off+i*5+2,none⟩=some x0/\w.cell? ⟨b,off+i*5+3,none⟩=some x1/\w.cell? ⟨b,off+i*5+4,none⟩=some x2 /\
  AN w vP fs[i].ps/\Tm vP fs[i].ps/\Bj w K k vB fs[i].body/\RX w K [x0,x1,x2] fs[i].res)
theorem Bv.over {w w':World} {K k:Nat} {v:Value} {l:List FnD} (h:Bv w K k v l) (hb:Ov w w'):Bv w' K k v l:=by
 obtain ⟨u,E,g,r,y⟩:=h;refine ⟨u,E,g,r,fun d=>?_⟩;obtain ⟨b,a,f,e⟩:=y d;refine ⟨b,a,f,fun i x=>?_⟩;obtain ⟨o,p,n,m,j,D,C,B,A,z,t,c,s,q⟩:=e i x;exact ⟨o,p,n,m,j,Ab hb _ _ D,Ab hb _ _ C,Ab hb _ _ B,Ab hb _ _ A,Ab hb _ _ z,t.over hb,c,s.over hb,q.over hb⟩
def AW (w:World) (v:Value) (ls:List Lab):Prop:=
 ls.length<=maxLen/\∃ ao cap,v=O ao ls.length cap/\(ls≠[]->∃ b off,ao=some ⟨b,off,none⟩/\∀ i (h:i < ls.length),∃ (pr pw:Value),
  w.cell? ⟨b,off+i*2,none⟩=some pr/\w.cell? ⟨b,off+i*2+1,none⟩=some pw/\AL w pr ls[i].r/\AL w pw ls[i].w)
theorem AW.over {w w':World} {v:Value} {l:List Lab} (h:AW w v l) (hb:Ov w w'):AW w' v l:=by
 obtain ⟨n,s,f,k,p⟩:=h;refine ⟨n,s,f,k,fun c=>?_⟩;obtain ⟨b,a,e,d⟩:=p c;refine ⟨b,a,e,fun i o=>?_⟩;obtain ⟨j,g,r,q,m,hw⟩:=d i o;exact ⟨j,g,Ab hb _ _ r,Ab hb _ _ q,Ak m hb,Ak hw hb⟩
def Bs (w:World) (v:Value) (ls:List (Bool × Lab)):Prop:=
 ls.length<=maxLen/\∃ ao cap,v=O ao ls.length cap/\(ls≠[]->∃ b off,ao=some ⟨b,off,none⟩/\∀ i (h:i < ls.length),∃ (pr pw:Value),
  w.cell? ⟨b,off+i*3,none⟩=some (zg ls[i].1)/\w.cell? ⟨b,off+i*3+1,none⟩=some pr/\w.cell? ⟨b,off+i*3+2,none⟩=some pw/\AL w pr ls[i].2.r/\AL w pw ls[i].2.w)
theorem Bs.over {w w':World} {v:Value} {l:List (Bool × Lab)} (h:Bs w v l) (hb:Ov w w'):Bs w' v l:=by
 obtain ⟨n,t,f,k,p⟩:=h;refine ⟨n,t,f,k,fun c=>?_⟩;obtain ⟨b,a,e,d⟩:=p c;refine ⟨b,a,e,fun i o=>?_⟩;obtain ⟨j,g,s,r,q,m,hw⟩:=d i o;exact ⟨j,g,Ab hb _ _ s,Ab hb _ _ r,Ab hb _ _ q,Ak m hb,Ak hw hb⟩
def Ay (why:Int):Ending:=.panicked [{ v:=.iface 230 (zh #[zd U 0,zd U why]),recovered:=false }]
theorem Ny (why:Int) (w:World):Calls Tryz.prog 215 #[zd U 0,zg false,zd U why] w fun e w'=>e=Ay why/\w'=w:=by
 unfold Ay;go_enter Tryz.func215,Tryz.ntmps215;go_wp2_with fail;exact ⟨rfl,rfl,rfl⟩
theorem MP (why:Int) (w:World):Calls Tryz.prog 172 #[zg false,zd U why] w fun e w'=>e=Ay why/\w'=w:=by
 have K:=Aa fun W=>Ny why W;unfold Ay at K ⊢;go_enter Tryz.func172,Tryz.ntmps172;go_wp2_with fail;refine (K.o _).mono ?_;rintro e a ⟨rfl,rfl⟩;go_wp2_with fail;exact ⟨rfl,rfl,rfl⟩
def Tn (ok:Bool) (why:Int) (w:World) (e:Ending) (w':World):Prop:=(ok=true/\e=zj (zk #[])\/ok=false/\e=Ay why)/\w'=w
theorem BZ (ok:Bool) (why:Int) (w:World):Calls Tryz.prog 172 #[zg ok,zd U why] w (Tn ok why w):=by
 cases ok with
 | true=>exact (c why w).mono fun e a h=>⟨b.inl ⟨rfl,h.1⟩,h.2⟩
 | false=>exact (MP why w).mono fun e a h=>⟨b.inr ⟨rfl,h.1⟩,h.2⟩
theorem Hb (why:Int) (w:World):Calls Tryz.prog 171 #[zd U why] w (Tn (why == 0) why w):=by
 by_cases h:why=0
 ·subst h
  exact (Qc w).mono fun e a h=>⟨Or.inl ⟨rfl,h.1⟩,h.2⟩
 ·have b:(why == 0)=false:=by simpa using h
  have K:=Aa fun W=>MP why W;have H:Calls Tryz.prog 171 #[zd U why] w fun e a=>e=Ay why/\a=w:=by
   unfold Ay at K ⊢;go_enter Tryz.func171,Tryz.ntmps171;go_wp2_with fail;refine (K.o _).mono ?_;rintro e c ⟨rfl,rfl⟩;go_wp2_with fail;exact ⟨rfl,rfl,rfl⟩
  exact H.mono fun e a h=>⟨Or.inr ⟨b,h.1⟩,h.2⟩
@[simp] theorem Ts (kd va ot:Int) (e:D) (ags ts es:List D):Ag (sD kd va ot e ags ts es)=kd:=rfl
@[simp] theorem Ty (kd va ot:Int) (e:D) (ags ts es:List D):Ap (sD kd va ot e ags ts es)=va:=rfl
@[simp] theorem S6 (kd va ot:Int) (e:D) (ags ts es:List D):Ae (sD kd va ot e ags ts es)=ot:=rfl
@[simp] theorem Tt (kd va ot:Int) (e:D) (ags ts es:List D):Am (sD kd va ot e ags ts es)=e:=rfl
@[simp] theorem Tv (kd va ot:Int) (e:D) (ags ts es:List D):Ai (sD kd va ot e ags ts es)=ags:=rfl
@[simp] theorem Tr (kd va ot:Int) (e:D) (ags ts es:List D):Aj (sD kd va ot e ags ts es)=ts:=rfl
@[simp] theorem Tu (kd va ot:Int) (e:D) (ags ts es:List D):Ao (sD kd va ot e ags ts es)=es:=rfl
abbrev sC (kd va ot ek en:Int) (xa:Option Addr) (xl xc:Nat) (aa:Option Addr) (al ac:Nat) (ta:Option Addr) (tl tc:Nat) (ea:Option Addr) (el ec:Nat):List Value:=
 [zd U kd,zd U va,zd U ot,zd U ek,zd U en,O xa xl xc,O aa al ac,O ta tl tc,O ea el ec]
theorem RS.form {w:World} {K k:Nat} {cs:List Value} {d:D} (h:RS w K (k+1) cs d) :
  ∃ (ek en:Int) (xa:Option Addr) (xl xc:Nat) (aa:Option Addr) (ac:Nat) (ta:Option Addr) (tc:Nat) (ea:Option Addr) (ec:Nat),
   cs=sC (Ag d) (Ap d) (Ae d) ek en xa xl xc aa (Ai d).length ac ta (Aj d).length tc ea (Ao d).length ec/\Cu (Ag d)/\Cu (Ap d)/\Cu (Ae d) /\
   RX w K [zd U ek,zd U en,O xa xl xc] (Am d)/\XS 3 (RX w K) w (O aa (Ai d).length ac) (Ai d)/\Bj w K k (O ta (Aj d).length tc) (Aj d)/\Bj w K k (O ea (Ao d).length ec) (Ao d) /\
   ek=AQ (Am d)/\en=Bk (Am d)/\xl=(A4 (Am d)).length:=by
 obtain ⟨x,q,v,p,o,n,e,t,m,r,u,s,y,rfl,rfl,l,j,i,b,g,c,f⟩:=h;obtain ⟨xa,xc,a⟩:=b.form;simp only [List.cons.injEq,and_true] at a;obtain ⟨rfl,rfl,rfl⟩:=a;obtain ⟨aa,ac,rfl,-⟩:=g.2;obtain ⟨ta,tc,rfl,-⟩:=c.2;obtain ⟨ea,ec,rfl,-⟩:=f.2;exact ⟨_,_,xa,_,xc,aa,ac,ta,tc,ea,ec,rfl,l,j,i,b,g,c,f,rfl,rfl,rfl⟩
def CY:Nat->D->Nat
 | 0,_=>0
 | k+1,d=>1+((Aj d).map (CY k)).sum+((Ao d).map (CY k)).sum
def AI (k:Nat) (l:List D):Nat:=(l.map (CY k)).sum
theorem Gd {k:Nat} {l:List D} {j:Nat} (hj:j < l.length):AI k (l.take (j+1))=AI k (l.take j)+CY k l[j]:=by
 unfold AI;rw [List.take_succ_eq_append_getElem hj,List.map_append,List.sum_append];simp
theorem Bj.zero {w:World} {K:Nat} {v:Value} {l:List D} (h:Bj w K 0 v l):l=[]:=by
 cases l with
 | nil=>rfl
 | cons d l=>
  obtain ⟨-,j,g,-,f⟩:=h;obtain ⟨b,c,-,a⟩:=f (by simp);obtain ⟨i,-,-,e⟩:=a 0 d rfl;exact e.elim
def A2 (k:Nat) (fs:List FnD):Nat:=(fs.map fun f=>AI k f.body).sum
theorem DF {k:Nat} {l:List FnD} {j:Nat} (hj:j < l.length):A2 k (l.take (j+1))=A2 k (l.take j)+AI k l[j].body:=by
 unfold A2;rw [List.take_succ_eq_append_getElem hj,List.map_append,List.sum_append];simp
def Du (ok:Prop) (w:World) (e:Ending) (w':World):Prop:=((ok/\e=zj (zk #[]))\/∃ why:Int,why≠0/\e=Ay why)/\Ov w w'
theorem O2 (w:World):Calls Tryz.prog 243 #[zd U 1] w fun e w'=>e=zj (zk #[zh #[zg true,zg false,zg true,zg false,zg false,zg false],zg true])/\Ov w w':=by
 go_enter Tryz.func243,Tryz.ntmps243;go_wp2_with fail;exact bodyPost_ret (v:=zk #[zh #[zg true,zg false,zg true,zg false,zg false,zg false],zg true]) (by simp [results,Tryz.results243,go_sem]) rfl ⟨rfl,bA w _⟩
theorem O1 (w:World):Calls Tryz.prog 243 #[zd U 2] w fun e w'=>e=zj (zk #[zh #[zg true,zg true,zg false,zg true,zg false,zg false],zg true])/\Ov w w':=by
 go_enter Tryz.func243,Tryz.ntmps243;go_wp2_with fail;exact bodyPost_ret (v:=zk #[zh #[zg true,zg true,zg false,zg true,zg false,zg false],zg true]) (by simp [results,Tryz.results243,go_sem]) rfl ⟨rfl,bA w _⟩
theorem O0 (w:World):Calls Tryz.prog 243 #[zd U 3] w fun e w'=>e=zj (zk #[zh #[zg true,zg true,zg false,zg false,zg false,zg false],zg true])/\Ov w w':=by
 go_enter Tryz.func243,Tryz.ntmps243;go_wp2_with fail;exact bodyPost_ret (v:=zk #[zh #[zg true,zg true,zg false,zg false,zg false,zg false],zg true]) (by simp [results,Tryz.results243,go_sem]) rfl ⟨rfl,bA w _⟩
theorem OZ (w:World):Calls Tryz.prog 243 #[zd U 4] w fun e w'=>e=zj (zk #[zh #[zg false,zg true,zg true,zg false,zg false,zg false],zg true])/\Ov w w':=by
 go_enter Tryz.func243,Tryz.ntmps243;go_wp2_with fail;exact bodyPost_ret (v:=zk #[zh #[zg false,zg true,zg true,zg false,zg false,zg false],zg true]) (by simp [results,Tryz.results243,go_sem]) rfl ⟨rfl,bA w _⟩
theorem OY (w:World):Calls Tryz.prog 243 #[zd U 5] w fun e w'=>e=zj (zk #[zh #[zg true,zg false,zg true,zg false,zg false,zg false],zg true])/\Ov w w':=by
 go_enter Tryz.func243,Tryz.ntmps243;go_wp2_with fail;exact bodyPost_ret (v:=zk #[zh #[zg true,zg false,zg true,zg false,zg false,zg false],zg true]) (by simp [results,Tryz.results243,go_sem]) rfl ⟨rfl,bA w _⟩
theorem OX (w:World):Calls Tryz.prog 243 #[zd U 6] w fun e w'=>e=zj (zk #[zh #[zg true,zg false,zg true,zg false,zg false,zg false],zg true])/\Ov w w':=by
 go_enter Tryz.func243,Tryz.ntmps243;go_wp2_with fail;exact bodyPost_ret (v:=zk #[zh #[zg true,zg false,zg true,zg false,zg false,zg false],zg true]) (by simp [results,Tryz.results243,go_sem]) rfl ⟨rfl,bA w _⟩
theorem OV (w:World):Calls Tryz.prog 243 #[zd U 7] w fun e w'=>e=zj (zk #[zh #[zg false,zg false,zg true,zg false,zg true,zg true],zg true])/\Ov w w':=by
 go_enter Tryz.func243,Tryz.ntmps243;go_wp2_with fail;exact bodyPost_ret (v:=zk #[zh #[zg false,zg false,zg true,zg false,zg true,zg true],zg true]) (by simp [results,Tryz.results243,go_sem]) rfl ⟨rfl,bA w _⟩
theorem OU (w:World):Calls Tryz.prog 243 #[zd U 8] w fun e w'=>e=zj (zk #[zh #[zg false,zg false,zg true,zg false,zg true,zg false],zg true])/\Ov w w':=by
 go_enter Tryz.func243,Tryz.ntmps243;go_wp2_with fail;exact bodyPost_ret (v:=zk #[zh #[zg false,zg false,zg true,zg false,zg true,zg false],zg true]) (by simp [results,Tryz.results243,go_sem]) rfl ⟨rfl,bA w _⟩
theorem J0 (k:Int) (hk:¬ (1<=k/\k<=8)) (w:World):Calls Tryz.prog 243 #[zd U k] w fun e w'=>e=zj (zk #[zh #[zg false,zg false,zg false,zg false,zg false,zg false],zg false])/\Ov w w':=by
 have i:(k == 1)=false:=by simp;omega
 have h:(k == 2)=false:=by simp;omega
 have g:(k == 3)=false:=by simp;omega
 have f:(k == 4)=false:=by simp;omega
 have d:(k == 5)=false:=by simp;omega
 have c:(k == 6)=false:=by simp;omega
 have b:(k == 7)=false:=by simp;omega
 have a:(k == 8)=false:=by simp;omega
 clear hk;go_enter Tryz.func243,Tryz.ntmps243;go_wp2_with fail;exact bodyPost_ret (v:=zk #[zh #[zg false,zg false,zg false,zg false,zg false,zg false],zg false]) (by simp [results,Tryz.results243,go_sem]) rfl ⟨rfl,bA w _⟩
theorem Ci (k:Int) (funcs:Int) (m:Int) (ga gn gc sa sn sc ya yn yc oa on oc va vn vc fa fn fc ba bn bc) (w:World):Calls Tryz.prog 244 #[zh #[zd U m,O ga gn gc,O sa sn sc,O ya yn yc,O oa on oc,O va vn vc,O fa fn fc,O ba bn bc],zd U k,zd U funcs] w fun e w'=>e=zj (zd U (if k=2 then funcs else if k=3 then yn else on))/\Ov w w':=by
 have a:Ov w (w.alloc (ze #[zd U m,O ga gn gc,O sa sn sc,O ya yn yc,O oa on oc,O va vn vc,O fa fn fc,O ba bn bc] 184)):=bA w _;by_cases h2:k=2
 ·subst h2
  go_enter Tryz.func244,Tryz.ntmps244;go_wp2_with fail;go_ret;exact ⟨rfl,a⟩
 ·by_cases h3:k=3
  ·subst h3
   go_enter Tryz.func244,Tryz.ntmps244;go_wp2_with fail;go_ret;exact ⟨rfl,a⟩
  ·rw [if_neg h2,if_neg h3]
   go_enter Tryz.func244,Tryz.ntmps244;go_wp2_with fail;go_ret;exact ⟨rfl,a⟩
def Cx (K:Nat) (nv ni no:Nat) (funcs:Int) (fs:List FnD) (d:D):Prop:=
 (1<=Ag d/\Ag d<=8)/\((Ag d=1\/Ag d=2\/Ag d=3\/Ag d=5\/Ag d=6)->0<=Ap d/\Ap d < nv) /\
 (Ag d=2->(0<=Ae d/\Ae d < funcs)/\(∀ f,fs[(Ae d).toNat]? = some f->f.ps.length=(Ai d).length)/\∀ a∈Ai d,AU nv K a=0) /\
 (Ag d=3->0<=Ae d/\Ae d < ni)/\((Ag d=1\/4<=Ag d)->AU nv K (Am d)=0)/\((Ag d=2\/Ag d=3)->AQ (Am d)=0/\A4 (Am d)=[])/\(Ag d=4->0<=Ae d/\Ae d < no)
def okS (K:Nat) (nv ni no:Nat) (funcs:Int) (fs:List FnD):Nat->D->Prop
 | 0,_=>False
 | k+1,d=>Cx K nv ni no funcs fs d/\(∀ s∈Aj d,okS K nv ni no funcs fs k s)/\∀ s∈Ao d,okS K nv ni no funcs fs k s
theorem Du.imp {p q:Prop} {w:World} {e:Ending} {w':World} (h:Du p w e w') (hpq:p->q):Du q w e w':=by
 obtain ⟨h,c⟩:=h;refine ⟨?_,c⟩;rcases h with ⟨a,b⟩ | h
 ·exact Or.inl ⟨hpq a,b⟩
 ·exact Or.inr h
theorem Bv.mono {w:World} {K k m:Nat} {v:Value} {l:List FnD} (h:Bv w K k v l) (hkm:k<=m):Bv w K m v l:=by
 obtain ⟨A,J,n,x,C⟩:=h;refine ⟨A,J,n,x,fun e=>?_⟩;obtain ⟨b,a,j,g⟩:=C e;refine ⟨b,a,j,fun i B=>?_⟩;obtain ⟨s,t,r,p,o,H,G,F,E,D,z,c,y,u⟩:=g i B;exact ⟨s,t,r,p,o,H,G,F,E,D,z,c,XS.mono y (fun _ _ f=>f) (fun I d _ f=>RS.mono (fun _ _ q=>q) k m I d hkm f),u⟩
theorem AN.prefix {w:World} {ao:Option Addr} {cap:Nat} {vs:List Int} (h:AN w (O ao vs.length cap) vs) {i:Nat} (hi:i<=vs.length) (c:Nat):AN w (O ao i c) (vs.take i):=by
 obtain ⟨r,q,l,m⟩:=h;injection l with n p o;subst n;refine ⟨ao,c,by simp [Nat.min_eq_left hi],fun d=>?_⟩;obtain ⟨b,a,g,f⟩:=m (by rintro rfl;simp at d);refine ⟨b,a,g,fun j k=>?_⟩;have e:j < vs.length:=by simp at k;omega
 rw [List.getElem_take];exact f j e
def okF (K:Nat) (nv ni no:Nat) (ahead:Int) (fs:List FnD) (k:Nat) (f:FnD):Prop:=
 f.ps.length<=4/\(∀ p∈f.ps,0<=p/\p < nv)/\(∀ s∈f.body,okS K nv ni no ahead fs k s)/\AU nv K f.res=0
end Go.Proofs.YtfffpjkcfnekaaaGreat.Ex
namespace Go.Proofs.YtfffpjkcfnekaaaGreat
open Go.RowKit
open Go.Value renaming slice -> O, int -> zd, bool -> zg, agg -> zh, pointer -> zi, tuple -> zk
open Go.IntKind renaming i64 -> U
open Go.Obj renaming cells -> ze
open Go.Ending renaming returned -> zj
theorem Im {α:Type} (l:List α) (k:Nat) (x:α) (h:k < l.length):(l.set k x).take (k+1)=l.take k++[x]:=by
 rw [List.take_succ_eq_append_getElem (by simpa using h)];simp only [List.take_set,List.getElem_set_self];rw [List.set_eq_of_length_le (by simp;omega)]
def Ew (f:Nat->Bool) (g n k:Nat) (W:World):Prop:=∃ cur:List Value,cur.length=n/\cur.take k=AB (BI f k)/\W.heap[g]? = some (.cells cur.toArray 4 (0,0))
theorem Lb {f:Nat->Bool} {g n k:Nat} {W W':World} (h:Ew f g n k W) (hb:Ov W W'):Ew f g n k W':=by
 obtain ⟨a,d,c,b⟩:=h;exact ⟨a,d,c,by rw [hb.block g (Array.getElem?_eq_some_iff.1 b).1];exact b⟩
theorem Mb {f:Nat->Bool} {g n k:Nat} {W:World} (h:Ew f g n k W) (hk:k < n):Ew f g n (k+1) (W.setCell ⟨g,k,none⟩ (zg (f k))):=by
 obtain ⟨a,d,c,b⟩:=h;refine ⟨a.set k (zg (f k)),by simpa using d,?_,?_⟩
 ·rw [Im _ _ _ (by omega),c,Fd]
  simp [AB]
 ·have:=heap_setCell_same W g k _ 4 (zg (f k)) b
  simpa using this
theorem Lc {f:Nat->Bool} {g n k j:Nat} {W:World} (h:Ew f g n k W) (hj:j < n):(∃ u,W.cell? ⟨g,j,none⟩=some u)/\W.frozen? ⟨g,j,none⟩=false:=by
 obtain ⟨a,c,d,b⟩:=h;refine ⟨⟨a[j]'(by omega),?_⟩,?_⟩
 ·simp [World.cell?,b,c,hj]
 ·simp [World.frozen?,b]
theorem Mc {f:Nat->Bool} {g n B:Nat} {W:World} (h:Ew f g n n W) (hn:n<=6) (hg:B<=g):W.ownsRow B 4 1 (O (some ⟨g,0,none⟩) n n) n (AB (BI f n)):=by
 obtain ⟨a,d,c,b⟩:=h;refine ⟨by simp [AB,AH],Or.inr ⟨g,n,a.toArray,rfl,hg,b,Nat.le_refl _,by unfold maxLen;omega,by simp [d],?_⟩⟩;rw [Nat.mul_one];exact c
theorem EC (F:FuncId) (c1 c2:Value) (f:Nat->Bool) (n:Nat) (h1:1<=n) (hn:n<=6) (s:Value) (w:World)
  (hF:Hx (∀ (k:Nat),k < n->∀ W:World,Ov w W->Calls Tryz.prog F #[zd U k,c1,c2] W fun e w2=>e=zj (zg (f k))/\Ov W w2))
  (hC:∀ (args:Array Value) (w:World),(callFunc F args).run Tryz.prog w=.ok (.enter F args) w) :
  Calls Tryz.prog 70 #[zh #[zd U n,s],.func (.func F) #[] #[c1,c2]] w fun e w'=>∃ g,e=zj (O (some ⟨g,0,none⟩) n n)/\w.heap.size<=g/\g < w'.heap.size/\w'.ownsRow w.heap.size 4 1 (O (some ⟨g,0,none⟩) n n) n (AB (BI f n))/\Ov w w':=by
 have t:=fun w=>Dx n hn w;have j:Ew f (w.heap.size+1) n 0 ((w.alloc (ze #[zd U n,s] 24)).alloc (.cells (List.replicate n (Value.bool false)).toArray 4)):=by
  refine ⟨List.replicate n (zg false),by simp,by simp [BI,AB],?_⟩;have:=heap_alloc_new (w.alloc (ze #[zd U n,s] 24)) (.cells (List.replicate n (Value.bool false)).toArray 4);simpa using this
 have c:Ov w ((w.alloc (ze #[zd U n,s] 24)).alloc (.cells (List.replicate n (Value.bool false)).toArray 4)):=(bA w _).alloc (by simp) _;have r:=Aa j;have C:=Aa c;clear j c;go_enter Tryz.func70,Tryz.ntmps70;go_wp2_with fail;go_loopw [12] (fun i wr=>∃ k:Nat,k<=n/\i=zd U k/\Ew f (w.heap.size+1) n k wr/\Ov w wr) (fun i _=>n - (intOf i).toNat)
 case atStart=>exact ⟨0,Nat.zero_le _,rfl,by simpa using r.o,by simpa using C.o⟩
 case round=>
  clear r C t;obtain ⟨k,H,rfl,a,b⟩:=hrel;by_cases hkn:k < n
  ·have A:=Aa (hF.o k hkn _ b)
   go_wp2_with fail;refine (A.o).mono ?_;rintro e w2 ⟨rfl,h⟩;have d:=Lb a h;have q:=b.trans (h.mono b.size);obtain ⟨⟨u,J⟩,I⟩:=Lc d hkn;have l:=Mb d hkn;have m:=q.setCell (p:=⟨w.heap.size+1,k,none⟩) (by simp) (zg (f k));have y:=Aa l;have z:=Aa m;clear a d h q l m A b;go_wp2_with fail;exact ⟨⟨k+1,by omega,by go_num,y.o,z.o⟩,by simp [intOf];omega⟩
  ·have x:k=n:=by omega
   subst x;have v:w.heap.size+1 < wr.heap.size:=by obtain ⟨E,_,_,D⟩:=a;exact (Array.getElem?_eq_some_iff.1 D).1
   have G:=Aa (Mc a hn (B:=w.heap.size) (by omega));clear a hF;go_wp2_with fail;go_ret;exact ⟨w.heap.size+1,rfl,by omega,v,G.o,b⟩
def BW (w:World) (v:Value) (ls:List Lev):Prop:=
 ∃ ao cap,v=O ao ls.length cap/\(ls≠[]->∃ b off,ao=some ⟨b,off,none⟩/\∀ i (h:i < ls.length),∃ rv wv,w.cell? ⟨b,off+i*2,none⟩=some rv/\w.cell? ⟨b,off+i*2+1,none⟩=some wv/\A3 w (zh #[rv,wv]) ls[i])
theorem CH {w w':World} {v:Value} {ls:List Lev} (h:BW w v ls) (hb:Ov w w'):BW w' v ls:=by
 obtain ⟨o,e,rfl,m⟩:=h;refine ⟨o,e,rfl,fun c=>?_⟩;obtain ⟨b,a,rfl,d⟩:=m c;refine ⟨b,a,rfl,fun i l=>?_⟩;obtain ⟨k,j,g,f,n⟩:=d i l;exact ⟨k,j,by rw [(An hb).1 _ _ (bL g)];exact g,by rw [(An hb).1 _ _ (bL f)];exact f,AK n hb⟩
theorem I1 {w:World} {v:Value} {ls:List Lev} (h:BW w v ls) {i:Nat} (hi:i < ls.length):∃ b off cap rv wv,v=O (some ⟨b,off,none⟩) ls.length cap/\w.cell? ⟨b,off+i*2,none⟩=some rv/\w.cell? ⟨b,off+i*2+1,none⟩=some wv/\A3 w (zh #[rv,wv]) ls[i]:=by
 obtain ⟨g,cap,rfl,c⟩:=h;obtain ⟨b,off,rfl,a⟩:=c (by rintro rfl;simp at hi);obtain ⟨rv,wv,f,e,d⟩:=a i hi;exact ⟨b,off,cap,rv,wv,rfl,f,e,d⟩
def B0 (m:Int):List Lev->Int
 | []=>0
 | l::ls=>if CN m l=0 then B0 m ls else CN m l
theorem Iw {m:Int} {ls:List Lev} {k:Nat} (hk:k < ls.length):B0 m (ls.drop k)=if CN m ls[k]=0 then B0 m (ls.drop (k+1)) else CN m ls[k]:=by
 rw [List.drop_eq_getElem_cons hk];rfl
def Gg (m:Int) (gs:List (Int × Int)) (ls:List Lev):Int:=if AR m gs=0 then B0 m ls else AR m gs
theorem DT (m:Int) (l:Lev):(CN m l=0/\((l.r.length:Int)=m/\(l.w.length:Int)=m))\/(CN m l=1/\((l.r.length:Int)≠m\/((l.r.length:Int)=m/\(l.w.length:Int)≠m))):=by
 unfold CN;by_cases h:(l.r.length:Int)=m/\(l.w.length:Int)=m
 ·exact Or.inl ⟨if_pos h,h⟩
 ·refine Or.inr ⟨if_neg h,?_⟩
  by_cases h1:(l.r.length:Int)=m
  ·exact Or.inr ⟨h1,fun a=>h ⟨h1,a⟩⟩
  ·exact Or.inl h1
theorem FM (m:Int) (v vs:Value) (gs ls) (w:World) (hv:AA w v gs) (hl:BW w vs ls) (hn:ls.length<=2) :
  Calls Tryz.prog 59 #[zh #[zd U m,v],vs] w fun e w'=>e=zj (zd U (Gg m gs ls))/\Ov w w':=by
 have f:Ov w (w.alloc (ze #[zd U m,v] 24)):=bA w _;have J:=check_any m v gs (w.alloc (ze #[zd U m,v] 24)) (Af hv f);have I:Gg m gs ls=if AR m gs=0 then B0 m ls else AR m gs:=rfl;have HL:=Aa hl;obtain ⟨ao,ag,rfl,-⟩:=hl;obtain ⟨r,Q⟩:=nm (AR m gs);rw [<-Q] at J I;obtain ⟨va,vn,vc,rfl⟩:=CK hv;have X:=Aa J;have E:=Aa I;clear J I Q hv;go_enter Tryz.func59,Tryz.ntmps59;go_wp2_with fail;refine (X.o).mono ?_;rintro e M ⟨rfl,p⟩;have t:M.cell? ⟨w.heap.size,0,none⟩=some (zd U m):=by rw [(An p).1 _ _ (by simp)];simp [go_sem]
 have s:Ov w M:=f.trans (p.mono (by simp));clear X p f;by_cases hr0:r=0
 ·subst hr0
  go_wp2_with fail;go_loopw [15] (fun i wr=>∃ k:Nat,k<=ls.length/\i=zd U k/\B0 m ls=B0 m (ls.drop k)/\Ov w wr/\wr.cell? ⟨w.heap.size,0,none⟩=some (zd U m)) (fun i _=>ls.length - (intOf i).toNat)
  case atStart=>exact ⟨0,Nat.zero_le _,rfl,rfl,s,t⟩
  case round=>
   clear s t;obtain ⟨k,hk,rfl,h,d,t⟩:=hrel;by_cases hkl:k < ls.length
   ·obtain ⟨b,ad,S,Z,Y,G,q0,q1,q2⟩:=I1 (CH HL.o d) hkl
    injection G with L K e3;subst L e3;clear K;have a:=Iw (m:=m) hkl;rw [<-h] at a;have A:=DT m ls[k];obtain ⟨x,y,z,⟨W,P,L,-⟩,⟨V,N,K,-⟩⟩:=q2;obtain ⟨rfl,rfl⟩:Z=x/\Y=y:=by simpa using z
    subst L K;obtain ⟨u,n⟩:=nm (ls[k].r.length);obtain ⟨D,l⟩:=nm (ls[k].w.length);rw [<-n,<-l] at A;rw [<-n] at q0;rw [<-l] at q1;have F:=bL t;have q:Ov wr (wr.alloc (ze #[O W u P,O V D N] 50)):=bA wr _;have c:=d.trans (q.mono d.size);have R:(wr.alloc (ze #[O W u P,O V D N] 50)).cell? ⟨w.heap.size,0,none⟩=some (zd U m):=by rw [(An q).1 _ _ F];exact t
    have D0:=Aa R;clear z n l h R q d;rcases A with ⟨g,j,B⟩ | ⟨g,j | ⟨j,B⟩⟩
    ·rw [g] at a
     have C:=Aa a;have T:((u:Int) != m)=false:=by simp [j]
     have b2:((D:Int) != m)=false:=by simp [B]
     clear g a j B;go_wp2_with fail;exact ⟨⟨k+1,by omega,by go_num,by rw [C.o];simp,c,D0.o⟩,by simp [intOf];omega⟩
    ·rw [g] at a
     have C:=Aa a;have T:((u:Int) != m)=true:=by simpa using j
     clear g a j;go_wp2_with fail;go_ret;exact ⟨by rw [E.o,C.o];simp,c⟩
    ·rw [g] at a
     have C:=Aa a;have T:((u:Int) != m)=false:=by simp [j]
     have b2:((D:Int) != m)=true:=by simpa using B
     clear g a j B;go_wp2_with fail;go_ret;exact ⟨by rw [E.o,C.o];simp,c⟩
   ·have H:k=ls.length:=by omega
    have g:B0 m ls=0:=by rw [h,H,List.drop_length];rfl
    have HZ:=Aa g;clear g h t;go_wp2_with fail;go_ret;exact ⟨by rw [E.o,HZ.o];simp,d⟩
 ·have ae:(r != 0)=true:=by simpa using hr0
  go_wp2_with fail;go_ret;exact ⟨by rw [E.o];simp [hr0],s⟩
def C0 (a b:List Bool) (n:Nat):Bool:=(List.range n).all fun i=>!((a[i]?.getD false) && !(b[i]?.getD false))
theorem Jd (l m:Lev) (n:Nat):(C0 m.r l.r n && C0 l.w m.w n)=Av l m n:=by
 rw [Bool.eq_iff_iff,BL];simp only [C0,Bool.and_eq_true,List.all_eq_true,List.mem_range];constructor
 ·rintro ⟨e,d⟩ i c
  have a:=e i c;have b:=d i c;revert a b;cases m.r[i]?.getD false <;> cases l.r[i]?.getD false <;> cases l.w[i]?.getD false <;> cases m.w[i]?.getD false <;> simp
 ·intro h
  refine ⟨fun i c=>?_,fun i c=>?_⟩ <;> have a:=h i c <;> revert a <;> cases m.r[i]?.getD false <;> cases l.r[i]?.getD false <;> cases l.w[i]?.getD false <;> cases m.w[i]?.getD false <;> simp
theorem GU (va vb:Value) (a b:List Bool) (n:Nat) (w:World) (h0:1<=n) (hn:n<=6) (ha:AJ w va a) (hb:AJ w vb b) (hla:a.length=n) (hlb:b.length=n) :
  Calls Tryz.prog 60 #[va,vb] w fun e w'=>e=zj (zg (C0 a b n))/\Ov w w':=by
 obtain ⟨D,v,B,rfl,j⟩:=CI ha hla h0;obtain ⟨C,u,A,rfl,g⟩:=CI hb hlb h0;have q:=Aa j;have p:=Aa g;clear j g ha hb hla hlb;go_enter Tryz.func60,Tryz.ntmps60;go_wp2_with fail
 go_loop [9] (fun i=>∃ k:Nat,k<=n/\i=zd U k/\(List.range k).all (fun i=>!((a[i]?.getD false) && !(b[i]?.getD false)))=true) (fun i=>n - (intOf i).toNat)
 case atStart=>exact ⟨0,Nat.zero_le _,rfl,rfl⟩
 case round=>
  obtain ⟨k,z,rfl,f⟩:=hrel;by_cases hkn:k < n
  ·have j:=q.o k hkn
   have g:=p.o k hkn;have d:(!((a[k]?.getD false) && !(b[k]?.getD false)))=true->(List.range (k+1)).all (fun i=>!((a[i]?.getD false) && !(b[i]?.getD false)))=true:=fun h=>by
    rw [List.range_succ,List.all_append,f];simpa using h
   have c:(!((a[k]?.getD false) && !(b[k]?.getD false)))=false->C0 a b n=false:=fun h=>by
    unfold C0;rw [List.all_eq_false];exact ⟨k,List.mem_range.2 hkn,by simpa using h⟩
   generalize a[k]?.getD false=x at j d c;generalize b[k]?.getD false=y at g d c;have s:=Aa d;have r:=Aa c;clear d c f;cases x <;> cases y
   all_goals go_wp2_with fail
   all_goals first
    | exact ⟨⟨k+1,by omega,by go_num,s.o (by first | rfl | trivial)⟩,by simp [intOf];omega⟩
    | (go_ret;exact ⟨by rw [r.o (by first | rfl | trivial)];rfl,Below.refl _ w⟩)
  ·have l:k=n:=by omega
   have m:C0 a b n=true:=by unfold C0;rw [<-l];exact f
   have t:=Aa m;clear m f;go_wp2_with fail;go_ret;exact ⟨by rw [t.o];rfl,Below.refl _ w⟩
theorem LW {W:World} {b:Nat} {rv wv:Value} {l:Lev} (h0:W.cell? ⟨b,0,none⟩=some rv) (h1:W.cell? ⟨b,1,none⟩=some wv) (hl:A3 W (zh #[rv,wv]) l):BW W (O (some ⟨b,0,none⟩) 1 1) [l]:=by
 refine ⟨_,1,rfl,fun _=>⟨b,0,rfl,fun i a=>?_⟩⟩;have:i=0:=by simp at a;omega
 subst this;exact ⟨rv,wv,by simpa using h0,by simpa using h1,hl⟩
theorem LU {W:World} {b:Nat} {rv wv ru wu:Value} {l k:Lev} (h0:W.cell? ⟨b,0,none⟩=some rv) (h1:W.cell? ⟨b,1,none⟩=some wv) (h2:W.cell? ⟨b,2,none⟩=some ru) (h3:W.cell? ⟨b,3,none⟩=some wu) (hl:A3 W (zh #[rv,wv]) l) (hk:A3 W (zh #[ru,wu]) k):BW W (O (some ⟨b,0,none⟩) 2 2) [l,k]:=by
 refine ⟨_,2,rfl,fun _=>⟨b,0,rfl,fun i a=>?_⟩⟩;have:i=0\/i=1:=by simp at a;omega
 rcases this with rfl | rfl
 ·exact ⟨rv,wv,by simpa using h0,by simpa using h1,hl⟩
 ·exact ⟨ru,wu,by simpa using h2,by simpa using h3,hk⟩
theorem Mv (m:Int) (gs) (l:Lev):Gg m gs [l]=Dn m gs l:=by
 unfold Gg Dn B0 B0;split
 ·split
  ·rename_i h;rw [h]
  ·rfl
 ·rfl
theorem Mu (m:Int) (gs) (l k:Lev):Gg m gs [l,k]=Fj m gs l k:=by
 unfold Gg Fj Dn B0 B0 B0;by_cases hc:AR m gs=0
 ·simp only [if_pos hc]
  by_cases h1:CN m l=0
  ·simp only [if_pos h1]
   by_cases h2:CN m k=0
   ·simp [h2]
   ·simp [h2]
  ·simp [h1]
 ·simp [hc]
theorem Eh {w:World} {v:Value} {l:Lev} (h:A3 w v l):∃ a1 c1 a2 c2,v=zh #[O a1 l.r.length c1,O a2 l.w.length c2]:=by
 obtain ⟨b,a,rfl,⟨a1,d,rfl,-⟩,⟨a2,c,rfl,-⟩⟩:=h;exact ⟨_,_,_,_,rfl⟩
theorem Tw:QQ:=by
 intro m v q A l w d f;have y:=Aa f;obtain ⟨t,n,s,k,rfl⟩:=Eh f;have x:=Aa d;obtain ⟨j,h,i,rfl⟩:=CK d;have b:Ov w (((w.alloc (ze #[zd U m,O j h i] 24)).alloc (ze #[O t l.r.length n,O s l.w.length k] 50)).alloc (ze #[O t l.r.length n,O s l.w.length k] 50)):=((bA w _).alloc (by simp) _).alloc (by simp;omega) _;have a:=FM m (O j h i) (O (some ⟨w.heap.size+1+1,0,none⟩) 1 1) q [l] _ (Af x.o b) (LW (by simp [go_sem]) (by simp [go_sem]) (AK y.o b)) (by simp);rw [Mv] at a;obtain ⟨r,p⟩:=nm (Dn m q l);rw [<-p] at a ⊢;have u:=Aa a;clear f d a p;go_enter Tryz.func49,Tryz.ntmps49;go_wp2_with fail;refine (u.o).mono ?_;rintro e z ⟨rfl,c⟩;have g:=b.trans (c.mono (by simp;omega));clear u c b;go_wp2_with fail;go_ret;exact ⟨rfl,g⟩
theorem MV {m:Int} {gs:List (Int × Int)} {l k:Lev} (h:Fj m gs l k=0):∃ n:Nat,m=n/\1<=n/\n<=6/\l.len n/\k.len n/\AR m gs=0:=by
 unfold Fj at h;split at h
 ·rename_i a
  have b:AR m gs=0:=by
   unfold Dn at h;split at h
   ·assumption
   ·exact h
  obtain ⟨n,c,e,d,_⟩:=Dr b;unfold Dn at h a;rw [if_pos b] at h a;rcases DT m l with ⟨_,o,j⟩ | ⟨g,_⟩
  ·rcases DT m k with ⟨_,i,f⟩ | ⟨g,_⟩
   ·exact ⟨n,c,e,d,⟨by omega,by omega⟩,⟨by omega,by omega⟩,b⟩
   ·rw [g] at h;cases h
  ·rw [g] at a;cases a
 ·rename_i a
  exact absurd h a
theorem PP (w:World) (m:Int) (gs) (v:Value) (x y z u:Value) (l k) (hv:AA w v gs) (hl:A3 w (zh #[x,y]) l) (hk:A3 w (zh #[z,u]) k) (W:World) (b:Nat) (hb:Ov w W)
  (h0:W.cell? ⟨b,0,none⟩=some x) (h1:W.cell? ⟨b,1,none⟩=some y) (h2:W.cell? ⟨b,2,none⟩=some z) (h3:W.cell? ⟨b,3,none⟩=some u) :
  Calls Tryz.prog 59 #[zh #[zd U m,v],O (some ⟨b,0,none⟩) 2 2] W fun e w'=>e=zj (zd U (Fj m gs l k))/\Ov W w':=by
 have a:=FM m v (O (some ⟨b,0,none⟩) 2 2) gs [l,k] W (Af hv hb) (LU h0 h1 h2 h3 (AK hl hb) (AK hk hb)) (by simp);rw [Mu] at a;exact a
theorem QF:QW:=by
 intro m v gs vl vk l k w R S T;have HL:=Aa S;have HK:=Aa T;have HV:=Aa R;obtain ⟨P,M,H,E,rfl⟩:=Eh S;obtain ⟨N,L,G,D,rfl⟩:=Eh T;obtain ⟨va,vn,vc,rfl⟩:=CK R;have f:Ov w ((((w.alloc (ze #[zd U m,O va vn vc] 24)).alloc (ze #[O P l.r.length M,O H l.w.length E] 50)).alloc (ze #[O N k.r.length L,O G k.w.length D] 50)).alloc (ze #[O P l.r.length M,O H l.w.length E,O N k.r.length L,O G k.w.length D] 50)):=(((bA w _).alloc (by simp) _).alloc (by simp;omega) _).alloc (by simp;omega) _;have b:=PP w m gs (O va vn vc) _ _ _ _ l k HV.o HL.o HK.o _ (w.heap.size+1+1+1) f (by simp [go_sem]) (by simp [go_sem]) (by simp [go_sem]) (by simp [go_sem]);have hW:=fun (n:Nat) (C:1<=n) (B:n<=6) (c:l.len n) (d:k.len n) (W:World) (F:Ov w W)=>GU (O N k.r.length L) (O P l.r.length M) k.r l.r n W C B (by obtain ⟨_,_,e,h,_⟩:=HK.o;obtain ⟨rfl,rfl⟩:=(by simpa using e:_/\_);exact AF h F) (by obtain ⟨_,_,e,h,_⟩:=HL.o;obtain ⟨rfl,rfl⟩:=(by simpa using e:_/\_);exact AF h F) d.1 c.1;have hX:=fun (n:Nat) (C:1<=n) (B:n<=6) (c:l.len n) (d:k.len n) (W:World) (F:Ov w W)=>GU (O H l.w.length E) (O G k.w.length D) l.w k.w n W C B (by obtain ⟨_,_,e,_,h⟩:=HL.o;obtain ⟨rfl,rfl⟩:=(by simpa using e:_/\_);exact AF h F) (by obtain ⟨_,_,e,_,h⟩:=HK.o;obtain ⟨rfl,rfl⟩:=(by simpa using e:_/\_);exact AF h F) c.2 d.2;have z:=fun h=>MV (m:=m) (gs:=gs) (l:=l) (k:=k) h;obtain ⟨r,hr⟩:=nm (Fj m gs l k);rw [<-hr] at b z ⊢;have HC:=Aa b;have KW:=Aa hW;have KX:=Aa hX;have J:=Aa z;clear S T R b hW hX z hr;go_enter Tryz.func16,Tryz.ntmps16;go_wp2_with fail;refine (HC.o).mono ?_;rintro e K ⟨rfl,A⟩;have a:=f.trans (A.mono (by simp;omega));obtain ⟨p,V⟩:=An A;have c0:K.cell? ⟨w.heap.size+1,0,none⟩=some (O P l.r.length M):=by rw [p _ _ (by simp <;> omega)];simp [go_sem]
 have c1:K.cell? ⟨w.heap.size+1,1,none⟩=some (O H l.w.length E):=by rw [p _ _ (by simp <;> omega)];simp [go_sem]
 have c2:K.cell? ⟨w.heap.size+1+1,0,none⟩=some (O N k.r.length L):=by rw [p _ _ (by simp <;> omega)];simp [go_sem]
 have Z:K.cell? ⟨w.heap.size+1+1,1,none⟩=some (O G k.w.length D):=by rw [p _ _ (by simp <;> omega)];simp [go_sem]
 clear p V A f HC;by_cases hr0:r=0
 ·subst hr0
  obtain ⟨n,hm,C,B,c,d,X⟩:=J.o (by first | rfl | trivial);subst hm;have u:=KW.o n C B c d;have t:=KX.o n C B c d;have j:=Jd l k n;obtain ⟨x,hx⟩:=nm (C0 k.r l.r n);obtain ⟨y,hy⟩:=nm (C0 l.w k.w n);rw [<-hx] at u j;rw [<-hy] at t j;have q:Av l k n=(x && y):=j.symm;have s:=Aa q;have I:=Aa u;have ab:=Aa t;clear u t j hx hy q KW KX J X;cases x with
  | false=>
   go_wp2_with fail;refine (I.o _ a).mono ?_;rintro e Q ⟨rfl,g⟩;have i:=a.trans (g.mono a.size);clear g;go_wp2_with fail
   go_ret2
   exact ⟨by rw [s.o];simp,i⟩
  | true=>
   go_wp2_with fail;refine (I.o _ a).mono ?_;rintro e Q ⟨rfl,g⟩;have i:=a.trans (g.mono a.size);obtain ⟨p,V⟩:=An g;have d1:Q.cell? ⟨w.heap.size+1,1,none⟩=some (O H l.w.length E):=by rw [p _ _ (bL c1)];exact c1
   have d3:Q.cell? ⟨w.heap.size+1+1,1,none⟩=some (O G k.w.length D):=by rw [p _ _ (bL Z)];exact Z
   clear g p V c0 c1 c2 Z a;go_wp2_with fail;refine (ab.o _ i).mono ?_;rintro e w3 ⟨rfl,f⟩;have Y:=i.trans (f.mono i.size);clear f d1 d3;go_wp2_with fail
   go_ret2
   exact ⟨by rw [s.o];simp,Y⟩
 ·have ao:(r != 0)=true:=by simpa using hr0
  go_wp2_with fail
  go_ret2
  exact ⟨by simp [hr0],a⟩
theorem SF (args:Array Value) (w:World):(callFunc 105 args).run Tryz.prog w=.ok (.enter 105 args) w:=by simp [go_sem]
theorem NI (bl bm n k b1 o1 c1 b2 o2 c2:Nat) (x y:Bool) (W:World) (hk:k < n) (hn:n<=6) (h1:W.cell? ⟨bl,0,none⟩=some (O (some ⟨b1,o1,none⟩) n c1)) (h2:W.cell? ⟨bm,0,none⟩=some (O (some ⟨b2,o2,none⟩) n c2))
  (q1:W.cell? ⟨b1,o1+k,none⟩=some (zg x)) (q2:W.cell? ⟨b2,o2+k,none⟩=some (zg y)) :
  Calls Tryz.prog 105 #[zd U k,zi (some ⟨bl,0,none⟩),zi (some ⟨bm,0,none⟩)] W fun e w'=>e=zj (zg (x && y))/\Ov W w':=by
 cases x;all_goals
  go_enter Tryz.func105,Tryz.ntmps105;go_wp2_with fail;go_ret;exact ⟨by simp,Below.refl _ W⟩
theorem SE (args:Array Value) (w:World):(callFunc 106 args).run Tryz.prog w=.ok (.enter 106 args) w:=by simp [go_sem]
theorem NH (bl bm n k b1 o1 c1 b2 o2 c2:Nat) (x y:Bool) (W:World) (hk:k < n) (hn:n<=6) (h1:W.cell? ⟨bl,1,none⟩=some (O (some ⟨b1,o1,none⟩) n c1)) (h2:W.cell? ⟨bm,1,none⟩=some (O (some ⟨b2,o2,none⟩) n c2))
  (q1:W.cell? ⟨b1,o1+k,none⟩=some (zg x)) (q2:W.cell? ⟨b2,o2+k,none⟩=some (zg y)) :
  Calls Tryz.prog 106 #[zd U k,zi (some ⟨bl,0,none⟩),zi (some ⟨bm,0,none⟩)] W fun e w'=>e=zj (zg (x || y))/\Ov W w':=by
 cases x;all_goals
  go_enter Tryz.func106,Tryz.ntmps106;go_wp2_with fail;go_ret;exact ⟨by simp,Below.refl _ W⟩
attribute [local go_sem ↓] Go.wp_at_zero Go.wp_at_succ
theorem RB {B:Nat} {wB W W':World} {b o0 o1:Nat} {v0 v1:Value} (h:W.cell? ⟨b,o0,none⟩=some v0/\W.cell? ⟨b,o1,none⟩=some v1/\Below B wB W) (hb:Ov W W') (hB:B<=wB.heap.size):W'.cell? ⟨b,o0,none⟩=some v0/\W'.cell? ⟨b,o1,none⟩=some v1/\Below B wB W':=by
 obtain ⟨e,d,c⟩:=h;obtain ⟨a,f⟩:=An hb;exact ⟨by rw [a _ _ (bL e)];exact e,by rw [a _ _ (bL d)];exact d,c.trans (hb.mono (Nat.le_trans hB c.size))⟩
theorem S5 {B:Nat} {wB W:World} {b o0 o1:Nat} {v0 v1:Value} (h:W.cell? ⟨b,o0,none⟩=some v0/\W.cell? ⟨b,o1,none⟩=some v1/\Below B wB W) (hb:b < B) {p:Addr} (hp:B<=p.block) (u:Value):(W.setCell p u).cell? ⟨b,o0,none⟩=some v0/\(W.setCell p u).cell? ⟨b,o1,none⟩=some v1/\Below B wB (W.setCell p u):=by
 obtain ⟨e,d,c⟩:=h;have a:∀ o,(W.setCell p u).cell? ⟨b,o,none⟩=W.cell? ⟨b,o,none⟩:=fun o=>World.cell?_setCell_other _ _ _ _ (by rintro rfl;simp at hp;omega);exact ⟨by rw [a];exact e,by rw [a];exact d,c.setCell hp u⟩
theorem Hz {w wa wp wq:World} {g1 g2 n q:Nat} {f1 f2:Nat->Bool} (hw:w.heap.size<=wa.heap.size) (hq:q < wa.heap.size)
  (h1:wp.ownsRow wa.heap.size 4 1 (O (some ⟨g1,0,none⟩) n n) n (AB (BI f1 n))) (hl1:g1 < wp.heap.size) (hz:wa.heap.size<=wp.heap.size)
  (h2:wq.ownsRow wp.heap.size 4 1 (O (some ⟨g2,0,none⟩) n n) n (AB (BI f2 n))) (hb:Ov wp wq) (hg2:wp.heap.size<=g2) (u0 u1:Value) :
  A1 w ((wq.setCell ⟨q,0,none⟩ u0).setCell ⟨q,1,none⟩ u1) (zh #[O (some ⟨g1,0,none⟩) n n,O (some ⟨g2,0,none⟩) n n]) ⟨BI f1 n,BI f2 n⟩:=by
 refine ⟨_,_,rfl,?_,?_,Or.inr ?_⟩
 ·rw [AH]
  exact EI (AZ (AZ (Bp h1 hb) (by simpa using hq) _) (by simpa using hq) _) hw
 ·rw [AH]
  exact EI (AZ (AZ h2 (by simp;omega) _) (by simp;omega) _) (Nat.le_trans hw hz)
 ·simp [Value.ownBlock]
  omega
theorem HU (w W:World):A1 w W (zh #[O none 0 0,O none 0 0]) Ah:=
 ⟨_,_,rfl,World.ownsRow_nil _ _ _ _,World.ownsRow_nil _ _ _ _,Or.inl rfl⟩
theorem Ku (w:World) (n:Nat) (h1:1<=n) (hn:n<=6) (x y z u v:Value) (l k) (hl:A3 w (zh #[x,y]) l) (hk:A3 w (zh #[z,u]) k) (hln:l.len n) (hkn:k.len n) (W:World) (hB:Ov w W) (hz:w.heap.size+3<=W.heap.size)
  (c0:W.cell? ⟨w.heap.size+1,0,none⟩=some x) (c1:W.cell? ⟨w.heap.size+1,1,none⟩=some y) (c2:W.cell? ⟨w.heap.size+1+1,0,none⟩=some z) (c3:W.cell? ⟨w.heap.size+1+1,1,none⟩=some u) :
  (Calls Tryz.prog 70 #[zh #[zd U n,v],.func (.func 105) #[] #[zi (some ⟨w.heap.size+1,0,none⟩),zi (some ⟨w.heap.size+1+1,0,none⟩)]] W fun e w'=>∃ g,e=zj (O (some ⟨g,0,none⟩) n n)/\W.heap.size<=g/\g < w'.heap.size/\w'.ownsRow W.heap.size 4 1 (O (some ⟨g,0,none⟩) n n) n (AB (BI (GF l.r k.r) n))/\Ov W w') /\
  (Calls Tryz.prog 70 #[zh #[zd U n,v],.func (.func 106) #[] #[zi (some ⟨w.heap.size+1,0,none⟩),zi (some ⟨w.heap.size+1+1,0,none⟩)]] W fun e w'=>∃ g,e=zj (O (some ⟨g,0,none⟩) n n)/\W.heap.size<=g/\g < w'.heap.size/\w'.ownsRow W.heap.size 4 1 (O (some ⟨g,0,none⟩) n n) n (AB (BI (LH l.w k.w) n))/\Ov W w'):=by
 obtain ⟨t,s,e,p,j⟩:=hl;obtain ⟨rfl,rfl⟩:x=t/\y=s:=by simpa using e
 obtain ⟨q,A,N,m,f⟩:=hk;obtain ⟨rfl,rfl⟩:z=q/\u=A:=by simpa using N
 obtain ⟨S,I,M,rfl,E⟩:=CI (AF p hB) hln.1 h1;obtain ⟨R,H,L,rfl,D⟩:=CI (AF m hB) hkn.1 h1;obtain ⟨Q,G,K,rfl,C⟩:=CI (AF j hB) hln.2 h1;obtain ⟨P,F,J,rfl,B⟩:=CI (AF f hB) hkn.2 h1;have c:∀ (W':World),Ov W W'->∀ b o v,W.cell? ⟨b,o,none⟩=some v->W'.cell? ⟨b,o,none⟩=some v:=fun W' a b o v h=>by rw [(An a).1 _ _ (bL h)];exact h
 refine ⟨EC 105 _ _ (GF l.r k.r) n h1 hn v W (Aa fun i d W' a=>?_) SF,EC 106 _ _ (LH l.w k.w) n h1 hn v W (Aa fun i d W' a=>?_) SE⟩
 ·exact NI _ _ n i S I M R H L _ _ W' d hn (c W' a _ _ _ c0) (c W' a _ _ _ c2) (c W' a _ _ _ (E i d)) (c W' a _ _ _ (D i d))
 ·exact NH _ _ n i Q G K P F J _ _ W' d hn (c W' a _ _ _ c1) (c W' a _ _ _ c3) (c W' a _ _ _ (C i d)) (c W' a _ _ _ (B i d))
theorem Sz:SY:=by
 intro m v gs vl vk l k w R V X;have HL:=Aa V;have HK:=Aa X;have HV:=Aa R;obtain ⟨a1,P,a2,N,rfl⟩:=Eh V;obtain ⟨a3,M,a4,L,rfl⟩:=Eh X;obtain ⟨y,u,x,rfl⟩:=CK R;have s:Ov w (((((w.alloc (ze #[zd U m,O y u x] 24)).alloc (ze #[O a1 l.r.length P,O a2 l.w.length N] 50)).alloc (ze #[O a3 k.r.length M,O a4 k.w.length L] 50)).alloc (ze #[O none 0 0,O none 0 0] 50)).alloc (ze #[O a1 l.r.length P,O a2 l.w.length N,O a3 k.r.length M,O a4 k.w.length L] 50)):=((((bA w _).alloc (by simp) _).alloc (by simp;omega) _).alloc (by simp;omega) _).alloc (by simp;omega) _;have b:=PP w m gs (O y u x) _ _ _ _ l k HV.o HL.o HK.o _ (w.heap.size+1+1+1+1) s (by simp [go_sem]) (by simp [go_sem]) (by simp [go_sem]) (by simp [go_sem]);have j:=fun h=>MV (m:=m) (gs:=gs) (l:=l) (k:=k) h;obtain ⟨r,hr⟩:=nm (Fj m gs l k);rw [<-hr] at b j ⊢;have HC:=Aa b;have H:=Aa j;clear V X R b j hr;go_enter Tryz.func46,Tryz.ntmps46;go_wp2_with fail;refine (HC.o).mono ?_;rintro e a ⟨rfl,f⟩;have g:=s.trans (f.mono (by simp <;> omega))
 have Q:=f.size;simp at Q;obtain ⟨d,Z⟩:=An f;have a0:a.cell? ⟨w.heap.size,0,none⟩=some (zd U m):=by rw [d _ _ (by simp <;> omega)];simp [go_sem]
 have aj:a.cell? ⟨w.heap.size,1,none⟩=some (O y u x):=by rw [d _ _ (by simp <;> omega)];simp [go_sem]
 have c0:a.cell? ⟨w.heap.size+1,0,none⟩=some (O a1 l.r.length P):=by rw [d _ _ (by simp <;> omega)];simp [go_sem]
 have c1:a.cell? ⟨w.heap.size+1,1,none⟩=some (O a2 l.w.length N):=by rw [d _ _ (by simp <;> omega)];simp [go_sem]
 have c2:a.cell? ⟨w.heap.size+1+1,0,none⟩=some (O a3 k.r.length M):=by rw [d _ _ (by simp <;> omega)];simp [go_sem]
 have c3:a.cell? ⟨w.heap.size+1+1,1,none⟩=some (O a4 k.w.length L):=by rw [d _ _ (by simp <;> omega)];simp [go_sem]
 have e0:a.cell? ⟨w.heap.size+1+1+1,0,none⟩=some (O none 0 0):=by rw [d _ _ (by simp <;> omega)];simp [go_sem]
 have e1:a.cell? ⟨w.heap.size+1+1+1,1,none⟩=some (O none 0 0):=by rw [d _ _ (by simp <;> omega)];simp [go_sem]
 have f0:a.frozen? ⟨w.heap.size+1+1+1,0,none⟩=false:=by rw [Z _ _ (by simp <;> omega)];simp [go_sem]
 have f1:a.frozen? ⟨w.heap.size+1+1+1,1,none⟩=false:=by rw [Z _ _ (by simp <;> omega)];simp [go_sem]
 clear d Z f s HC;by_cases hr0:r=0
 ·subst hr0
  obtain ⟨n,hm,h1,h6,B,C,ab⟩:=H.o (by first | rfl | trivial);subst hm;have KT:=Aa fun (W:World) (t:Below (w.heap.size+1+1+1) a W)=>Ku w n h1 h6 _ _ _ _ (O y u x) l k HL.o HK.o B C W (g.trans (t.mono (by omega))) (Nat.le_trans (by omega) t.size) (by rw [t.cell (p:=⟨w.heap.size+1,0,none⟩) (by simp <;> omega)];exact c0) (by rw [t.cell (p:=⟨w.heap.size+1,1,none⟩) (by simp <;> omega)];exact c1) (by rw [t.cell (p:=⟨w.heap.size+1+1,0,none⟩) (by simp <;> omega)];exact c2) (by rw [t.cell (p:=⟨w.heap.size+1+1,1,none⟩) (by simp <;> omega)];exact c3)
  have E0:=Aa e0;have E1:=Aa e1;have F0:=Aa f0;have F1:=Aa f1;clear c0 c1 c2 c3 e0 e1 f0 f1 B C ab H HL HK HV;have A:w.heap.size+1+1+1<=a.heap.size:=by omega
  have z:w.heap.size+1+1+1 < a.heap.size:=by omega
  have i:w.heap.size < w.heap.size+1+1+1:=by omega
  have c:=Aa z;have I:=Aa i;have G:=Aa A;clear A z i;go_wp2_with fail;first | go_region_held3 (fun W=>W.cell? ⟨w.heap.size,0,none⟩=some (zd U n)/\W.cell? ⟨w.heap.size,1,none⟩=some (O y u x)/\Below (w.heap.size+1+1+1) a W) (first | assumption | exact ⟨a0,aj,below_drewN (Below.refl _ _) 1⟩ | exact RB (by assumption) hbq G.o | exact RB (by assumption) hbp G.o | exact S5 (S5 (by assumption) I.o (Nat.le_refl _) _) I.o (Nat.le_refl _) _ | fail) (first | (go_at_call 70;have an:=ep0;refine (KT.o _ (by assumption:_/\_/\_).2.2).2.mono ?_;rintro e J ⟨g2,rfl,Y,ap,S,hbq⟩;have ad:J.cell? ⟨w.heap.size+1+1+1,0,none⟩=some (O none 0 0):=(by rw [(An hbq).1 _ _ (bL ep0)];exact ep0);have ac:J.cell? ⟨w.heap.size+1+1+1,1,none⟩=some (O none 0 0):=(by rw [(An hbq).1 _ _ (bL ep0)];exact ep1);have bc:J.frozen? ⟨w.heap.size+1+1+1,0,none⟩=false:=(by rw [(An hbq).2 _ _ (bL ep0)];exact fp0);have bb:J.frozen? ⟨w.heap.size+1+1+1,1,none⟩=false:=(by rw [(An hbq).2 _ _ (bL ep0)];exact fp1)) | (go_at_call 70;refine (KT.o _ (by assumption:_/\_/\_).2.2).1.mono ?_;rintro e K ⟨g1,rfl,a6,D,T,hbp⟩;have ep0:K.cell? ⟨w.heap.size+1+1+1,0,none⟩=some (O none 0 0):=(by rw [(An hbp).1 _ _ c.o];exact E0.o);have ep1:K.cell? ⟨w.heap.size+1+1+1,1,none⟩=some (O none 0 0):=(by rw [(An hbp).1 _ _ c.o];exact E1.o);have fp0:K.frozen? ⟨w.heap.size+1+1+1,0,none⟩=false:=(by rw [(An hbp).2 _ _ c.o];exact F0.o);have fp1:K.frozen? ⟨w.heap.size+1+1+1,1,none⟩=false:=(by rw [(An hbp).2 _ _ c.o];exact F1.o))) | fail
  all_goals go_wp2_with fail
  all_goals
   refine bodyPost_ret (v:=zk #[zh #[O (some ⟨g1,0,none⟩) n n,O (some ⟨g2,0,none⟩) n n],zd U 0]) (by simp [results,Tryz.results46,go_sem,ad,ac]) rfl ⟨_,rfl,Hz (w:=w) (wa:=a.drew) (q:=w.heap.size+1+1+1) (f1:=GF l.r k.r) (f2:=LH l.w k.w) g.size c.o T D hbp.size S hbq Y _ _,?_⟩;have F:Ov w a.drew:=below_drewN g 1;have E:=F.trans (hbp.mono F.size);have aa:=E.trans (hbq.mono E.size);exact (aa.setCell (by simp;omega) _).setCell (by simp;omega) _
 ·have az:(r != 0)=true:=by simpa using hr0
  go_wp2_with fail;refine bodyPost_ret (v:=zk #[zh #[O none 0 0,O none 0 0],zd U r]) (by simp [results,Tryz.results46,go_sem,e0,e1]) rfl ⟨_,rfl,HU _ _,(g.setCell (by simp;omega) _).setCell (by simp;omega) _⟩
end Go.Proofs.YtfffpjkcfnekaaaGreat
