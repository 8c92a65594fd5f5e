/- The document's own answer who may, by policies. -/
import Derived.Test.YtfffpjkcfnekaaaGreatE01
import Derived.Deep.CutRange
import Derived.Maps.AppendAt
import Derived.Deep.QuietTactic
import Derived.BigQuiet
import Derived.Deep.RegionHeld2
import Derived.Deep.RegionHeld3
import Derived.Deep.DrawnRows
set_option linter.unusedVariables false
set_option maxHeartbeats 8000000
set_option maxRecDepth 100000
namespace Go.Proofs.YtfffpjkcfnekaaaGreat
open Go.RowKit
open Go.Value renaming slice -> O, int -> zd, bool -> zg, agg -> zh, pointer -> zi, tuple -> zk
open Go.IntKind renaming i64 -> U
open Go.Obj renaming cells -> ze
open Go.Ending renaming returned -> zj
def AN (w:World) (v:Value) (l:List Int):Prop:=
 ∃ ao cap,v=O ao l.length cap/\(l≠[]->∃ b off,ao=some ⟨b,off,none⟩/\∀ i (h:i < l.length),w.cell? ⟨b,off+i,none⟩=some (zd U l[i]))
theorem BT {w w':World} {v:Value} {l:List Int} (h:AN w v l) (hb:Ov w w'):AN w' v l:=by
 obtain ⟨p,cap,rfl,k⟩:=h;refine ⟨p,cap,rfl,fun e=>?_⟩;obtain ⟨b,off,rfl,f⟩:=k e;refine ⟨b,off,rfl,fun i hi=>?_⟩;have g:=f i hi;rw [(An hb).1 _ _ (bL g)];exact g
structure Pol where
 owner:Int
 names:List Int
def AL (w:World) (v:Value) (ps:List Pol):Prop:=
 ∃ ao cap,v=O ao ps.length cap/\(ps≠[]->∃ b off,ao=some ⟨b,off,none⟩/\∀ i (h:i < ps.length),w.cell? ⟨b,off+i*2,none⟩=some (zd U ps[i].owner)/\∃ nv,w.cell? ⟨b,off+i*2+1,none⟩=some nv/\AN w nv ps[i].names)
theorem Ak {w w':World} {v:Value} {ps:List Pol} (h:AL w v ps) (hb:Ov w w'):AL w' v ps:=by
 obtain ⟨s,cap,rfl,p⟩:=h;refine ⟨s,cap,rfl,fun e=>?_⟩;obtain ⟨b,off,rfl,f⟩:=p e;refine ⟨b,off,rfl,fun i hi=>?_⟩;obtain ⟨k,l,g,q⟩:=f i hi;exact ⟨by rw [(An hb).1 _ _ (bL k)];exact k,l,by rw [(An hb).1 _ _ (bL g)];exact g,BT q hb⟩
def CT (gn:List (Nat × Nat)) (n who:Nat) (x:Int):Bool:=(acts gn n who)[x.toNat]?.getD false
def Qa (gn:List (Nat × Nat)) (n who:Nat) (p:Pol):Bool:=CT gn n who p.owner || p.names.any (CT gn n who)
def Cy (gn:List (Nat × Nat)) (n who:Nat) (ps:List Pol):Bool:=ps.all (Qa gn n who)
def E5 (n:Nat) (p:Pol):Prop:=(0<=p.owner/\p.owner < n)/\p.names.length<=6/\∀ x∈p.names,0<=x/\x < (n:Int)
theorem J6 (n who:Nat) (x:Int) (hn:n<=6) (hw:who < n) (hx:0<=x/\x < n) (v:Value) (gn:List (Nat × Nat)) (w:World) (hv:AA w v (gn.map toI)) (hlen:gn.length<=20) (hb:∀ g∈gn,g.1 < n/\g.2 < n) :
  Calls Tryz.prog 231 #[zh #[zd U n,v],zd U who,zd U x] w fun e w'=>e=zj (zg (CT gn n who x))/\Ov w w':=by
 have h:=J7 n who x.toNat hn hw (by omega) v gn w hv hlen hb;have e:((x.toNat:Nat):Int)=x:=by omega
 rw [e] at h;exact h
theorem Px {w w0 w1:World} {b0 o0 b1 o1 b2 o2:Nat} {v0 v1 v2:Value} (h:w0.cell? ⟨b0,o0,none⟩=some v0/\w0.cell? ⟨b1,o1,none⟩=some v1/\w0.cell? ⟨b2,o2,none⟩=some v2/\Ov w w0)
  (hb:Ov w0 w1):w1.cell? ⟨b0,o0,none⟩=some v0/\w1.cell? ⟨b1,o1,none⟩=some v1/\w1.cell? ⟨b2,o2,none⟩=some v2/\Ov w w1:=by
 obtain ⟨i,g,f,e⟩:=h;obtain ⟨b,k⟩:=An hb;refine ⟨?_,?_,?_,e.trans (hb.mono e.size)⟩
 ·rw [b _ _ (bL i)];exact i
 ·rw [b _ _ (bL g)];exact g
 ·rw [b _ _ (bL f)];exact f
theorem MQ (n who:Nat) (hn:n<=6) (hw:who < n) (v vp:Value) (gn:List (Nat × Nat)) (ps:List Pol) (w:World) (hv:AA w v (gn.map toI)) (hlen:gn.length<=20) (hb:∀ g∈gn,g.1 < n/\g.2 < n)
  (hp:AL w vp ps) (hps:ps.length<=4) (hin:∀ p∈ps,E5 n p) :
  Calls Tryz.prog 194 #[zh #[zd U n,v],zd U who,vp] w fun e w'=>e=zj (zg (Cy gn n who ps))/\Ov w w':=by
 have KX:=Aa fun (x:Int) (R:0<=x/\x < n) (W:World) (hW:Ov w W)=>J6 n who x hn hw R v gn W (Af hv hW) hlen hb;have a0:=Aa hin;obtain ⟨ao,cap,rfl,af⟩:=hp;have a2:=Aa af;clear hv hb hin af;go_enter Tryz.func194,Tryz.ntmps194;go_wp2_with fail;go_loopw [7] (fun i wr=>∃ k:Nat,k<=ps.length/\i=zd U k/\Cy gn n who (ps.take k)=true/\wr.cell? ⟨w.heap.size,0,none⟩=some (zd U n)/\wr.cell? ⟨w.heap.size,1,none⟩=some v/\Ov w wr) (fun i _=>ps.length - (intOf i).toNat)
 case atStart=>exact ⟨0,Nat.zero_le _,rfl,rfl,by simp [go_sem],by simp [go_sem],bA w _⟩
 case round=>
  obtain ⟨k,hk,rfl,s,c0,c1,C⟩:=hrel;by_cases hkl:k < ps.length
  ·obtain ⟨b,off,rfl,ae⟩:=a2.o (by rintro rfl;simp at hkl)
   obtain ⟨J,nv,q1,q2⟩:=ae k hkl;have P:=bL J;obtain ⟨⟨Z,V⟩,aq,H⟩:=a0.o ps[k] (List.getElem_mem hkl);have A:Qa gn n who ps[k]=true->Cy gn n who (ps.take (k+1))=true:=fun h=>by
    unfold Cy at s ⊢;rw [List.take_succ_eq_append_getElem hkl,List.all_append,s];simp [h]
   have u:Qa gn n who ps[k]=false->Cy gn n who ps=false:=fun h=>by
    unfold Cy;rw [List.all_eq_false];exact ⟨ps[k],List.getElem_mem hkl,by simp [h]⟩
   have l:Qa gn n who ps[k]=(CT gn n who ps[k].owner || ps[k].names.any (CT gn n who)):=rfl;obtain ⟨ow,T⟩:=nm (ps[k].owner);obtain ⟨ns,aa⟩:=nm (ps[k].names);rw [<-T] at J Z V l;rw [<-aa] at q2 aq H l;obtain ⟨a8,F,rfl,ab⟩:=q2;have am:=J;have N:=q1;rw [<-(An C).1 _ _ P] at J q1;have av:=Aa A;have aw:=Aa u;have HP:=Aa l;have ay:=Aa ab;have az:=Aa H;have ax:=Aa N;have f:=KX.o ow ⟨Z,V⟩;obtain ⟨x,R⟩:=nm (CT gn n who ow);rw [<-R] at f;have B:=Aa f;have HX:=Aa R;clear A u l ab H f R T aa ae s am N;go_wp2_with fail;first | go_region_held3 (fun w'=>w'.cell? ⟨w.heap.size,0,none⟩=some (zd U n)/\w'.cell? ⟨w.heap.size,1,none⟩=some v/\w'.cell? ⟨b,off+k*2,none⟩=some (zd U ow)/\Ov w w') (first | assumption | exact ⟨c0,c1,J,below_drewN C 1⟩ | exact Px (by assumption) hb1) (first | (go_at_call 231;refine (B.o _ (by assumption:_/\_/\_/\_).2.2.2).mono ?_;rintro e w1 ⟨rfl,hb1⟩)) | fail
   all_goals go_wp2_with fail
   all_goals obtain ⟨M,L,d2,E⟩:=(by assumption:_/\_/\_/\Below _ _ _)
   clear c0 c1 C J q1 d2;go_loopw [8,9] (fun ok i G=>∃ j:Nat,j<=ns.length/\i=zd U j/\ok=zg (x || (ns.take j).any (CT gn n who))/\G.cell? ⟨w.heap.size,0,none⟩=some (zd U n)/\G.cell? ⟨w.heap.size,1,none⟩=some v/\Ov w G) (fun _ i _=>ns.length - (intOf i).toNat)
   case atStart=>exact ⟨0,Nat.zero_le _,rfl,by simp,M,L,E⟩
   case round=>
    clear M L E;obtain ⟨j,hj,rfl,rfl,M,L,E⟩:=hrel;have r1:=ax.o;rw [<-(An E).1 _ _ P] at r1;by_cases hjl:j < ns.length
    ·obtain ⟨nb,no,rfl,ac⟩:=ay.o (by rintro rfl;simp at hjl)
     have e1:=ac j hjl;rw [<-(An E).1 _ _ (bL e1)] at e1;have hy:=az.o ns[j] (List.getElem_mem hjl);have q:(x || (ns.take (j+1)).any (CT gn n who))=((x || (ns.take j).any (CT gn n who)) || CT gn n who ns[j]):=by
      rw [List.take_succ_eq_append_getElem hjl,List.any_append];simp [Bool.or_assoc]
     obtain ⟨ok,t⟩:=nm ((x || (ns.take j).any (CT gn n who)));obtain ⟨y,Q⟩:=nm (ns[j]);rw [<-Q] at e1 hy q;rw [<-t] at q;have f:=KX.o y hy;obtain ⟨z,hz⟩:=nm (CT gn n who y);rw [<-hz] at f q;have a1:=Aa f;have ai:=Aa q;rw [<-t];clear f q hz Q ac t B
     cases ok with
     | true=>
      go_wp2_with fail;refine wp_region_held_drew (S:=(fun w'=>w'.cell? ⟨w.heap.size,0,none⟩=some (zd U n)/\w'.cell? ⟨w.heap.size,1,none⟩=some v/\w'.cell? ⟨b,off+k*2+1,none⟩=some (O (some ⟨nb,no,none⟩) ns.length F)/\w'.cell? ⟨nb,no+j,none⟩=some (zd U y)/\Ov w w')) (by kernel_rfl) ⟨M,L,r1,e1,below_drewN E 1⟩ (fun I=>?_);refine kL 0 ?_;refine kL 1 ?_;refine kU 2 ?_;refine kU 3 ?_;refine kU 4 ?_;refine kU 5 ?_;refine kU 6 ?_;refine kU 7 ?_;refine kU 8 ?_;refine kU 9 ?_;refine kU 10 ?_;refine kU 11 ?_;refine kU 12 ?_;refine kL 13 ?_;refine kL 14 ?_;refine gE ?_;obtain ⟨f0,f1,-,-,fB⟩:=I;go_wp2_with fail;exact ⟨⟨j+1,by omega,by go_num,by rw [ai.o];simp,f0,f1,fB⟩,by simp [intOf];omega⟩
     | false=>
      go_wp2_with fail;first | go_region_held3 (fun w'=>w'.cell? ⟨w.heap.size,0,none⟩=some (zd U n)/\w'.cell? ⟨w.heap.size,1,none⟩=some v/\w'.cell? ⟨b,off+k*2+1,none⟩=some (O (some ⟨nb,no,none⟩) ns.length F)/\w'.cell? ⟨nb,no+j,none⟩=some (zd U y)/\Ov w w') (first | assumption | exact ⟨M,L,r1,e1,below_drewN E 1⟩ | exact Pw (by assumption) hb1) (first | (go_at_call 231;refine (a1.o _ (by assumption:_/\_/\_/\_/\_).2.2.2.2).mono ?_;rintro e w1 ⟨rfl,hb1⟩)) | fail
      all_goals go_wp2_with fail
      all_goals obtain ⟨f0,f1,-,-,fB⟩:=(by assumption:_/\_/\_/\_/\Below _ _ _)
      all_goals exact ⟨⟨j+1,by omega,by go_num,by rw [ai.o];simp,f0,f1,fB⟩,by simp [intOf];omega⟩
    ·have ad:j=ns.length:=by omega
     rw [ad,List.take_length];have l:=HP.o;rw [<-HX.o] at l;obtain ⟨ok,t⟩:=nm ((x || ns.any (CT gn n who)));rw [<-t] at l ⊢;have ah:=Aa l;clear t l;subst ad
     cases ok with
     | true=>
      go_wp2_with fail;exact ⟨⟨k+1,by omega,by go_num,av.o ah.o,M,L,E⟩,by simp [intOf];omega⟩
     | false=>
      go_wp2_with fail;go_ret;exact ⟨by rw [aw.o ah.o];rfl,E⟩
  ·have ar:k=ps.length:=by omega
   rw [ar,List.take_length] at s;have HA:=Aa s;clear s;go_wp2_with fail;go_ret;exact ⟨by rw [HA.o];rfl,C⟩
def Ed:List Int->Bool
 | x::y::l=>decide (x < y) && Ed (y::l)
 | _=>true
def Di (m:Int) (p:Pol):Int:=
 if BB m p.owner=true then (if p.names.length<=6 then (if p.names.all (BB m)=true then (if Ed p.names=true then 0 else 4) else 5) else 2) else 5
def Ct (m:Int):List Pol->Int
 | []=>0
 | p::ps=>if Di m p=0 then Ct m ps else Di m p
def Cv (m:Int) (ps:List Pol):Int:=if ps.length<=4 then Ct m ps else 2
theorem Ix {m:Int} {ps:List Pol} {k:Nat} (hk:k < ps.length):Ct m (ps.drop k)=if Di m ps[k]=0 then Ct m (ps.drop (k+1)) else Di m ps[k]:=by
 rw [List.drop_eq_getElem_cons hk];rfl
theorem IM (l:List Int):Ed l=true ↔ ∀ i (h:i+1 < l.length),l[i] < l[i+1]:=by
 induction l with
 | nil=>simp [Ed]
 | cons x l ih=>
  cases l with
  | nil=>simp [Ed]
  | cons y l=>
   simp only [Ed,Bool.and_eq_true,decide_eq_true_eq,ih];constructor
   ·rintro ⟨e,b⟩ i hi
    cases i with
    | zero=>exact e
    | succ i=>exact b i (by simpa using hi)
   ·intro h
    exact ⟨h 0 (by simp),fun i hi=>h (i+1) (by simpa using hi)⟩
def Kx (p:Int->Bool) (l:List Int):Int:=match l.findIdx? p with | some i=>i | none=>-1
theorem Qr {p:Int->Bool} {l:List Int} {k:Nat} (hk:k < l.length) (h:(l.take k).all (fun g=>!p g)=true) (hp:p l[k]=true):Kx p l=k:=by
 have:l.findIdx? p=some k:=by
  rw [List.findIdx?_eq_some_iff_getElem];refine ⟨hk,hp,fun j b=>?_⟩;have:=List.all_eq_true.1 h l[j] (by rw [List.mem_take_iff_getElem];exact ⟨j,by omega,rfl⟩);simpa using this
 simp [Kx,this]
theorem NP {p:Int->Bool} {l:List Int} (h:l.all (fun g=>!p g)=true):Kx p l=-1:=by
 have:l.findIdx? p=none:=by
  rw [List.findIdx?_eq_none_iff];intro x b;have:=List.all_eq_true.1 h x b;simpa using this
 simp [Kx,this]
theorem Pu (p:Int->Bool) (l):decide (0<=Kx p l)=l.any p:=by
 unfold Kx
 cases h:l.findIdx? p with
 | none=>
  have:l.any p=false:=by rw [List.any_eq_false];intro x b;have:=(List.findIdx?_eq_none_iff.1 h) x b;simpa using this
  rw [this];rfl
 | some i=>
  obtain ⟨hi,e,_⟩:=List.findIdx?_eq_some_iff_getElem.1 h;have:l.any p=true:=List.any_eq_true.2 ⟨_,List.getElem_mem hi,e⟩;rw [this];simp
theorem JA (F:FuncId) (cv:Value) (p:Int->Bool) (v:Value) (l) (w:World) (hv:AN w v l) (hn:l.length<=6)
  (hF:Hx (∀ (i:Nat) (h:i < l.length) (w1:World),Ov w w1->Calls Tryz.prog F #[zd U l[i],cv] w1 fun e w2=>e=zj (zg (p l[i]))/\Ov w1 w2))
  (hC:∀ (args:Array Value) (w:World),(callFunc F args).run Tryz.prog w=.ok (.enter F args) w) :
  Calls Tryz.prog 190 #[v,.func (.func F) #[] #[cv]] w fun e w'=>e=zj (zd U (Kx p l))/\Ov w w':=by
 obtain ⟨R,cap,rfl,y⟩:=hv;go_enter Tryz.func190,Tryz.ntmps190;go_wp2_with fail;go_loopw [8] (fun i wr=>∃ k:Nat,k<=l.length/\i=zd U k/\(l.take k).all (fun g=>!p g)=true/\Ov w wr) (fun i _=>l.length - (intOf i).toNat)
 case atStart=>exact ⟨0,Nat.zero_le _,rfl,rfl,Below.refl _ w⟩
 case round=>
  obtain ⟨k,hk,rfl,s,f⟩:=hrel;by_cases hkl:k < l.length
  ·obtain ⟨b,off,rfl,E⟩:=y (by rintro rfl;simp at hkl)
   have G:=E k hkl;have I:=bL G;rw [<-(An f).1 _ _ I] at G;have q:=hF.o k hkl;have B:=fun (H:p l[k]=true)=>Qr hkl s H;have u:p l[k]=false->(l.take (k+1)).all (fun g=>!p g)=true:=fun H=>by
    rw [List.take_succ_eq_append_getElem hkl,List.all_append,s];simp [H]
   obtain ⟨r,L⟩:=nm (p l[k]);obtain ⟨Q,C⟩:=nm (l[k]);rw [<-L] at q B u;rw [<-C] at G q;have M:=Aa q;have P:=Aa B;have O:=Aa u;clear L C q B u E y hF
   cases r with
   | true=>
    go_wp2_with fail;refine (M.o _ f).mono ?_;rintro e w2 ⟨rfl,A⟩;have t:Ov w w2:=f.trans (A.mono f.size);go_wp2_with fail;go_ret;exact ⟨by rw [P.o (by first | rfl | trivial)];rfl,t⟩
   | false=>
    go_wp2_with fail;refine (M.o _ f).mono ?_;rintro e w2 ⟨rfl,A⟩;have t:Ov w w2:=f.trans (A.mono f.size);go_wp2_with fail;exact ⟨⟨k+1,by omega,by go_num,O.o (by first | rfl | trivial),t⟩,by simp [intOf];omega⟩
  ·have J:k=l.length:=by omega
   rw [J,List.take_length] at s;have N:=NP s;clear s y hF;go_wp2_with fail;go_ret;exact ⟨by rw [N];rfl,f⟩
theorem D7 (F:FuncId) (cv:Value) (p:Int->Bool) (v:Value) (l) (w:World) (hv:AN w v l) (hn:l.length<=6)
  (hF:Hx (∀ (i:Nat) (h:i < l.length) (w1:World),Ov w w1->Calls Tryz.prog F #[zd U l[i],cv] w1 fun e w2=>e=zj (zg (p l[i]))/\Ov w1 w2))
  (hC:∀ (args:Array Value) (w:World),(callFunc F args).run Tryz.prog w=.ok (.enter F args) w) :
  Calls Tryz.prog 124 #[v,.func (.func F) #[] #[cv]] w fun e w'=>e=zj (zg (l.any p))/\Ov w w':=by
 have g:=JA F cv p v l w hv hn hF hC;have b:=Pu p l;obtain ⟨r,k⟩:=nm (Kx p l);rw [<-k] at g b;rw [<-b];have q:=Aa g;clear g b k hv hC hF;obtain ⟨u,s⟩:=nm v;go_enter Tryz.func124,Tryz.ntmps124;go_wp2_with fail;refine (q.o).mono ?_;rintro e w1 ⟨rfl,f⟩;go_wp2_with fail;go_ret;exact ⟨by simp,f⟩
theorem SC (args:Array Value) (w:World):(callFunc 213 args).run Tryz.prog w=.ok (.enter 213 args) w:=by simp [go_sem]
theorem SD (args:Array Value) (w:World):(callFunc 128 args).run Tryz.prog w=.ok (.enter 128 args) w:=by simp [go_sem]
theorem Hp (m x:Int) (b:Nat) (w:World) (h0:w.cell? ⟨b,0,none⟩=some (zd U m)) :
  Calls Tryz.prog 213 #[zd U x,zi (some ⟨b,0,none⟩)] w fun e w'=>e=zj (zg (!BB m x))/\Ov w w':=by
 by_cases h1:x < 0
 ·have f:BB m x=false:=by simp [BB];omega
  rw [f];clear f;go_enter Tryz.func213,Tryz.ntmps213;go_wp2_with fail;go_ret;exact ⟨by simp,Below.refl _ w⟩
 ·by_cases h2:m<=x
  ·have f:BB m x=false:=by simp [BB];omega
   rw [f];clear f;go_enter Tryz.func213,Tryz.ntmps213;go_wp2_with fail;go_ret;exact ⟨by simp,Below.refl _ w⟩
  ·have f:BB m x=true:=by simp [BB];omega
   rw [f];clear f;go_enter Tryz.func213,Tryz.ntmps213;go_wp2_with fail;go_ret;exact ⟨by simp,Below.refl _ w⟩
theorem O5 (v:Value) (l) (w:World) (hv:AN w v l) (hn:l.length<=6) :
  Calls Tryz.prog 214 #[v] w fun e w'=>e=zj (zg (Ed l))/\Ov w w':=by
 obtain ⟨O,cap,rfl,t⟩:=hv;have s:=Aa t;clear t;go_enter Tryz.func214,Tryz.ntmps214;go_wp2_with fail;go_loopw [3] (fun i wr=>∃ k n:Nat,k<=6/\i=zd U ((k:Int)+1)/\(∀ j (h:j+1 < l.length),j < k->l[j] < l[j+1])/\wr=w.drewN n) (fun i _=>10 - (intOf i).toNat)
 case atStart=>exact ⟨0,0,Nat.zero_le _,rfl,fun j _ h=>absurd h (Nat.not_lt_zero _),rfl⟩
 case round=>
  obtain ⟨k,n,hk,rfl,p,rfl⟩:=hrel;by_cases hkl:k+1 < l.length
  ·obtain ⟨b,off,rfl,q⟩:=s.o (by rintro rfl;simp at hkl)
   have G:=q k (by omega);have u:=q (k+1) hkl;have g:l[k] < l[k+1]->∀ j (h:j+1 < l.length),j < k+1->l[j] < l[j+1]:=fun h j C I=>by
    by_cases e:j=k
    ·subst e;exact h
    ·exact p j C (by omega)
   have f:¬ l[k] < l[k+1]->Ed l=false:=fun h=>by
    rw [Bool.eq_false_iff];intro J;exact h ((IM l).1 J k hkl)
   obtain ⟨x,B⟩:=nm (l[k]);obtain ⟨y,A⟩:=nm (l[k+1]);rw [<-B] at G;rw [<-A] at u;rw [<-B,<-A] at g f;have N:=Aa g;have L:=Aa f;have H:((k:Int)+1) < (l.length:Int):=by omega
   have R:(0:Int)<=(k:Int)+1:=by omega
   have Q:(0:Int)<=(k:Int):=by omega
   have P:(k:Int) < (l.length:Int):=by omega
   have F:w.cell? ⟨b,off+(k+1),none⟩=some (zd U y):=u;clear g f B A q p s u;by_cases hxy:y<=x
   ·go_wp2_with fail
    go_region;go_wp2_with fail;go_ret;exact ⟨by rw [L.o (by omega)];rfl,below_drewN (Below.refl _ w) (n+1)⟩
   ·go_wp2_with fail
    go_region;go_wp2_with fail;exact ⟨⟨k+1,n+1,by omega,by go_num,N.o (by omega),by first | rfl | trivial⟩,by simp [intOf];omega⟩
  ·have E:Ed l=true:=(IM l).2 fun j C=>p j C (by omega)
   have M:=Aa E;have H:¬ ((k:Int)+1) < (l.length:Int):=by omega
   clear E p s;go_wp2_with fail;go_ret;exact ⟨by rw [M.o];rfl,below_drewN (Below.refl _ w) n⟩
theorem GK (m:Int) (s:Value) (p:Pol) (nv:Value) (w:World) (hp:AN w nv p.names) :
  Calls Tryz.prog 169 #[zh #[zd U m,s],zh #[zd U p.owner,nv]] w fun e w'=>e=zj (zd U (Di m p))/\Ov w w':=by
 obtain ⟨B,names⟩:=p;have M:Di m ⟨B,names⟩=if BB m B=true then (if names.length<=6 then (if (names.any fun x=>!BB m x)=true then 5 else (if Ed names=true then 0 else 4)) else 2) else 5:=by
  unfold Di;have:names.all (BB m)=!(names.any fun x=>!BB m x):=by rw [List.any_eq_not_all_not];simp
  simp only [this];cases (names.any fun x=>!BB m x) <;> simp
 simp only at hp ⊢;have g:Ov w ((w.alloc (ze #[zd U m,s] 24)).alloc (ze #[zd U B,nv] 87)):=(bA w _).alloc (by simp) _;have HP:=Aa fun (W:World) (H:Ov w W)=>BT hp H;have J:=fun (W:World) (h:W.cell? ⟨w.heap.size,0,none⟩=some (zd U m))=>Hp m B w.heap.size W h;have L:=fun (W:World) (l:names.length<=6) (N:Ov w W) (h:W.cell? ⟨w.heap.size,0,none⟩=some (zd U m))=>D7 213 (zi (some ⟨w.heap.size,0,none⟩)) (fun x=>!BB m x) nv names W (BT hp N) l (Aa fun i hi q H=>Hp m names[i] w.heap.size q (by rw [(An H).1 _ _ (bL h)];exact h)) SC;have I:=fun (W:World) (l:names.length<=6) (N:Ov w W)=>O5 nv names W (BT hp N) l;obtain ⟨r1,y⟩:=nm (BB m B);obtain ⟨r2,u⟩:=nm (names.any fun x=>!BB m x);obtain ⟨Z,t⟩:=nm (Ed names);rw [<-y,<-u,<-t] at M;rw [<-y] at J;rw [<-u] at L;rw [<-t] at I;have P:=Aa J;have T:=Aa L;have S:=Aa I;have E:=Aa M;obtain ⟨R,cap,rfl,-⟩:=hp;clear J L I M y u t
 cases r1 with
 | false=>
  go_enter Tryz.func169,Tryz.ntmps169;go_wp2_with fail;refine (P.o _ (by simp [go_sem])).mono ?_;rintro e q ⟨rfl,k⟩;have b:Ov w q:=g.trans (k.mono (by simp;omega));go_wp2_with fail;go_ret;exact ⟨by rw [E.o];rfl,b⟩
 | true=>
  go_enter Tryz.func169,Tryz.ntmps169;go_wp2_with fail;refine (P.o _ (by simp [go_sem])).mono ?_;rintro e q ⟨rfl,k⟩;obtain ⟨F,hf⟩:=An k;have c0:q.cell? ⟨w.heap.size,0,none⟩=some (zd U m):=by rw [F _ _ (by simp;omega)];simp [go_sem]
  have c1:q.cell? ⟨w.heap.size+1,1,none⟩=some (O R names.length cap):=by rw [F _ _ (by simp)];simp [go_sem]
  have b:Ov w q:=g.trans (k.mono (by simp;omega));clear F hf k g P;by_cases l:names.length<=6
  ·go_wp2_with fail
   refine (T.o _ l b c0).mono ?_;rintro e Q ⟨rfl,C⟩;have f:Ov w Q:=b.trans (C.mono b.size);have d1:Q.cell? ⟨w.heap.size+1,1,none⟩=some (O R names.length cap):=by rw [(An C).1 _ _ (bL c1)];exact c1
   clear c0 c1 T
   cases r2 with
   | true=>
    go_wp2_with fail;go_ret;exact ⟨by rw [E.o];simp [l],f⟩
   | false=>
    go_wp2_with fail;refine (S.o _ l f).mono ?_;rintro e V ⟨rfl,G⟩;have A:Ov w V:=f.trans (G.mono f.size);clear d1 S;cases Z;all_goals go_wp2_with fail
    all_goals go_ret
    all_goals exact ⟨by rw [E.o];simp [l],A⟩
  ·go_wp2_with fail
   go_ret;exact ⟨by rw [E.o];simp [l],b⟩
theorem IY {w:World} {v:Value} {ps:List Pol} (h:AL w v ps) {i:Nat} (hi:i < ps.length):∃ b off cap nv,v=O (some ⟨b,off,none⟩) ps.length cap/\w.cell? ⟨b,off+i*2,none⟩=some (zd U ps[i].owner)/\w.cell? ⟨b,off+i*2+1,none⟩=some nv/\AN w nv ps[i].names:=by
 obtain ⟨p,cap,rfl,f⟩:=h;obtain ⟨b,off,rfl,e⟩:=f (by rintro rfl;simp at hi);obtain ⟨l,nv,k,g⟩:=e i hi;exact ⟨b,off,cap,nv,rfl,l,k,g⟩
theorem D5 (m:Int) (s vp:Value) (ps:List Pol) (w:World) (hp:AL w vp ps) :
  Calls Tryz.prog 110 #[zh #[zd U m,s],vp] w fun e w'=>e=zj (zd U (Cv m ps))/\Ov w w':=by
 have HP:=Aa hp;obtain ⟨ao,cap,rfl,-⟩:=hp;have B:Ov w (w.alloc (ze #[zd U m,s] 24)):=bA w _;have G:Cv m ps=if ps.length<=4 then Ct m ps else 2:=rfl;have KP:=Aa fun (p:Pol) (C:Value) (W:World) (h:AN W C p.names)=>GK m s p C W h;by_cases hn:ps.length<=4
 ·rw [if_pos hn] at G
  have L:=Aa G;clear G;go_enter Tryz.func110,Tryz.ntmps110;go_wp2_with fail;go_loopw [13] (fun i wr=>∃ k:Nat,k<=ps.length/\i=zd U k/\Ct m ps=Ct m (ps.drop k)/\Ov w wr/\wr.cell? ⟨w.heap.size,0,none⟩=some (zd U m)/\wr.cell? ⟨w.heap.size,1,none⟩=some s) (fun i _=>ps.length - (intOf i).toNat)
  case atStart=>exact ⟨0,Nat.zero_le _,rfl,rfl,B,by simp [go_sem],by simp [go_sem]⟩
  case round=>
   obtain ⟨k,hk,rfl,t,y,c0,c1⟩:=hrel;by_cases hkl:k < ps.length
   ·obtain ⟨b,off,aa,C,Q,J,T,P⟩:=IY (Ak HP.o y) hkl
    injection Q with e1 e2 e3;subst e1 e3;clear e2;have u:=Ix (m:=m) hkl;rw [<-t] at u;have af:=bL J;have E:=bL c0;have q:Ov wr (wr.alloc (ze #[zd U ps[k].owner,C] 87)):=bA wr _;have g:=KP.o ps[k] C (wr.alloc (ze #[zd U ps[k].owner,C] 87)) (BT P q);obtain ⟨r,Z⟩:=nm (Di m ps[k]);obtain ⟨ow,I⟩:=nm (ps[k].owner);rw [<-Z] at u g;rw [<-I] at J q g;obtain ⟨nl,nc,H,R⟩:∃ a c n,C=O a n c:=by obtain ⟨a,c,e,_⟩:=P;exact ⟨a,c,_,e⟩
    subst R;have M:=Aa g;have HF:=Aa u;have f:=y.trans (q.mono y.size);clear Z I g u P t;by_cases hr0:r=0
    ·subst hr0
     go_wp2_with fail;refine (M.o).mono ?_;rintro e N ⟨rfl,l⟩;have F:=f.trans (l.mono f.size);have A:w.heap.size < (wr.alloc (ze #[zd U ow,O nl H nc] 87)).heap.size:=by simp;exact Nat.lt_succ_of_lt E
     have d0:N.cell? ⟨w.heap.size,0,none⟩=some (zd U m):=by rw [(An l).1 _ _ A,(An q).1 _ _ E];exact c0
     have d1:N.cell? ⟨w.heap.size,1,none⟩=some s:=by rw [(An l).1 _ _ A,(An q).1 _ _ E];exact c1
     clear f l q J T c0 c1 M;go_wp2_with fail;exact ⟨⟨k+1,by omega,by go_num,by rw [HF.o];simp,F,d0,d1⟩,by simp [intOf];omega⟩
    ·have ag:(r != 0)=true:=by simpa using hr0
     go_wp2_with fail;refine (M.o).mono ?_;rintro e N ⟨rfl,l⟩;have F:=f.trans (l.mono f.size);clear f l q J T c0 c1 M;go_wp2_with fail;go_ret;exact ⟨by rw [L.o,HF.o];simp [hr0],F⟩
   ·have S:k=ps.length:=by omega
    have V:Ct m ps=0:=by rw [t,S,List.drop_length];rfl
    have HZ:=Aa V;clear V t c0 c1;go_wp2_with fail;go_ret;exact ⟨by rw [L.o,HZ.o];rfl,y⟩
 ·rw [if_neg hn] at G
  have L:=Aa G;clear G;go_enter Tryz.func110,Tryz.ntmps110;go_wp2_with fail;go_ret;exact ⟨by rw [L.o];rfl,B⟩
def AB (l:List Bool):List Value:=l.map Value.bool
theorem Bl (W:World) (o:Obj):(W.alloc o).heap[W.heap.size]? = some o:=heap_alloc_new W o
theorem Bp {W W':World} {B:Nat} {v:Value} {k:Nat} {xs:List Value} (h:W.ownsRow B 4 1 v k xs) (hb:Ov W W'):W'.ownsRow B 4 1 v k xs:=by
 obtain ⟨p,b⟩:=h;refine ⟨p,?_⟩;rcases b with b | ⟨g,cap,e,i,l,f,r⟩
 ·exact Or.inl b
 ·refine Or.inr ⟨g,cap,e,i,l,?_,r⟩
  rw [hb.block g (Array.getElem?_eq_some_iff.1 f).1];exact f
theorem LG {W:World} {B:Nat} {v:Value} {k:Nat} {xs:List Value} (h:W.ownsRow B 4 1 v k xs) (o:Obj):(W.alloc o).ownsRow B 4 1 v k xs:=
 Bp h (bA W o)
theorem AZ {W:World} {B:Nat} {v:Value} {k:Nat} {xs:List Value} (h:W.ownsRow B 4 1 v k xs) {p:Addr} (hp:p.block < B) (u:Value):(W.setCell p u).ownsRow B 4 1 v k xs:=
 ownsRow_setCell_below h hp u
theorem Jp {W:World} {B:Nat} {v:Value} {k:Nat} {xs:List Value} (h:W.ownsRow B 4 1 v k xs) {g:Nat} (hg:v.ownBlock=some g):B<=g/\g < W.heap.size:=by
 rcases h.2 with ⟨rfl,_⟩ | ⟨i,cap,f,rfl,b,e,_⟩
 ·cases hg
 ·simp [Value.ownBlock] at hg
  subst hg;exact ⟨b,(Array.getElem?_eq_some_iff.1 e).1⟩
theorem BU {B:Nat} {W W':World} {v:Value} {k:Nat} {xs:List Value} (h:W.ownsRow B 4 1 v k xs) (hg:W.grownBy W' v.ownBlock) (hB:B<=W.heap.size):Below B W W':=
 ⟨hg.os,hg.tape,hg.output,hg.size,fun j hj=>hg.block j (Nat.lt_of_lt_of_le hj hB) (fun e=>by have:=(Jp h e.symm).1;omega)⟩
def FP (u v:Value):Prop:=u.ownBlock=none\/u.ownBlock≠v.ownBlock
theorem IT {W W':World} {B:Nat} {u v:Value} {k:Nat} {xs:List Value} (h:W.ownsRow B 4 1 u k xs) (hg:W.grownBy W' v.ownBlock) (ha:FP u v):W'.ownsRow B 4 1 u k xs:=h.kept hg ha
theorem I7 {W:World} {B:Nat} {u v v':Value} {k:Nat} {xs:List Value} (h:W.ownsRow B 4 1 u k xs) (ha:FP u v) (hv:v'.ownBlock=v.ownBlock\/v'.ownBlock=some W.heap.size):FP u v':=by
 rcases ha with ha | ha
 ·exact Or.inl ha
 ·rcases hv with hv | hv
  ·exact Or.inr (by rw [hv];exact ha)
  ·cases hu:u.ownBlock with
   | none=>exact Or.inl hu
   | some g=>
    right;rw [hv,hu];intro e;injection e with e;have:=(Jp h hu).2;omega
theorem Fl {u v:Value} (h:FP u v):FP v u:=by
 rcases h with h | h
 ·cases hv:v.ownBlock with
  | none=>exact Or.inl hv
  | some g=>exact Or.inr (by rw [h,hv];simp)
 ·exact Or.inr (fun e=>h e.symm)
theorem info4:∃ i,Tryz.prog.info? 4=some i/\i.zero=some (zg false)/\i.size=1/\i.bytes=1:=by
 cases hi:Tryz.prog.info? 4 with
 | none=>have:=Tryz.info4;rw [hi] at this;cases this
 | some i=>
  have b:=Tryz.info4;rw [hi] at b;simp only [Option.map_some,Option.some.injEq,Prod.mk.injEq] at b;exact ⟨i,rfl,b.1,b.2.1,b.2.2⟩
section
variable {ops:Array Oper} {o:Oper} {a:Act} {W:World} {K:Act->World->Prop} {Q:Exit->Act->World->Prop} {E:Prop}
theorem Dc (hg:o.guard=none) (s x:Operand) (hop:o.op=Op.call { callee:=Callee.builtin Builtin.append,args:=#[s,x],argTypes:=#[48,48] })
  (B b:Nat) (v:Value) (k:Nat) (xs:List Bool) (z:Bool) (hs:a.eval s=v) (hx:a.eval x=O (some ⟨b,0,none⟩) 1 1)
  (hown:W.ownsRow B 4 1 v k (AB xs)) (hb:W.heap[b]? = some (ze #[zg z] 4 (0,0))) (hk:k<=100) (hB:B<=W.heap.size)
  (h:∀ v' W',W'.ownsRow B 4 1 v' (k+1) (AB (xs++[z]))->W.grownBy W' v.ownBlock->(v'.ownBlock=v.ownBlock\/v'.ownBlock=some W.heap.size)->(∃ g cap,v'=O (some ⟨g,0,none⟩) (k+1) cap)->K (a.put o.dst v') W') :
  if Region.wanted o (yielded ops a.tmps)=true then Oper.wp Tryz.prog o a W K Q else E:=by
 have hw:Region.wanted o (yielded ops a.tmps)=true:=by simp [Region.wanted,hg]
 rw [if_pos hw];obtain ⟨i,hi,y,I,p⟩:=info4;obtain ⟨v',t,C,q,H,L,G⟩:=run_append_own_at (P:=Tryz.prog) W B 48 o.type 4 i _ 1 1 Tryz.underlying48 hi y I p (by rfl) (by decide) v k (AB xs) hown ⟨b,0,none⟩ 1 1 [zg z] rfl (by
  intro j u f;rw [Addr.add_lit]
  match j,f with
  | 0,f=>simp at f;subst f;simp [World.cell?,hb]
  | j+1,f=>simp at f) (by intro u f;simp at f;subst f;rfl) (by simp only [maxLen];omega) (by omega) hB
 have l:∃ g cap,v'=O (some ⟨g,0,none⟩) (k+1) cap:=by
  rcases q.2 with ⟨_,h⟩ | ⟨g,cap,J,A,_⟩
  ·omega
  ·exact ⟨g,cap,A⟩
 have e:AB (xs++[z])=AB xs++[zg z]:=by simp [AB]
 have F:=h v' t (by rw [e];exact q) H G l;unfold Oper.wp execOp;simp only [hop,resolve,invoke,builtin,Sem.run_bind,Sem.run_pure,Result.andThen_ok,List.map_toArray,List.map_cons,List.map_nil,hs,hx,C];exact F
end
theorem B4 {W:World} {B:Nat} {v:Value} {l:List Bool} (h:W.ownsRow B 4 1 v l.length (AB l)):AJ W v l:=by
 have q:=fun g=>h.cells (g:=g);rcases h.2 with ⟨rfl,k⟩ | ⟨g,cap,s,rfl,_⟩
 ·exact ⟨none,0,by rw [k],fun e=>absurd (List.eq_nil_of_length_eq_zero k) e⟩
 ·refine ⟨_,cap,rfl,fun _=>⟨g,0,rfl,fun i hi=>?_⟩⟩
  have p:(AB l)[i]? = some (zg l[i]):=by simp [AB,hi]
  have f:=q g rfl _ _ p;have b:(⟨g,0,none⟩:Addr).add i=⟨g,i,none⟩:=by unfold Addr.add;split <;> simp_all
  rw [b] at f;simpa using f
abbrev Jb (w:World) (lr lw mr mw:Value) (Wz:World):Prop:=Wz.cell? ⟨w.heap.size,0,none⟩=some lr/\Wz.cell? ⟨w.heap.size,1,none⟩=some lw/\Wz.cell? ⟨w.heap.size+1,0,none⟩=some mr/\Wz.cell? ⟨w.heap.size+1,1,none⟩=some mw
def JSt (w:World) (lr lw mr mw:Value) (R Wr:List Bool) (ur uw:Value) (W:World):Prop:=
 (Jb w lr lw mr mw W) /\
 W.heap[w.heap.size+2]? = some (ze #[O none 0 0,O none 0 0] 50 (0,0))/\W.heap[w.heap.size+3]? = some (ze #[ur,uw] 50 (0,0)) /\
 W.ownsRow (w.heap.size+4) 4 1 ur R.length (AB R)/\W.ownsRow (w.heap.size+4) 4 1 uw Wr.length (AB Wr)/\FP ur uw/\Ov w W/\w.heap.size+4<=W.heap.size
theorem AY {W:World} {b T:Nat} {x y:Value} (h:W.heap[b]? = some (ze #[x,y] T (0,0))):W.cell? ⟨b,0,none⟩=some x/\W.cell? ⟨b,1,none⟩=some y/\W.frozen? ⟨b,0,none⟩=false/\W.frozen? ⟨b,1,none⟩=false:=by
 refine ⟨?_,?_,?_,?_⟩ <;> simp [World.cell?,World.frozen?,h]
theorem Kt {w W1 W2:World} {lr lw mr mw:Value} (h:Jb w lr lw mr mw W1)
  (hb:Below (w.heap.size+3) W1 W2):Jb w lr lw mr mw W2:=by
 have e:∀ b o,b < w.heap.size+3->W2.cell? ⟨b,o,none⟩=W1.cell? ⟨b,o,none⟩:=fun b o h=>hb.cell (p:=⟨b,o,none⟩) h;exact ⟨by rw [e _ _ (by omega)];exact h.1,by rw [e _ _ (by omega)];exact h.2.1,by rw [e _ _ (by omega)];exact h.2.2.1,by rw [e _ _ (by omega)];exact h.2.2.2⟩
theorem F5 {w wr W1 W2:World} {lr lw mr mw ur uw v':Value} {R Wr:List Bool} {z:Bool} (h:JSt w lr lw mr mw R Wr ur uw wr) (hB:Ov wr W1)
  (h1:W2.ownsRow (w.heap.size+4) 4 1 v' (R.length+1) (AB (R++[z]))) (hg:W1.grownBy W2 ur.ownBlock) (hv:v'.ownBlock=ur.ownBlock\/v'.ownBlock=some W1.heap.size) :
  JSt w lr lw mr mw (R++[z]) Wr v' uw (W2.setCell ⟨w.heap.size+3,0,none⟩ v'):=by
 obtain ⟨q,A,y,u,t,p,s,l⟩:=h;have u4:=Bp u hB;have u5:=Bp t hB;have g:w.heap.size+4<=W1.heap.size:=Nat.le_trans l hB.size;have i:Below (w.heap.size+4) W1 W2:=BU u4 hg g;have k:Below (w.heap.size+4) wr W2:=(hB.mono l).trans i;have b:Below (w.heap.size+3) wr (W2.setCell ⟨w.heap.size+3,0,none⟩ v'):=(k.mono (by omega)).setCell (by simp) _;have f:W2.ownsRow (w.heap.size+4) 4 1 uw Wr.length (AB Wr):=IT u5 hg (Fl p);refine ⟨Kt q b,?_,?_,?_,?_,?_,?_,?_⟩
 ·rw [b.block _ (by omega)];exact A
 ·have e:W2.heap[w.heap.size+3]? = some (ze #[ur,uw] 50 (0,0)):=by rw [k.block _ (by omega)];exact y
  have:=heap_setCell_same W2 _ 0 _ _ v' e;simpa using this
 ·rw [List.length_append]
  exact AZ h1 (by simp) _
 ·exact AZ f (by simp) _
 ·exact Fl (I7 u5 (Fl p) hv)
 ·exact s.trans ((b.mono (by omega)))
 ·have:=k.size
  simp;omega
theorem F4 {w wr W1 W2:World} {lr lw mr mw ur uw v':Value} {R Wr:List Bool} {z:Bool} (h:JSt w lr lw mr mw R Wr ur uw wr) (hB:Ov wr W1)
  (h1:W2.ownsRow (w.heap.size+4) 4 1 v' (Wr.length+1) (AB (Wr++[z]))) (hg:W1.grownBy W2 uw.ownBlock) (hv:v'.ownBlock=uw.ownBlock\/v'.ownBlock=some W1.heap.size) :
  JSt w lr lw mr mw R (Wr++[z]) ur v' (W2.setCell ⟨w.heap.size+3,1,none⟩ v'):=by
 obtain ⟨q,A,y,u,t,p,s,l⟩:=h;have u4:=Bp u hB;have u5:=Bp t hB;have g:w.heap.size+4<=W1.heap.size:=Nat.le_trans l hB.size;have i:Below (w.heap.size+4) W1 W2:=BU u5 hg g;have k:Below (w.heap.size+4) wr W2:=(hB.mono l).trans i;have b:Below (w.heap.size+3) wr (W2.setCell ⟨w.heap.size+3,1,none⟩ v'):=(k.mono (by omega)).setCell (by simp) _;have f:W2.ownsRow (w.heap.size+4) 4 1 ur R.length (AB R):=IT u4 hg p;refine ⟨Kt q b,?_,?_,?_,?_,?_,?_,?_⟩
 ·rw [b.block _ (by omega)];exact A
 ·have e:W2.heap[w.heap.size+3]? = some (ze #[ur,uw] 50 (0,0)):=by rw [k.block _ (by omega)];exact y
  have:=heap_setCell_same W2 _ 1 _ _ v' e;simpa using this
 ·exact AZ f (by simp) _
 ·rw [List.length_append]
  exact AZ h1 (by simp) _
 ·exact I7 u4 p hv
 ·exact s.trans ((b.mono (by omega)))
 ·have:=k.size
  simp;omega
def MA (B:Nat) (p1 p2 p3 p4:Nat × Nat) (v1 v2 v3 v4:Value) (W:World):Prop:=
 W.cell? ⟨p1.1,p1.2,none⟩=some v1/\W.cell? ⟨p2.1,p2.2,none⟩=some v2/\W.cell? ⟨p3.1,p3.2,none⟩=some v3/\W.cell? ⟨p4.1,p4.2,none⟩=some v4/\B+1<=W.heap.size/\p1.1 < B/\p2.1 < B/\p3.1 < B/\p4.1 < B
theorem MA.keep {B:Nat} {W W':World} {p1 p2 p3 p4:Nat × Nat} {v1 v2 v3 v4:Value} (h:MA B p1 p2 p3 p4 v1 v2 v3 v4 W) (hb:Below B W W'):MA B p1 p2 p3 p4 v1 v2 v3 v4 W':=by
 have e:∀ b o,b < B->W'.cell? ⟨b,o,none⟩=W.cell? ⟨b,o,none⟩:=fun b o h=>hb.cell (p:=⟨b,o,none⟩) h;obtain ⟨u,t,s,q,l,k,i,g,f⟩:=h;exact ⟨by rw [e _ _ k];exact u,by rw [e _ _ i];exact t,by rw [e _ _ g];exact s,by rw [e _ _ f];exact q,Nat.le_trans l hb.size,k,i,g,f⟩
theorem BR {w wr W2:World} {lr lw mr mw ur uw:Value} {R Wr:List Bool} (h:JSt w lr lw mr mw R Wr ur uw wr) (hb:Below (w.heap.size+4) wr W2):W2.heap[w.heap.size+3]? = some (ze #[ur,uw] 50 (0,0)):=by
 rw [hb.block _ (by omega)];exact h.2.2.1
theorem EI {W:World} {B B':Nat} {v:Value} {k:Nat} {xs:List Value} (h:W.ownsRow B 4 1 v k xs) (hb:B'<=B):W.ownsRow B' 4 1 v k xs:=by
 obtain ⟨p,b⟩:=h;refine ⟨p,?_⟩;rcases b with b | ⟨g,cap,e,f,l,i,r⟩
 ·exact Or.inl b
 ·exact Or.inr ⟨g,cap,e,f,Nat.le_trans hb l,i,r⟩
theorem IR {W:World} {B:Nat} {v:Value} {k:Nat} {xs:List Value} (h:W.ownsRow B 4 1 v k xs) (hk:1<=k):∃ g cap,v=O (some ⟨g,0,none⟩) k cap:=by
 rcases h.2 with ⟨_,h⟩ | ⟨f,b,i,e,_⟩
 ·omega
 ·exact ⟨f,b,e⟩
def GF (a b:List Bool) (i:Nat):Bool:=a[i]?.getD false && b[i]?.getD false
def LH (a b:List Bool) (i:Nat):Bool:=a[i]?.getD false || b[i]?.getD false
def BI (f:Nat->Bool) (n:Nat):List Bool:=(List.range n).map f
theorem Fd (f:Nat->Bool) (n:Nat):BI f (n+1)=BI f n++[f n]:=by simp [BI,List.range_succ]
theorem AH (f:Nat->Bool) (n:Nat):(BI f n).length=n:=by simp [BI]
def BA (l m:Lev) (n:Nat):Lev:=⟨BI (GF l.r m.r) n,BI (LH l.w m.w) n⟩
structure Lab where
 r:List Pol
 w:List Pol
def MU (n:Nat) (b:Lab):Prop:=(b.r.length<=4/\∀ p∈b.r,E5 n p)/\(b.w.length<=4/\∀ p∈b.w,E5 n p)
def Ar (gn:List (Nat × Nat)) (n:Nat) (b:Lab):Lev:=⟨BI (fun i=>Cy gn n i b.r) n,BI (fun i=>Cy gn n i b.w) n⟩
theorem Qh (w:World) (m v pr pw:Value):JSt w m v pr pw [] [] (O none 0 0) (O none 0 0)
  ((((w.alloc (ze #[m,v] 24)).alloc (ze #[pr,pw] 39)).alloc (ze #[O none 0 0,O none 0 0] 50)).alloc (ze #[O none 0 0,O none 0 0] 50)):=by
 refine ⟨⟨by simp [go_sem],by simp [go_sem],by simp [go_sem],by simp [go_sem]⟩,?_,?_,World.ownsRow_nil _ _ _ _,World.ownsRow_nil _ _ _ _,Or.inl rfl,?_,by simp⟩
 ·have h:=heap_alloc_new ((w.alloc (ze #[m,v] 24)).alloc (ze #[pr,pw] 39)) (ze #[O none 0 0,O none 0 0] 50)
  rw [((Below.refl _ (((w.alloc (ze #[m,v] 24)).alloc (ze #[pr,pw] 39)).alloc (ze #[O none 0 0,O none 0 0] 50))).alloc (Nat.le_refl _) _).block _ (by simp)];simpa using h
 ·have h:=heap_alloc_new (((w.alloc (ze #[m,v] 24)).alloc (ze #[pr,pw] 39)).alloc (ze #[O none 0 0,O none 0 0] 50)) (ze #[O none 0 0,O none 0 0] 50)
  simpa using h
 ·exact (((bA w _).alloc (by simp) _).alloc (by simp;omega) _).alloc (by simp;omega) _
theorem Ko (n:Nat) (h0:1<=n) (hn:n<=6) (v pr pw:Value) (gn:List (Nat × Nat)) (bl:Lab) (w:World) (hv:AA w v (gn.map toI)) (hlen:gn.length<=20) (hb:∀ g∈gn,g.1 < n/\g.2 < n)
  (hp:AL w pr bl.r) (hq:AL w pw bl.w) (hin:MU n bl) :
  Calls Tryz.prog 131 #[zh #[zd U n,v],zh #[pr,pw]] w fun e w'=>∃ vr vw,e=zj (zh #[vr,vw])/\w'.ownsRow w.heap.size 4 1 vr n (AB (Ar gn n bl).r)/\w'.ownsRow w.heap.size 4 1 vw n (AB (Ar gn n bl).w)/\FP vr vw/\Ov w w':=by
 have av:=fun (i:Nat) (hi:i < n) (W:World) (hW:Ov w W)=>MQ n i hn hi v pr gn bl.r W (Af hv hW) hlen hb (Ak hp hW) hin.1.1 hin.1.2;have au:=fun (i:Nat) (hi:i < n) (W:World) (hW:Ov w W)=>MQ n i hn hi v pw gn bl.w W (Af hv hW) hlen hb (Ak hq hW) hin.2.1 hin.2.2;have ak:=Aa av;have aj:=Aa au;have a0:=Aa (Qh w (zd U n) v pr pw);obtain ⟨bo,bm,ar,-⟩:=hp;obtain ⟨bk,bj,aq,-⟩:=hq;clear av au hv hb hin;have bf:pr.oneCell'=true:=by rw [ar];rfl
 have be:pw.oneCell'=true:=by rw [aq];rfl
 clear ar aq;go_enter Tryz.func131,Tryz.ntmps131;go_wp2_with fail;go_loopw [6] (fun i wr=>∃ (k:Nat) (ur uw:Value),k<=n/\i=zd U k/\JSt w (zd U n) v pr pw (BI (fun i=>Cy gn n i bl.r) k) (BI (fun i=>Cy gn n i bl.w) k) ur uw wr) (fun i _=>n - (intOf i).toNat)
 case atStart=>exact ⟨0,_,_,Nat.zero_le _,rfl,a0.o⟩
 case round=>
  clear a0;obtain ⟨k,ur,uw,hk,rfl,hJ⟩:=hrel;have l:=Aa hJ;obtain ⟨⟨y0,y1,y2,y3⟩,x2,x3,-,-,-,I,ao⟩:=hJ;obtain ⟨x0,x1,am,al⟩:=AY x3;by_cases hkn:k < n
  ·obtain ⟨R,hR⟩:=nm (BI (fun i=>Cy gn n i bl.r) k)
   obtain ⟨V,hV⟩:=nm (BI (fun i=>Cy gn n i bl.w) k);have Z:R.length=k:=by rw [hR,AH]
   have ad:V.length=k:=by rw [hV,AH]
   have ax:BI (fun i=>Cy gn n i bl.r) (k+1)=R++[Cy gn n k bl.r]:=by rw [Fd,hR]
   have aw:BI (fun i=>Cy gn n i bl.w) (k+1)=V++[Cy gn n k bl.w]:=by rw [Fd,hV]
   rw [<-hR,<-hV] at l;have ah:=Aa ax;have aa:=Aa aw;clear hR hV ax aw;go_wp2_with fail
   go_cut [] from 7 to 32 (fun wc=>∃ u,JSt w (zd U n) v pr pw (R++[Cy gn n k bl.r]) V u uw wc)
   case first=>
    have hm:=ak.o k hkn;obtain ⟨z,hz⟩:=nm (Cy gn n k bl.r);rw [<-hz] at hm;have HZ:=Aa hz;have az:=Aa fun (i:Nat) (_:i < n)=>hm;clear hm hz ak aj ah aa;have M:MA (w.heap.size+3) (w.heap.size,0) (w.heap.size,1) (w.heap.size+1,0) (w.heap.size+1,0) (zd U n) v pr pr wr.drew:=⟨y0,y1,y2,y2,l.o.2.2.2.2.2.2.2,by simp,by simp,by simp,by simp⟩;refine gS (fun W=>MA (w.heap.size+3) (w.heap.size,0) (w.heap.size,1) (w.heap.size+1,0) (w.heap.size+1,0) (zd U n) v pr pr W) M fun b=>?_;refine kL 0 ?_;refine kL 2 ?_;refine kL 3 ?_;refine kL 4 ?_;refine kL 5 ?_;have y:Ov wr wr.drew:=below_drewN (Below.refl _ _) 1;clear M;generalize wr.drew=W0 at b y ⊢;refine rdB 1 6 rfl (fun K f=>?_) rfl fun K f=>?_
    ·obtain ⟨C,H,G,E⟩:=AY (BR l.o (y.mono l.o.2.2.2.2.2.2.2))
     go_simp;refine xK f b fun b=>?_;clear f K C H G E;refine rdA 6 rfl fun K f=>?_;go_simp
     go_at_call 194
     refine (az.o k hkn _ (I.trans (y.mono I.size))).mono ?_;rintro e q ⟨rfl,B⟩;have t:Ov wr q:=y.trans (B.mono y.size);refine xK f (b.keep (B.mono (by have:=b.2.2.2.2.1;omega))) fun b=>?_;clear f K B;refine rdA 7 rfl fun K f=>?_;go_simp;refine xK f (b.keep ((Below.refl _ q).alloc (by have:=b.2.2.2.2.1;omega) _)) fun b=>?_;have h:Ov wr (q.alloc (ze #[zg z] 4)):=t.trans ((Below.refl _ q).alloc t.size _);have F:=Bl q (ze #[zg z] 4);generalize q.alloc (ze #[zg z] 4)=W2 at b h F ⊢;refine rdA 8 rfl fun K f=>?_;have s:w.heap.size+4<=W2.heap.size:=b.2.2.2.2.1;have J:=Bp l.o.2.2.2.1 h;refine Dc rfl _ _ rfl (w.heap.size+4) q.heap.size ur R.length R z rfl rfl J F (by omega) s ?_;rintro v' Q P L N ⟨g,cap,rfl⟩;have p:=BU J L s;refine xK f (b.keep (p.mono (by omega))) fun b=>?_;have A:=F5 l.o h P L N;obtain ⟨C,H,G,E⟩:=AY (BR l.o ((h.mono l.o.2.2.2.2.2.2.2).trans p));clear P L N F J;refine kL 9 ?_;refine rdA 10 rfl fun K f=>?_;go_simp;refine xK f (b.keep ((Below.refl _ Q).setCell (by simp) _)) fun b=>?_;clear f K C H G E;refine gE ?_;clear b l p;go_wp2_with fail
     go_meet
     rw [Z] at A;exact ⟨_,by rw [<-HZ.o];exact A⟩
    ·go_simp
     go_at_call 194
     refine (az.o k hkn _ (I.trans (y.mono I.size))).mono ?_;rintro e q ⟨rfl,B⟩;have t:Ov wr q:=y.trans (B.mono y.size);refine xK f (b.keep (B.mono (by have:=b.2.2.2.2.1;omega))) fun b=>?_;clear f K B;refine rdB 1 7 rfl (fun K f=>?_) rfl fun K f=>?_
     ·obtain ⟨C,H,G,E⟩:=AY (BR l.o (t.mono l.o.2.2.2.2.2.2.2))
      go_simp;refine xK f b fun b=>?_;clear f K C H G E;refine rdA 7 rfl fun K f=>?_;go_simp;refine xK f (b.keep ((Below.refl _ q).alloc (by have:=b.2.2.2.2.1;omega) _)) fun b=>?_;have h:Ov wr (q.alloc (ze #[zg z] 4)):=t.trans ((Below.refl _ q).alloc t.size _);have F:=Bl q (ze #[zg z] 4);generalize q.alloc (ze #[zg z] 4)=W2 at b h F ⊢;refine rdA 8 rfl fun K f=>?_;have s:w.heap.size+4<=W2.heap.size:=b.2.2.2.2.1;have J:=Bp l.o.2.2.2.1 h;refine Dc rfl _ _ rfl (w.heap.size+4) q.heap.size ur R.length R z rfl rfl J F (by omega) s ?_;rintro v' Q P L N ⟨g,cap,rfl⟩;have p:=BU J L s;refine xK f (b.keep (p.mono (by omega))) fun b=>?_;have A:=F5 l.o h P L N;obtain ⟨C,H,G,E⟩:=AY (BR l.o ((h.mono l.o.2.2.2.2.2.2.2).trans p));clear P L N F J;refine kL 9 ?_;refine rdA 10 rfl fun K f=>?_;go_simp;refine xK f (b.keep ((Below.refl _ Q).setCell (by simp) _)) fun b=>?_;clear f K C H G E;refine gE ?_;clear b l p;go_wp2_with fail
      go_meet
      rw [Z] at A;exact ⟨_,by rw [<-HZ.o];exact A⟩
     ·go_simp
      refine xK f (b.keep ((Below.refl _ q).alloc (by have:=b.2.2.2.2.1;omega) _)) fun b=>?_;have h:Ov wr (q.alloc (ze #[zg z] 4)):=t.trans ((Below.refl _ q).alloc t.size _);have F:=Bl q (ze #[zg z] 4);generalize q.alloc (ze #[zg z] 4)=W2 at b h F ⊢;refine rdA 1 rfl fun K f=>?_;obtain ⟨C,H,G,E⟩:=AY (BR l.o (h.mono l.o.2.2.2.2.2.2.2));go_simp;refine xK f b fun b=>?_;clear f K C H G E;refine rdA 8 rfl fun K f=>?_;have s:w.heap.size+4<=W2.heap.size:=b.2.2.2.2.1;have J:=Bp l.o.2.2.2.1 h;refine Dc rfl _ _ rfl (w.heap.size+4) q.heap.size ur R.length R z rfl rfl J F (by omega) s ?_;rintro v' Q P L N ⟨g,cap,rfl⟩;have p:=BU J L s;refine xK f (b.keep (p.mono (by omega))) fun b=>?_;have A:=F5 l.o h P L N;obtain ⟨C,H,G,E⟩:=AY (BR l.o ((h.mono l.o.2.2.2.2.2.2.2).trans p));clear P L N F J;refine kL 9 ?_;refine rdA 10 rfl fun K f=>?_;go_simp;refine xK f (b.keep ((Below.refl _ Q).setCell (by simp) _)) fun b=>?_;clear f K C H G E;refine gE ?_;clear b l p;go_wp2_with fail
      go_meet
      rw [Z] at A;exact ⟨_,by rw [<-HZ.o];exact A⟩
   case rest=>
    clear y0 y1 y2 y3 x2 x3 x0 x1 am al I ao l;obtain ⟨u2,hJ⟩:=hcut;have l:=Aa hJ;obtain ⟨⟨y0,y1,y2,y3⟩,x2,x3,-,-,-,I,ao⟩:=hJ;obtain ⟨x0,x1,am,al⟩:=AY x3;rw [<-ah.o] at l;obtain ⟨R2,ae⟩:=nm (BI (fun i=>Cy gn n i bl.r) (k+1));rw [<-ae] at l;have ai:=Aa ae;clear ae ah Z;go_wp2_with fail;have hm:=aj.o k hkn;obtain ⟨z,hz⟩:=nm (Cy gn n k bl.w);rw [<-hz] at hm;have HZ:=Aa hz;have ay:=Aa fun (i:Nat) (_:i < n)=>hm;clear hm hz ak aj;generalize wc=wr at *;have M:MA (w.heap.size+3) (w.heap.size,0) (w.heap.size,1) (w.heap.size+1,1) (w.heap.size+1,1) (zd U n) v pw pw wr.drew:=⟨y0,y1,y3,y3,l.o.2.2.2.2.2.2.2,by simp,by simp,by simp,by simp⟩;refine gS (fun W=>MA (w.heap.size+3) (w.heap.size,0) (w.heap.size,1) (w.heap.size+1,1) (w.heap.size+1,1) (zd U n) v pw pw W) M fun b=>?_;refine kL 0 ?_;refine kL 2 ?_;refine kL 3 ?_;refine kL 4 ?_;refine kL 5 ?_;have y:Ov wr wr.drew:=below_drewN (Below.refl _ _) 1;clear M;generalize wr.drew=W0 at b y ⊢;refine rdB 1 6 rfl (fun K f=>?_) rfl fun K f=>?_
    ·obtain ⟨C,H,G,E⟩:=AY (BR l.o (y.mono l.o.2.2.2.2.2.2.2))
     go_simp;refine xK f b fun b=>?_;clear f K C H G E;refine rdA 6 rfl fun K f=>?_;go_simp
     go_at_call 194
     refine (ay.o k hkn _ (I.trans (y.mono I.size))).mono ?_;rintro e q ⟨rfl,B⟩;have t:Ov wr q:=y.trans (B.mono y.size);refine xK f (b.keep (B.mono (by have:=b.2.2.2.2.1;omega))) fun b=>?_;clear f K B;refine rdA 7 rfl fun K f=>?_;go_simp;refine xK f (b.keep ((Below.refl _ q).alloc (by have:=b.2.2.2.2.1;omega) _)) fun b=>?_;have h:Ov wr (q.alloc (ze #[zg z] 4)):=t.trans ((Below.refl _ q).alloc t.size _);have F:=Bl q (ze #[zg z] 4);generalize q.alloc (ze #[zg z] 4)=W2 at b h F ⊢;refine rdA 8 rfl fun K f=>?_;have s:w.heap.size+4<=W2.heap.size:=b.2.2.2.2.1;have J:=Bp l.o.2.2.2.2.1 h;refine Dc rfl _ _ rfl (w.heap.size+4) q.heap.size uw V.length V z rfl rfl J F (by omega) s ?_;rintro v' Q P L N ⟨g,cap,rfl⟩;have p:=BU J L s;refine xK f (b.keep (p.mono (by omega))) fun b=>?_;have A:=F4 l.o h P L N;obtain ⟨C,H,G,E⟩:=AY (BR l.o ((h.mono l.o.2.2.2.2.2.2.2).trans p));clear P L N F J;refine kL 9 ?_;refine rdA 10 rfl fun K f=>?_;go_simp;refine xK f (b.keep ((Below.refl _ Q).setCell (by simp) _)) fun b=>?_;clear f K C H G E;refine gE ?_;clear b l p;go_wp2_with fail;rw [ad] at A;refine ⟨⟨k+1,u2,O (some ⟨g,0,none⟩) (k+1) cap,by omega,by go_num,?_⟩,by simp [intOf];omega⟩;rw [aa.o,<-HZ.o,<-ai.o];exact A
    ·go_simp
     go_at_call 194
     refine (ay.o k hkn _ (I.trans (y.mono I.size))).mono ?_;rintro e q ⟨rfl,B⟩;have t:Ov wr q:=y.trans (B.mono y.size);refine xK f (b.keep (B.mono (by have:=b.2.2.2.2.1;omega))) fun b=>?_;clear f K B;refine rdB 1 7 rfl (fun K f=>?_) rfl fun K f=>?_
     ·obtain ⟨C,H,G,E⟩:=AY (BR l.o (t.mono l.o.2.2.2.2.2.2.2))
      go_simp;refine xK f b fun b=>?_;clear f K C H G E;refine rdA 7 rfl fun K f=>?_;go_simp;refine xK f (b.keep ((Below.refl _ q).alloc (by have:=b.2.2.2.2.1;omega) _)) fun b=>?_;have h:Ov wr (q.alloc (ze #[zg z] 4)):=t.trans ((Below.refl _ q).alloc t.size _);have F:=Bl q (ze #[zg z] 4);generalize q.alloc (ze #[zg z] 4)=W2 at b h F ⊢;refine rdA 8 rfl fun K f=>?_;have s:w.heap.size+4<=W2.heap.size:=b.2.2.2.2.1;have J:=Bp l.o.2.2.2.2.1 h;refine Dc rfl _ _ rfl (w.heap.size+4) q.heap.size uw V.length V z rfl rfl J F (by omega) s ?_;rintro v' Q P L N ⟨g,cap,rfl⟩;have p:=BU J L s;refine xK f (b.keep (p.mono (by omega))) fun b=>?_;have A:=F4 l.o h P L N;obtain ⟨C,H,G,E⟩:=AY (BR l.o ((h.mono l.o.2.2.2.2.2.2.2).trans p));clear P L N F J;refine kL 9 ?_;refine rdA 10 rfl fun K f=>?_;go_simp;refine xK f (b.keep ((Below.refl _ Q).setCell (by simp) _)) fun b=>?_;clear f K C H G E;refine gE ?_;clear b l p;go_wp2_with fail;rw [ad] at A;refine ⟨⟨k+1,u2,O (some ⟨g,0,none⟩) (k+1) cap,by omega,by go_num,?_⟩,by simp [intOf];omega⟩;rw [aa.o,<-HZ.o,<-ai.o];exact A
     ·go_simp
      refine xK f (b.keep ((Below.refl _ q).alloc (by have:=b.2.2.2.2.1;omega) _)) fun b=>?_;have h:Ov wr (q.alloc (ze #[zg z] 4)):=t.trans ((Below.refl _ q).alloc t.size _);have F:=Bl q (ze #[zg z] 4);generalize q.alloc (ze #[zg z] 4)=W2 at b h F ⊢;refine rdA 1 rfl fun K f=>?_;obtain ⟨C,H,G,E⟩:=AY (BR l.o (h.mono l.o.2.2.2.2.2.2.2));go_simp;refine xK f b fun b=>?_;clear f K C H G E;refine rdA 8 rfl fun K f=>?_;have s:w.heap.size+4<=W2.heap.size:=b.2.2.2.2.1;have J:=Bp l.o.2.2.2.2.1 h;refine Dc rfl _ _ rfl (w.heap.size+4) q.heap.size uw V.length V z rfl rfl J F (by omega) s ?_;rintro v' Q P L N ⟨g,cap,rfl⟩;have p:=BU J L s;refine xK f (b.keep (p.mono (by omega))) fun b=>?_;have A:=F4 l.o h P L N;obtain ⟨C,H,G,E⟩:=AY (BR l.o ((h.mono l.o.2.2.2.2.2.2.2).trans p));clear P L N F J;refine kL 9 ?_;refine rdA 10 rfl fun K f=>?_;go_simp;refine xK f (b.keep ((Below.refl _ Q).setCell (by simp) _)) fun b=>?_;clear f K C H G E;refine gE ?_;clear b l p;go_wp2_with fail;rw [ad] at A;refine ⟨⟨k+1,u2,O (some ⟨g,0,none⟩) (k+1) cap,by omega,by go_num,?_⟩,by simp [intOf];omega⟩;rw [aa.o,<-HZ.o,<-ai.o];exact A
  ·have a8:k=n:=by omega
   subst a8;have hJ:=l.o;obtain ⟨-,-,-,T,S,ap,-,-⟩:=hJ;rw [AH] at T S;obtain ⟨t0,C,bh,bg⟩:=AY x2;obtain ⟨ga,ca,rfl⟩:=IR T h0;obtain ⟨gb,cb,rfl⟩:=IR S h0;have bb:=Aa T;have a9:=Aa S;have AP:=Aa ap;clear T S ap;go_wp2_with fail;refine bodyPost_ret (v:=zh #[O (some ⟨ga,0,none⟩) k ca,O (some ⟨gb,0,none⟩) k cb]) ?_ rfl ⟨_,_,rfl,?_,?_,AP.o,?_⟩
   ·simp [results,Tryz.results131,go_sem,t0,C]
   ·exact EI (AZ (AZ bb.o (by simp) _) (by simp) _) (by omega)
   ·exact EI (AZ (AZ a9.o (by simp) _) (by simp) _) (by omega)
   ·exact (I.setCell (by simp;omega) _).setCell (by simp;omega) _
def LQ (m:Int) (b:Lab):Int:=if Cv m b.r=0 then Cv m b.w else Cv m b.r
theorem K9 {m:Int} {ps:List Pol} (h:Ct m ps=0):∀ p∈ps,Di m p=0:=by
 induction ps with
 | nil=>simp
 | cons p ps ih=>
  rw [Ct] at h;split at h
  ·rename_i b
   intro q hq;rcases List.mem_cons.1 hq with rfl | hq
   ·exact b
   ·exact ih h q hq
  ·rename_i b
   exact absurd h b
theorem Nk {n:Nat} {p:Pol} (h:Di n p=0):E5 n p:=by
 unfold Di at h;split at h
 ·split at h
  ·split at h
   ·rename_i b g f
    simp [BB] at b;refine ⟨b,g,fun x e=>?_⟩;have:=List.all_eq_true.1 f x e;simp [BB] at this;exact this
   ·cases h
  ·cases h
 ·cases h
theorem G9 {n:Nat} {ps:List Pol} (h:Cv n ps=0):ps.length<=4/\∀ p∈ps,E5 n p:=by
 unfold Cv at h;split at h
 ·rename_i e
  exact ⟨e,fun p b=>Nk (K9 h p b)⟩
 ·cases h
theorem IV {n:Nat} {b:Lab} (h:LQ n b=0):MU n b:=by
 unfold LQ at h;split at h
 ·rename_i e
  exact ⟨G9 e,G9 h⟩
 ·rename_i e
  exact absurd h e
def Ah:Lev:=⟨[],[]⟩
def A1 (w w':World) (v:Value) (L:Lev):Prop:=∃ vr vw,v=zh #[vr,vw]/\w'.ownsRow w.heap.size 4 1 vr L.r.length (AB L.r)/\w'.ownsRow w.heap.size 4 1 vw L.w.length (AB L.w)/\FP vr vw
theorem Gy {w w':World} {v:Value} {L:Lev} (h:A1 w w' v L):A3 w' v L:=by
 obtain ⟨e,b,rfl,g,f,_⟩:=h;exact ⟨e,b,rfl,B4 g,B4 f⟩
def Bb (m:Int) (gs:List (Int × Int)) (b:Lab):Int:=if AR m gs=0 then LQ m b else AR m gs
def Dn (m:Int) (gs:List (Int × Int)) (l:Lev):Int:=if AR m gs=0 then CN m l else AR m gs
def Fj (m:Int) (gs:List (Int × Int)) (l k:Lev):Int:=if Dn m gs l=0 then Dn m gs k else Dn m gs l
def QZ:Prop:=∀ (m:Int) (v:Value) (gs:List (Int × Int)) (pr pw:Value) (bl:Lab) (w:World),AA w v gs->AL w pr bl.r->AL w pw bl.w ->
 Calls Tryz.prog 48 #[zh #[zd U m,v],zh #[pr,pw]] w fun e w'=>e=zj (zd U (Bb m gs bl))/\Ov w w'
def QU:Prop:=∀ (m:Int) (v:Value) (gs:List (Int × Int)) (pr pw:Value) (bl:Lab) (w:World),AA w v gs->AL w pr bl.r->AL w pw bl.w ->
 Calls Tryz.prog 23 #[zh #[zd U m,v],zh #[pr,pw]] w fun e w'=>∃ vl,e=zj (zk #[vl,zd U (Bb m gs bl)])/\A1 w w' vl (if Bb m gs bl=0 then Ar (Ax gs) m.toNat bl else Ah)/\Ov w w'
def QQ:Prop:=∀ (m:Int) (v:Value) (gs:List (Int × Int)) (vl:Value) (l:Lev) (w:World),AA w v gs->A3 w vl l ->
 Calls Tryz.prog 49 #[zh #[zd U m,v],vl] w fun e w'=>e=zj (zd U (Dn m gs l))/\Ov w w'
def QW:Prop:=∀ (m:Int) (v:Value) (gs:List (Int × Int)) (vl vk:Value) (l k:Lev) (w:World),AA w v gs->A3 w vl l->A3 w vk k ->
 Calls Tryz.prog 16 #[zh #[zd U m,v],vl,vk] w fun e w'=>e=zj (zk #[zg (decide (Fj m gs l k=0) && Av l k m.toNat),zd U (Fj m gs l k)])/\Ov w w'
def SY:Prop:=∀ (m:Int) (v:Value) (gs:List (Int × Int)) (vl vk:Value) (l k:Lev) (w:World),AA w v gs->A3 w vl l->A3 w vk k ->
 Calls Tryz.prog 46 #[zh #[zd U m,v],vl,vk] w fun e w'=>∃ vj,e=zj (zk #[vj,zd U (Fj m gs l k)])/\A1 w w' vj (if Fj m gs l k=0 then BA l k m.toNat else Ah)/\Ov w w'
theorem Az {w:World} {v:Value} {ps:List Pol} (h:AL w v ps):∃ a n c,v=O a n c:=by
 obtain ⟨a,c,e,_⟩:=h;exact ⟨a,_,c,e⟩
theorem CK {w:World} {v:Value} {gs:List (Int × Int)} (h:AA w v gs):∃ a n c,v=O a n c:=by
 obtain ⟨a,c,e,_⟩:=h;exact ⟨a,_,c,e⟩
theorem M2:QZ:=by
 intro m v A pr Z i w E H G;have b:Ov w ((w.alloc (ze #[zd U m,v] 24)).alloc (ze #[pr,Z] 39)):=(bA w _).alloc (by simp) _;have P:=fun (W:World) (y:Ov w W)=>check_any m v A W (Af E y);have M:=fun (W:World) (y:Ov w W)=>D5 m v pr i.r W (Ak H y);have L:=fun (W:World) (y:Ov w W)=>D5 m v Z i.w W (Ak G y);have N:Bb m A i=if AR m A=0 then (if Cv m i.r=0 then Cv m i.w else Cv m i.r) else AR m A:=rfl;obtain ⟨r,F⟩:=nm (AR m A);obtain ⟨p1,l⟩:=nm (Cv m i.r);obtain ⟨p2,k⟩:=nm (Cv m i.w);rw [<-F,<-l,<-k] at N;rw [<-F] at P;rw [<-l] at M;rw [<-k] at L;obtain ⟨va,vn,vc,rfl⟩:=CK E;obtain ⟨pa,pn,pc,rfl⟩:=Az H;obtain ⟨V,S,T,rfl⟩:=Az G;have KC:=Aa P;have KP:=Aa M;have KQ:=Aa L;have R:=Aa N;clear P M L N F l k E H G;go_enter Tryz.func48,Tryz.ntmps48;go_wp2_with fail;refine (KC.o _ b).mono ?_;rintro e s ⟨rfl,q⟩;obtain ⟨g,J⟩:=An q;have c0:s.cell? ⟨w.heap.size,0,none⟩=some (zd U m):=by rw [g _ _ (by simp;omega)];simp [go_sem]
 have c1:s.cell? ⟨w.heap.size,1,none⟩=some (O va vn vc):=by rw [g _ _ (by simp;omega)];simp [go_sem]
 have c2:s.cell? ⟨w.heap.size+1,0,none⟩=some (O pa pn pc):=by rw [g _ _ (by simp)];simp [go_sem]
 have c3:s.cell? ⟨w.heap.size+1,1,none⟩=some (O V S T):=by rw [g _ _ (by simp)];simp [go_sem]
 have f:Ov w s:=b.trans (q.mono (by simp;omega));clear g J q b KC;by_cases hr0:r=0
 ·subst hr0
  go_wp2_with fail;refine (KP.o _ f).mono ?_;rintro e B ⟨rfl,p⟩;have t:=bL c0;have C:=bL c2;obtain ⟨g,J⟩:=An p;have d0:B.cell? ⟨w.heap.size,0,none⟩=some (zd U m):=by rw [g _ _ t];exact c0
  have d1:B.cell? ⟨w.heap.size,1,none⟩=some (O va vn vc):=by rw [g _ _ t];exact c1
  have d3:B.cell? ⟨w.heap.size+1,1,none⟩=some (O V S T):=by rw [g _ _ C];exact c3
  have h:Ov w B:=f.trans (p.mono f.size);clear g J p f c0 c1 c2 c3 KP;by_cases hp0:p1=0
  ·subst hp0
   go_wp2_with fail;refine (KQ.o _ h).mono ?_;rintro e w3 ⟨rfl,u⟩;have Q:Ov w w3:=h.trans (u.mono h.size);clear d0 d1 d3 u KQ;go_wp2_with fail;go_ret;exact ⟨by rw [R.o];simp,Q⟩
  ·have I:(p1 != 0)=true:=by simpa using hp0
   go_wp2_with fail;go_ret;exact ⟨by rw [R.o];simp [hp0],h⟩
 ·have I:(r != 0)=true:=by simpa using hr0
  go_wp2_with fail;go_ret;exact ⟨by rw [R.o];simp [hr0],f⟩
def Ad (W:World) (b n:Nat) (l:List Bool):Prop:=l.length=n/\∀ i (h:i < l.length),W.cell? ⟨b,i,none⟩=some (zg l[i])
theorem Fe {W W':World} {b n:Nat} {l:List Bool} (h:Ad W b n l) (hb:Ov W W'):Ad W' b n l:=
 ⟨h.1,fun i hi=>by rw [(An hb).1 _ _ (bL (h.2 i hi))];exact h.2 i hi⟩
theorem JL (b kb n:Nat) (l:List Bool) (x:Int) (W:World) (hn:n<=6) (hx:0<=x/\x < n) (h0:W.cell? ⟨b,0,none⟩=some (O (some ⟨kb,0,none⟩) n n)) (hr:Ad W kb n l) :
  Calls Tryz.prog 128 #[zd U x,zi (some ⟨b,0,none⟩)] W fun e w'=>e=zj (zg (l[x.toNat]?.getD false))/\Ov W w':=by
 obtain ⟨k,rfl⟩:∃ k:Nat,x=k:=⟨x.toNat,by omega⟩;have hk:k < l.length:=by rw [hr.1];omega
 have q:=hr.2 k hk;have f:l[(k:Int).toNat]?.getD false=l[k]:=by simp [hk]
 rw [f];obtain ⟨y,g⟩:=nm (l[k]);rw [<-g] at q ⊢;clear g f hr;go_enter Tryz.func128,Tryz.ntmps128;go_wp2_with fail;go_ret;exact ⟨by simp,Below.refl _ W⟩
def Jm (l:List Bool) (p:Pol):Bool:=(l[p.owner.toNat]?.getD false) || p.names.any (fun x=>l[x.toNat]?.getD false)
theorem FC (kb n:Nat) (l:List Bool) (vp:Value) (ps:List Pol) (w:World) (hn:n<=6) (hr:Ad w kb n l) (hp:AL w vp ps) (hps:ps.length<=4/\∀ p∈ps,E5 n p) :
  Calls Tryz.prog 72 #[O (some ⟨kb,0,none⟩) n n,vp] w fun e w'=>e=zj (zg (ps.all (Jm l)))/\Ov w w':=by
 have HP:=Aa hp;obtain ⟨ao,cap,rfl,-⟩:=hp;have R:Ov w (w.alloc (ze #[O (some ⟨kb,0,none⟩) n n] 48)):=bA w _;have KA:=Aa fun (x:Int) (W:World) (hx:0<=x/\x < n) (L:Ov w W) (M:W.cell? ⟨w.heap.size,0,none⟩=some (O (some ⟨kb,0,none⟩) n n))=>JL w.heap.size kb n l x W hn hx M (Fe hr L);have a4:=hps.1;have ak:=Aa hps.2;clear hps hr;go_enter Tryz.func72,Tryz.ntmps72;go_wp2_with fail;go_loopw [11] (fun i wr=>∃ k:Nat,k<=ps.length/\i=zd U k/\(ps.take k).all (Jm l)=true/\Ov w wr/\wr.cell? ⟨w.heap.size,0,none⟩=some (O (some ⟨kb,0,none⟩) n n)) (fun i _=>ps.length - (intOf i).toNat)
 case atStart=>exact ⟨0,Nat.zero_le _,rfl,rfl,R,by simp [go_sem]⟩
 case round=>
  obtain ⟨k,hk,rfl,q,A,c0⟩:=hrel;by_cases hkl:k < ps.length
  ·obtain ⟨b,off,av,nv,ae,Z,q1,q2⟩:=IY (Ak HP.o A) hkl
   injection ae with e1 e2 e3;subst e1 e3;clear e2;obtain ⟨C,F,E⟩:=ak.o ps[k] (List.getElem_mem hkl);have I:Jm l ps[k]=((l[ps[k].owner.toNat]?.getD false) || ps[k].names.any (fun x=>l[x.toNat]?.getD false)):=rfl;have u:Jm l ps[k]=true->(ps.take (k+1)).all (Jm l)=true:=fun h=>by
    rw [List.take_succ_eq_append_getElem hkl,List.all_append,q];simp [h]
   have t:Jm l ps[k]=false->ps.all (Jm l)=false:=fun h=>by
    rw [List.all_eq_false];exact ⟨ps[k],List.getElem_mem hkl,by simp [h]⟩
   have B:Ov wr (wr.alloc (ze #[zd U ps[k].owner,nv] 87)):=bA wr _;have hO:=fun (W:World) (L:Ov w W) (M:W.cell? ⟨w.heap.size,0,none⟩=some (O (some ⟨kb,0,none⟩) n n))=>KA.o ps[k].owner W C L M;have hN:=fun (W:World) (L:Ov w W) (ai:Ov wr W) (M:W.cell? ⟨w.heap.size,0,none⟩=some (O (some ⟨kb,0,none⟩) n n))=>D7 128 (zi (some ⟨w.heap.size,0,none⟩)) (fun x=>l[x.toNat]?.getD false) nv ps[k].names W (BT q2 ai) F (Aa fun i hi w1 hb=>KA.o ps[k].names[i] w1 (E _ (List.getElem_mem hi)) (L.trans (hb.mono L.size)) (by rw [(An hb).1 _ _ (bL M)];exact M)) SD;obtain ⟨x1,H⟩:=nm (l[ps[k].owner.toNat]?.getD false);obtain ⟨x2,G⟩:=nm (ps[k].names.any (fun x=>l[x.toNat]?.getD false));obtain ⟨ow,Q⟩:=nm (ps[k].owner);rw [<-H,<-G] at I;rw [I] at u t;rw [<-H] at hO;rw [<-G] at hN;rw [<-Q] at Z B hO;obtain ⟨na,nn,nc,af⟩:∃ a n c,nv=O a n c:=by obtain ⟨a,c,e,_⟩:=q2;exact ⟨a,_,c,e⟩
   subst af;have HN:=Aa u;have HS:=Aa t;have KO:=Aa hO;have KN:=Aa hN;have f:=A.trans (B.mono A.size);have ad:=bL c0;have a2:=bL Z;have V:(wr.alloc (ze #[zd U ow,O na nn nc] 87)).cell? ⟨w.heap.size,0,none⟩=some (O (some ⟨kb,0,none⟩) n n):=by rw [(An B).1 _ _ ad];exact c0
   have s:=Aa V;clear H G Q I u t hO hN q q2 V C F E
   cases x1 with
   | true=>
    go_wp2_with fail;refine (KO.o _ f s.o).mono ?_;rintro e P ⟨rfl,g⟩;have y:=f.trans (g.mono f.size);have N:P.cell? ⟨w.heap.size,0,none⟩=some (O (some ⟨kb,0,none⟩) n n):=by rw [(An g).1 _ _ (bL s.o)];exact s.o
    clear g f c0 Z q1 s;go_wp2_with fail;exact ⟨⟨k+1,by omega,by go_num,HN.o (by simp),y,N⟩,by simp [intOf];omega⟩
   | false=>
    go_wp2_with fail;refine (KO.o _ f s.o).mono ?_;rintro e P ⟨rfl,g⟩;have y:=f.trans (g.mono f.size);have N:P.cell? ⟨w.heap.size,0,none⟩=some (O (some ⟨kb,0,none⟩) n n):=by rw [(An g).1 _ _ (bL s.o)];exact s.o
    have d1:P.cell? ⟨wr.heap.size,1,none⟩=some (O na nn nc):=by rw [(An g).1 _ _ (by simp)];simp [go_sem]
    have T:Ov wr P:=B.trans (g.mono (by simp));clear g f c0 Z q1 s;go_wp2_with fail;refine (KN.o _ y T N).mono ?_;rintro e w3 ⟨rfl,J⟩;have S:=y.trans (J.mono y.size);have f0:w3.cell? ⟨w.heap.size,0,none⟩=some (O (some ⟨kb,0,none⟩) n n):=by rw [(An J).1 _ _ (bL N)];exact N
    clear J y N d1 T KN KO
    cases x2 with
    | true=>
     go_wp2_with fail;exact ⟨⟨k+1,by omega,by go_num,HN.o (by simp),S,f0⟩,by simp [intOf];omega⟩
    | false=>
     go_wp2_with fail;go_ret;exact ⟨by rw [HS.o (by simp)];rfl,S⟩
  ·have ag:k=ps.length:=by omega
   have hz:ps.all (Jm l)=true:=by rw [ag,List.take_length] at q;exact q
   have HZ:=Aa hz;clear hz q c0;go_wp2_with fail;go_ret;exact ⟨by rw [HZ.o];rfl,A⟩
end Go.Proofs.YtfffpjkcfnekaaaGreat
namespace Go.Proofs.YtfffpjkcfnekaaaGreat.Ex
open Go.RowKit
open Go.Value renaming slice -> O, int -> zd, bool -> zg, agg -> zh, pointer -> zi, tuple -> zk
open Go.IntKind renaming i64 -> U
open Go.Obj renaming cells -> ze
open Go.Ending renaming returned -> zj
def sD (kd va ot:Int) (e:D) (ags ts es:List D):D:=.agg [.lit (.int U kd),.lit (.int U va),.lit (.int U ot),e,.slice ags [],.slice ts [],.slice es []]
def Ag:D->Int
 | .agg (.lit (.int _ n)::_)=>n
 | _=>0
def Ap:D->Int
 | .agg (_::.lit (.int _ n)::_)=>n
 | _=>0
def Ae:D->Int
 | .agg (_::_::.lit (.int _ n)::_)=>n
 | _=>0
def Am:D->D
 | .agg (_::_::_::e::_)=>e
 | d=>d
def Ai:D->List D
 | .agg (_::_::_::_::.slice l _::_)=>l
 | _=>[]
def Aj:D->List D
 | .agg (_::_::_::_::_::.slice l _::_)=>l
 | _=>[]
def Ao:D->List D
 | .agg (_::_::_::_::_::_::.slice l _::_)=>l
 | _=>[]
def RS (w:World) (K:Nat):Nat->List Value->D->Prop
 | 0,_,_=>False
 | k+1,cs,d=>∃ (kd va ot:Int) (x0 x1 x2:Value) (e:D) (vA:Value) (ags:List D) (vT:Value) (ts:List D) (vE:Value) (es:List D),
   cs=[zd U kd,zd U va,zd U ot,x0,x1,x2,vA,vT,vE]/\d=sD kd va ot e ags ts es/\Cu kd/\Cu va/\Cu ot/\RX w K [x0,x1,x2] e/\XS 3 (RX w K) w vA ags/\XS 9 (RS w K k) w vT ts/\XS 9 (RS w K k) w vE es
theorem RS.mono {w w':World} {K:Nat} (hw:∀ a u,w.cell? a=some u->w'.cell? a=some u) :
  ∀ (k m:Nat) (cs:List Value) (d:D),k<=m->RS w K k cs d->RS w' K m cs d:=by
 intro k
 induction k with
 | zero=>intro m cs d _ h;exact h.elim
 | succ k ih=>
  intro m cs d A h;obtain ⟨f,rfl⟩:∃ f,m=f + 1:=⟨m - 1,by omega⟩;obtain ⟨y,va,t,x0,x1,x2,e,q,i,l,s,p,L,g,C,J,I,H,B,G,E,F⟩:=h;exact ⟨y,va,t,x0,x1,x2,e,q,i,l,s,p,L,g,C,J,I,H,RX.mono hw K K _ e (Nat.le_refl _) B,
   G.mono hw (fun cs d _ b=>RX.mono hw K K cs d (Nat.le_refl _) b),E.mono hw (fun cs d _ b=>ih f cs d (by omega) b),F.mono hw (fun cs d _ b=>ih f cs d (by omega) b)⟩
def Bj (w:World) (K k:Nat) (v:Value) (l:List D):Prop:=XS 9 (RS w K k) w v l
theorem Bj.over {w w':World} {K k:Nat} {v:Value} {l:List D} (h:Bj w K k v l) (hb:Ov w w'):Bj w' K k v l:=
 XS.mono h (Ab hb) (fun cs d _ hh=>RS.mono (Ab hb) k k cs d (Nat.le_refl _) hh)
structure FnD where
 ps:List Int
 body:List D
 res:D
def BV (fs:List FnD) (c:Int):FnD:=fs.getD c.toNat ⟨[],[],.agg []⟩
def Tm (v:Value) (ps:List Int):Prop:=ps.length<=maxLen/\∃ pa pc,v=O pa ps.length pc/\ps.length<=pc/\pc<=maxLen
def Bv (w:World) (K k:Nat) (v:Value) (fs:List FnD):Prop:=
 fs.length<=maxLen/\∃ ao cap,v=O ao fs.length cap/\(fs≠[]->∃ b off,ao=some ⟨b,off,none⟩/\∀ i (h:i < fs.length),∃ (vP vB x0 x1 x2:Value),
  w.cell? ⟨b,off+i*5,none⟩=some vP/\w.cell? ⟨b,off+i*5+1,none⟩=some vB/\w.cell? ⟨b,off+i*5+2,none⟩=some x0/\w.cell? ⟨b,off+i*5+3,none⟩=some x1/\w.cell? ⟨b,off+i*5+4,none⟩=some x2 /\
  AN w vP fs[i].ps/\Tm vP fs[i].ps/\Bj w K k vB fs[i].body/\RX w K [x0,x1,x2] fs[i].res)
theorem Bv.over {w w':World} {K k:Nat} {v:Value} {l:List FnD} (h:Bv w K k v l) (hb:Ov w w'):Bv w' K k v l:=by
 obtain ⟨B,J,cap,u,C⟩:=h;refine ⟨B,J,cap,u,fun f=>?_⟩;obtain ⟨b,off,p,g⟩:=C f;refine ⟨b,off,p,fun i hi=>?_⟩;obtain ⟨q,s,x0,x1,x2,I,H,G,F,E,A,e,y,t⟩:=g i hi;exact ⟨q,s,x0,x1,x2,Ab hb _ _ I,Ab hb _ _ H,Ab hb _ _ G,Ab hb _ _ F,Ab hb _ _ E,A.over hb,e,y.over hb,t.over hb⟩
def AW (w:World) (v:Value) (ls:List Lab):Prop:=
 ls.length<=maxLen/\∃ ao cap,v=O ao ls.length cap/\(ls≠[]->∃ b off,ao=some ⟨b,off,none⟩/\∀ i (h:i < ls.length),∃ (pr pw:Value),
  w.cell? ⟨b,off+i*2,none⟩=some pr/\w.cell? ⟨b,off+i*2+1,none⟩=some pw/\AL w pr ls[i].r/\AL w pw ls[i].w)
theorem AW.over {w w':World} {v:Value} {l:List Lab} (h:AW w v l) (hb:Ov w w'):AW w' v l:=by
 obtain ⟨t,B,cap,q,u⟩:=h;refine ⟨t,B,cap,q,fun e=>?_⟩;obtain ⟨b,off,g,f⟩:=u e;refine ⟨b,off,g,fun i hi=>?_⟩;obtain ⟨p,k,A,y,s,hw⟩:=f i hi;exact ⟨p,k,Ab hb _ _ A,Ab hb _ _ y,Ak s hb,Ak hw hb⟩
def Bs (w:World) (v:Value) (ls:List (Bool × Lab)):Prop:=
 ls.length<=maxLen/\∃ ao cap,v=O ao ls.length cap/\(ls≠[]->∃ b off,ao=some ⟨b,off,none⟩/\∀ i (h:i < ls.length),∃ (pr pw:Value),
  w.cell? ⟨b,off+i*3,none⟩=some (zg ls[i].1)/\w.cell? ⟨b,off+i*3+1,none⟩=some pr/\w.cell? ⟨b,off+i*3+2,none⟩=some pw/\AL w pr ls[i].2.r/\AL w pw ls[i].2.w)
theorem Bs.over {w w':World} {v:Value} {l:List (Bool × Lab)} (h:Bs w v l) (hb:Ov w w'):Bs w' v l:=by
 obtain ⟨t,C,cap,q,u⟩:=h;refine ⟨t,C,cap,q,fun e=>?_⟩;obtain ⟨b,off,g,f⟩:=u e;refine ⟨b,off,g,fun i hi=>?_⟩;obtain ⟨p,k,B,A,y,s,hw⟩:=f i hi;exact ⟨p,k,Ab hb _ _ B,Ab hb _ _ A,Ab hb _ _ y,Ak s hb,Ak hw hb⟩
def Ay (why:Int):Ending:=.panicked [{ v:=.iface 230 (zh #[zd U 0,zd U why]),recovered:=false }]
theorem Ny (why:Int) (w:World):Calls Tryz.prog 215 #[zd U 0,zg false,zd U why] w fun e w'=>e=Ay why/\w'=w:=by
 unfold Ay;go_enter Tryz.func215,Tryz.ntmps215;go_wp2_with fail;exact ⟨rfl,rfl,rfl⟩
theorem MP (why:Int) (w:World):Calls Tryz.prog 172 #[zg false,zd U why] w fun e w'=>e=Ay why/\w'=w:=by
 have K:=Aa fun W=>Ny why W;unfold Ay at K ⊢;go_enter Tryz.func172,Tryz.ntmps172;go_wp2_with fail;refine (K.o _).mono ?_;rintro e b ⟨rfl,rfl⟩;go_wp2_with fail;exact ⟨rfl,rfl,rfl⟩
def Tn (ok:Bool) (why:Int) (w:World) (e:Ending) (w':World):Prop:=(ok=true/\e=zj (zk #[])\/ok=false/\e=Ay why)/\w'=w
theorem BZ (ok:Bool) (why:Int) (w:World):Calls Tryz.prog 172 #[zg ok,zd U why] w (Tn ok why w):=by
 cases ok with
 | true=>exact (BO why w).mono fun e b h=>⟨Or.inl ⟨rfl,h.1⟩,h.2⟩
 | false=>exact (MP why w).mono fun e b h=>⟨Or.inr ⟨rfl,h.1⟩,h.2⟩
theorem Hb (why:Int) (w:World):Calls Tryz.prog 171 #[zd U why] w (Tn (why == 0) why w):=by
 by_cases h:why=0
 ·subst h
  exact (Qc w).mono fun e b h=>⟨Or.inl ⟨rfl,h.1⟩,h.2⟩
 ·have f:(why == 0)=false:=by simpa using h
  have K:=Aa fun W=>MP why W;have H:Calls Tryz.prog 171 #[zd U why] w fun e b=>e=Ay why/\b=w:=by
   unfold Ay at K ⊢;go_enter Tryz.func171,Tryz.ntmps171;go_wp2_with fail;refine (K.o _).mono ?_;rintro e g ⟨rfl,rfl⟩;go_wp2_with fail;exact ⟨rfl,rfl,rfl⟩
  exact H.mono fun e b h=>⟨Or.inr ⟨f,h.1⟩,h.2⟩
@[simp] theorem Ts (kd va ot:Int) (e:D) (ags ts es:List D):Ag (sD kd va ot e ags ts es)=kd:=rfl
@[simp] theorem Ty (kd va ot:Int) (e:D) (ags ts es:List D):Ap (sD kd va ot e ags ts es)=va:=rfl
@[simp] theorem S6 (kd va ot:Int) (e:D) (ags ts es:List D):Ae (sD kd va ot e ags ts es)=ot:=rfl
@[simp] theorem Tt (kd va ot:Int) (e:D) (ags ts es:List D):Am (sD kd va ot e ags ts es)=e:=rfl
@[simp] theorem Tv (kd va ot:Int) (e:D) (ags ts es:List D):Ai (sD kd va ot e ags ts es)=ags:=rfl
@[simp] theorem Tr (kd va ot:Int) (e:D) (ags ts es:List D):Aj (sD kd va ot e ags ts es)=ts:=rfl
@[simp] theorem Tu (kd va ot:Int) (e:D) (ags ts es:List D):Ao (sD kd va ot e ags ts es)=es:=rfl
abbrev sC (kd va ot ek en:Int) (xa:Option Addr) (xl xc:Nat) (aa:Option Addr) (al ac:Nat) (ta:Option Addr) (tl tc:Nat) (ea:Option Addr) (el ec:Nat):List Value:=
 [zd U kd,zd U va,zd U ot,zd U ek,zd U en,O xa xl xc,O aa al ac,O ta tl tc,O ea el ec]
theorem RS.form {w:World} {K k:Nat} {cs:List Value} {d:D} (h:RS w K (k+1) cs d) :
  ∃ (ek en:Int) (xa:Option Addr) (xl xc:Nat) (aa:Option Addr) (ac:Nat) (ta:Option Addr) (tc:Nat) (ea:Option Addr) (ec:Nat),
   cs=sC (Ag d) (Ap d) (Ae d) ek en xa xl xc aa (Ai d).length ac ta (Aj d).length tc ea (Ao d).length ec/\Cu (Ag d)/\Cu (Ap d)/\Cu (Ae d) /\
   RX w K [zd U ek,zd U en,O xa xl xc] (Am d)/\XS 3 (RX w K) w (O aa (Ai d).length ac) (Ai d)/\Bj w K k (O ta (Aj d).length tc) (Aj d)/\Bj w K k (O ea (Ao d).length ec) (Ao d) /\
   ek=AQ (Am d)/\en=Bk (Am d)/\xl=(A4 (Am d)).length:=by
 obtain ⟨E,va,C,x0,x1,x2,e,A,t,u,B,y,F,rfl,rfl,s,q,p,f,l,g,i⟩:=h;obtain ⟨xa,xc,b⟩:=f.form;simp only [List.cons.injEq,and_true] at b;obtain ⟨rfl,rfl,rfl⟩:=b;obtain ⟨aa,ac,rfl,-⟩:=l.2;obtain ⟨ta,tc,rfl,-⟩:=g.2;obtain ⟨ea,ec,rfl,-⟩:=i.2;exact ⟨_,_,xa,_,xc,aa,ac,ta,tc,ea,ec,rfl,s,q,p,f,l,g,i,rfl,rfl,rfl⟩
def CY:Nat->D->Nat
 | 0,_=>0
 | k+1,d=>1+((Aj d).map (CY k)).sum+((Ao d).map (CY k)).sum
def AI (k:Nat) (l:List D):Nat:=(l.map (CY k)).sum
theorem Gd {k:Nat} {l:List D} {j:Nat} (hj:j < l.length):AI k (l.take (j+1))=AI k (l.take j)+CY k l[j]:=by
 unfold AI;rw [List.take_succ_eq_append_getElem hj,List.map_append,List.sum_append];simp
theorem Bj.zero {w:World} {K:Nat} {v:Value} {l:List D} (h:Bj w K 0 v l):l=[]:=by
 cases l with
 | nil=>rfl
 | cons d l=>
  obtain ⟨-,i,cap,-,g⟩:=h;obtain ⟨b,off,-,e⟩:=g (by simp);obtain ⟨cs,-,-,f⟩:=e 0 d rfl;exact f.elim
def A2 (k:Nat) (fs:List FnD):Nat:=(fs.map fun f=>AI k f.body).sum
theorem DF {k:Nat} {l:List FnD} {j:Nat} (hj:j < l.length):A2 k (l.take (j+1))=A2 k (l.take j)+AI k l[j].body:=by
 unfold A2;rw [List.take_succ_eq_append_getElem hj,List.map_append,List.sum_append];simp
def Du (ok:Prop) (w:World) (e:Ending) (w':World):Prop:=((ok/\e=zj (zk #[]))\/∃ why:Int,why≠0/\e=Ay why)/\Ov w w'
theorem O2 (w:World):Calls Tryz.prog 243 #[zd U 1] w fun e w'=>e=zj (zk #[zh #[zg true,zg false,zg true,zg false,zg false,zg false],zg true])/\Ov w w':=by
 go_enter Tryz.func243,Tryz.ntmps243;go_wp2_with fail;exact bodyPost_ret (v:=zk #[zh #[zg true,zg false,zg true,zg false,zg false,zg false],zg true]) (by simp [results,Tryz.results243,go_sem]) rfl ⟨rfl,bA w _⟩
theorem O1 (w:World):Calls Tryz.prog 243 #[zd U 2] w fun e w'=>e=zj (zk #[zh #[zg true,zg true,zg false,zg true,zg false,zg false],zg true])/\Ov w w':=by
 go_enter Tryz.func243,Tryz.ntmps243;go_wp2_with fail;exact bodyPost_ret (v:=zk #[zh #[zg true,zg true,zg false,zg true,zg false,zg false],zg true]) (by simp [results,Tryz.results243,go_sem]) rfl ⟨rfl,bA w _⟩
theorem O0 (w:World):Calls Tryz.prog 243 #[zd U 3] w fun e w'=>e=zj (zk #[zh #[zg true,zg true,zg false,zg false,zg false,zg false],zg true])/\Ov w w':=by
 go_enter Tryz.func243,Tryz.ntmps243;go_wp2_with fail;exact bodyPost_ret (v:=zk #[zh #[zg true,zg true,zg false,zg false,zg false,zg false],zg true]) (by simp [results,Tryz.results243,go_sem]) rfl ⟨rfl,bA w _⟩
theorem OZ (w:World):Calls Tryz.prog 243 #[zd U 4] w fun e w'=>e=zj (zk #[zh #[zg false,zg true,zg true,zg false,zg false,zg false],zg true])/\Ov w w':=by
 go_enter Tryz.func243,Tryz.ntmps243;go_wp2_with fail;exact bodyPost_ret (v:=zk #[zh #[zg false,zg true,zg true,zg false,zg false,zg false],zg true]) (by simp [results,Tryz.results243,go_sem]) rfl ⟨rfl,bA w _⟩
theorem OY (w:World):Calls Tryz.prog 243 #[zd U 5] w fun e w'=>e=zj (zk #[zh #[zg true,zg false,zg true,zg false,zg false,zg false],zg true])/\Ov w w':=by
 go_enter Tryz.func243,Tryz.ntmps243;go_wp2_with fail;exact bodyPost_ret (v:=zk #[zh #[zg true,zg false,zg true,zg false,zg false,zg false],zg true]) (by simp [results,Tryz.results243,go_sem]) rfl ⟨rfl,bA w _⟩
theorem OX (w:World):Calls Tryz.prog 243 #[zd U 6] w fun e w'=>e=zj (zk #[zh #[zg true,zg false,zg true,zg false,zg false,zg false],zg true])/\Ov w w':=by
 go_enter Tryz.func243,Tryz.ntmps243;go_wp2_with fail;exact bodyPost_ret (v:=zk #[zh #[zg true,zg false,zg true,zg false,zg false,zg false],zg true]) (by simp [results,Tryz.results243,go_sem]) rfl ⟨rfl,bA w _⟩
theorem OV (w:World):Calls Tryz.prog 243 #[zd U 7] w fun e w'=>e=zj (zk #[zh #[zg false,zg false,zg true,zg false,zg true,zg true],zg true])/\Ov w w':=by
 go_enter Tryz.func243,Tryz.ntmps243;go_wp2_with fail;exact bodyPost_ret (v:=zk #[zh #[zg false,zg false,zg true,zg false,zg true,zg true],zg true]) (by simp [results,Tryz.results243,go_sem]) rfl ⟨rfl,bA w _⟩
theorem OU (w:World):Calls Tryz.prog 243 #[zd U 8] w fun e w'=>e=zj (zk #[zh #[zg false,zg false,zg true,zg false,zg true,zg false],zg true])/\Ov w w':=by
 go_enter Tryz.func243,Tryz.ntmps243;go_wp2_with fail;exact bodyPost_ret (v:=zk #[zh #[zg false,zg false,zg true,zg false,zg true,zg false],zg true]) (by simp [results,Tryz.results243,go_sem]) rfl ⟨rfl,bA w _⟩
theorem J0 (k:Int) (hk:¬ (1<=k/\k<=8)) (w:World):Calls Tryz.prog 243 #[zd U k] w fun e w'=>e=zj (zk #[zh #[zg false,zg false,zg false,zg false,zg false,zg false],zg false])/\Ov w w':=by
 have q:(k == 1)=false:=by simp;omega
 have p:(k == 2)=false:=by simp;omega
 have l:(k == 3)=false:=by simp;omega
 have i:(k == 4)=false:=by simp;omega
 have h:(k == 5)=false:=by simp;omega
 have g:(k == 6)=false:=by simp;omega
 have f:(k == 7)=false:=by simp;omega
 have b:(k == 8)=false:=by simp;omega
 clear hk;go_enter Tryz.func243,Tryz.ntmps243;go_wp2_with fail;exact bodyPost_ret (v:=zk #[zh #[zg false,zg false,zg false,zg false,zg false,zg false],zg false]) (by simp [results,Tryz.results243,go_sem]) rfl ⟨rfl,bA w _⟩
theorem Ci (k:Int) (funcs:Int) (m:Int) (ga gn gc sa sn sc ya yn yc oa on oc va vn vc fa fn fc ba bn bc) (w:World):Calls Tryz.prog 244 #[zh #[zd U m,O ga gn gc,O sa sn sc,O ya yn yc,O oa on oc,O va vn vc,O fa fn fc,O ba bn bc],zd U k,zd U funcs] w fun e w'=>e=zj (zd U (if k=2 then funcs else if k=3 then yn else on))/\Ov w w':=by
 have b:Ov w (w.alloc (ze #[zd U m,O ga gn gc,O sa sn sc,O ya yn yc,O oa on oc,O va vn vc,O fa fn fc,O ba bn bc] 184)):=bA w _;by_cases h2:k=2
 ·subst h2
  go_enter Tryz.func244,Tryz.ntmps244;go_wp2_with fail;go_ret;exact ⟨rfl,b⟩
 ·by_cases h3:k=3
  ·subst h3
   go_enter Tryz.func244,Tryz.ntmps244;go_wp2_with fail;go_ret;exact ⟨rfl,b⟩
  ·rw [if_neg h2,if_neg h3]
   go_enter Tryz.func244,Tryz.ntmps244;go_wp2_with fail;go_ret;exact ⟨rfl,b⟩
def Cx (K:Nat) (nv ni no:Nat) (funcs:Int) (fs:List FnD) (d:D):Prop:=
 (1<=Ag d/\Ag d<=8)/\((Ag d=1\/Ag d=2\/Ag d=3\/Ag d=5\/Ag d=6)->0<=Ap d/\Ap d < nv) /\
 (Ag d=2->(0<=Ae d/\Ae d < funcs)/\(∀ f,fs[(Ae d).toNat]? = some f->f.ps.length=(Ai d).length)/\∀ a∈Ai d,AU nv K a=0) /\
 (Ag d=3->0<=Ae d/\Ae d < ni)/\((Ag d=1\/4<=Ag d)->AU nv K (Am d)=0)/\((Ag d=2\/Ag d=3)->AQ (Am d)=0/\A4 (Am d)=[])/\(Ag d=4->0<=Ae d/\Ae d < no)
def okS (K:Nat) (nv ni no:Nat) (funcs:Int) (fs:List FnD):Nat->D->Prop
 | 0,_=>False
 | k+1,d=>Cx K nv ni no funcs fs d/\(∀ s∈Aj d,okS K nv ni no funcs fs k s)/\∀ s∈Ao d,okS K nv ni no funcs fs k s
theorem Du.imp {p q:Prop} {w:World} {e:Ending} {w':World} (h:Du p w e w') (hpq:p->q):Du q w e w':=by
 obtain ⟨h,g⟩:=h;refine ⟨?_,g⟩;rcases h with ⟨b,f⟩ | h
 ·exact Or.inl ⟨hpq b,f⟩
 ·exact Or.inr h
theorem Bv.mono {w:World} {K k m:Nat} {v:Value} {l:List FnD} (h:Bv w K k v l) (hkm:k<=m):Bv w K m v l:=by
 obtain ⟨E,M,cap,A,F⟩:=h;refine ⟨E,M,cap,A,fun f=>?_⟩;obtain ⟨b,off,s,p⟩:=F f;refine ⟨b,off,s,fun i hi=>?_⟩;obtain ⟨t,u,x0,x1,x2,L,J,I,H,G,C,e,B,y⟩:=p i hi;exact ⟨t,u,x0,x1,x2,L,J,I,H,G,C,e,XS.mono B (fun _ _ g=>g) (fun cs d _ g=>RS.mono (fun _ _ q=>q) k m cs d hkm g),y⟩
theorem AN.prefix {w:World} {ao:Option Addr} {cap:Nat} {vs:List Int} (h:AN w (O ao vs.length cap) vs) {i:Nat} (hi:i<=vs.length) (c:Nat):AN w (O ao i c) (vs.take i):=by
 obtain ⟨A,y,p,q⟩:=h;injection p with s u t;subst s;refine ⟨ao,c,by simp [Nat.min_eq_left hi],fun e=>?_⟩;obtain ⟨b,off,k,g⟩:=q (by rintro rfl;simp at e);refine ⟨b,off,k,fun j l=>?_⟩;have f:j < vs.length:=by simp at l;omega
 rw [List.getElem_take];exact g j f
def okF (K:Nat) (nv ni no:Nat) (ahead:Int) (fs:List FnD) (k:Nat) (f:FnD):Prop:=
 f.ps.length<=4/\(∀ p∈f.ps,0<=p/\p < nv)/\(∀ s∈f.body,okS K nv ni no ahead fs k s)/\AU nv K f.res=0
end Go.Proofs.YtfffpjkcfnekaaaGreat.Ex
namespace Go.Proofs.YtfffpjkcfnekaaaGreat
open Go.RowKit
open Go.Value renaming slice -> O, int -> zd, bool -> zg, agg -> zh, pointer -> zi, tuple -> zk
open Go.IntKind renaming i64 -> U
open Go.Obj renaming cells -> ze
open Go.Ending renaming returned -> zj
theorem Im {α:Type} (l:List α) (k:Nat) (x:α) (h:k < l.length):(l.set k x).take (k+1)=l.take k++[x]:=by
 rw [List.take_succ_eq_append_getElem (by simpa using h)];simp only [List.take_set,List.getElem_set_self];rw [List.set_eq_of_length_le (by simp;omega)]
def Ew (f:Nat->Bool) (g n k:Nat) (W:World):Prop:=∃ cur:List Value,cur.length=n/\cur.take k=AB (BI f k)/\W.heap[g]? = some (.cells cur.toArray 4 (0,0))
theorem Lb {f:Nat->Bool} {g n k:Nat} {W W':World} (h:Ew f g n k W) (hb:Ov W W'):Ew f g n k W':=by
 obtain ⟨b,l,i,e⟩:=h;exact ⟨b,l,i,by rw [hb.block g (Array.getElem?_eq_some_iff.1 e).1];exact e⟩
theorem Mb {f:Nat->Bool} {g n k:Nat} {W:World} (h:Ew f g n k W) (hk:k < n):Ew f g n (k+1) (W.setCell ⟨g,k,none⟩ (zg (f k))):=by
 obtain ⟨b,l,i,e⟩:=h;refine ⟨b.set k (zg (f k)),by simpa using l,?_,?_⟩
 ·rw [Im _ _ _ (by omega),i,Fd]
  simp [AB]
 ·have:=heap_setCell_same W g k _ 4 (zg (f k)) e
  simpa using this
theorem Lc {f:Nat->Bool} {g n k j:Nat} {W:World} (h:Ew f g n k W) (hj:j < n):(∃ u,W.cell? ⟨g,j,none⟩=some u)/\W.frozen? ⟨g,j,none⟩=false:=by
 obtain ⟨b,i,l,e⟩:=h;refine ⟨⟨b[j]'(by omega),?_⟩,?_⟩
 ·simp [World.cell?,e,i,hj]
 ·simp [World.frozen?,e]
theorem Mc {f:Nat->Bool} {g n B:Nat} {W:World} (h:Ew f g n n W) (hn:n<=6) (hg:B<=g):W.ownsRow B 4 1 (O (some ⟨g,0,none⟩) n n) n (AB (BI f n)):=by
 obtain ⟨b,k,i,e⟩:=h;refine ⟨by simp [AB,AH],Or.inr ⟨g,n,b.toArray,rfl,hg,e,Nat.le_refl _,by unfold maxLen;omega,by simp [k],?_⟩⟩;rw [Nat.mul_one];exact i
theorem EC (F:FuncId) (c1 c2:Value) (f:Nat->Bool) (n:Nat) (h1:1<=n) (hn:n<=6) (s:Value) (w:World)
  (hF:Hx (∀ (k:Nat),k < n->∀ W:World,Ov w W->Calls Tryz.prog F #[zd U k,c1,c2] W fun e w2=>e=zj (zg (f k))/\Ov W w2))
  (hC:∀ (args:Array Value) (w:World),(callFunc F args).run Tryz.prog w=.ok (.enter F args) w) :
  Calls Tryz.prog 70 #[zh #[zd U n,s],.func (.func F) #[] #[c1,c2]] w fun e w'=>∃ g,e=zj (O (some ⟨g,0,none⟩) n n)/\w.heap.size<=g/\g < w'.heap.size/\w'.ownsRow w.heap.size 4 1 (O (some ⟨g,0,none⟩) n n) n (AB (BI f n))/\Ov w w':=by
 have H:=fun w=>Dx n hn w;have y:Ew f (w.heap.size+1) n 0 ((w.alloc (ze #[zd U n,s] 24)).alloc (.cells (List.replicate n (Value.bool false)).toArray 4)):=by
  refine ⟨List.replicate n (zg false),by simp,by simp [BI,AB],?_⟩;have:=heap_alloc_new (w.alloc (ze #[zd U n,s] 24)) (.cells (List.replicate n (Value.bool false)).toArray 4);simpa using this
 have l:Ov w ((w.alloc (ze #[zd U n,s] 24)).alloc (.cells (List.replicate n (Value.bool false)).toArray 4)):=(bA w _).alloc (by simp) _;have G:=Aa y;have P:=Aa l;clear y l;go_enter Tryz.func70,Tryz.ntmps70;go_wp2_with fail;go_loopw [12] (fun i wr=>∃ k:Nat,k<=n/\i=zd U k/\Ew f (w.heap.size+1) n k wr/\Ov w wr) (fun i _=>n - (intOf i).toNat)
 case atStart=>exact ⟨0,Nat.zero_le _,rfl,by simpa using G.o,by simpa using P.o⟩
 case round=>
  clear G P H;obtain ⟨k,hk,rfl,b,h⟩:=hrel;by_cases hkn:k < n
  ·have N:=Aa (hF.o k hkn _ h)
   go_wp2_with fail;refine (N.o).mono ?_;rintro e w2 ⟨rfl,t⟩;have q:=Lb b t;have E:=h.trans (t.mono h.size);obtain ⟨⟨u,V⟩,T⟩:=Lc q hkn;have A:=Mb q hkn;have C:=E.setCell (p:=⟨w.heap.size+1,k,none⟩) (by simp) (zg (f k));have L:=Aa A;have M:=Aa C;clear b q t E A C N h;go_wp2_with fail;exact ⟨⟨k+1,by omega,by go_num,L.o,M.o⟩,by simp [intOf];omega⟩
  ·have J:k=n:=by omega
   subst J;have I:w.heap.size+1 < wr.heap.size:=by obtain ⟨R,_,_,Q⟩:=b;exact (Array.getElem?_eq_some_iff.1 Q).1
   have S:=Aa (Mc b hn (B:=w.heap.size) (by omega));clear b hF;go_wp2_with fail;go_ret;exact ⟨w.heap.size+1,rfl,by omega,I,S.o,h⟩
def BW (w:World) (v:Value) (ls:List Lev):Prop:=
 ∃ ao cap,v=O ao ls.length cap/\(ls≠[]->∃ b off,ao=some ⟨b,off,none⟩/\∀ i (h:i < ls.length),∃ rv wv,w.cell? ⟨b,off+i*2,none⟩=some rv/\w.cell? ⟨b,off+i*2+1,none⟩=some wv/\A3 w (zh #[rv,wv]) ls[i])
theorem CH {w w':World} {v:Value} {ls:List Lev} (h:BW w v ls) (hb:Ov w w'):BW w' v ls:=by
 obtain ⟨s,cap,rfl,p⟩:=h;refine ⟨s,cap,rfl,fun e=>?_⟩;obtain ⟨b,off,rfl,f⟩:=p e;refine ⟨b,off,rfl,fun i hi=>?_⟩;obtain ⟨rv,l,k,g,q⟩:=f i hi;exact ⟨rv,l,by rw [(An hb).1 _ _ (bL k)];exact k,by rw [(An hb).1 _ _ (bL g)];exact g,AK q hb⟩
theorem I1 {w:World} {v:Value} {ls:List Lev} (h:BW w v ls) {i:Nat} (hi:i < ls.length):∃ b off cap rv wv,v=O (some ⟨b,off,none⟩) ls.length cap/\w.cell? ⟨b,off+i*2,none⟩=some rv/\w.cell? ⟨b,off+i*2+1,none⟩=some wv/\A3 w (zh #[rv,wv]) ls[i]:=by
 obtain ⟨p,cap,rfl,f⟩:=h;obtain ⟨b,off,rfl,e⟩:=f (by rintro rfl;simp at hi);obtain ⟨rv,wv,l,k,g⟩:=e i hi;exact ⟨b,off,cap,rv,wv,rfl,l,k,g⟩
def B0 (m:Int):List Lev->Int
 | []=>0
 | l::ls=>if CN m l=0 then B0 m ls else CN m l
theorem Iw {m:Int} {ls:List Lev} {k:Nat} (hk:k < ls.length):B0 m (ls.drop k)=if CN m ls[k]=0 then B0 m (ls.drop (k+1)) else CN m ls[k]:=by
 rw [List.drop_eq_getElem_cons hk];rfl
def Gg (m:Int) (gs:List (Int × Int)) (ls:List Lev):Int:=if AR m gs=0 then B0 m ls else AR m gs
theorem DT (m:Int) (l:Lev):(CN m l=0/\((l.r.length:Int)=m/\(l.w.length:Int)=m))\/(CN m l=1/\((l.r.length:Int)≠m\/((l.r.length:Int)=m/\(l.w.length:Int)≠m))):=by
 unfold CN;by_cases h:(l.r.length:Int)=m/\(l.w.length:Int)=m
 ·exact Or.inl ⟨if_pos h,h⟩
 ·refine Or.inr ⟨if_neg h,?_⟩
  by_cases h1:(l.r.length:Int)=m
  ·exact Or.inr ⟨h1,fun b=>h ⟨h1,b⟩⟩
  ·exact Or.inl h1
theorem FM (m:Int) (v vs:Value) (gs ls) (w:World) (hv:AA w v gs) (hl:BW w vs ls) (hn:ls.length<=2) :
  Calls Tryz.prog 59 #[zh #[zd U m,v],vs] w fun e w'=>e=zj (zd U (Gg m gs ls))/\Ov w w':=by
 have l:Ov w (w.alloc (ze #[zd U m,v] 24)):=bA w _;have Q:=check_any m v gs (w.alloc (ze #[zd U m,v] 24)) (Af hv l);have P:Gg m gs ls=if AR m gs=0 then B0 m ls else AR m gs:=rfl;have HL:=Aa hl;obtain ⟨ao,cap,rfl,-⟩:=hl;obtain ⟨r,Z⟩:=nm (AR m gs);rw [<-Z] at Q P;obtain ⟨va,vn,vc,rfl⟩:=CK hv;have HC:=Aa Q;have J:=Aa P;clear Q P Z hv;go_enter Tryz.func59,Tryz.ntmps59;go_wp2_with fail;refine (HC.o).mono ?_;rintro e T ⟨rfl,A⟩;have c0:T.cell? ⟨w.heap.size,0,none⟩=some (zd U m):=by rw [(An A).1 _ _ (by simp)];simp [go_sem]
 have C:Ov w T:=l.trans (A.mono (by simp));clear HC A l;by_cases hr0:r=0
 ·subst hr0
  go_wp2_with fail;go_loopw [15] (fun i wr=>∃ k:Nat,k<=ls.length/\i=zd U k/\B0 m ls=B0 m (ls.drop k)/\Ov w wr/\wr.cell? ⟨w.heap.size,0,none⟩=some (zd U m)) (fun i _=>ls.length - (intOf i).toNat)
  case atStart=>exact ⟨0,Nat.zero_le _,rfl,rfl,C,c0⟩
  case round=>
   clear C c0;obtain ⟨k,hk,rfl,q,h,c0⟩:=hrel;by_cases hkl:k < ls.length
   ·obtain ⟨b,off,ab,rv,wv,M,q0,q1,q2⟩:=I1 (CH HL.o h) hkl
    injection M with S R e3;subst S e3;clear R;have f:=Iw (m:=m) hkl;rw [<-q] at f;have F:=DT m ls[k];obtain ⟨x,y,E,⟨a1,W,S,-⟩,⟨a2,V,R,-⟩⟩:=q2;obtain ⟨rfl,rfl⟩:rv=x/\wv=y:=by simpa using E
    subst S R;obtain ⟨n1,u⟩:=nm (ls[k].r.length);obtain ⟨I,t⟩:=nm (ls[k].w.length);rw [<-u,<-t] at F;rw [<-u] at q0;rw [<-t] at q1;have L:=bL c0;have B:Ov wr (wr.alloc (ze #[O a1 n1 W,O a2 I V] 50)):=bA wr _;have g:=h.trans (B.mono h.size);have d0:(wr.alloc (ze #[O a1 n1 W,O a2 I V] 50)).cell? ⟨w.heap.size,0,none⟩=some (zd U m):=by rw [(An B).1 _ _ L];exact c0
    have D0:=Aa d0;clear E u t q d0 B h;rcases F with ⟨p,s,G⟩ | ⟨p,s | ⟨s,G⟩⟩
    ·rw [p] at f
     have H:=Aa f;have b1:((n1:Int) != m)=false:=by simp [s]
     have b2:((I:Int) != m)=false:=by simp [G]
     clear p f s G;go_wp2_with fail;exact ⟨⟨k+1,by omega,by go_num,by rw [H.o];simp,g,D0.o⟩,by simp [intOf];omega⟩
    ·rw [p] at f
     have H:=Aa f;have b1:((n1:Int) != m)=true:=by simpa using s
     clear p f s;go_wp2_with fail;go_ret;exact ⟨by rw [J.o,H.o];simp,g⟩
    ·rw [p] at f
     have H:=Aa f;have b1:((n1:Int) != m)=false:=by simp [s]
     have b2:((I:Int) != m)=true:=by simpa using G
     clear p f s G;go_wp2_with fail;go_ret;exact ⟨by rw [J.o,H.o];simp,g⟩
   ·have N:k=ls.length:=by omega
    have p:B0 m ls=0:=by rw [q,N,List.drop_length];rfl
    have HZ:=Aa p;clear p q c0;go_wp2_with fail;go_ret;exact ⟨by rw [J.o,HZ.o];simp,h⟩
 ·have ak:(r != 0)=true:=by simpa using hr0
  go_wp2_with fail;go_ret;exact ⟨by rw [J.o];simp [hr0],C⟩
def C0 (a b:List Bool) (n:Nat):Bool:=(List.range n).all fun i=>!((a[i]?.getD false) && !(b[i]?.getD false))
theorem Jd (l m:Lev) (n:Nat):(C0 m.r l.r n && C0 l.w m.w n)=Av l m n:=by
 rw [Bool.eq_iff_iff,BL];simp only [C0,Bool.and_eq_true,List.all_eq_true,List.mem_range];constructor
 ·rintro ⟨f,e⟩ i hi
  have a:=f i hi;have b:=e i hi;revert a b;cases m.r[i]?.getD false <;> cases l.r[i]?.getD false <;> cases l.w[i]?.getD false <;> cases m.w[i]?.getD false <;> simp
 ·intro h
  refine ⟨fun i hi=>?_,fun i hi=>?_⟩ <;> have a:=h i hi <;> revert a <;> cases m.r[i]?.getD false <;> cases l.r[i]?.getD false <;> cases l.w[i]?.getD false <;> cases m.w[i]?.getD false <;> simp
theorem GU (va vb:Value) (a b:List Bool) (n:Nat) (w:World) (h0:1<=n) (hn:n<=6) (ha:AJ w va a) (hb:AJ w vb b) (hla:a.length=n) (hlb:b.length=n) :
  Calls Tryz.prog 60 #[va,vb] w fun e w'=>e=zj (zg (C0 a b n))/\Ov w w':=by
 obtain ⟨J,G,c1,rfl,q⟩:=CI ha hla h0;obtain ⟨I,F,H,rfl,p⟩:=CI hb hlb h0;have A:=Aa q;have u:=Aa p;clear q p ha hb hla hlb;go_enter Tryz.func60,Tryz.ntmps60;go_wp2_with fail
 go_loop [9] (fun i=>∃ k:Nat,k<=n/\i=zd U k/\(List.range k).all (fun i=>!((a[i]?.getD false) && !(b[i]?.getD false)))=true) (fun i=>n - (intOf i).toNat)
 case atStart=>exact ⟨0,Nat.zero_le _,rfl,rfl⟩
 case round=>
  obtain ⟨k,hk,rfl,l⟩:=hrel;by_cases hkn:k < n
  ·have q:=A.o k hkn
   have p:=u.o k hkn;have g:(!((a[k]?.getD false) && !(b[k]?.getD false)))=true->(List.range (k+1)).all (fun i=>!((a[i]?.getD false) && !(b[i]?.getD false)))=true:=fun h=>by
    rw [List.range_succ,List.all_append,l];simpa using h
   have f:(!((a[k]?.getD false) && !(b[k]?.getD false)))=false->C0 a b n=false:=fun h=>by
    unfold C0;rw [List.all_eq_false];exact ⟨k,List.mem_range.2 hkn,by simpa using h⟩
   generalize a[k]?.getD false=x at q g f;generalize b[k]?.getD false=y at p g f;have C:=Aa g;have B:=Aa f;clear g f l;cases x <;> cases y
   all_goals go_wp2_with fail
   all_goals first
    | exact ⟨⟨k+1,by omega,by go_num,C.o (by first | rfl | trivial)⟩,by simp [intOf];omega⟩
    | (go_ret;exact ⟨by rw [B.o (by first | rfl | trivial)];rfl,Below.refl _ w⟩)
  ·have s:k=n:=by omega
   have t:C0 a b n=true:=by unfold C0;rw [<-s];exact l
   have E:=Aa t;clear t l;go_wp2_with fail;go_ret;exact ⟨by rw [E.o];rfl,Below.refl _ w⟩
theorem LW {W:World} {b:Nat} {rv wv:Value} {l:Lev} (h0:W.cell? ⟨b,0,none⟩=some rv) (h1:W.cell? ⟨b,1,none⟩=some wv) (hl:A3 W (zh #[rv,wv]) l):BW W (O (some ⟨b,0,none⟩) 1 1) [l]:=by
 refine ⟨_,1,rfl,fun _=>⟨b,0,rfl,fun i hi=>?_⟩⟩;have:i=0:=by simp at hi;omega
 subst this;exact ⟨rv,wv,by simpa using h0,by simpa using h1,hl⟩
theorem LU {W:World} {b:Nat} {rv wv ru wu:Value} {l k:Lev} (h0:W.cell? ⟨b,0,none⟩=some rv) (h1:W.cell? ⟨b,1,none⟩=some wv) (h2:W.cell? ⟨b,2,none⟩=some ru) (h3:W.cell? ⟨b,3,none⟩=some wu) (hl:A3 W (zh #[rv,wv]) l) (hk:A3 W (zh #[ru,wu]) k):BW W (O (some ⟨b,0,none⟩) 2 2) [l,k]:=by
 refine ⟨_,2,rfl,fun _=>⟨b,0,rfl,fun i hi=>?_⟩⟩;have:i=0\/i=1:=by simp at hi;omega
 rcases this with rfl | rfl
 ·exact ⟨rv,wv,by simpa using h0,by simpa using h1,hl⟩
 ·exact ⟨ru,wu,by simpa using h2,by simpa using h3,hk⟩
theorem Mv (m:Int) (gs) (l:Lev):Gg m gs [l]=Dn m gs l:=by
 unfold Gg Dn B0 B0;split
 ·split
  ·rename_i h;rw [h]
  ·rfl
 ·rfl
theorem Mu (m:Int) (gs) (l k:Lev):Gg m gs [l,k]=Fj m gs l k:=by
 unfold Gg Fj Dn B0 B0 B0;by_cases hc:AR m gs=0
 ·simp only [if_pos hc]
  by_cases h1:CN m l=0
  ·simp only [if_pos h1]
   by_cases h2:CN m k=0
   ·simp [h2]
   ·simp [h2]
  ·simp [h1]
 ·simp [hc]
theorem Eh {w:World} {v:Value} {l:Lev} (h:A3 w v l):∃ a1 c1 a2 c2,v=zh #[O a1 l.r.length c1,O a2 l.w.length c2]:=by
 obtain ⟨e,b,rfl,⟨a1,g,rfl,-⟩,⟨a2,f,rfl,-⟩⟩:=h;exact ⟨_,_,_,_,rfl⟩
theorem Tw:QQ:=by
 intro m v s vl l w h hl;have B:=Aa hl;obtain ⟨u,p,t,k,rfl⟩:=Eh hl;have A:=Aa h;obtain ⟨va,vn,vc,rfl⟩:=CK h;have f:Ov w (((w.alloc (ze #[zd U m,O va vn vc] 24)).alloc (ze #[O u l.r.length p,O t l.w.length k] 50)).alloc (ze #[O u l.r.length p,O t l.w.length k] 50)):=((bA w _).alloc (by simp) _).alloc (by simp;omega) _;have b:=FM m (O va vn vc) (O (some ⟨w.heap.size+1+1,0,none⟩) 1 1) s [l] _ (Af A.o f) (LW (by simp [go_sem]) (by simp [go_sem]) (AK B.o f)) (by simp);rw [Mv] at b;obtain ⟨r,q⟩:=nm (Dn m s l);rw [<-q] at b ⊢;have y:=Aa b;clear hl h b q;go_enter Tryz.func49,Tryz.ntmps49;go_wp2_with fail;refine (y.o).mono ?_;rintro e C ⟨rfl,g⟩;have i:=f.trans (g.mono (by simp;omega));clear y g f;go_wp2_with fail;go_ret;exact ⟨rfl,i⟩
theorem MV {m:Int} {gs:List (Int × Int)} {l k:Lev} (h:Fj m gs l k=0):∃ n:Nat,m=n/\1<=n/\n<=6/\l.len n/\k.len n/\AR m gs=0:=by
 unfold Fj at h;split at h
 ·rename_i b
  have e:AR m gs=0:=by
   unfold Dn at h;split at h
   ·assumption
   ·exact h
  obtain ⟨n,f,p,i,_⟩:=Dr e;unfold Dn at h b;rw [if_pos e] at h b;rcases DT m l with ⟨_,u,t⟩ | ⟨g,_⟩
  ·rcases DT m k with ⟨_,s,q⟩ | ⟨g,_⟩
   ·exact ⟨n,f,p,i,⟨by omega,by omega⟩,⟨by omega,by omega⟩,e⟩
   ·rw [g] at h;cases h
  ·rw [g] at b;cases b
 ·rename_i b
  exact absurd h b
theorem PP (w:World) (m:Int) (gs) (v:Value) (x y z u:Value) (l k) (hv:AA w v gs) (hl:A3 w (zh #[x,y]) l) (hk:A3 w (zh #[z,u]) k) (W:World) (b:Nat) (hb:Ov w W)
  (h0:W.cell? ⟨b,0,none⟩=some x) (h1:W.cell? ⟨b,1,none⟩=some y) (h2:W.cell? ⟨b,2,none⟩=some z) (h3:W.cell? ⟨b,3,none⟩=some u) :
  Calls Tryz.prog 59 #[zh #[zd U m,v],O (some ⟨b,0,none⟩) 2 2] W fun e w'=>e=zj (zd U (Fj m gs l k))/\Ov W w':=by
 have f:=FM m v (O (some ⟨b,0,none⟩) 2 2) gs [l,k] W (Af hv hb) (LU h0 h1 h2 h3 (AK hl hb) (AK hk hb)) (by simp);rw [Mu] at f;exact f
theorem QF:QW:=by
 intro m v gs vl vk l k w hv hl hk;have HL:=Aa hl;have HK:=Aa hk;have HV:=Aa hv;obtain ⟨a1,V,P,L,rfl⟩:=Eh hl;obtain ⟨Z,T,N,J,rfl⟩:=Eh hk;obtain ⟨va,vn,vc,rfl⟩:=CK hv;have p:Ov w ((((w.alloc (ze #[zd U m,O va vn vc] 24)).alloc (ze #[O a1 l.r.length V,O P l.w.length L] 50)).alloc (ze #[O Z k.r.length T,O N k.w.length J] 50)).alloc (ze #[O a1 l.r.length V,O P l.w.length L,O Z k.r.length T,O N k.w.length J] 50)):=(((bA w _).alloc (by simp) _).alloc (by simp;omega) _).alloc (by simp;omega) _;have f:=PP w m gs (O va vn vc) _ _ _ _ l k HV.o HL.o HK.o _ (w.heap.size+1+1+1) p (by simp [go_sem]) (by simp [go_sem]) (by simp [go_sem]) (by simp [go_sem]);have hW:=fun (n:Nat) (I:1<=n) (H:n<=6) (g:l.len n) (i:k.len n) (W:World) (M:Ov w W)=>GU (O Z k.r.length T) (O a1 l.r.length V) k.r l.r n W I H (by obtain ⟨_,_,e,h,_⟩:=HK.o;obtain ⟨rfl,rfl⟩:=(by simpa using e:_/\_);exact AF h M) (by obtain ⟨_,_,e,h,_⟩:=HL.o;obtain ⟨rfl,rfl⟩:=(by simpa using e:_/\_);exact AF h M) i.1 g.1;have hX:=fun (n:Nat) (I:1<=n) (H:n<=6) (g:l.len n) (i:k.len n) (W:World) (M:Ov w W)=>GU (O P l.w.length L) (O N k.w.length J) l.w k.w n W I H (by obtain ⟨_,_,e,_,h⟩:=HL.o;obtain ⟨rfl,rfl⟩:=(by simpa using e:_/\_);exact AF h M) (by obtain ⟨_,_,e,_,h⟩:=HK.o;obtain ⟨rfl,rfl⟩:=(by simpa using e:_/\_);exact AF h M) g.2 i.2;have F:=fun h=>MV (m:=m) (gs:=gs) (l:=l) (k:=k) h;obtain ⟨r,hr⟩:=nm (Fj m gs l k);rw [<-hr] at f F ⊢;have HC:=Aa f;have KW:=Aa hW;have KX:=Aa hX;have R:=Aa F;clear hl hk hv f hW hX F hr;go_enter Tryz.func16,Tryz.ntmps16;go_wp2_with fail;refine (HC.o).mono ?_;rintro e S ⟨rfl,G⟩;have b:=p.trans (G.mono (by simp;omega));obtain ⟨u,hf⟩:=An G;have c0:S.cell? ⟨w.heap.size+1,0,none⟩=some (O a1 l.r.length V):=by rw [u _ _ (by simp <;> omega)];simp [go_sem]
 have c1:S.cell? ⟨w.heap.size+1,1,none⟩=some (O P l.w.length L):=by rw [u _ _ (by simp <;> omega)];simp [go_sem]
 have c2:S.cell? ⟨w.heap.size+1+1,0,none⟩=some (O Z k.r.length T):=by rw [u _ _ (by simp <;> omega)];simp [go_sem]
 have c3:S.cell? ⟨w.heap.size+1+1,1,none⟩=some (O N k.w.length J):=by rw [u _ _ (by simp <;> omega)];simp [go_sem]
 clear u hf G p HC;by_cases hr0:r=0
 ·subst hr0
  obtain ⟨n,hm,I,H,g,i,ae⟩:=R.o (by first | rfl | trivial);subst hm;have E:=KW.o n I H g i;have C:=KX.o n I H g i;have t:=Jd l k n;obtain ⟨x,hx⟩:=nm (C0 k.r l.r n);obtain ⟨y,hy⟩:=nm (C0 l.w k.w n);rw [<-hx] at E t;rw [<-hy] at C t;have A:Av l k n=(x && y):=t.symm;have B:=Aa A;have Q:=Aa E;have ah:=Aa C;clear E C t hx hy A KW KX R ae
  cases x with
  | false=>
   go_wp2_with fail;refine (Q.o _ b).mono ?_;rintro e w2 ⟨rfl,q⟩;have s:=b.trans (q.mono b.size);clear q;go_wp2_with fail
   go_ret2
   exact ⟨by rw [B.o];simp,s⟩
  | true=>
   go_wp2_with fail;refine (Q.o _ b).mono ?_;rintro e w2 ⟨rfl,q⟩;have s:=b.trans (q.mono b.size);obtain ⟨u,hf⟩:=An q;have d1:w2.cell? ⟨w.heap.size+1,1,none⟩=some (O P l.w.length L):=by rw [u _ _ (bL c1)];exact c1
   have d3:w2.cell? ⟨w.heap.size+1+1,1,none⟩=some (O N k.w.length J):=by rw [u _ _ (bL c3)];exact c3
   clear q u hf c0 c1 c2 c3 b;go_wp2_with fail;refine (ah.o _ s).mono ?_;rintro e w3 ⟨rfl,p⟩;have af:=s.trans (p.mono s.size);clear p d1 d3;go_wp2_with fail
   go_ret2
   exact ⟨by rw [B.o];simp,af⟩
 ·have au:(r != 0)=true:=by simpa using hr0
  go_wp2_with fail
  go_ret2
  exact ⟨by simp [hr0],b⟩
theorem SF (args:Array Value) (w:World):(callFunc 105 args).run Tryz.prog w=.ok (.enter 105 args) w:=by simp [go_sem]
theorem NI (bl bm n k b1 o1 c1 b2 o2 c2:Nat) (x y:Bool) (W:World) (hk:k < n) (hn:n<=6) (h1:W.cell? ⟨bl,0,none⟩=some (O (some ⟨b1,o1,none⟩) n c1)) (h2:W.cell? ⟨bm,0,none⟩=some (O (some ⟨b2,o2,none⟩) n c2))
  (q1:W.cell? ⟨b1,o1+k,none⟩=some (zg x)) (q2:W.cell? ⟨b2,o2+k,none⟩=some (zg y)) :
  Calls Tryz.prog 105 #[zd U k,zi (some ⟨bl,0,none⟩),zi (some ⟨bm,0,none⟩)] W fun e w'=>e=zj (zg (x && y))/\Ov W w':=by
 cases x;all_goals
  go_enter Tryz.func105,Tryz.ntmps105;go_wp2_with fail;go_ret;exact ⟨by simp,Below.refl _ W⟩
theorem SE (args:Array Value) (w:World):(callFunc 106 args).run Tryz.prog w=.ok (.enter 106 args) w:=by simp [go_sem]
theorem NH (bl bm n k b1 o1 c1 b2 o2 c2:Nat) (x y:Bool) (W:World) (hk:k < n) (hn:n<=6) (h1:W.cell? ⟨bl,1,none⟩=some (O (some ⟨b1,o1,none⟩) n c1)) (h2:W.cell? ⟨bm,1,none⟩=some (O (some ⟨b2,o2,none⟩) n c2))
  (q1:W.cell? ⟨b1,o1+k,none⟩=some (zg x)) (q2:W.cell? ⟨b2,o2+k,none⟩=some (zg y)) :
  Calls Tryz.prog 106 #[zd U k,zi (some ⟨bl,0,none⟩),zi (some ⟨bm,0,none⟩)] W fun e w'=>e=zj (zg (x || y))/\Ov W w':=by
 cases x;all_goals
  go_enter Tryz.func106,Tryz.ntmps106;go_wp2_with fail;go_ret;exact ⟨by simp,Below.refl _ W⟩
attribute [local go_sem ↓] Go.wp_at_zero Go.wp_at_succ
theorem RB {B:Nat} {wB W W':World} {b o0 o1:Nat} {v0 v1:Value} (h:W.cell? ⟨b,o0,none⟩=some v0/\W.cell? ⟨b,o1,none⟩=some v1/\Below B wB W) (hb:Ov W W') (hB:B<=wB.heap.size):W'.cell? ⟨b,o0,none⟩=some v0/\W'.cell? ⟨b,o1,none⟩=some v1/\Below B wB W':=by
 obtain ⟨i,g,f⟩:=h;obtain ⟨e,k⟩:=An hb;exact ⟨by rw [e _ _ (bL i)];exact i,by rw [e _ _ (bL g)];exact g,f.trans (hb.mono (Nat.le_trans hB f.size))⟩
theorem S5 {B:Nat} {wB W:World} {b o0 o1:Nat} {v0 v1:Value} (h:W.cell? ⟨b,o0,none⟩=some v0/\W.cell? ⟨b,o1,none⟩=some v1/\Below B wB W) (hb:b < B) {p:Addr} (hp:B<=p.block) (u:Value):(W.setCell p u).cell? ⟨b,o0,none⟩=some v0/\(W.setCell p u).cell? ⟨b,o1,none⟩=some v1/\Below B wB (W.setCell p u):=by
 obtain ⟨i,g,f⟩:=h;have e:∀ o,(W.setCell p u).cell? ⟨b,o,none⟩=W.cell? ⟨b,o,none⟩:=fun o=>World.cell?_setCell_other _ _ _ _ (by rintro rfl;simp at hp;omega);exact ⟨by rw [e];exact i,by rw [e];exact g,f.setCell hp u⟩
theorem Hz {w wa wp wq:World} {g1 g2 n q:Nat} {f1 f2:Nat->Bool} (hw:w.heap.size<=wa.heap.size) (hq:q < wa.heap.size)
  (h1:wp.ownsRow wa.heap.size 4 1 (O (some ⟨g1,0,none⟩) n n) n (AB (BI f1 n))) (hl1:g1 < wp.heap.size) (hz:wa.heap.size<=wp.heap.size)
  (h2:wq.ownsRow wp.heap.size 4 1 (O (some ⟨g2,0,none⟩) n n) n (AB (BI f2 n))) (hb:Ov wp wq) (hg2:wp.heap.size<=g2) (u0 u1:Value) :
  A1 w ((wq.setCell ⟨q,0,none⟩ u0).setCell ⟨q,1,none⟩ u1) (zh #[O (some ⟨g1,0,none⟩) n n,O (some ⟨g2,0,none⟩) n n]) ⟨BI f1 n,BI f2 n⟩:=by
 refine ⟨_,_,rfl,?_,?_,Or.inr ?_⟩
 ·rw [AH]
  exact EI (AZ (AZ (Bp h1 hb) (by simpa using hq) _) (by simpa using hq) _) hw
 ·rw [AH]
  exact EI (AZ (AZ h2 (by simp;omega) _) (by simp;omega) _) (Nat.le_trans hw hz)
 ·simp [Value.ownBlock]
  omega
theorem HU (w W:World):A1 w W (zh #[O none 0 0,O none 0 0]) Ah:=
 ⟨_,_,rfl,World.ownsRow_nil _ _ _ _,World.ownsRow_nil _ _ _ _,Or.inl rfl⟩
theorem Ku (w:World) (n:Nat) (h1:1<=n) (hn:n<=6) (x y z u v:Value) (l k) (hl:A3 w (zh #[x,y]) l) (hk:A3 w (zh #[z,u]) k) (hln:l.len n) (hkn:k.len n) (W:World) (hB:Ov w W) (hz:w.heap.size+3<=W.heap.size)
  (c0:W.cell? ⟨w.heap.size+1,0,none⟩=some x) (c1:W.cell? ⟨w.heap.size+1,1,none⟩=some y) (c2:W.cell? ⟨w.heap.size+1+1,0,none⟩=some z) (c3:W.cell? ⟨w.heap.size+1+1,1,none⟩=some u) :
  (Calls Tryz.prog 70 #[zh #[zd U n,v],.func (.func 105) #[] #[zi (some ⟨w.heap.size+1,0,none⟩),zi (some ⟨w.heap.size+1+1,0,none⟩)]] W fun e w'=>∃ g,e=zj (O (some ⟨g,0,none⟩) n n)/\W.heap.size<=g/\g < w'.heap.size/\w'.ownsRow W.heap.size 4 1 (O (some ⟨g,0,none⟩) n n) n (AB (BI (GF l.r k.r) n))/\Ov W w') /\
  (Calls Tryz.prog 70 #[zh #[zd U n,v],.func (.func 106) #[] #[zi (some ⟨w.heap.size+1,0,none⟩),zi (some ⟨w.heap.size+1+1,0,none⟩)]] W fun e w'=>∃ g,e=zj (O (some ⟨g,0,none⟩) n n)/\W.heap.size<=g/\g < w'.heap.size/\w'.ownsRow W.heap.size 4 1 (O (some ⟨g,0,none⟩) n n) n (AB (BI (LH l.w k.w) n))/\Ov W w'):=by
 obtain ⟨C,B,e,t,q⟩:=hl;obtain ⟨rfl,rfl⟩:x=C/\y=B:=by simpa using e
 obtain ⟨A,E,T,s,p⟩:=hk;obtain ⟨rfl,rfl⟩:z=A/\u=E:=by simpa using T
 obtain ⟨b1,N,S,rfl,I⟩:=CI (AF t hB) hln.1 h1;obtain ⟨b2,M,R,rfl,H⟩:=CI (AF s hB) hkn.1 h1;obtain ⟨Z,L,Q,rfl,G⟩:=CI (AF q hB) hln.2 h1;obtain ⟨V,J,P,rfl,F⟩:=CI (AF p hB) hkn.2 h1;have up:∀ (W':World),Ov W W'->∀ b o v,W.cell? ⟨b,o,none⟩=some v->W'.cell? ⟨b,o,none⟩=some v:=fun W' f b o v h=>by rw [(An f).1 _ _ (bL h)];exact h
 refine ⟨EC 105 _ _ (GF l.r k.r) n h1 hn v W (Aa fun i hi W' f=>?_) SF,EC 106 _ _ (LH l.w k.w) n h1 hn v W (Aa fun i hi W' f=>?_) SE⟩
 ·exact NI _ _ n i b1 N S b2 M R _ _ W' hi hn (up W' f _ _ _ c0) (up W' f _ _ _ c2) (up W' f _ _ _ (I i hi)) (up W' f _ _ _ (H i hi))
 ·exact NH _ _ n i Z L Q V J P _ _ W' hi hn (up W' f _ _ _ c1) (up W' f _ _ _ c3) (up W' f _ _ _ (G i hi)) (up W' f _ _ _ (F i hi))
theorem Sz:SY:=by
 intro m v gs vl vk l k w hv hl hk;have HL:=Aa hl;have HK:=Aa hk;have HV:=Aa hv;obtain ⟨a1,V,a2,T,rfl⟩:=Eh hl;obtain ⟨a3,S,a4,R,rfl⟩:=Eh hk;obtain ⟨va,vn,vc,rfl⟩:=CK hv;have A:Ov w (((((w.alloc (ze #[zd U m,O va vn vc] 24)).alloc (ze #[O a1 l.r.length V,O a2 l.w.length T] 50)).alloc (ze #[O a3 k.r.length S,O a4 k.w.length R] 50)).alloc (ze #[O none 0 0,O none 0 0] 50)).alloc (ze #[O a1 l.r.length V,O a2 l.w.length T,O a3 k.r.length S,O a4 k.w.length R] 50)):=((((bA w _).alloc (by simp) _).alloc (by simp;omega) _).alloc (by simp;omega) _).alloc (by simp;omega) _;have f:=PP w m gs (O va vn vc) _ _ _ _ l k HV.o HL.o HK.o _ (w.heap.size+1+1+1+1) A (by simp [go_sem]) (by simp [go_sem]) (by simp [go_sem]) (by simp [go_sem]);have y:=fun h=>MV (m:=m) (gs:=gs) (l:=l) (k:=k) h;obtain ⟨r,hr⟩:=nm (Fj m gs l k);rw [<-hr] at f y ⊢;have HC:=Aa f;have M:=Aa y;clear hl hk hv f y hr;go_enter Tryz.func46,Tryz.ntmps46;go_wp2_with fail;refine (HC.o).mono ?_;rintro e b ⟨rfl,s⟩;have t:=A.trans (s.mono (by simp <;> omega))
 have Z:=s.size;simp at Z;obtain ⟨i,hf⟩:=An s;have a0:b.cell? ⟨w.heap.size,0,none⟩=some (zd U m):=by rw [i _ _ (by simp <;> omega)];simp [go_sem]
 have ao:b.cell? ⟨w.heap.size,1,none⟩=some (O va vn vc):=by rw [i _ _ (by simp <;> omega)];simp [go_sem]
 have c0:b.cell? ⟨w.heap.size+1,0,none⟩=some (O a1 l.r.length V):=by rw [i _ _ (by simp <;> omega)];simp [go_sem]
 have c1:b.cell? ⟨w.heap.size+1,1,none⟩=some (O a2 l.w.length T):=by rw [i _ _ (by simp <;> omega)];simp [go_sem]
 have c2:b.cell? ⟨w.heap.size+1+1,0,none⟩=some (O a3 k.r.length S):=by rw [i _ _ (by simp <;> omega)];simp [go_sem]
 have c3:b.cell? ⟨w.heap.size+1+1,1,none⟩=some (O a4 k.w.length R):=by rw [i _ _ (by simp <;> omega)];simp [go_sem]
 have e0:b.cell? ⟨w.heap.size+1+1+1,0,none⟩=some (O none 0 0):=by rw [i _ _ (by simp <;> omega)];simp [go_sem]
 have e1:b.cell? ⟨w.heap.size+1+1+1,1,none⟩=some (O none 0 0):=by rw [i _ _ (by simp <;> omega)];simp [go_sem]
 have f0:b.frozen? ⟨w.heap.size+1+1+1,0,none⟩=false:=by rw [hf _ _ (by simp <;> omega)];simp [go_sem]
 have f1:b.frozen? ⟨w.heap.size+1+1+1,1,none⟩=false:=by rw [hf _ _ (by simp <;> omega)];simp [go_sem]
 clear i hf s A HC;by_cases hr0:r=0
 ·subst hr0
  obtain ⟨n,hm,h1,h6,F,G,ag⟩:=M.o (by first | rfl | trivial);subst hm;have KT:=Aa fun (W:World) (B:Below (w.heap.size+1+1+1) b W)=>Ku w n h1 h6 _ _ _ _ (O va vn vc) l k HL.o HK.o F G W (t.trans (B.mono (by omega))) (Nat.le_trans (by omega) B.size) (by rw [B.cell (p:=⟨w.heap.size+1,0,none⟩) (by simp <;> omega)];exact c0) (by rw [B.cell (p:=⟨w.heap.size+1,1,none⟩) (by simp <;> omega)];exact c1) (by rw [B.cell (p:=⟨w.heap.size+1+1,0,none⟩) (by simp <;> omega)];exact c2) (by rw [B.cell (p:=⟨w.heap.size+1+1,1,none⟩) (by simp <;> omega)];exact c3)
  have E0:=Aa e0;have E1:=Aa e1;have F0:=Aa f0;have F1:=Aa f1;clear c0 c1 c2 c3 e0 e1 f0 f1 F G ag M HL HK HV;have E:w.heap.size+1+1+1<=b.heap.size:=by omega
  have C:w.heap.size+1+1+1 < b.heap.size:=by omega
  have u:w.heap.size < w.heap.size+1+1+1:=by omega
  have g:=Aa C;have N:=Aa u;have L:=Aa E;clear E C u;go_wp2_with fail;first | go_region_held3 (fun W=>W.cell? ⟨w.heap.size,0,none⟩=some (zd U n)/\W.cell? ⟨w.heap.size,1,none⟩=some (O va vn vc)/\Below (w.heap.size+1+1+1) b W) (first | assumption | exact ⟨a0,ao,below_drewN (Below.refl _ _) 1⟩ | exact RB (by assumption) hbq L.o | exact RB (by assumption) hbp L.o | exact S5 (S5 (by assumption) N.o (Nat.le_refl _) _) N.o (Nat.le_refl _) _ | fail) (first | (go_at_call 70;have av:=ep0;refine (KT.o _ (by assumption:_/\_/\_).2.2).2.mono ?_;rintro e P ⟨g2,rfl,ad,ax,ab,hbq⟩;have ai:P.cell? ⟨w.heap.size+1+1+1,0,none⟩=some (O none 0 0):=(by rw [(An hbq).1 _ _ (bL ep0)];exact ep0);have ah:P.cell? ⟨w.heap.size+1+1+1,1,none⟩=some (O none 0 0):=(by rw [(An hbq).1 _ _ (bL ep0)];exact ep1);have bi:P.frozen? ⟨w.heap.size+1+1+1,0,none⟩=false:=(by rw [(An hbq).2 _ _ (bL ep0)];exact fp0);have bh:P.frozen? ⟨w.heap.size+1+1+1,1,none⟩=false:=(by rw [(An hbq).2 _ _ (bL ep0)];exact fp1)) | (go_at_call 70;refine (KT.o _ (by assumption:_/\_/\_).2.2).1.mono ?_;rintro e Q ⟨g1,rfl,bb,H,ac,hbp⟩;have ep0:Q.cell? ⟨w.heap.size+1+1+1,0,none⟩=some (O none 0 0):=(by rw [(An hbp).1 _ _ g.o];exact E0.o);have ep1:Q.cell? ⟨w.heap.size+1+1+1,1,none⟩=some (O none 0 0):=(by rw [(An hbp).1 _ _ g.o];exact E1.o);have fp0:Q.frozen? ⟨w.heap.size+1+1+1,0,none⟩=false:=(by rw [(An hbp).2 _ _ g.o];exact F0.o);have fp1:Q.frozen? ⟨w.heap.size+1+1+1,1,none⟩=false:=(by rw [(An hbp).2 _ _ g.o];exact F1.o))) | fail
  all_goals go_wp2_with fail
  all_goals
   refine bodyPost_ret (v:=zk #[zh #[O (some ⟨g1,0,none⟩) n n,O (some ⟨g2,0,none⟩) n n],zd U 0]) (by simp [results,Tryz.results46,go_sem,ai,ah]) rfl ⟨_,rfl,Hz (w:=w) (wa:=b.drew) (q:=w.heap.size+1+1+1) (f1:=GF l.r k.r) (f2:=LH l.w k.w) t.size g.o ac H hbp.size ab hbq ad _ _,?_⟩;have J:Ov w b.drew:=below_drewN t 1;have I:=J.trans (hbp.mono J.size);have af:=I.trans (hbq.mono I.size);exact (af.setCell (by simp;omega) _).setCell (by simp;omega) _
 ·have a8:(r != 0)=true:=by simpa using hr0
  go_wp2_with fail;refine bodyPost_ret (v:=zk #[zh #[O none 0 0,O none 0 0],zd U r]) (by simp [results,Tryz.results46,go_sem,e0,e1]) rfl ⟨_,rfl,HU _ _,(t.setCell (by simp;omega) _).setCell (by simp;omega) _⟩
end Go.Proofs.YtfffpjkcfnekaaaGreat
