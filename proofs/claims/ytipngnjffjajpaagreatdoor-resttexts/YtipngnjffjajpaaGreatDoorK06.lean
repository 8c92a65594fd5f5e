/- A row's facts in one. -/
import Derived.Test.YtipngnjffjajpaaGreatDoorK05
set_option linter.unusedVariables false
set_option maxHeartbeats 8000000
set_option maxRecDepth 100000
namespace Go.Proofs.YtipngnjffjajpaaGreatDoor.Tx
open Go.RowKit
open Go.Value renaming int -> O, slice -> zd, bool -> ze, agg -> zf, pointer -> zh, tuple -> zj
open Go.IntKind renaming i64 -> zc
open Go.Obj renaming cells -> zg
open Go.Ending renaming returned -> zi
theorem Ad.all {cs:List Value} {w:World} {b:Nat} (h:Ad cs w b):∀ i,i < cs.length->w.cell? ⟨b,i,none⟩=cs[i]?:=fun i hi=>by
 rw [List.getElem?_eq_getElem hi];exact h i _ (List.getElem?_eq_getElem hi)
theorem rov {cs:List Value} {w w1:World} {T:Nat} (hb:Ov (w.alloc (.cells cs.toArray T)) w1):Hx (Ad cs w1 w.heap.size)/\Hx (Ov w w1):=⟨Ad.over (A5 w cs T) hb,Ab (bA _ _) hb⟩
end Go.Proofs.YtipngnjffjajpaaGreatDoor.Tx
namespace Go.Proofs.YtipngnjffjajpaaGreatDoor
open Go.RowKit
open Go.Value renaming int -> O, slice -> zd, bool -> ze, agg -> zf, pointer -> zh, tuple -> zj
open Go.IntKind renaming i64 -> zc
open Go.Obj renaming cells -> zg
open Go.Ending renaming returned -> zi
def CU (ts:List Tok):Int:=if ts.all Ai=true then (if BW ts<=6001 then 0 else 2) else 1
def DR (ts:List Tok):ByteArray:=if CU ts=0 then ⟨(CY ts).toArray⟩ else ⟨#[]⟩
theorem CX {t:Tok} (h:Ai t=true):t.text.size<=6000:=by
 simp only [Ai,Bool.and_eq_true,decide_eq_true_eq] at h;exact h.1.1
theorem Je {w w':World} {b off:Nat} {ts:List Tok} (h:∀ j u,(AF ts)[j]? = some u->w.cell? ⟨b,off+j,none⟩=some u) (hb:Below w.heap.size w w') :
  ∀ j u,(AF ts)[j]? = some u->w'.cell? ⟨b,off+j,none⟩=some u:=fun j u hu=>by
 have h1:=h j u hu;rw [hb.cell (p:=⟨b,off+j,none⟩) (World.block_lt_of_cell? w _ h1)];exact h1
theorem JM (ts:List Tok) (h:ts.all Ai=true):BW ts<=6001*ts.length:=by
 induction ts with
 | nil=>simp [BW]
 | cons t ts ih=>
  simp only [List.all_cons,Bool.and_eq_true] at h;have b:=CX h.1;have a:=ih h.2;simp [BW] at a ⊢;omega
theorem La (v:Value) (ts:List Tok) (w:World) (hv:Hw w v ts) (hn:ts.length*32<=140737488355328) (hx:∀ t∈ts,t.text.size<=maxLen) :
  Calls Tryz.prog 18 #[v] w fun e w'=>e=zi (zj #[.string (DR ts),O zc (CU ts)])/\Below w.heap.size w w':=by
 have r:=hv;obtain ⟨ao,Y,rfl,y⟩:=hv;go_enter Tryz.func18,Tryz.ntmps18;go_wp2_with fail;go_loopw [4,9] (fun l i wr=>∃ k:Nat,k<=ts.length/\i=O zc k/\l=O zc (BW (ts.take k):Nat)/\(ts.take k).all Ai=true/\Below w.heap.size w wr) (fun _ i _=>ts.length - (intOf i).toNat)
 case atStart=>exact ⟨0,Nat.zero_le _,rfl,rfl,rfl,Below.refl _ w⟩
 case round=>
  obtain ⟨k,hk,rfl,rfl,j,a⟩:=hrel;have H:=JM _ j;have M:BW (ts.take k)<=6001*k:=by rw [List.length_take] at H;exact Nat.le_trans H (Nat.mul_le_mul_left _ (Nat.min_le_left _ _))
  clear H;by_cases hkl:k < ts.length
  ·obtain ⟨b,ae,rfl,S⟩:=y (by rintro rfl;simp at hkl)
   obtain ⟨q0,q1,W⟩:=DT (Je S a) hkl;have B:=hx _ (List.getElem_mem hkl);have F:ts.take (k+1)=ts.take k++[ts[k]]:=List.take_succ_eq_append_getElem hkl;have hal:=Nx ts[k].kind ts[k].pos ts[k].text B;have R:ts[k]=⟨ts[k].kind,ts[k].pos,ts[k].text⟩:=rfl;obtain ⟨K,g⟩:∃ K,K=Ai ts[k]:=⟨_,rfl⟩;have G:BW (ts.take (k+1))=BW (ts.take k)+(ts[k].text.size+1):=by rw [F,GY]
   have E:(ts.take (k+1)).all Ai=K:=by rw [F,List.all_append,j,g];simp
   have A:K=true->ts[k].text.size<=6000:=fun h=>CX (by rw [<-g];exact h);have C:K=false->CU ts=1:=fun h=>by
    unfold CU;rw [if_neg];intro hh;have:=List.all_eq_true.1 hh ts[k] (List.getElem_mem hkl);rw [<-g,h] at this;cases this
   rw [<-R,<-g] at hal;unfold AC at hal;obtain ⟨kk,P⟩:∃ x,x=ts[k].kind:=⟨_,rfl⟩;obtain ⟨pp,N⟩:∃ x,x=ts[k].pos:=⟨_,rfl⟩;obtain ⟨tx,L⟩:∃ x,x=ts[k].text:=⟨_,rfl⟩;rw [<-P] at q0 hal;rw [<-N] at q1 hal;rw [<-L] at W hal G A B;have U:=Aa hal;have Z:=Aa G;have ab:=Aa E;have HB:=Aa C;clear P N L hal G E C g R F S y hx r
   cases K with
   | true=>
    have V:=A rfl;clear A;go_wp2_with fail;refine (U.out _).mono ?_;rintro e J ⟨rfl,f⟩;obtain ⟨T,X⟩:=Eb f;have t2:J.cell? ⟨wr.heap.size,2,none⟩=some (.string tx):=by rw [T _ _ (by simp)];simp [go_sem]
    have c:Below w.heap.size w J:=(a.alloc (by have:=a.size;omega) _).trans (f.mono (by have:=a.size;simp;omega));clear T X f q0 q1 W;go_wp2_with fail;refine ⟨⟨k+1,by omega,by go_num,?_,ab.out,c⟩,by simp [intOf];omega⟩;rw [Z.out];go_num
   | false=>
    clear A;go_wp2_with fail;refine (U.out _).mono ?_;rintro e J ⟨rfl,f⟩;have c:Below w.heap.size w J:=(a.alloc (by have:=a.size;omega) _).trans (f.mono (by have:=a.size;simp;omega));clear f q0 q1 W;go_wp2_with fail
    go_ret2
    have u:=HB.out (by first | rfl | trivial);exact ⟨by simp [DR,u],c⟩
  ·have Q:k=ts.length:=by omega
   have hz:BW (ts.take k)=BW ts:=by rw [Q,List.take_length]
   have hal:ts.all Ai=true:=by rw [Q,List.take_length] at j;exact j
   rw [hz] at M ⊢;clear hz j;by_cases V:BW ts<=6001
   ·have u:CU ts=0:=by simp [CU,hal,V]
    have n:DR ts=⟨(CY ts).toArray⟩:=by simp [DR,u]
    have hg:=OU (zd ao ts.length Y) ts wr (Ki r a) V;have HJ:=Aa u;have I:=Aa n;have HG:=Aa hg;clear u n hg y r hal hx;go_wp2_with fail;refine (HG.out).mono ?_;rintro e J ⟨rfl,f⟩;have c:Below w.heap.size w J:=a.trans (f.mono a.size);go_wp2_with fail
    go_ret2
    exact ⟨by rw [HJ.out,I.out];rfl,c⟩
   ·have u:CU ts=2:=by simp [CU,hal,V]
    have n:DR ts=⟨#[]⟩:=by simp [DR,u]
    have HJ:=Aa u;have I:=Aa n;clear u n y r hal hx;go_wp2_with fail
    go_ret2
    exact ⟨by rw [HJ.out,I.out];rfl,a⟩
end Go.Proofs.YtipngnjffjajpaaGreatDoor
namespace Go.Proofs.YtipngnjffjajpaaGreatDoor.Tx
open Go.RowKit
open Go.Value renaming int -> O, slice -> zd, bool -> ze, agg -> zf, pointer -> zh, tuple -> zj
open Go.IntKind renaming i64 -> zc
open Go.Obj renaming cells -> zg
open Go.Ending renaming returned -> zi
abbrev Res (α:Type):=Sum (α × Nat) Nat
def Ao {α β:Type} (r:Res α) (f:α->Nat->Res β):Res β:=
 match r with
 | .inl (a,n)=>f a n
 | .inr m=>.inr m
theorem AK {α β:Type} {a:α} {n:Nat} {f:α->Nat->Res β}:Ao (.inl (a,n)) f=f a n:=rfl
theorem ziz {α β:Type} {r:Res α} {f:α->Nat->Res β} {res:Res β} {m:Nat} (h:Hx (res=Ao r f)) (e:r=.inr m):Hx (res=.inr m):=by subst e;exact h
def DD (at_:Int) (o:ByteArray) (wr:Bool) (ns:List ByteArray):D:=.agg [dI at_,dS o,dB wr,dL (ns.map dS)]
def stD (kd at_:Int) (a b:ByteArray) (e:D) (args th el:List D):D:=.agg [dI kd,dI at_,dS a,dS b,e,dL args,dL th,dL el]
def deD (kd at_:Int) (a b:ByteArray) (gv:Bool) (lb:List D) (ps:List ByteArray) (body:List D) (r:D):D:=.agg [dI kd,dI at_,dS a,dS b,dB gv,dL lb,dL (ps.map dS),dL body,r]
def noE:D:=eD 0 0 0 ⟨#[]⟩ []
def noS:ByteArray:=⟨#[]⟩
def Kt:D->Int
 | .agg (.lit (.int _ k)::_)=>k
 | _=>0
def Hg:D->List UInt8
 | .agg (_::_::_::.lit (.string x)::_)=>x
 | _=>[]
section
variable (ts:List Tok) (en:Nat)
def AG (x:List UInt8) (n:Nat):Res Unit:=if isT ts n x=true then .inl ((),n+1) else .inr n
def AY (n:Nat):Res ByteArray:=if AJ (Ag ts n)=true then .inl ((Ag ts n).text,n+1) else .inr n
def BB {α:Type} (sep:List UInt8) (one:Nat->Res α):Nat->Bool->List α->Nat->Res (List α)
 | 0,_,acc,n=>.inl (acc,n)
 | f+1,sm,acc,n=>if sm=true then Ao (one n) fun a n1=>if isT ts n1 sep=true then BB sep one f true (acc++[a]) (n1+1) else .inl (acc++[a],n1) else .inl (acc,n)
def BZ (sm:Bool) (n:Nat):Res (List ByteArray):=BB ts [44] (AY ts) (ts.length+1) sm [] n
def Bz (n:Nat):Res D:=
 Ao (AY ts n) fun o n1=>
  if isT ts n1 [33]=true then Ao (BZ ts (AJ (Ag ts (n1+1))) (n1+1)) fun ns n2=>.inl (DD (Al ts en n) o true ns,n2)
  else Ao (AG ts [58] n1) fun _ n2=>Ao (BZ ts (AJ (Ag ts n2)) n2) fun ns n3=>.inl (DD (Al ts en n) o false ns,n3)
def DF (n:Nat):Res (List D):=
 Ao (AG ts [123] n) fun _ n1=>Ao (BB ts [59] (Bz ts en) (ts.length+1) (!isT ts n1 [125]) [] n1) fun l n2=>Ao (AG ts [125] n2) fun _ n3=>.inl (l,n3)
def pX (n:Nat):Res D:=pE ts en 61 0 n
def J5 (s:D) (n:Nat):Res D:=Ao (AG ts [59] n) fun _ n1=>.inl (s,n1)
def Df (at_:Int) (n:Nat):Res D:=
 Ao (AY ts n) fun x n1=>Ao (AG ts [61] n1) fun _ n2=>Ao (pX ts en n2) fun e n3=>
  if Kt e=2/\isT ts n3 [40]=true then
   Ao (BB ts [44] (pX ts en) (ts.length+1) (!isT ts (n3+1) [41]) [] (n3+1)) fun l n4=>Ao (AG ts [41] n4) fun _ n5=>.inl (stD 2 at_ x ⟨(Hg e).toArray⟩ noE l [] [],n5)
  else .inl (stD 1 at_ x noS e [] [] [],n3)
def Bw (ss:Nat->Res (List D)) (n:Nat):Res (List D):=Ao (AG ts [123] n) fun _ n1=>Ao (ss n1) fun l n2=>Ao (AG ts [125] n2) fun _ n3=>.inl (l,n3)
def BO (blk:Nat->Res (List D)) (n:Nat):Res D:=
 if isT ts n [105,102]=true then Ao (pX ts en (n+1)) fun e n1=>Ao (blk n1) fun th n2=>
  if isT ts n2 [101,108,115,101]=true then Ao (blk (n2+1)) fun el n3=>.inl (stD 7 (Al ts en n) noS noS e [] th el,n3) else .inl (stD 7 (Al ts en n) noS noS e [] th [],n2)
 else if isT ts n [119,104,105,108,101]=true then Ao (pX ts en (n+1)) fun e n1=>Ao (blk n1) fun th n2=>.inl (stD 8 (Al ts en n) noS noS e [] th [],n2)
 else if isT ts n [103,101,116]=true then Ao (AY ts (n+1)) fun a n1=>Ao (AY ts n1) fun b n2=>J5 ts (stD 3 (Al ts en n) a b noE [] [] []) n2
 else if isT ts n [112,117,116]=true then Ao (AY ts (n+1)) fun b n1=>Ao (pX ts en n1) fun e n2=>J5 ts (stD 4 (Al ts en n) noS b e [] [] []) n2
 else if isT ts n [114,101,118,101,97,108]=true then Ao (AY ts (n+1)) fun a n1=>Ao (pX ts en n1) fun e n2=>J5 ts (stD 5 (Al ts en n) a noS e [] [] []) n2
 else if isT ts n [116,114,117,115,116]=true then Ao (AY ts (n+1)) fun a n1=>Ao (pX ts en n1) fun e n2=>J5 ts (stD 6 (Al ts en n) a noS e [] [] []) n2
 else Ao (Df ts en (Al ts en n) n) fun s n1=>J5 ts s n1
def AQ:Nat->List D->Nat->Res (List D)
 | 0,acc,n=>.inr n
 | 1,acc,n=>if isT ts n [125]=true\/isT ts n [114,101,116,117,114,110]=true then .inl (acc,n) else .inr n
 | f+2,acc,n=>if isT ts n [125]=true\/isT ts n [114,101,116,117,114,110]=true then .inl (acc,n) else Ao (BO ts en (Bw ts (fun n=>AQ f [] n)) n) fun s n1=>AQ (f+1) (acc++[s]) n1
def B2:Nat->Nat->Res D
 | 0,n=>.inr n
 | f+1,n=>BO ts en (Bw ts (fun n=>AQ ts en f [] n)) n
theorem J4 (f:Nat) (acc:List D) (n:Nat):AQ ts en (f+1) acc n=if isT ts n [125]=true\/isT ts n [114,101,116,117,114,110]=true then .inl (acc,n) else Ao (B2 ts en f n) fun s n1=>AQ ts en f (acc++[s]) n1:=by
 cases f <;> rfl
def Fl (at_:Int) (name:ByteArray) (n:Nat):Res D:=
 Ao (AG ts [40] n) fun _ n1=>Ao (BZ ts (!isT ts n1 [41]) n1) fun ps n2=>Ao (AG ts [41] n2) fun _ n3=>Ao (AG ts [123] n3) fun _ n4=>
  Ao (AQ ts en (2*ts.length+3) [] n4) fun body n5=>Ao (AG ts [114,101,116,117,114,110] n5) fun _ n6=>Ao (pX ts en n6) fun r n7=>Ao (AG ts [59] n7) fun _ n8=>Ao (AG ts [125] n8) fun _ n9=>
   .inl (deD 7 at_ name noS false [] ps body r,n9)
def Cu (kd at_:Int) (name oth:ByteArray) (gv:Bool) (n:Nat):Res D:=
 if gv=true then Ao (DF ts en n) fun lb n1=>Ao (AG ts [59] n1) fun _ n2=>.inl (deD kd at_ name oth true lb [] [] noE,n2)
 else Ao (AG ts [59] n) fun _ n1=>.inl (deD kd at_ name oth false [] [] [] noE,n1)
def Bs (n:Nat):Res D:=
 if AN (Ag ts n).text.data.toList=0 then .inr n
 else Ao (AY ts (n+1)) fun a n1=>
  if AN (Ag ts n).text.data.toList=2 then Ao (AY ts n1) fun b n2=>Cu ts en 2 (Al ts en n) a b false n2
  else if AN (Ag ts n).text.data.toList=4\/AN (Ag ts n).text.data.toList=5 then Cu ts en (AN (Ag ts n).text.data.toList) (Al ts en n) a noS true n1
  else if AN (Ag ts n).text.data.toList=6 then Cu ts en 6 (Al ts en n) a noS (isT ts n1 [123]) n1
  else if AN (Ag ts n).text.data.toList=7 then Fl ts en (Al ts en n) a n1
  else Cu ts en (AN (Ag ts n).text.data.toList) (Al ts en n) a noS false n1
def DX:Nat->List D->Nat->Res (List D)
 | 0,acc,n=>.inr n
 | f+1,acc,n=>if isT ts n [109,97,105,110]=true then .inl (acc,n) else Ao (Bs ts en n) fun d n1=>DX f (acc++[d]) n1
def DQ:Res (List D × List D):=
 Ao (DX ts en (ts.length+1) [] 0) fun ds n=>Ao (AG ts [109,97,105,110] n) fun _ n1=>Ao (Bw ts (AQ ts en (2*ts.length+3) []) n1) fun l n2=>if n2 < ts.length then .inr n2 else .inl ((ds,l),n2)
end
def AW (ts:List Tok) (en:Nat) {β:Type} (res:Res β) (K:β->Nat->Ending->World->Prop) (G:World->Prop) (e:Ending) (w':World):Prop:=
 match res with
 | .inl (b,n)=>K b n e w'
 | .inr m=>e=Ah (Al ts en m)/\G w'
theorem pc {ts:List Tok} {en:Nat} {α β:Type} {f:FuncId} {args:Array Value} {W:World} {r:Res α} {K:α->Nat->Ending->World->Prop} {G:World->Prop} {g:α->Nat->Res β} {res:Res β} {Q:Ending->World->Prop} (h:Calls Tryz.prog f args W (AW ts en r K G)) (hp:Hx (res=Ao r g))
  (h1:∀ m w',Hx (res=.inr m)->G w'->Q (Ah (Al ts en m)) w') (h2:∀ a n e w',K a n e w'->Hx (res=g a n)->Hx (r=.inl (a,n))->Q e w'):Calls Tryz.prog f args W Q:=h.mono fun e w' hq=>by
 cases r with
 | inl p=>
  obtain ⟨a,n⟩:=p;exact h2 a n e w' hq (Hx.o hp) rfl
 | inr m=>
  rw [hq.1];exact h1 m w' (ziz hp rfl) hq.2
def nOf (rb:Nat) (w:World):Nat:=match w.cell? ⟨rb,1,none⟩ with | some (O _ n)=>n.toNat | _=>0
def bOf:Value->Nat | ze true=>1 | _=>0
theorem Ge {rb:Nat} {tv:Value} {ts:List Tok} {en n:Nat} {w:World} (h:St rb tv ts en n w):nOf rb w=n:=by
 unfold nOf;rw [h.cells.2.1];simp
section
variable {rb:Nat} {tv:Value} {ts:List Tok} {en:Nat}
theorem GC (x:ByteArray) (hx:x.data.toList≠[]) (n:Nat) (w:World) (h:St rb tv ts en n w) :
  Calls Tryz.prog 98 #[zh (some ⟨rb,0,none⟩),.string x] w fun e w'=>e=zi (ze (isT ts n x.data.toList))/\w.grownBy w' (some rb)/\St rb tv ts en (if isT ts n x.data.toList=true then n+1 else n) w':=by
 cases hq:isT ts n x.data.toList with
 | true=>exact (BX rb tv ts en n x w h hq (Cf hq hx)).mono fun e w' ⟨b,a,c⟩=>⟨b,a,by simpa using c⟩
 | false=>exact (B5 rb tv ts en n x w h hq).mono fun e w' ⟨b,a⟩=>⟨b,Ae a,by simpa using h.below a⟩
theorem BE (x:ByteArray) (hx:x.data.toList≠[]) (n:Nat) (w:World) (h:St rb tv ts en n w) :
  Calls Tryz.prog 53 #[zh (some ⟨rb,0,none⟩),.string x] w (AW ts en (AG ts x.data.toList n) (fun _ n1 e w'=>e=zi (zj #[])/\w.grownBy w' (some rb)/\St rb tv ts en n1 w') (fun w'=>w.grownBy w' (some rb))):=by
 unfold AG
 cases hq:isT ts n x.data.toList with
 | true=>exact (JF rb tv ts en n x w h hq (Cf hq hx)).mono fun e w' a=>a
 | false=>exact (Ma rb tv ts en n x w h hq).mono fun e w' ⟨a,b⟩=>⟨a,Ae b⟩
theorem Cw (n:Nat) (w:World) (h:St rb tv ts en n w) :
  Calls Tryz.prog 95 #[zh (some ⟨rb,0,none⟩)] w (AW ts en (AY ts n) (fun x n1 e w'=>e=zi (.string x)/\w.grownBy w' (some rb)/\St rb tv ts en n1 w') (fun w'=>w.grownBy w' (some rb))):=by
 unfold AY
 cases hq:AJ (Ag ts n) with
 | true=>exact (Ka rb tv ts en n w h hq).mono fun e w' a=>a
 | false=>exact (PZ rb tv ts en n w h hq).mono fun e w' ⟨a,b⟩=>⟨a,Ae b⟩
theorem LK {α:Type} (F:FuncId) (cap:List Value) (hC:∀ (args:Array Value) (w:World),(callFunc F args).run Tryz.prog w=.ok (.enter F args) w) (sep:ByteArray) (hsep:sep.data.toList≠[]) (one:Nat->Res α) (J:List α->Nat->World->Prop) (G:World->Prop)
  (hJ:∀ acc n w,J acc n w->St rb tv ts en n w) (hm:∀ n a n1,one n=.inl (a,n1)->n<=n1) (hJt:∀ acc n n' w w',J acc n w->n<=n'->w.grownBy w' (some rb)->St rb tv ts en n' w'->J acc n' w')
  (h1:∀ acc n w,J acc n w->Calls Tryz.prog F cap.toArray w (AW ts en (one n) (fun a n1 e w'=>e=zi (zj #[])/\J (acc++[a]) n1 w') G)) (sm:Bool) (n:Nat) (w:World) (hw:J [] n w) :
  Calls Tryz.prog 134 #[zh (some ⟨rb,0,none⟩),ze sm,.string sep,.func (.func F) #[] cap.toArray] w (AW ts en (BB ts sep.data.toList one (ts.length+1) sm [] n) (fun l n1 e w'=>e=zi (zj #[])/\J l n1 w') G):=by
 obtain ⟨g,j⟩:=nm (BB ts sep.data.toList one (ts.length+1) sm [] n);rw [<-j];have HR:=Aa j;have HJ:=Aa hJ;have HM:=Aa hm;have HT:=Aa hJt;have H1:=Aa h1;have HW:=Aa hw;have Z:=Aa hsep;clear j hJ hm hJt h1 hw hsep;go_enter Tryz.func134,Tryz.ntmps134;go_wp2_with fail;go_loopw [1] (fun b wr=>∃ (bb:Bool) (acc:List α) (n f:Nat),b=ze bb/\J acc n wr/\BB ts sep.data.toList one f bb acc n=g/\ts.length - n < f) (fun b wr=>2*(ts.length - nOf rb wr)+bOf b)
 case atStart=>exact ⟨sm,[],n,ts.length+1,rfl,HW.o,HR.o.symm,by omega⟩
 case round=>
  obtain ⟨bb,acc,n,f,rfl,I,R,y⟩:=hrel;obtain ⟨f,rfl⟩:∃ f',f=f' + 1:=⟨f - 1,by omega⟩;have r:=HJ.o _ _ _ I
  cases bb with
  | false=>
   have hr:g=.inl (acc,n):=by rw [<-R];rfl
   have HE:=Aa I;have B:=Aa hr;clear R y r I hr;go_wp2_with fail;go_end0;rw [B.o];exact ⟨rfl,HE.o⟩
  | true=>
   have L:Ao (one n) (fun a n1=>if isT ts n1 sep.data.toList=true then BB ts sep.data.toList one f true (acc++[a]) (n1+1) else .inl (acc++[a],n1))=g:=R;have HN:=Aa (Ge r);have C:=r.2.1;have KO:=Aa (H1.o acc n wr I);have P:=Aa L;have V:=Aa (And.intro y C);clear R L r I y C;go_wp2_with fail;refine KO.o.mono ?_;rintro e w1 Q
   cases ho:one n with
   | inr m=>
    rw [ho] at Q;obtain ⟨rfl,Y⟩:=Q;have hr:g=.inr m:=by rw [<-P.o,ho];rfl
    have B:=Aa hr;have HG:=Aa Y;clear hr Y ho;unfold Ah;go_wp2_with fail;refine ⟨rfl,?_⟩;rw [B.o];exact ⟨rfl,HG.o⟩
   | inl p=>
    obtain ⟨a,n1⟩:=p;rw [ho] at Q;obtain ⟨rfl,A⟩:=Q;have H:=HM.o _ _ _ ho;have i:=HJ.o _ _ _ A;have u:=i.2.1;have KT:=Aa (GC sep Z.o n1 w1 i);have x:=P.o;rw [ho,AK] at x;have M:=Aa x;have N:=Aa A;have W:=Aa (And.intro H u);clear x A H u ho i;go_wp2_with fail;refine KT.o.mono ?_;rintro e w2 ⟨rfl,K,c⟩;obtain ⟨q,S⟩:=nm (isT ts n1 sep.data.toList);rw [<-S] at c ⊢;have T:=Aa S;have v:=Aa c;have O:=Aa K;have U:=Aa (Ge c);clear S c K;go_wp2_with fail;have hl:=W.o;have ad:=V.o;have ac:=HN.o;have E:=U.o
    cases q with
    | true=>
     have X:n1 < ts.length:=Cf T.o.symm Z.o;refine ⟨⟨true,acc++[a],n1+1,f,rfl,HT.o _ _ _ _ _ N.o (by omega) O.o (by simpa using v.o),?_,by omega⟩,?_⟩
     ·have:=M.o
      rw [<-T.o] at this;simpa using this
     ·simp at E
      simp [bOf];omega
    | false=>
     refine ⟨⟨false,acc++[a],n1,f+1,rfl,HT.o _ _ _ _ _ N.o (Nat.le_refl _) O.o (by simpa using v.o),?_,by omega⟩,?_⟩
     ·have:=M.o
      rw [<-T.o] at this;rw [<-show (Sum.inl (acc++[a],n1):Res (List α))=g by simpa using this];rfl
     ·simp at E
      simp [bOf];omega
end
theorem Tryz.infoStr:(Tryz.prog.info? 9).map (fun i=>(i.zero,i.size,i.bytes))=some (some (.string ⟨#[]⟩),1,16):=by kernel_rfl
theorem AM {α:Type}:∀ r:Res α,(∃ m,r=.inr m)\/∃ a n,r=.inl (a,n)
 | .inr m=>Or.inl ⟨m,rfl⟩
 | .inl (a,n)=>Or.inr ⟨a,n,rfl⟩
structure Gro {α:Type} (w0:World) (rb:Nat) (tv:Value) (ts:List Tok) (en n0 lb xb T s:Nat) (R:World->List Value->α->Prop) (acc:List α) (n:Nat) (w:World):Prop where
 st0:St rb tv ts en n0 w0
 st:St rb tv ts en n w
 gr:w0.grownBy w (some rb)
 l0:w0.heap.size<=lb
 l1:lb < w0.heap.size+2
 x0:w0.heap.size<=xb
 x1:xb < w0.heap.size+2
 ne:lb≠xb
 sz:w0.heap.size+2<=w.heap.size
 xc:w.cell? ⟨xb,0,none⟩=some (zh (some ⟨rb,0,none⟩))
 fz:∀ j,w.frozen? ⟨lb,j,none⟩=false
 few:acc.length<=n
 row:∃ v,w.cell? ⟨lb,0,none⟩=some v/\Cop (w0.heap.size+2) T s (fun i cs W=>∀ x,acc[i]? = some x->R W cs x) acc.length v w
section
variable {α:Type} {w0:World} {rb:Nat} {tv:Value} {ts:List Tok} {en n0 lb xb T s:Nat} {R:World->List Value->α->Prop} {acc:List α} {n n1:Nat} {w w1 W2 W3:World} {v v2:Value} {xs cs:List Value} {a:α}
theorem Gro.rlt (h:Gro w0 rb tv ts en n0 lb xb T s R acc n w):rb < w0.heap.size:=h.st0.lt
theorem Gro.move (h:Gro w0 rb tv ts en n0 lb xb T s R acc n w) (hn:n<=n1) (hg:w.grownBy w1 (some rb)) (hs:St rb tv ts en n1 w1):Gro w0 rb tv ts en n0 lb xb T s R acc n1 w1:=by
 obtain ⟨v,f,g⟩:=h.row;have hr:=h.rlt;have l:=h.l0;have i:=h.x0;have b:some lb≠some rb:=fun e=>by injection e with e;omega
 have c:some xb≠some rb:=fun e=>by injection e with e;omega
 refine ⟨h.st0,hs,Ac h.gr hg,h.l0,h.l1,h.x0,h.x1,h.ne,Nat.le_trans h.sz hg.size,hg.cell h.xc c,fun j=>?_,Nat.le_trans h.few hn,v,hg.cell f b,g.keep hg (by omega)⟩;rw [World.frozen?_of_block (a:=⟨lb,j,none⟩) (hg.block lb (bL f) b)];exact h.fz j
theorem Gro.app (h:Gro w0 rb tv ts en n0 lb xb T s R acc n w) (hv:w.cell? ⟨lb,0,none⟩=some v) (hg:w.grownBy w1 (some rb)) (hb:Ov w1 W2):∃ xs,W2.ownsRow (w0.heap.size+2) T s v acc.length xs/\(∀ i,i < acc.length->∃ cs:List Value,cs.length=s/\(∀ j u,cs[j]? = some u->xs[i*s+j]? = some u)/\Off (w0.heap.size+2) v.ownBlock W2 (fun W=>∀ x,acc[i]? = some x->R W cs x))/\∀ k,v.ownBlock=some k->k < w.heap.size:=by
 obtain ⟨y,a,b⟩:=h.row;rw [hv] at a;injection a with a;subst a;have hr:=h.rlt;obtain ⟨xs,l,g⟩:=(b.keep hg (by omega)).over hb;obtain ⟨r,f,-⟩:=b;exact ⟨xs,l,g,fun k c=>(AL f c).2⟩
theorem Gro.add (h:Gro w0 rb tv ts en n0 lb xb T s R acc n w) (hv:w.cell? ⟨lb,0,none⟩=some v) (hg:w.grownBy w1 (some rb)) (hs:St rb tv ts en n1 w1) (hn:n+1<=n1) (hb:Ov w1 W2)
  (hown:W2.ownsRow (w0.heap.size+2) T s v acc.length xs) (hel:∀ i,i < acc.length->∃ cs:List Value,cs.length=s/\(∀ j u,cs[j]? = some u->xs[i*s+j]? = some u)/\Off (w0.heap.size+2) v.ownBlock W2 (fun W=>∀ x,acc[i]? = some x->R W cs x)) (hrow:∀ k,v.ownBlock=some k->k < w.heap.size)
  (hl:cs.length=s) (hoff:Off w.heap.size none w1 (fun W=>R W cs a)) (hown3:W3.ownsRow (w0.heap.size+2) T s v2 (acc.length+1) (xs++cs)) (hgr:W2.grownBy W3 v.ownBlock) (hat:v2.ownBlock=v.ownBlock\/v2.ownBlock=some W2.heap.size) :
  Gro w0 rb tv ts en n0 lb xb T s R (acc++[a]) n1 (W3.setCell ⟨lb,0,none⟩ v2)/\W3.cell? ⟨lb,0,none⟩=some v/\W3.cell? ⟨xb,0,none⟩=some (zh (some ⟨rb,0,none⟩))/\W3.frozen? ⟨lb,0,none⟩=false:=by
 have hr:=h.rlt;have O:=h.l0;have J:=h.l1;have U:=h.x0;have N:=h.x1;have g:=h.sz;have y:some lb≠some rb:=fun e=>by injection e with e;omega
 have C:some xb≠some rb:=fun e=>by injection e with e;omega
 have c:∀ k,k < w0.heap.size+2->some k≠v.ownBlock:=fun k H e=>by have:=(AL hown e.symm).1;omega
 have l1:=ce1 hb (hg.cell hv y);have x1:=ce1 hb (hg.cell h.xc C);have V:∀ j,W2.frozen? ⟨lb,j,none⟩=false:=fun j=>by
  rw [World.frozen?_of_block (a:=⟨lb,j,none⟩) (hb.block lb (Nat.lt_of_lt_of_le (bL hv) hg.size)),World.frozen?_of_block (a:=⟨lb,j,none⟩) (hg.block lb (bL hv) y)];exact h.fz j
 have L:W3.cell? ⟨lb,0,none⟩=some v:=(World.cell?_of_block (a:=⟨lb,0,none⟩) (hgr.block lb (bL l1) (c lb J))).trans l1;have K:W3.cell? ⟨xb,0,none⟩=some (zh (some ⟨rb,0,none⟩)):=(World.cell?_of_block (a:=⟨xb,0,none⟩) (hgr.block xb (bL x1) (c xb N))).trans x1;have P:∀ j,W3.frozen? ⟨lb,j,none⟩=false:=fun j=>(World.frozen?_of_block (a:=⟨lb,j,none⟩) (hgr.block lb (bL l1) (c lb J))).trans (V j);have b:w0.grownBy W2 (some rb):=Ac (Ac h.gr hg) (Ae hb);have I:w0.grownBy W3 (some rb):=⟨hgr.os.trans b.os,hgr.tape.trans b.tape,hgr.output.trans b.output,Nat.le_trans b.size hgr.size,fun k H G=>(hgr.block k (Nat.lt_of_lt_of_le H b.size) (c k (by omega))).trans (b.block k H G)⟩;have E:(W3.setCell ⟨lb,0,none⟩ v2).heap.size=W3.heap.size:=by simp [World.setCell]
 have A:w0.grownBy (W3.setCell ⟨lb,0,none⟩ v2) (some rb):=Aj I O v2;have F:(W3.setCell ⟨lb,0,none⟩ v2).heap[rb]? = w1.heap[rb]?:=by
  rw [Below.heap_setCell _ _ _ _ (by show rb≠lb;omega),hgr.block rb (Nat.lt_of_lt_of_le hr b.size) (c rb (by omega)),hb.block rb hs.lt]
 have l:St rb tv ts en n1 (W3.setCell ⟨lb,0,none⟩ v2):=h.st0.keep A (by rw [F];exact hs.1) hs.2.1;have B:Cop (w0.heap.size+2) T s (fun i cs W=>∀ x,(acc++[a])[i]? = some x->R W cs x) (acc.length+1) v2 W3:=Cop.add (B1:=w.heap.size) hown (fun i M=>by
   obtain ⟨X,q1,S,Q⟩:=hel i M;exact ⟨X,q1,S,Q.imp fun W hW x f=>hW x (by rw [List.getElem?_append_left M] at f;exact f)⟩) hl ((hoff.over hb).imp fun W hW x f=>by
    rw [List.getElem?_append_right (Nat.le_refl _),Nat.sub_self] at f;injection f with f;rw [<-f];exact hW) g hrow hown3 hgr hat
 refine ⟨⟨h.st0,l,A,O,J,U,N,h.ne,by rw [E];exact Nat.le_trans g (Nat.le_trans hg.size (Nat.le_trans hb.size hgr.size)),?_,fun j=>?_,?_,v2,?_,?_⟩,L,K,P 0⟩
 ·have:=(Ct (w:=W3) (r:=lb) (j:=0) (u:=v2)).cell K (fun e=>by injection e with e;exact h.ne e.symm)
  exact this
 ·have:(W3.setCell ⟨lb,0,none⟩ v2).frozen? ⟨lb,j,none⟩=W3.frozen? ⟨lb,j,none⟩:=by simp [go_sem]
  rw [this];exact P j
 ·have:=h.few
  simp;omega
 ·exact World.cell?_setCell_same' _ _ _ (by rw [L];rfl)
 ·rw [List.length_append]
  exact B.set (by omega)
end
theorem Ox {w0:World} {rb:Nat} {tv:Value} {ts:List Tok} {en n0 lb xb:Nat} (acc:List ByteArray) (n:Nat) (w:World) (h:Gro w0 rb tv ts en n0 lb xb 9 1 (fun _ cs x=>cs=[Value.string x]) acc n w) :
  Calls Tryz.prog 154 #[zh (some ⟨lb,0,none⟩),zh (some ⟨xb,0,none⟩)] w (AW ts en (AY ts n) (fun a n1 e w'=>e=zi (zj #[])/\Gro w0 rb tv ts en n0 lb xb 9 1 (fun _ cs x=>cs=[Value.string x]) (acc++[a]) n1 w') (fun w'=>w0.grownBy w' (some rb))):=by
 obtain ⟨i0,hi,ag,af,ae⟩:=info_parts Tryz.infoStr;obtain ⟨v,l0,-⟩:=h.row;have x0:=h.xc;have b:=Aa h;have HL:=Aa l0;have KN:Hx (∀ X,St rb tv ts en n X->_):=fun X hX=>Cw n X hX;have HM:Hx (∀ n a n1,AY ts n=.inl (a,n1)->n+1<=n1):=fun n a n1 h=>by
  unfold AY at h;split at h
  ·injection h with h;injection h with _ h;omega
  ·cases h
 clear h;go_enter Tryz.func154,Tryz.ntmps154;go_wp2_with fail;refine gS (fun Wz=>Wz.cell? ⟨xb,0,none⟩=some (zh (some ⟨rb,0,none⟩))) (ce1 (bD w) x0) fun c=>?_;have ah:Hx (Ov w w.drew):=bD w;have aq:=ce1 (bD w) l0;generalize w.drew=W at c aq ah ⊢;refine kT 1 ?_;refine rdB 0 2 rfl (fun K g=>?_) rfl fun K g=>?_
 ·go_simp
  refine xK g (c) fun c=>?_;clear g K;refine rdA 2 rfl fun K g=>?_;have O:Hx (Ov w W):=ah.o;go_simp;refine (KN.o _ (b.o.st.below O.o)).mono ?_;rintro e F hp;obtain ⟨m,N⟩ | ⟨a,n1,N⟩:=AM (AY ts n)
  ·rw [N] at hp
   obtain ⟨rfl,hg⟩:=hp;have HG:=Aa (Ac (Ac b.o.gr (Ae O.o)) hg);have HO:=Aa N;clear hg N g c;unfold Ah;go_simp;refine ⟨rfl,?_⟩;rw [HO.o];exact ⟨rfl,HG.o⟩
  rw [N] at hp;obtain ⟨rfl,V,I⟩:=hp;have R:Hx (Off w.heap.size none F (fun W=>[Value.string a]=[Value.string a])):=fun W _=>rfl;have HO:=Aa N;have H:w.grownBy F (some rb):=Ac (Ae O.o) V;have G:=Aa H;have Q:=Aa I;have U:some lb≠some rb:=fun e=>by injection e with e;have:=b.o.rlt;have:=b.o.l0;omega
  have S:some xb≠some rb:=fun e=>by injection e with e;have:=b.o.rlt;have:=b.o.x0;omega
  have l1:F.cell? ⟨lb,0,none⟩=some v:=H.cell HL.o U;have x1:F.cell? ⟨xb,0,none⟩=some (zh (some ⟨rb,0,none⟩)):=H.cell b.o.xc S;clear N V I H U S c;go_simp;refine xK g (x1) fun c=>?_;clear g K;refine rdA 3 rfl fun K g=>?_;obtain ⟨Z,l⟩:=nm (F.alloc (zg #[.string a] 9));have j:=(aov l).o;have ab:Hx (Ad [.string a] Z F.heap.size):=by show Ad _ _ _;rw [l];exact A5 F [.string a] 9
  have l2:=ce1 j l1;have x2:=ce1 j x1;have E:=Aa j;go_simp;rw [<-l];clear l j;refine xK g (x2) fun c=>?_;clear g K;refine rdA 4 rfl fun K g=>?_;obtain ⟨xs,i,L,y⟩:=b.o.app HL.o G.o E.o;have J:w0.heap.size+2<=Z.heap.size:=Nat.le_trans b.o.sz (Nat.le_trans G.o.size E.o.size);have Y:acc.length<=6000:=Nat.le_trans b.o.few (Nat.le_trans b.o.st.2.1 b.o.st.2.2.1);obtain ⟨v2,W3,r,f,B,-,M⟩:=run_append_own_at (P:=Tryz.prog) (w:=Z) (w0.heap.size+2) 46 46 9 i0 (.string ⟨#[]⟩) 1 16 Tryz.underlying46 hi ag af ae rfl (by decide) _ _ _ i ⟨F.heap.size,0,none⟩ 1 1 [.string a] rfl (fun jj u hu=>by rw [Addr.add_lit,Nat.zero_add];exact ab.o jj u hu) (by simp [Value.oneCell']) (by unfold maxLen;omega) (by omega) J;obtain ⟨A,l3,x3,f3⟩:=b.o.add (a:=a) HL.o G.o Q.o (HM.o _ _ _ HO.o) E.o i L y rfl R.o f B M;have C:=Aa A;obtain ⟨am,ak,al,T⟩:=AP f;subst T;refine A4 rfl _ _ _ rfl _ _ _ _ rfl rfl r ?_;clear r i L f B M A y Y J;refine xK g (x3) fun c=>?_;clear g K;refine rdA 5 rfl fun K g=>?_;go_simp;refine xK g (C.o.xc) fun c=>?_;clear g K;refine gE ?_;go_wp2_with fail;go_end0;rw [HO.o];exact ⟨rfl,C.o⟩
 ·have O:Hx (Ov w W):=ah.o
  go_simp;refine (KN.o _ (b.o.st.below O.o)).mono ?_;rintro e F hp;obtain ⟨m,N⟩ | ⟨a,n1,N⟩:=AM (AY ts n)
  ·rw [N] at hp
   obtain ⟨rfl,hg⟩:=hp;have HG:=Aa (Ac (Ac b.o.gr (Ae O.o)) hg);have HO:=Aa N;clear hg N g c;unfold Ah;go_simp;refine ⟨rfl,?_⟩;rw [HO.o];exact ⟨rfl,HG.o⟩
  rw [N] at hp;obtain ⟨rfl,V,I⟩:=hp;have R:Hx (Off w.heap.size none F (fun W=>[Value.string a]=[Value.string a])):=fun W _=>rfl;have HO:=Aa N;have H:w.grownBy F (some rb):=Ac (Ae O.o) V;have G:=Aa H;have Q:=Aa I;have U:some lb≠some rb:=fun e=>by injection e with e;have:=b.o.rlt;have:=b.o.l0;omega
  have S:some xb≠some rb:=fun e=>by injection e with e;have:=b.o.rlt;have:=b.o.x0;omega
  have l1:F.cell? ⟨lb,0,none⟩=some v:=H.cell HL.o U;have x1:F.cell? ⟨xb,0,none⟩=some (zh (some ⟨rb,0,none⟩)):=H.cell b.o.xc S;clear N V I H U S c;go_simp;refine xK g (x1) fun c=>?_;clear g K;refine rdB 0 3 rfl (fun K g=>?_) rfl fun K g=>?_
  ·go_simp
   refine xK g (c) fun c=>?_;clear g K;refine rdA 3 rfl fun K g=>?_;obtain ⟨Z,l⟩:=nm (F.alloc (zg #[.string a] 9));have j:=(aov l).o;have ab:Hx (Ad [.string a] Z F.heap.size):=by show Ad _ _ _;rw [l];exact A5 F [.string a] 9
   have l2:=ce1 j l1;have x2:=ce1 j x1;have E:=Aa j;go_simp;rw [<-l];clear l j;refine xK g (x2) fun c=>?_;clear g K;refine rdA 4 rfl fun K g=>?_;obtain ⟨xs,i,L,y⟩:=b.o.app HL.o G.o E.o;have J:w0.heap.size+2<=Z.heap.size:=Nat.le_trans b.o.sz (Nat.le_trans G.o.size E.o.size);have Y:acc.length<=6000:=Nat.le_trans b.o.few (Nat.le_trans b.o.st.2.1 b.o.st.2.2.1);obtain ⟨v2,W3,r,f,B,-,M⟩:=run_append_own_at (P:=Tryz.prog) (w:=Z) (w0.heap.size+2) 46 46 9 i0 (.string ⟨#[]⟩) 1 16 Tryz.underlying46 hi ag af ae rfl (by decide) _ _ _ i ⟨F.heap.size,0,none⟩ 1 1 [.string a] rfl (fun jj u hu=>by rw [Addr.add_lit,Nat.zero_add];exact ab.o jj u hu) (by simp [Value.oneCell']) (by unfold maxLen;omega) (by omega) J;obtain ⟨A,l3,x3,f3⟩:=b.o.add (a:=a) HL.o G.o Q.o (HM.o _ _ _ HO.o) E.o i L y rfl R.o f B M;have C:=Aa A;obtain ⟨am,ak,al,T⟩:=AP f;subst T;refine A4 rfl _ _ _ rfl _ _ _ _ rfl rfl r ?_;clear r i L f B M A y Y J;refine xK g (x3) fun c=>?_;clear g K;refine rdA 5 rfl fun K g=>?_;go_simp;refine xK g (C.o.xc) fun c=>?_;clear g K;refine gE ?_;go_wp2_with fail;go_end0;rw [HO.o];exact ⟨rfl,C.o⟩
  ·obtain ⟨Z,l⟩:=nm (F.alloc (zg #[.string a] 9))
   have j:=(aov l).o;have ab:Hx (Ad [.string a] Z F.heap.size):=by show Ad _ _ _;rw [l];exact A5 F [.string a] 9
   have l2:=ce1 j l1;have x2:=ce1 j x1;have E:=Aa j;go_simp;rw [<-l];clear l j;refine xK g (x2) fun c=>?_;clear g K;refine rdA 0 rfl fun K g=>?_;go_simp;refine xK g (c) fun c=>?_;clear g K;refine rdA 4 rfl fun K g=>?_;obtain ⟨xs,i,L,y⟩:=b.o.app HL.o G.o E.o;have J:w0.heap.size+2<=Z.heap.size:=Nat.le_trans b.o.sz (Nat.le_trans G.o.size E.o.size);have Y:acc.length<=6000:=Nat.le_trans b.o.few (Nat.le_trans b.o.st.2.1 b.o.st.2.2.1);obtain ⟨v2,W3,r,f,B,-,M⟩:=run_append_own_at (P:=Tryz.prog) (w:=Z) (w0.heap.size+2) 46 46 9 i0 (.string ⟨#[]⟩) 1 16 Tryz.underlying46 hi ag af ae rfl (by decide) _ _ _ i ⟨F.heap.size,0,none⟩ 1 1 [.string a] rfl (fun jj u hu=>by rw [Addr.add_lit,Nat.zero_add];exact ab.o jj u hu) (by simp [Value.oneCell']) (by unfold maxLen;omega) (by omega) J;obtain ⟨A,l3,x3,f3⟩:=b.o.add (a:=a) HL.o G.o Q.o (HM.o _ _ _ HO.o) E.o i L y rfl R.o f B M;have C:=Aa A;obtain ⟨am,ak,al,T⟩:=AP f;subst T;refine A4 rfl _ _ _ rfl _ _ _ _ rfl rfl r ?_;clear r i L f B M A y Y J;refine xK g (x3) fun c=>?_;clear g K;refine rdA 5 rfl fun K g=>?_;go_simp;refine xK g (C.o.xc) fun c=>?_;clear g K;refine gE ?_;go_wp2_with fail;go_end0;rw [HO.o];exact ⟨rfl,C.o⟩
def LS {α:Type} (size:Nat) (R:List Value->α->Prop) (w:World) (v:Value) (l:List α):Prop:=
 l.length<=maxLen/\∃ ao cap,v=zd ao l.length cap/\(l≠[]->∃ b off,ao=some ⟨b,off,none⟩/\Fz0 w b off (l.length*size)/\∀ (i:Nat) (a:α),l[i]? = some a->∃ cs:List Value,cs.length=size/\(∀ (j:Nat) (u:Value),cs[j]? = some u->w.cell? ⟨b,off+i*size+j,none⟩=some u)/\R cs a)
abbrev RN (cs:List Value) (a:ByteArray):Prop:=cs=[Value.string a]
abbrev Hs (w:World) (v:Value) (l:List ByteArray):Prop:=LS 1 RN w v l
theorem LS.nil {α:Type} {size:Nat} {R:List Value->α->Prop} {w:World} {ao:Option Addr} {cap:Nat}:LS size R w (zd ao 0 cap) []:=⟨Nat.zero_le _,ao,cap,rfl,fun h=>absurd rfl h⟩
theorem Cop.ls {α:Type} {B T s:Nat} {R:World->List Value->α->Prop} {l:List α} {v:Value} {w:World} (h:Cop B T s (fun i cs W=>∀ x,l[i]? = some x->R W cs x) l.length v w) (hs:0 < s) (hl:l.length<=1000000):∃ a c,v=zd a l.length c/\Off B none w (fun W=>LS s (R W) W (zd a l.length c) l):=by
 obtain ⟨a,c,r,A⟩:=h.cells hs;refine ⟨a,c,r,fun W hW=>⟨by unfold maxLen;omega,a,c,rfl,fun f=>?_⟩⟩;obtain ⟨b,E,g,C⟩:=A W hW (fun e=>f (List.eq_nil_of_length_eq_zero e));refine ⟨b,0,E,g,fun i x n=>?_⟩;obtain ⟨cs,H,G,F⟩:=C i (List.getElem?_eq_some_iff.1 n).1;exact ⟨cs,H,fun j u y=>by rw [Nat.zero_add];exact G j u y,F x n⟩
theorem GL (w:World) (o:Obj):(w.alloc o).heap[w.heap.size]? = some o:=by
 show (w.heap.push o)[w.heap.size]? = some o;simp
theorem Gro.start {α:Type} {rb:Nat} {tv:Value} {ts:List Tok} {en n T s:Nat} {R:World->List Value->α->Prop} {w:World} (h:St rb tv ts en n w) (S:Nat) :
  Gro w rb tv ts en n (w.heap.size+1) w.heap.size T s R [] n ((w.alloc (zg #[zh (some ⟨rb,0,none⟩)] 91)).alloc (zg #[zd none 0 0] S)):=by
 have b:Ov w ((w.alloc (zg #[zh (some ⟨rb,0,none⟩)] 91)).alloc (zg #[zd none 0 0] S)):=(bA w _).alloc (by simp) _;refine ⟨h,h.below b,Ae b,by omega,by omega,by omega,by omega,by omega,by simp,?_,fun j=>?_,Nat.zero_le _,zd none 0 0,?_,Cop.nil⟩
 ·exact ce1 (bA _ _) (A5 w [zh (some ⟨rb,0,none⟩)] 91 0 _ rfl)
 ·have a:=GL (w.alloc (zg #[zh (some ⟨rb,0,none⟩)] 91)) (zg #[zd none 0 0] S)
  rw [alS] at a;exact Lib.frozen_of_heap a j
 ·have:=A5 (w.alloc (zg #[zh (some ⟨rb,0,none⟩)] 91)) [zd none 0 0] S 0 _ rfl
  rw [alS] at this;exact this
theorem Qv (args:Array Value) (w:World):(callFunc 154 args).run Tryz.prog w=.ok (.enter 154 args) w:=by simp [go_sem]
theorem Bm {ts:List Tok} {n:Nat} {a:ByteArray} {n1:Nat} (h:AY ts n=.inl (a,n1)):n+1<=n1:=by
 unfold AY at h;split at h
 ·injection h with h;injection h with _ h;omega
 ·cases h
theorem I7 {rb:Nat} {tv:Value} {ts:List Tok} {en:Nat} (sm:Bool) (n:Nat) (w:World) (h:St rb tv ts en n w) :
  Calls Tryz.prog 132 #[zh (some ⟨rb,0,none⟩),ze sm] w (AW ts en (BZ ts sm n) (fun l n1 e w'=>∃ a c,e=zi (zd a l.length c)/\Off w.heap.size none w' (fun W=>Hs W (zd a l.length c) l)/\l.length<=6000/\w.grownBy w' (some rb)/\St rb tv ts en n1 w') (fun w'=>w.grownBy w' (some rb))):=by
 obtain ⟨V,E⟩:=nm ((w.alloc (zg #[zh (some ⟨rb,0,none⟩)] 91)).alloc (zg #[zd none 0 0] 46));have K:Gro w rb tv ts en n (w.heap.size+1) w.heap.size 9 1 (fun _ F x=>F=[Value.string x]) [] n V:=by rw [E];exact Gro.start h 46
 have P:=Aa (LK (rb:=rb) (tv:=tv) (ts:=ts) (en:=en) 154 [zh (some ⟨w.heap.size+1,0,none⟩),zh (some ⟨w.heap.size,0,none⟩)] Qv ⟨#[44]⟩ (by decide) (AY ts) (fun r n2 w'=>Gro w rb tv ts en n (w.heap.size+1) w.heap.size 9 1 (fun _ F x=>F=[Value.string x]) r n2 w') (fun w'=>w.grownBy w' (some rb)) (fun _ _ _ h=>h.st) (fun _ _ _ h=>Nat.le_of_lt (Bm h)) (fun _ _ _ _ _ h O g N=>h.move O g N) (fun r n w' h=>Ox r n w' h) sm n V K);obtain ⟨L,b⟩:=nm (BZ ts sm n);rw [<-b];have Q:=Aa b;clear K h b;go_enter Tryz.func132,Tryz.ntmps132;go_wp2_with fail;rw [<-E];clear E;refine P.o.mono ?_;rintro e I A;have b:=Q.o;obtain ⟨m,j⟩ | ⟨l,n1,j⟩:=AM (BZ ts sm n)
 ·have f:AW ts en (BZ ts sm n) _ _ e I:=A
  rw [j] at f;obtain ⟨rfl,g⟩:=f;have B:=Aa g;have G:=Aa (b.trans j);clear g j b A;unfold Ah;go_wp2_with fail;refine ⟨rfl,?_⟩;rw [G.o];exact ⟨rfl,B.o⟩
 ·have f:AW ts en (BZ ts sm n) _ _ e I:=A
  rw [j] at f;obtain ⟨rfl,g⟩:=f;obtain ⟨v,M,J⟩:=g.row;have u:l.length<=6000:=Nat.le_trans g.few (Nat.le_trans g.st.2.1 g.st.2.2.1);obtain ⟨a,c,rfl,i⟩:=Cop.ls J (by decide) (by omega);have G:=Aa (b.trans j);have B:=Aa g;have y:=Aa (i.base (B':=w.heap.size) (by omega));have H:=Aa u;obtain ⟨k,C⟩:=nm l.length;rw [<-C] at M;have R:=Aa C;clear j g J i b A u C;go_wp2_with fail;go_ret;rw [G.o];exact ⟨a,c,by rw [R.o];rfl,y.o,H.o,B.o.gr,B.o.st⟩
def gD (i:Nat):D->D
 | .agg l=>l.getD i (.agg [])
 | _=>.agg []
def asI:D->Int
 | .lit (.int _ n)=>n
 | _=>0
def asS:D->List UInt8
 | .lit (.string x)=>x
 | _=>[]
def asB:D->Bool
 | .lit (.bool b)=>b
 | _=>false
def asL:D->List D
 | .slice l _=>l
 | _=>[]
abbrev gI (i:Nat) (d:D):Int:=asI (gD i d)
abbrev gZ (i:Nat) (d:D):List UInt8:=asS (gD i d)
abbrev gB (i:Nat) (d:D):Bool:=asB (gD i d)
abbrev gL (i:Nat) (d:D):List D:=asL (gD i d)
def plK:Nat->D->Int->Int
 | 0,_,left=>left
 | k+1,d,left=>(gL 4 d).foldl (fun l a=>if l < 0 then l else plK k a l) (left - 1)
def poK:Nat->D->Int->Int
 | 0,_,_=>0
 | k+1,d,en=>(gL 4 d).foldl (fun n a=>if n<=en then n+poK k a (en - n) else n) 1
theorem Ek {α β:Type} (f:β->α->β) (P:β->Prop) (h:∀ b a,P b->P (f b a)):∀ (l:List α) (b:β),P b->P (l.foldl f b)
 | [],b,hb=>hb
 | a::l,b,hb=>Ek f P h l _ (h b a hb)
theorem IK {α β γ:Type} (f:β->α->β) (g:γ->α->γ) (P:β->γ->Prop) (h:∀ b c a,P b c->P (f b a) (g c a)):∀ (l:List α) (b:β) (c:γ),P b c->P (l.foldl f b) (l.foldl g c)
 | [],b,c,hb=>hb
 | a::l,b,c,hb=>IK f g P h l _ _ (h b c a hb)
theorem I0:∀ (k:Nat) (d:D) (en:Int),0<=en->0<=poK k d en/\poK k d en<=en+1
 | 0,d,en,h=>by simp only [poK];omega
 | k+1,d,en,h=>by
  simp only [poK];refine Ek _ (fun n=>0<=n/\n<=en+1) (fun n a hn=>?_) _ _ (by omega);split
  ·have:=I0 k a (en - n) (by omega)
   omega
  ·exact hn
theorem Lt:∀ (k:Nat) (d:D) (L:Int),0<=L->plK k d L=L - poK k d L
 | 0,d,L,h=>by simp [plK,poK]
 | k+1,d,L,h=>by
  simp only [plK,poK];refine IK _ _ (fun l n=>l=L - n) (fun l n a hl=>?_) _ _ _ (by omega);subst hl;by_cases hn:n<=L
  ·rw [if_neg (by omega),if_pos hn,Lt k a (L - n) (by omega)]
   omega
  ·rw [if_pos (by omega),if_neg hn]
theorem N9 (k:Nat) (d:D) (L:Int) (h:0<=L):-1<=plK k d L/\plK k d L<=L:=by
 have b:=Lt k d L h;have a:=I0 k d L h;omega
def Cm (ke:Nat) (d:D):Bool:=decide (plK ke d 15 < 0)
def CR (ke:Nat) (s:D):Bool:=decide (4 < (gL 5 s).length) || Cm ke (gD 4 s) || (gL 5 s).any (Cm ke)
def slF (ke:Nat) (rec:List D->Int->Int) (deep:Int) (st:Int × Bool) (s:D):Int × Bool:=
 if st.2=true then st else if st.1 - 1 < 0\/6 < deep\/CR ke s=true then (-1,true) else (rec (gL 7 s) (rec (gL 6 s) (st.1 - 1)),false)
def slK (ke:Nat):Nat->List D->Int->Int->Int
 | 0,_,_,left=>left
 | k+1,l,deep,left=>(l.foldl (slF ke (fun l left=>slK ke k l (deep+1) left) deep) (left,false)).1
def csF (ke:Nat) (rec:List D->Int) (st:Int × Bool) (s:D):Int × Bool:=
 if st.2=true\/50 < st.1 then st else if CR ke s=true then (51,true) else (st.1+1+rec (gL 6 s)+rec (gL 7 s),false)
def csK (ke:Nat):Nat->List D->Int->Int
 | 0,_,_=>0
 | k+1,l,deep=>if l≠[]/\6 < deep then 51 else min 51 (l.foldl (csF ke (fun l=>csK ke k l (deep+1))) (0,false)).1
theorem Dn (ke:Nat):∀ (k:Nat) (l:List D) (deep:Int),0<=csK ke k l deep/\csK ke k l deep<=51
 | 0,l,deep=>by simp only [csK];omega
 | k+1,l,deep=>by
  simp only [csK];split
  ·omega
  ·have:0<=(l.foldl (csF ke (fun l=>csK ke k l (deep+1))) (0,false)).1:=by
    refine Ek _ (fun (st:Int × Bool)=>0<=st.1) (fun st s a=>?_) _ _ (by simp);unfold csF;have c:=Dn ke k (gL 6 s) (deep+1);have b:=Dn ke k (gL 7 s) (deep+1);split
    ·exact a
    split
    ·simp
    ·dsimp only;omega
   omega
theorem EG (ke:Nat):∀ (k:Nat) (l:List D) (deep left:Int),-1<=left->left<=50->slK ke k l deep left=if csK ke k l deep<=left then left - csK ke k l deep else -1
 | 0,l,deep,left,h1,h2=>by
  have e1:slK ke 0 l deep left=left:=rfl;have e2:csK ke 0 l deep=0:=rfl;rw [e1,e2];by_cases h:0<=left
  ·rw [if_pos h];omega
  ·rw [if_neg h];omega
 | k+1,l,deep,left,h1,h2=>by
  have IH:=EG ke k;have BD:=Dn ke k;generalize hC:csK ke (k+1) l deep=C;have hS:slK ke (k+1) l deep left=(l.foldl (slF ke (fun l left=>slK ke k l (deep+1) left) deep) (left,false)).1:=rfl;rw [hS];clear hS;replace hC:(if l≠[]/\6 < deep then 51 else min 51 (l.foldl (csF ke (fun l=>csK ke k l (deep+1))) (0,false)).1)=C:=hC;by_cases hd:l≠[]/\6 < deep
  ·rw [if_pos hd] at hC
   rw [if_neg (by omega)];clear hC;obtain ⟨s,r,rfl⟩:=List.exists_cons_of_ne_nil hd.1;rw [List.foldl_cons];have hs:slF ke (fun l left=>slK ke k l (deep+1) left) deep (left,false) s=(-1,true):=by
    unfold slF;rw [if_neg (by simp),if_pos (Or.inr (Or.inl hd.2))]
   rw [hs];have hr:=Ek (slF ke (fun l left=>slK ke k l (deep+1) left) deep) (fun st=>st=((-1,true):Int × Bool)) (fun st a b=>by unfold slF;rw [b];simp) r (-1,true) rfl;rw [hr]
  ·rw [if_neg hd] at hC
   have c:∀ (m:List D) (st:Int × Bool) (q:Int × Bool),(m=[]\/deep<=6)->((st=(left - q.1,false)/\0<=q.1/\q.1<=left/\q.2=false)\/(st.1=-1/\left < q.1)) ->
     ((m.foldl (slF ke (fun l left=>slK ke k l (deep+1) left) deep) st).1=left - (m.foldl (csF ke (fun l=>csK ke k l (deep+1))) q).1/\(m.foldl (csF ke (fun l=>csK ke k l (deep+1))) q).1<=left)\/((m.foldl (slF ke (fun l left=>slK ke k l (deep+1) left) deep) st).1=-1/\left < (m.foldl (csF ke (fun l=>csK ke k l (deep+1))) q).1):=by
    intro m
    induction m with
    | nil=>
     intro st q _ h;rcases h with ⟨rfl,_,h,_⟩ | h
     ·exact Or.inl ⟨rfl,h⟩
     ·exact Or.inr h
    | cons s r ih=>
     intro st q n h;have g:deep<=6:=n.elim (fun h=>by cases h) id;rw [List.foldl_cons,List.foldl_cons];refine ih _ _ (Or.inr g) ?_;have B:=BD (gL 6 s) (deep+1);have A:=BD (gL 7 s) (deep+1);rcases h with ⟨rfl,j,i,f⟩ | ⟨b,i⟩
     ·unfold slF csF
      rw [if_neg (by simp),if_neg (show ¬ (q.2=true\/50 < q.1) by simp [f];omega)];by_cases hmu:CR ke s=true
      ·rw [if_pos (Or.inr (Or.inr hmu)),if_pos hmu]
       exact Or.inr ⟨rfl,by show left < 51;omega⟩
      ·rw [if_neg hmu]
       by_cases hz:left - q.1 - 1 < 0
       ·rw [if_pos (Or.inl hz)]
        exact Or.inr ⟨rfl,by dsimp only;omega⟩
       ·rw [if_neg (fun h=>h.elim hz (fun h=>h.elim (fun h=>by omega) hmu))]
        dsimp only;rw [IH (gL 6 s) (deep+1) (left - q.1 - 1) (by omega) (by omega)];by_cases ht:csK ke k (gL 6 s) (deep+1)<=left - q.1 - 1
        ·rw [if_pos ht,IH (gL 7 s) (deep+1) _ (by omega) (by omega)]
         by_cases he:csK ke k (gL 7 s) (deep+1)<=left - q.1 - 1 - csK ke k (gL 6 s) (deep+1)
         ·rw [if_pos he]
          exact Or.inl ⟨by congr 1;omega,by omega,by omega,rfl⟩
         ·rw [if_neg he]
          exact Or.inr ⟨rfl,by omega⟩
        ·rw [if_neg ht,IH (gL 7 s) (deep+1) _ (by omega) (by omega),if_neg (by omega)]
         exact Or.inr ⟨rfl,by omega⟩
     ·refine Or.inr ⟨?_,?_⟩
      ·unfold slF
       split
       ·exact b
       ·rw [if_pos (Or.inl (by omega))]
      ·unfold csF
       split
       ·exact i
       split
       ·show left < 51;omega
       ·dsimp only;omega
   have x:l=[]\/deep<=6:=by
    by_cases h:l=[]
    ·exact Or.inl h
    ·exact Or.inr (by
      by_cases h6:deep<=6
      ·exact h6
      ·exact absurd ⟨h,by omega⟩ hd)
   have y:((((left,false):Int × Bool)=(left - ((0,false):Int × Bool).1,false)/\(0:Int)<=((0,false):Int × Bool).1/\((0,false):Int × Bool).1<=left/\((0,false):Int × Bool).2=false)\/(((left,false):Int × Bool).1=-1/\left < ((0,false):Int × Bool).1)):=by
    by_cases hz:0<=left
    ·exact Or.inl ⟨by simp,by simp,hz,rfl⟩
    ·exact Or.inr ⟨by dsimp only;omega,by dsimp only;omega⟩
   rcases c l (left,false) (0,false) x y with ⟨e,v⟩ | ⟨e,u⟩
   ·rw [e,if_pos (by omega)];omega
   ·rw [e,if_neg (by omega)]
def CS (ke:Nat) (d:D):Bool:=decide (4 < (gL 5 d).length) || decide (4 < (gL 6 d).length) || Cm ke (gD 8 d) || (gL 5 d).any (fun p=>decide (6 < (gL 3 p).length))
def Es (ke kc:Nat) (ds l:List D):Bool:=
 decide (30 < ds.length) || ds.any (CS ke) || decide (slK ke kc l 1 (ds.foldl (fun left d=>slK ke kc (gL 7 d) 1 left) 50) < 0)
def Kb (ke kc:Nat) (ds l:List D):Bool:=
 decide (30 < ds.length) || ds.any (CS ke) || decide (50 < ds.foldl (fun n d=>n+csK ke kc (gL 7 d) 1) (csK ke kc l 1))
theorem P3 (ke kc:Nat) (ds l:List D):Es ke kc ds l=Kb ke kc ds l:=by
 unfold Es Kb;congr 1;rw [decide_eq_decide];have x:=Dn ke kc l 1;have f:∀ (m:List D) (left n:Int),((0<=n/\n<=50/\left=50 - n)\/(50 < n/\left=-1))->((0<=m.foldl (fun n d=>n+csK ke kc (gL 7 d) 1) n/\m.foldl (fun n d=>n+csK ke kc (gL 7 d) 1) n<=50/\m.foldl (fun left d=>slK ke kc (gL 7 d) 1 left) left=50 - m.foldl (fun n d=>n+csK ke kc (gL 7 d) 1) n)\/(50 < m.foldl (fun n d=>n+csK ke kc (gL 7 d) 1) n/\m.foldl (fun left d=>slK ke kc (gL 7 d) 1 left) left=-1)):=by
  intro m
  induction m with
  | nil=>intro left n h;exact h
  | cons d r ih=>
   intro left n h;rw [List.foldl_cons,List.foldl_cons];refine ih _ _ ?_;have b:=Dn ke kc (gL 7 d) 1;rcases h with ⟨v,i,rfl⟩ | ⟨i,rfl⟩
   ·rw [EG ke kc _ _ _ (by omega) (by omega)]
    by_cases hc:csK ke kc (gL 7 d) 1<=50 - n
    ·rw [if_pos hc];exact Or.inl ⟨by omega,by omega,by omega⟩
    ·rw [if_neg hc];exact Or.inr ⟨by omega,rfl⟩
   ·rw [EG ke kc _ _ _ (by omega) (by omega),if_neg (by omega)]
    exact Or.inr ⟨by omega,rfl⟩
 have c:∀ (m:List D) (a b:Int),m.foldl (fun n d=>n+csK ke kc (gL 7 d) 1) (a+b)=a+m.foldl (fun n d=>n+csK ke kc (gL 7 d) 1) b:=by
  intro m
  induction m with
  | nil=>intro a b;rfl
  | cons d r ih=>intro a b;rw [List.foldl_cons,List.foldl_cons,<-ih];congr 1;omega
 have u:=f ds 50 0 (Or.inl ⟨by omega,by omega,by omega⟩);have j:=c ds (csK ke kc l 1) 0;rw [Int.add_zero] at j;rw [j];generalize ds.foldl (fun n d=>n+csK ke kc (gL 7 d) 1) 0=S at u ⊢;rcases u with ⟨v,i,g⟩ | ⟨i,g⟩
 ·rw [g,EG ke kc _ _ _ (by omega) (by omega)]
  split <;> omega
 ·rw [g,EG ke kc _ _ _ (by omega) (by omega)]
  split <;> omega
def nmS (x:List UInt8):Bool:=Ai ⟨1,0,⟨x.toArray⟩⟩ && !GM.contains x
def nfS (x:List UInt8) (must:Bool):Bool:=if must=true then nmS x else x.isEmpty
def CO (d:D):Bool:=decide (gI 0 d=0) && decide (gI 2 d=0) && (gZ 3 d).isEmpty && (gL 4 d).isEmpty
def efK:Nat->D->Bool
 | 0,_=>false
 | k+1,d=>decide (1<=gI 0 d) && decide (gI 0 d<=7) && decide ((if gI 0 d=1 then -9999999 else 0)<=gI 2 d) && decide (gI 2 d<=(if gI 0 d=1 then 9999999 else 0)) && nfS (gZ 3 d) (decide (gI 0 d=2)) && decide ((gL 4 d).length=if gI 0 d<=2 then 0 else 2) && (gL 4 d).all (efK k)
def FT (k:Int):Bool:=decide (k=1) || decide (k=2) || decide (k=3) || decide (k=5) || decide (k=6)
def FV (k:Int):Bool:=decide (k=2) || decide (k=3) || decide (k=4)
def Ft (k:Int):Bool:=decide (k=1) || decide (k=4) || decide (k=5) || decide (k=6) || decide (k=7) || decide (k=8)
def FW (k:Int):Bool:=decide (k=2)
def FU (k:Int):Bool:=decide (k=7) || decide (k=8)
def Fu (k:Int):Bool:=decide (k=7)
def hOk (k:Int):Bool:=decide (1<=k) && decide (k<=8)
def lfS (l:List D) (may:Bool) (fine:D->Bool):Bool:=(may || l.isEmpty) && l.all fine
def sfK (ke:Nat):Nat->D->Bool
 | 0,_=>false
 | k+1,s=>hOk (gI 0 s) && nfS (gZ 2 s) (FT (gI 0 s)) && nfS (gZ 3 s) (FV (gI 0 s)) && (if Ft (gI 0 s)=true then efK ke (gD 4 s) else CO (gD 4 s)) && lfS (gL 5 s) (FW (gI 0 s)) (efK ke) && lfS (gL 6 s) (FU (gI 0 s)) (sfK ke k) && lfS (gL 7 s) (Fu (gI 0 s)) (sfK ke k)
def DC (p:D):Bool:=nmS (gZ 1 p) && (gL 3 p).all (fun x=>nmS (asS x))
def Ew (d:D):Bool:=
 if gB 4 d=false/\(gL 5 d)≠[] then false
 else if gI 0 d=4\/gI 0 d=5 then gB 4 d && (gL 5 d).all DC
 else if gI 0 d=6 then (gL 5 d).all DC
 else !gB 4 d
def Ez (ke kc:Nat) (d:D):Bool:=
 if gI 0 d=7 then (gL 6 d).all (fun x=>nmS (asS x)) && (gL 7 d).all (sfK ke kc) && efK ke (gD 8 d)
 else (gL 6 d).isEmpty && (gL 7 d).isEmpty && CO (gD 8 d)
def dfK (ke kc:Nat) (d:D):Bool:=decide (1<=gI 0 d) && decide (gI 0 d<=7) && nmS (gZ 2 d) && nfS (gZ 3 d) (decide (gI 0 d=2)) && Ew d && Ez ke kc d
def ckT (ke kc:Nat) (ds l:List D):Int:=if Es ke kc ds l=true then 2 else if (ds.all (dfK ke kc) && l.all (sfK ke kc))=true then 0 else 1
theorem gEe (kd a n:Int) (x:ByteArray) (ds:List D):gI 0 (eD kd a n x ds)=kd/\gI 1 (eD kd a n x ds)=a/\gI 2 (eD kd a n x ds)=n/\gZ 3 (eD kd a n x ds)=x.data.toList/\gL 4 (eD kd a n x ds)=ds:=⟨rfl,rfl,rfl,rfl,rfl⟩
theorem gSs (kd a:Int) (x y:ByteArray) (e:D) (l th el:List D):gI 0 (stD kd a x y e l th el)=kd/\gI 1 (stD kd a x y e l th el)=a/\gZ 2 (stD kd a x y e l th el)=x.data.toList/\gZ 3 (stD kd a x y e l th el)=y.data.toList/\gD 4 (stD kd a x y e l th el)=e/\gL 5 (stD kd a x y e l th el)=l/\gL 6 (stD kd a x y e l th el)=th/\gL 7 (stD kd a x y e l th el)=el:=⟨rfl,rfl,rfl,rfl,rfl,rfl,rfl,rfl⟩
theorem gPp (a:Int) (o:ByteArray) (wr:Bool) (ns:List ByteArray):gI 0 (DD a o wr ns)=a/\gZ 1 (DD a o wr ns)=o.data.toList/\gB 2 (DD a o wr ns)=wr/\gL 3 (DD a o wr ns)=ns.map dS:=⟨rfl,rfl,rfl,rfl⟩
theorem gDd (kd a:Int) (x y:ByteArray) (gv:Bool) (lb:List D) (ps:List ByteArray) (body:List D) (r:D):gI 0 (deD kd a x y gv lb ps body r)=kd/\gI 1 (deD kd a x y gv lb ps body r)=a/\gZ 2 (deD kd a x y gv lb ps body r)=x.data.toList/\gZ 3 (deD kd a x y gv lb ps body r)=y.data.toList/\gB 4 (deD kd a x y gv lb ps body r)=gv/\gL 5 (deD kd a x y gv lb ps body r)=lb/\gL 6 (deD kd a x y gv lb ps body r)=ps.map dS/\gL 7 (deD kd a x y gv lb ps body r)=body/\gD 8 (deD kd a x y gv lb ps body r)=r:=⟨rfl,rfl,rfl,rfl,rfl,rfl,rfl,rfl,rfl⟩
theorem Gg (x:ByteArray):asS (dS x)=x.data.toList:=rfl
end Go.Proofs.YtipngnjffjajpaaGreatDoor.Tx
