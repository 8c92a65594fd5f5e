/- What a command asks of levels: a call. -/
import Derived.Test.YtfffpjkcfnekaaaGreatG13
import Derived.Laws.EntriesVeiled
import Derived.Maps.AppendAt
import Derived.Test.YtfffpjkcfnekaaaGreatG12
set_option linter.unusedVariables false
set_option maxHeartbeats 8000000
set_option maxRecDepth 100000
namespace Go.Proofs.YtfffpjkcfnekaaaGreat.Ex
open Go.RowKit
open Go.Value renaming slice -> O, int -> zd, bool -> ze, agg -> zg, pointer -> zi, tuple -> zj
open Go.IntKind renaming i64 -> U
open Go.Obj renaming cells -> zf
open Go.Ending renaming returned -> zh
theorem Jf {P:Nat->Prop}:∀ n,P n->∃ m,P m/\∀ k,P k->m<=k:=by
 intro n
 induction n using Nat.strongRecOn with
 | ind n ih=>
  intro h
  by_cases hx:∃ k,k < n/\P k
  ·obtain ⟨k,hk,hp⟩:=hx
   exact ih k hk hp
  ·exact ⟨n,h,fun k hk=>Nat.le_of_not_lt fun hlt=>hx ⟨k,hlt,hk⟩⟩
theorem Ii {α:Type} (P:α->Nat->Prop):∃ μ:α->Nat,∀ a n,P a n->P a (μ a)/\∀ k,P a k->μ a<=k:=by
 have h:∀ a,∃ m,∀ n,P a n->P a m/\∀ k,P a k->m<=k:=fun a=>by
  by_cases hx:∃ n,P a n
  ·obtain ⟨n,hn⟩:=hx
   obtain ⟨m,h1,h2⟩:=Jf n hn
   exact ⟨m,fun _ _=>⟨h1,h2⟩⟩
  ·exact ⟨0,fun n hn=>absurd ⟨n,hn⟩ hx⟩
 exact ⟨fun a=>Classical.choose (h a),fun a=>Classical.choose_spec (h a)⟩
def sm1:D:=sD 3 0 0 (xD 0 0 []) [] [] []
def sm2:D:=sD 4 0 0 (xD 2 0 []) [] [] []
theorem AA (n:Int) (h:0<=n) (h2:n<=100):Bd n:=⟨by omega,by omega⟩
theorem Bs {s:Nat} {R:List Value->D->Prop} {w:World}:XS s R w (O none 0 0) []:=⟨Nat.zero_le _,none,0,rfl,fun h=>absurd rfl h⟩
theorem BI {w:World}:AD w (O none 0 0) []:=⟨none,0,rfl,fun h=>absurd rfl h⟩
theorem Hz {bi bo bv bm:Nat} {w:World} (h:EK bi bo bv bm w):A1 1 1 1 none 0 0 none 0 0 (some ⟨bi,0,none⟩) 1 1 (some ⟨bo,0,none⟩) 1 1 (some ⟨bv,0,none⟩) 1 1 none 0 0 (some ⟨bm,0,none⟩) 2 2 [] [] [⟨[],[]⟩] [⟨[],[]⟩] [(false,⟨[],[]⟩)] [] [sm1,sm2] w:=by
 have hlab:∀ b,Af [O none 0 0,O none 0 0] w b->BB w (O (some ⟨b,0,none⟩) 1 1) [⟨[],[]⟩]:=fun b hr=>by
  refine ⟨by simp [maxLen],some ⟨b,0,none⟩,1,rfl,fun _=>⟨b,0,rfl,fun i hi=>?_⟩⟩
  have:i=0:=by simp at hi;omega
  subst this
  exact ⟨_,_,hr 0 _ rfl,hr 1 _ rfl,BI,BI⟩
 refine ⟨AA 1 (by omega) (by omega),⟨none,0,rfl,fun h=>absurd rfl h⟩,⟨none,0,rfl,fun h=>absurd rfl h⟩,by simp,hlab _ h.ins,hlab _ h.outs,?_,?_,?_,fun h=>absurd h (by simp),fun h=>absurd h (by simp)⟩
 ·refine ⟨by simp [maxLen],some ⟨bv,0,none⟩,1,rfl,fun _=>⟨bv,0,rfl,fun i hi=>?_⟩⟩
  have:i=0:=by simp at hi;omega
  subst this
  exact ⟨_,_,h.vars 0 _ rfl,h.vars 1 _ rfl,h.vars 2 _ rfl,BI,BI⟩
 ·exact ⟨by simp,none,0,rfl,fun h=>absurd rfl h⟩
 ·refine ⟨by simp [maxLen],some ⟨bm,0,none⟩,2,rfl,fun _=>⟨bm,0,rfl,fun i d hd=>?_⟩⟩
  match i,hd with
  | 0,hd=>
   simp at hd
   subst hd
   refine ⟨B4.take 9,rfl,fun j u hu=>?_,3,0,0,_,_,_,xD 0 0 [],_,[],_,[],_,[],rfl,rfl,AA _ (by omega) (by omega),AA _ (by omega) (by omega),AA _ (by omega) (by omega),⟨0,0,_,[],rfl,rfl,AA _ (by omega) (by omega),AA _ (by omega) (by omega),Bs⟩,Bs,Bs,Bs⟩
   rw [List.getElem?_take] at hu
   split at hu
   ·have:=h.main j u hu
    simpa using this
   ·cases hu
  | 1,hd=>
   simp at hd
   subst hd
   refine ⟨B4.drop 9,rfl,fun j u hu=>?_,4,0,0,_,_,_,xD 2 0 [],_,[],_,[],_,[],rfl,rfl,AA _ (by omega) (by omega),AA _ (by omega) (by omega),AA _ (by omega) (by omega),⟨2,0,_,[],rfl,rfl,AA _ (by omega) (by omega),AA _ (by omega) (by omega),Bs⟩,Bs,Bs,Bs⟩
   rw [List.getElem?_drop] at hu
   have:=h.main (9+j) u hu
   simpa [Nat.add_assoc] using this
  | i+2,hd=>simp at hd
theorem Lw:Al ((1:Nat):Int) 1 (Ao sm2)=0:=by
 simp [Al,sm2,BX,AJ,Bq,AU,Bg,xD,Au,AG,Ax]
theorem IP:Dh 1 1 1 1 (([]:List FnD).length:Int) [] sm1:=by
 unfold Dh
 simp [sm1,xD,Au,Ax]
theorem IM:Dh 1 1 1 1 (([]:List FnD).length:Int) [] sm2:=by
 have h:=Lw
 unfold Dh
 have e:Ad sm2=4:=rfl
 have e2:Ac sm2=0:=rfl
 rw [e,e2]
 exact ⟨by decide,fun h=>absurd h (by decide),fun h=>absurd h (by decide),fun h=>absurd h (by decide),fun _=>h,fun h=>absurd h (by decide),fun _=>by decide⟩
theorem D8:okP 1 1 1 1 1 1 [] [] [⟨[],[]⟩] [⟨[],[]⟩] [(false,⟨[],[]⟩)] [] [sm1,sm2]:=by
 refine ⟨rfl,by simp,⟨?_,?_,?_⟩,by omega,by omega,by omega,by simp,by decide,fun i h=>absurd h (by simp),?_⟩
 ·intro b hb
  simp at hb
  subst hb
  rfl
 ·intro v hv
  simp at hv
  subst hv
  rfl
 ·intro v hv _
  simp at hv
  subst hv
  exact ⟨rfl,rfl⟩
 ·intro s hs
  simp at hs
  rcases hs with rfl | rfl
  ·exact ⟨IP,fun s hs=>absurd hs (by simp [sm1]),fun s hs=>absurd hs (by simp [sm1])⟩
  ·exact ⟨IM,fun s hs=>absurd hs (by simp [sm2]),fun s hs=>absurd hs (by simp [sm2])⟩
theorem Lu:Ey.xP 1 1 1 1 1 1 0 [] [] [⟨[],[]⟩] [⟨[],[]⟩] [(false,⟨[],[]⟩)] [] [sm1,sm2]:=by
 refine ⟨D8.chk,by simp,D8.speak,D8.labs,⟨by have:=D8.many;omega,fun f hf=>absurd hf (by simp),?_⟩,fun i h=>absurd h (by simp),?_⟩
 ·intro s hs
  simp at hs
  rcases hs with rfl | rfl
  ·exact ⟨by omega,fun s hs=>absurd hs (by simp [sm1]),fun s hs=>absurd hs (by simp [sm1])⟩
  ·exact ⟨by omega,fun s hs=>absurd hs (by simp [sm2]),fun s hs=>absurd hs (by simp [sm2])⟩
 ·intro s hs
  simp at hs
  rcases hs with rfl | rfl
  ·exact ⟨⟨IP,fun _=>rfl,fun _=>rfl,fun _=>rfl,fun _=>rfl,fun _=>rfl,fun _=>rfl⟩,fun s hs=>absurd hs (by simp [sm1]),fun s hs=>absurd hs (by simp [sm1])⟩
  ·exact ⟨⟨IM,fun _=>rfl,fun _=>rfl,fun h=>absurd h (by decide),fun _=>rfl,fun _=>rfl,fun _=>rfl⟩,fun s hs=>absurd hs (by simp [sm2]),fun s hs=>absurd hs (by simp [sm2])⟩
end Go.Proofs.YtfffpjkcfnekaaaGreat.Ex
