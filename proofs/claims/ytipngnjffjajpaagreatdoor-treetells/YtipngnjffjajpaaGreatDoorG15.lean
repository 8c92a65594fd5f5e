/- Package tree's reader: a declaration of any text. -/
import Derived.Test.YtipngnjffjajpaaGreatDoorG14
namespace Go.Proofs.YtipngnjffjajpaaGreatDoor.Tx
open Go.RowKit
set_option linter.unusedVariables false
section
variable {rb : Nat} {tv : Value} {ts : List Tok} {en : Nat}
set_option maxHeartbeats 8000000 in
set_option maxRecDepth 100000 in
theorem decl_0 (n : Nat) (w : World) (h : St rb tv ts en n w) (hk : dKind (peekT ts n).text.data.toList = 0) :
    Calls Tryz.prog 52 #[.pointer (some ⟨rb,0,none⟩)] w (PostC ts en (pDecl ts en n) (DeclPost rb tv ts en w) (fun w' => w.grownBy w' (some rb))):=by
  obtain ⟨res,hres⟩:=nm (pDecl ts en n)
  rw [← hres]
  have HRP : Hx (res = .inr n):=by show _ = _; rw [hres]; unfold pDecl; rw [hk]; rfl
  obtain ⟨p,hp⟩:=nm (posn ts en n)
  have HP:=hide hp
  have HD:=hide (Rd.start h)
  have HK:=hide hk
  clear hres hp h hk
  obtain ⟨V1,hV1⟩:=nm (w.alloc (.cells #[.int .i64 0,.int .i64 0,.string ⟨#[]⟩,.string ⟨#[]⟩,.bool false,.slice none 0 0,.slice none 0 0,.slice none 0 0,.int .i64 0,.int .i64 0,.int .i64 0,.string ⟨#[]⟩,.slice none 0 0] 51))
  obtain ⟨ba,hba⟩:=nm w.heap.size
  have hsba:=hba
  have HLa : Hx (w.heap.size≤ba):=by show _≤_; rw [hsba]; exact HD.o.size
  have HBa : Hx (Bx ba [.int .i64 0,.int .i64 0,.string ⟨#[]⟩,.string ⟨#[]⟩,.bool false,.slice none 0 0,.slice none 0 0,.slice none 0 0,.int .i64 0,.int .i64 0,.int .i64 0,.string ⟨#[]⟩,.slice none 0 0] V1):=by show Bx _ _ _; rw [hV1,hsba]; exact Bx.new w [.int .i64 0,.int .i64 0,.string ⟨#[]⟩,.string ⟨#[]⟩,.bool false,.slice none 0 0,.slice none 0 0,.slice none 0 0,.int .i64 0,.int .i64 0,.int .i64 0,.string ⟨#[]⟩,.slice none 0 0] 51
  replace HD : Hx (Rd rb tv ts en w (n) V1):=by show Rd _ _ _ _ _ _ _; rw [hV1]; exact HD.o.over (bA _ _)
  have K0:=hide (here_c n _ HD.o.st)
  go_enter Tryz.func52,Tryz.ntmps52
  go_wp2_with fail
  rw [← hV1,← hba]
  clear hsba
  clear hba hV1
  refine K0.o.mono ?_
  rintro e wh ⟨rfl,hg,hs⟩
  rw [← HP.o]
  replace HBa:=hide (HBa.o.keep hg (by have:=HD.o.rlt; have:=HLa.o; omega))
  replace HD : Hx (Rd rb tv ts en w (n) wh):=HD.o.call hg hs
  clear hg hs
  obtain ⟨kk,hkk⟩:=nm (peekT ts n).kind
  obtain ⟨pp,hpp⟩:=nm (peekT ts n).pos
  obtain ⟨tx,htx⟩:=nm (peekT ts n).text
  have K1:=hide (peek_c n _ HD.o.st)
  rw [← hkk,← hpp,← htx] at K1
  have HTX:=hide htx
  have hft:=field_text kk pp tx
  clear K0 hkk hpp htx
  go_wp2_with fail
  refine K1.o.mono ?_
  rintro e wp ⟨rfl,hg,hs⟩
  replace HBa:=hide (HBa.o.keep hg (by have:=HD.o.rlt; have:=HLa.o; omega))
  replace HD : Hx (Rd rb tv ts en w (n) wp):=HD.o.call hg hs
  clear hg hs
  have KD : Hx (∀ W,Calls Tryz.prog 94 #[.string tx] W fun e w' => e = .returned (.int .i64 0)∧W = w'):=fun W => by
    have t:=declKind_any tx W
    rw [HTX.o,HK.o] at t
    rw [HTX.o]
    exact t.mono fun e w' h => ⟨h.1,h.2.symm⟩
  clear K1
  go_wp2_with fail
  refine (KD.o _).mono ?_
  rintro e w' ⟨rfl,rfl⟩
  clear hft KD
  obtain ⟨V2,hV2⟩:=nm (wp.alloc (.cells #[.int .i64 0,.int .i64 p,.string ⟨#[]⟩,.string ⟨#[]⟩,.bool false,.slice none 0 0,.slice none 0 0,.slice none 0 0,.int .i64 0,.int .i64 0,.int .i64 0,.string ⟨#[]⟩,.slice none 0 0] 51))
  obtain ⟨bs,hbs⟩:=nm wp.heap.size
  have hsbs:=hbs
  have HLs : Hx (w.heap.size≤bs):=by show _≤_; rw [hsbs]; exact HD.o.size
  have HLas : Hx (ba < bs):=by show _ < _; rw [hsbs]; exact HBa.o.lt
  have HBs : Hx (Bx bs [.int .i64 0,.int .i64 p,.string ⟨#[]⟩,.string ⟨#[]⟩,.bool false,.slice none 0 0,.slice none 0 0,.slice none 0 0,.int .i64 0,.int .i64 0,.int .i64 0,.string ⟨#[]⟩,.slice none 0 0] V2):=by show Bx _ _ _; rw [hV2,hsbs]; exact Bx.new wp [.int .i64 0,.int .i64 p,.string ⟨#[]⟩,.string ⟨#[]⟩,.bool false,.slice none 0 0,.slice none 0 0,.slice none 0 0,.int .i64 0,.int .i64 0,.int .i64 0,.string ⟨#[]⟩,.slice none 0 0] 51
  replace HBa : Hx (Bx ba [.int .i64 0,.int .i64 0,.string ⟨#[]⟩,.string ⟨#[]⟩,.bool false,.slice none 0 0,.slice none 0 0,.slice none 0 0,.int .i64 0,.int .i64 0,.int .i64 0,.string ⟨#[]⟩,.slice none 0 0] V2):=by show Bx _ _ _; rw [hV2]; exact HBa.o.over (bA _ _)
  replace HD : Hx (Rd rb tv ts en w (n) V2):=by show Rd _ _ _ _ _ _ _; rw [hV2]; exact HD.o.over (bA _ _)
  have K2:=hide (giveUp_any rb tv ts en n _ HD.o.st)
  go_wp2_with fail
  rw [← hV2,← hbs]
  clear hsbs
  clear hbs hV2
  refine K2.o.mono ?_
  rintro e wz ⟨rfl,hbz⟩
  unfold gaveUpAt
  go_wp2_with fail
  refine ⟨rfl,?_⟩
  rw [HRP.o]
  exact ⟨rfl,grownBy_trans HD.o.gr (grownBy_below hbz)⟩
theorem dKind_of (l : List UInt8) : dKind l = 0∨dKind l = 1∨dKind l = 2∨dKind l = 3∨dKind l = 4∨dKind l = 5∨dKind l = 6∨dKind l = 7:=by
  unfold dKind
  repeat' split
  all_goals simp
theorem decl_c (hall : ts.all isAlone = true) (n : Nat) (w : World) (h : St rb tv ts en n w) :
    Calls Tryz.prog 52 #[.pointer (some ⟨rb,0,none⟩)] w (PostC ts en (pDecl ts en n) (DeclPost rb tv ts en w) (fun w' => w.grownBy w' (some rb))):=by
  obtain h0 | h1 | h2 | h3 | h4 | h5 | h6 | h7:=dKind_of (peekT ts n).text.data.toList
  · exact decl_0 n w h h0
  · exact decl_1 hall n w h h1
  · exact decl_2 hall n w h h2
  · exact decl_3 hall n w h h3
  · exact decl_4 hall n w h h4
  · exact decl_5 hall n w h h5
  · exact decl_6 hall n w h h6
  · exact decl_7 hall n w h h7
theorem pFunc_lt {p : Int} {x : ByteArray} {n : Nat} {d : D} {n1 : Nat} (h : pFunc ts en p x n = .inl (d,n1)) : n + 1≤n1:=by
  unfold pFunc at h
  obtain ⟨_,m1,h1,h⟩:=bindR_ok h
  obtain ⟨_,m2,h2,h⟩:=bindR_ok h
  obtain ⟨_,m3,h3,h⟩:=bindR_ok h
  obtain ⟨_,m4,h4,h⟩:=bindR_ok h
  obtain ⟨_,m5,h5,h⟩:=bindR_ok h
  obtain ⟨_,m6,h6,h⟩:=bindR_ok h
  obtain ⟨_,m7,h7,h⟩:=bindR_ok h
  obtain ⟨_,m8,h8,h⟩:=bindR_ok h
  obtain ⟨_,m9,h9,h⟩:=bindR_ok h
  cases h
  have:=pTake_lt h1
  have:=pNames_le h2
  have:=pTake_lt h3
  have:=pTake_lt h4
  have:=pStmts_le _ _ _ _ _ h5
  have:=pTake_lt h6
  have:=pX_lt h7
  have:=pTake_lt h8
  have:=pTake_lt h9
  omega
theorem pLabel_le {n : Nat} {l : List D} {n1 : Nat} (h : pLabel ts en n = .inl (l,n1)) : n≤n1:=by
  unfold pLabel at h
  obtain ⟨_,m1,h1,h⟩:=bindR_ok h
  obtain ⟨_,m2,h2,h⟩:=bindR_ok h
  obtain ⟨_,m3,h3,h⟩:=bindR_ok h
  have:=pTake_lt h1
  have:=pEach_le (fun _ _ _ h => Nat.le_of_lt (pPolicy_lt h)) _ _ _ _ _ _ h2
  have:=pTake_lt h3
  have:=inl_at h
  omega
theorem pGiven_lt {kd p : Int} {x y : ByteArray} {gv : Bool} {n : Nat} {d : D} {n1 : Nat} (h : pGiven ts en kd p x y gv n = .inl (d,n1)) : n + 1≤n1:=by
  unfold pGiven at h
  split at h
  · obtain ⟨_,m1,h1,h⟩:=bindR_ok h
    obtain ⟨_,m2,h2,h⟩:=bindR_ok h
    cases h
    have:=pLabel_le h1
    have:=pTake_lt h2
    omega
  · obtain ⟨_,m1,h1,h⟩:=bindR_ok h
    cases h
    exact pTake_lt h1
theorem pDecl_lt {n : Nat} {d : D} {n1 : Nat} (h : pDecl ts en n = .inl (d,n1)) : n + 1≤n1:=by
  unfold pDecl at h
  split at h
  · cases h
  obtain ⟨a,m1,h1,h⟩:=bindR_ok h
  have:=pName_lt h1
  split at h
  · obtain ⟨b,m2,h2,h⟩:=bindR_ok h
    have:=pName_lt h2
    have:=pGiven_lt h
    omega
  split at h
  · have:=pGiven_lt h
    omega
  split at h
  · have:=pGiven_lt h
    omega
  split at h
  · have:=pFunc_lt h
    omega
  · have:=pGiven_lt h
    omega
end
set_option maxHeartbeats 1000000 in
theorem rcatch_idle (p q r : Addr) (w : World) :
    CallsD Tryz.prog 50 #[.pointer (some p),.pointer (some q),.pointer (some r)] .returning w fun e u' w' => e = .returned (.tuple #[])∧u' = .returning∧w' = w:=by
  refine callsD_of_wpS Tryz.func50 rfl fun c₀ cs hu => ?_
  apply wpS_seq
  apply wpS_region
  simp [wpOpsS,go_sem,recoverD,hu,Tryz.ntmps50,Exit.thenS]
  refine wpS_of_wp ?_
  change Code.wp Tryz.prog _ _ { tmps:=#[.pointer (some p),.pointer (some q),.pointer (some r),.nilIface,.nilIface,undef,undef,undef,undef,undef],defers:=[] } w
  go_wp2
  cases c₀
  simp_all [bodyPostS,results,Tryz.results50]
theorem assert90 (v : Value) (w : World) : (Instr.typeAssert (.iface 90 v) 20 90 false).run Tryz.prog w = .ok v w:=by
  simp [Instr.typeAssert,run_underlying Tryz.underlying90,go_sem,Result.andThen]
set_option maxHeartbeats 1000000 in
theorem rcatch_place (B : Nat) (x y : Value) (m n a : Int) (older : List PanicEntry) (w : World) (hB : B + 3≤w.heap.size)
    (c0 : w.cell? ⟨B,0,none⟩ = some x) (c3 : w.cell? ⟨B,1,none⟩ = some y) (c1 : w.cell? ⟨B + 1,0,none⟩ = some (.int .i64 m)) (c2 : w.cell? ⟨B + 1 + 1,0,none⟩ = some (.int .i64 n))
    (f0 : w.frozen? ⟨B,0,none⟩ = false) (f3 : w.frozen? ⟨B,1,none⟩ = false) (f1 : w.frozen? ⟨B + 1,0,none⟩ = false) (f2 : w.frozen? ⟨B + 1 + 1,0,none⟩ = false) :
    CallsD Tryz.prog 50 #[.pointer (some ⟨B,0,none⟩),.pointer (some ⟨B + 1,0,none⟩),.pointer (some ⟨B + 1 + 1,0,none⟩)] (.panicking ({ v:=.iface 90 (.int .i64 a),recovered:=false } :: older)) w fun en u' w' =>
      en = .returned (.tuple #[])∧u' = .panicking ({ v:=.iface 90 (.int .i64 a),recovered:=true } :: older) ∧
      w'.cell? ⟨B,0,none⟩ = some (.slice none 0 0)∧w'.cell? ⟨B,1,none⟩ = some (.slice none 0 0)∧w'.cell? ⟨B + 1,0,none⟩ = some (.int .i64 a)∧w'.cell? ⟨B + 1 + 1,0,none⟩ = some (.int .i64 1)∧Below B w w':=by
  have hta:=assert90
  refine callsD_of_wpS Tryz.func50 rfl fun c₀ cs hu => ?_
  apply wpS_seq
  apply wpS_region
  simp [wpOpsS,go_sem,recoverD,hu,Tryz.ntmps50,Exit.thenS]
  refine wpS_of_wp ?_
  change Code.wp Tryz.prog _ _ { tmps:=#[.pointer (some ⟨B,0,none⟩),.pointer (some ⟨B + 1,0,none⟩),.pointer (some ⟨B + 1 + 1,0,none⟩),.iface 90 (.int .i64 a),.iface 90 (.int .i64 a),undef,undef,undef,undef,undef],defers:=[] } w
  go_wp2
  have k1 : B < w.heap.size:=by omega
  have k2 : B + 1 < w.heap.size:=by omega
  have k3 : B + 1 + 1 < w.heap.size:=by omega
  go_region
  go_wp2
  refine ⟨rfl,_,by cases c₀; simp_all,.tuple #[],by simp [results,Tryz.results50],rfl,rfl,?_⟩
  refine ⟨by simp [go_sem,c0],by simp [go_sem,c3],by simp [go_sem,c1],by simp [go_sem,c2],?_⟩
  exact (((((Below.refl B w).setCell (by simp) _).setCell (by simp) _).setCell (by simp) _).setCell (by simp; omega) _).drew
/-- tokens in memory. -/
def TokAt (tv : Value) (ts : List Tok) (w : World) : Prop:=ts.length≤6000∧∃ ao cap,tv = .slice ao ts.length cap ∧
    (ts≠[]→∃ b off,ao = some ⟨b,off,none⟩∧∀ (j : Nat) (u : Value),(toksCells ts)[j]? = some u→w.cell? ⟨b,off + j,none⟩ = some u)
/-- the reader's own box, behind what was there ahead of read. -/
structure RdT (w : World) (rb : Nat) (tv : Value) (ts : List Tok) (en n : Nat) (V : World) : Prop where
  tk : TokAt tv ts w
  hr : w.heap.size≤rb
  st : St rb tv ts en n V
  bel : Below w.heap.size w V
section
variable {rb : Nat} {tv : Value} {ts : List Tok} {en n n1 b j : Nat} {w V V' : World} {u : Value}
theorem RdT.size (h : RdT w rb tv ts en n V) : w.heap.size≤V.heap.size:=h.bel.size
theorem toks_lt {c : Nat} (h : TokAt tv ts w) {ao : Option Addr} {cap : Nat} (hv : tv = .slice ao ts.length cap) (hne : ts≠[]) : ∃ b off,ao = some ⟨b,off,none⟩∧b < w.heap.size∧∀ (j : Nat) (u : Value),(toksCells ts)[j]? = some u→w.cell? ⟨b,off + j,none⟩ = some u:=by
  obtain ⟨_,ao2,cap2,hv2,hc⟩:=h
  rw [hv] at hv2
  injection hv2 with e1 e2 e3
  subst e1
  obtain ⟨b,off,hb,hcc⟩:=hc hne
  refine ⟨b,off,hb,?_,hcc⟩
  cases ts with
  | nil => exact absurd rfl hne
  | cons t l => exact World.block_lt_of_cell? w _ (hcc 0 (.int .i64 t.kind) (by simp [toksCells,tokCells]))
theorem RdT.mk' (tk : TokAt tv ts w) (hr : w.heap.size≤rb) (hn : n≤ts.length) (hb : V.heap[rb]? = some (Obj.cells #[tv,.int .i64 (n : Int),.int .i64 (en : Int)] 93 (0,0))) (bel : Below w.heap.size w V) : RdT w rb tv ts en n V:=by
  obtain ⟨h6,ao,cap,hv,hc⟩:=id tk
  refine ⟨tk,hr,⟨hb,hn,h6,ao,cap,hv,fun hne => ?_⟩,bel⟩
  obtain ⟨b,off,h1,h2,h3⟩:=toks_lt (c:=0) tk hv hne
  exact ⟨b,off,h1,by omega,fun j u hu => by rw [bel.cell (p:=⟨b,off + j,none⟩) h2]; exact h3 j u hu⟩
theorem RdT.call (h : RdT w rb tv ts en n V) (hg : V.grownBy V' (some rb)) (hs : St rb tv ts en n1 V') : RdT w rb tv ts en n1 V' :=
  ⟨h.tk,h.hr,hs,h.bel.grown hg h.size fun k hk => by injection hk with hk; rw [← hk]; exact h.hr⟩
theorem RdT.gave (h : RdT w rb tv ts en n V) (hg : V.grownBy V' (some rb)) : Below w.heap.size w V':=h.bel.grown hg h.size fun k hk => by injection hk with hk; rw [← hk]; exact h.hr
theorem RdT.over (h : RdT w rb tv ts en n V) (hb : Ov V V') : RdT w rb tv ts en n V':=⟨h.tk,h.hr,h.st.below hb,h.bel.trans (hb.mono h.size)⟩
theorem RdT.set (h : RdT w rb tv ts en n V) (hb : w.heap.size≤b) (hne : b≠rb) : RdT w rb tv ts en n (V.setCell ⟨b,j,none⟩ u) :=
  RdT.mk' h.tk h.hr h.st.2.1 (by rw [Below.heap_setCell _ _ _ _ (by show rb≠b; omega)]; exact h.st.1) (h.bel.setCell hb u)
theorem RdT.row {B T s k : Nat} {v : Value} {xs : List Value} (h : RdT w rb tv ts en n V) (ho : V.ownsRow B T s v k xs) (hB : rb < B) (hg : V.grownBy V' v.ownBlock) : RdT w rb tv ts en n V' :=
  RdT.mk' h.tk h.hr h.st.2.1 (by rw [hg.block rb h.st.lt (fun e => by have:=(own_lt ho e.symm).1; omega)]; exact h.st.1) (h.bel.grown hg h.size fun k hk => by have:=(own_lt ho hk).1; have:=h.hr; omega)
theorem Bx.grown {b : Nat} {cs : List Value} {r : Option Nat} (h : Bx b cs V) (hg : V.grownBy V' r) (hb : some b≠r) : Bx b cs V' :=
  ⟨fun j u hu => hg.cell (h.row j u hu) hb,fun j => by rw [World.frozen?_of_block (a:=⟨b,j,none⟩) (hg.block b h.lt hb)]; exact h.fz j,Nat.lt_of_lt_of_le h.lt hg.size⟩
end
/-- what read holds: its results' boxes, the declarations so far. -/
structure ReadI (w : World) (tv : Value) (ts : List Tok) (en B b1 b2 rb : Nat) (acc : List D) (n : Nat) (v : Value) (V : World) : Prop where
  rd : RdT w rb tv ts en n V
  t : Bx B [v,.slice none 0 0] V
  p : Bx b1 [.int .i64 0] V
  q : Bx b2 [.int .i64 0] V
  cop : Cop (rb + 1) 51 13 (fun i cs W => ∀ x,acc[i]? = some x→XD W (2 * ts.length + 3) cs x) acc.length v V
  few : acc.length≤n
section
variable {w V V' : World} {tv v : Value} {ts : List Tok} {en B b1 b2 rb n n1 : Nat} {acc : List D}
theorem ReadI.call (h : ReadI w tv ts en B b1 b2 rb acc n v V) (hl : B < rb∧b1 < rb∧b2 < rb) (hg : V.grownBy V' (some rb)) (hs : St rb tv ts en n1 V') (hn : n≤n1) : ReadI w tv ts en B b1 b2 rb acc n1 v V' :=
  ⟨h.rd.call hg hs,h.t.keep hg (by omega),h.p.keep hg (by omega),h.q.keep hg (by omega),h.cop.keep hg (Nat.lt_succ_self _),Nat.le_trans h.few hn⟩
end
/-- what read is to answer. -/
def ReadSaid (B : Nat) (ts : List Tok) (en : Nat) (res : Res (List D × List D)) (e : Ending) (w' : World) : Prop :=
  match res with
  | .inl ((ds,l),_) => ∃ a c a2 c2,e = .returned (.tuple #[.agg #[.slice a ds.length c,.slice a2 l.length c2],.int .i64 0,.int .i64 0])∧Off B none w' (fun W => LS 13 (XD W (2 * ts.length + 3)) W (.slice a ds.length c) ds)∧Off B none w' (fun W => LS 12 (XC W (2 * ts.length + 3)) W (.slice a2 l.length c2) l)∧ds.length≤6000∧l.length≤6000
  | .inr m => e = .returned (.tuple #[.agg #[.slice none 0 0,.slice none 0 0],.int .i64 (posn ts en m),.int .i64 1])
def ReadPost (w : World) (ts : List Tok) (en : Nat) (e : Ending) (w' : World) : Prop:=Below w.heap.size w w'∧ReadSaid w.heap.size ts en (pTree ts en) e w'
end Go.Proofs.YtipngnjffjajpaaGreatDoor.Tx
