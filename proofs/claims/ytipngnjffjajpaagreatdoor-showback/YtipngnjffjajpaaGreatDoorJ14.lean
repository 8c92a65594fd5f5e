/- Package tree's reader: a declaration of any text. -/
import Derived.Test.YtipngnjffjajpaaGreatDoorJ13
import Derived.Deep.Cut
set_option linter.unusedVariables false
set_option maxHeartbeats 8000000
set_option maxRecDepth 100000
namespace Go.Proofs.YtipngnjffjajpaaGreatDoor.Tx
open Go.RowKit
open Go.Value renaming int -> I, slice -> zc, bool -> zd, pointer -> zf, agg -> zg, tuple -> zi
open Go.IntKind renaming i64 -> O
open Go.Obj renaming cells -> ze
open Go.Ending renaming returned -> zh
section
variable {rb:Nat} {tv:Value} {ts:List Tok} {en:Nat}
theorem QA (n:Nat) (w:World) (h:St rb tv ts en n w) (hk:AK (Ag ts n).text.data.toList=0) :
  Calls Tryz.prog 52 #[zf (some ⟨rb,0,none⟩)] w (Am ts en (Bo ts en n) (CO rb tv ts en w) (fun w'=>w.grownBy w' (some rb))):=by
 obtain ⟨G,g⟩:=nm (Bo ts en n);rw [<-g];have N:Hx (G=.inr n):=by show _=_;rw [g];unfold Bo;rw [hk];rfl
 obtain ⟨p,P⟩:=nm (Av ts en n);have Z:=Aa P;have a:=Aa (Rd.start h);have HK:=Aa hk;clear g P h hk;obtain ⟨Q,j⟩:=nm (w.alloc (ze #[I O 0,I O 0,.string ⟨#[]⟩,.string ⟨#[]⟩,zd false,zc none 0 0,zc none 0 0,zc none 0 0,I O 0,I O 0,I O 0,.string ⟨#[]⟩,zc none 0 0] 51));obtain ⟨F,v⟩:=nm w.heap.size;have f:=v;have C:Hx (w.heap.size<=F):=by show _<=_;rw [f];exact a.o.size
 have b:Hx (Bx F [I O 0,I O 0,.string ⟨#[]⟩,.string ⟨#[]⟩,zd false,zc none 0 0,zc none 0 0,zc none 0 0,I O 0,I O 0,I O 0,.string ⟨#[]⟩,zc none 0 0] Q):=by show Bx _ _ _;rw [j,f];exact Bx.new w [I O 0,I O 0,.string ⟨#[]⟩,.string ⟨#[]⟩,zd false,zc none 0 0,zc none 0 0,zc none 0 0,I O 0,I O 0,I O 0,.string ⟨#[]⟩,zc none 0 0] 51
 replace a:Hx (Rd rb tv ts en w (n) Q):=by show Rd _ _ _ _ _ _ _;rw [j];exact a.o.over (bA _ _)
 have S:=Aa (Cr n _ a.o.st);go_enter Tryz.func52,Tryz.ntmps52;go_wp2_with fail;rw [<-j,<-v];clear f;clear v j;refine S.o.mono ?_;rintro e U ⟨rfl,r,x⟩;rw [<-Z.o];replace b:=bkp b a.o.rlt C r;replace a:Hx (Rd rb tv ts en w (n) U):=a.o.call r x;clear r x;obtain ⟨X,A⟩:=nm (Ag ts n).kind;obtain ⟨V,y⟩:=nm (Ag ts n).pos;obtain ⟨tx,l⟩:=nm (Ag ts n).text;have M:=Aa (Eo n _ a.o.st);rw [<-A,<-y,<-l] at M;have B:=Aa l;have H:=Bz X V tx;clear S A y l;go_wp2_with fail;refine M.o.mono ?_;rintro e E ⟨rfl,r,x⟩;replace b:=bkp b a.o.rlt C r;replace a:Hx (Rd rb tv ts en w (n) E):=a.o.call r x;clear r x;have R:Hx (∀ W,Calls Tryz.prog 94 #[.string tx] W fun e w'=>e=zh (I O 0)/\W=w'):=fun W=>by
  have t:=BN tx W;rw [B.o,HK.o] at t;rw [B.o];exact t.mono fun e w' h=>⟨h.1,h.2.symm⟩
 clear M;go_wp2_with fail;refine (R.o _).mono ?_;rintro e w' ⟨rfl,rfl⟩;clear H R;obtain ⟨L,i⟩:=nm (E.alloc (ze #[I O 0,I O p,.string ⟨#[]⟩,.string ⟨#[]⟩,zd false,zc none 0 0,zc none 0 0,zc none 0 0,I O 0,I O 0,I O 0,.string ⟨#[]⟩,zc none 0 0] 51));obtain ⟨K,u⟩:=nm E.heap.size;have c:=u;have aa:Hx (w.heap.size<=K):=by show _<=_;rw [c];exact a.o.size
 have T:Hx (F < K):=by show _ < _;rw [c];exact b.o.lt
 have ac:Hx (Bx K [I O 0,I O p,.string ⟨#[]⟩,.string ⟨#[]⟩,zd false,zc none 0 0,zc none 0 0,zc none 0 0,I O 0,I O 0,I O 0,.string ⟨#[]⟩,zc none 0 0] L):=by show Bx _ _ _;rw [i,c];exact Bx.new E [I O 0,I O p,.string ⟨#[]⟩,.string ⟨#[]⟩,zd false,zc none 0 0,zc none 0 0,zc none 0 0,I O 0,I O 0,I O 0,.string ⟨#[]⟩,zc none 0 0] 51
 replace b:Hx (Bx F [I O 0,I O 0,.string ⟨#[]⟩,.string ⟨#[]⟩,zd false,zc none 0 0,zc none 0 0,zc none 0 0,I O 0,I O 0,I O 0,.string ⟨#[]⟩,zc none 0 0] L):=by show Bx _ _ _;rw [i];exact b.o.over (bA _ _)
 replace a:Hx (Rd rb tv ts en w (n) L):=by show Rd _ _ _ _ _ _ _;rw [i];exact a.o.over (bA _ _)
 have Y:=Aa (BQ rb tv ts en n _ a.o.st);go_wp2_with fail;rw [<-i,<-u];clear c;clear u i;refine Y.o.mono ?_;rintro e wz ⟨rfl,J⟩;unfold Ai;go_wp2_with fail;refine ⟨rfl,?_⟩;rw [N.o];exact ⟨rfl,Ab a.o.gr (Ad J)⟩
theorem Ob (l:List UInt8):AK l=0\/AK l=1\/AK l=2\/AK l=3\/AK l=4\/AK l=5\/AK l=6\/AK l=7:=by
 unfold AK
 repeat' split
 all_goals simp
theorem Qs (hall:ts.all Ao=true) (n:Nat) (w:World) (h:St rb tv ts en n w) :
  Calls Tryz.prog 52 #[zf (some ⟨rb,0,none⟩)] w (Am ts en (Bo ts en n) (CO rb tv ts en w) (fun w'=>w.grownBy w' (some rb))):=by
 obtain a | h1 | h2 | h3 | h4 | h5 | h6 | h7:=Ob (Ag ts n).text.data.toList
 ·exact QA n w h a
 ·exact Qz hall n w h h1
 ·exact Qy hall n w h h2
 ·exact Qx hall n w h h3
 ·exact Qw hall n w h h4
 ·exact Qv hall n w h h5
 ·exact Qu hall n w h h6
 ·exact Qt hall n w h h7
theorem Nu {p:Int} {x:ByteArray} {n:Nat} {d:D} {n1:Nat} (h:Fq ts en p x n=.inl (d,n1)):n+1<=n1:=by
 unfold Fq at h;obtain ⟨_,G,r,h⟩:=AF h;obtain ⟨_,F,l,h⟩:=AF h;obtain ⟨_,E,j,h⟩:=AF h;obtain ⟨_,C,i,h⟩:=AF h;obtain ⟨_,B,g,h⟩:=AF h;obtain ⟨_,A,f,h⟩:=AF h;obtain ⟨_,y,c,h⟩:=AF h;obtain ⟨_,v,b,h⟩:=AF h;obtain ⟨_,u,a,h⟩:=AF h;cases h;have:=Bk r;have:=FR l;have:=Bk j;have:=Bk i;have:=CD _ _ _ _ _ g;have:=Bk f;have:=DK c;have:=Bk b;have:=Bk a;omega
theorem Mp {n:Nat} {l:List D} {n1:Nat} (h:BV ts en n=.inl (l,n1)):n<=n1:=by
 unfold BV at h;obtain ⟨_,i,c,h⟩:=AF h;obtain ⟨_,g,b,h⟩:=AF h;obtain ⟨_,f,a,h⟩:=AF h;have:=Bk c;have:=Fu (fun _ _ _ h=>Nat.le_of_lt (E9 h)) _ _ _ _ _ _ b;have:=Bk a;have:=DE h;omega
theorem EP {kd p:Int} {x y:ByteArray} {gv:Bool} {n:Nat} {d:D} {n1:Nat} (h:Cp ts en kd p x y gv n=.inl (d,n1)):n+1<=n1:=by
 unfold Cp at h;split at h
 ·obtain ⟨_,b,a,h⟩:=AF h
  obtain ⟨_,f,c,h⟩:=AF h;cases h;have:=Mp a;have:=Bk c;omega
 ·obtain ⟨_,b,a,h⟩:=AF h
  cases h;exact Bk a
theorem DL {n:Nat} {d:D} {n1:Nat} (h:Bo ts en n=.inl (d,n1)):n+1<=n1:=by
 unfold Bo at h;split at h
 ·cases h
 obtain ⟨a,i,f,h⟩:=AF h;have:=BB f;split at h
 ·obtain ⟨b,g,c,h⟩:=AF h
  have:=BB c;have:=EP h;omega
 split at h
 ·have:=EP h
  omega
 split at h
 ·have:=EP h
  omega
 split at h
 ·have:=Nu h
  omega
 ·have:=EP h
  omega
end
theorem Jr (p q r:Addr) (w:World) :
  CallsD Tryz.prog 50 #[zf (some p),zf (some q),zf (some r)] .returning w fun e u' w'=>e=zh (zi #[])/\u'=.returning/\w'=w:=by
 refine callsD_of_wpS Tryz.func50 rfl fun b c a=>?_;apply wpS_seq;apply wpS_region;simp [wpOpsS,go_sem,recoverD,a,Tryz.ntmps50,Exit.thenS];refine wpS_of_wp ?_
 change Code.wp Tryz.prog _ _ { tmps:=#[zf (some p),zf (some q),zf (some r),.nilIface,.nilIface,undef,undef,undef,undef,undef],defers:=[] } w
 go_wp2
 cases b
 simp_all [bodyPostS,results,Tryz.results50]
theorem Oi (v:Value) (w:World):(Instr.typeAssert (.iface 90 v) 20 90 false).run Tryz.prog w=.ok v w:=by
 simp [Instr.typeAssert,run_underlying Tryz.underlying90,go_sem,Result.andThen]
theorem C9 (B:Nat) (x y:Value) (m n a:Int) (older:List PanicEntry) (w:World) (hB:B+3<=w.heap.size)
  (c0:w.cell? ⟨B,0,none⟩=some x) (c3:w.cell? ⟨B,1,none⟩=some y) (c1:w.cell? ⟨B+1,0,none⟩=some (I O m)) (c2:w.cell? ⟨B+1+1,0,none⟩=some (I O n))
  (f0:w.frozen? ⟨B,0,none⟩=false) (f3:w.frozen? ⟨B,1,none⟩=false) (f1:w.frozen? ⟨B+1,0,none⟩=false) (f2:w.frozen? ⟨B+1+1,0,none⟩=false) :
  CallsD Tryz.prog 50 #[zf (some ⟨B,0,none⟩),zf (some ⟨B+1,0,none⟩),zf (some ⟨B+1+1,0,none⟩)] (.panicking ({ v:=.iface 90 (I O a),recovered:=false }::older)) w fun en u' w'=>
   en=zh (zi #[])/\u'=.panicking ({ v:=.iface 90 (I O a),recovered:=true }::older) /\
   w'.cell? ⟨B,0,none⟩=some (zc none 0 0)/\w'.cell? ⟨B,1,none⟩=some (zc none 0 0)/\w'.cell? ⟨B+1,0,none⟩=some (I O a)/\w'.cell? ⟨B+1+1,0,none⟩=some (I O 1)/\Below B w w':=by
 have c:=Oi;refine callsD_of_wpS Tryz.func50 rfl fun f l b=>?_;apply wpS_seq;apply wpS_region;simp [wpOpsS,go_sem,recoverD,b,Tryz.ntmps50,Exit.thenS];refine wpS_of_wp ?_
 change Code.wp Tryz.prog _ _ { tmps:=#[zf (some ⟨B,0,none⟩),zf (some ⟨B+1,0,none⟩),zf (some ⟨B+1+1,0,none⟩),.iface 90 (I O a),.iface 90 (I O a),undef,undef,undef,undef,undef],defers:=[] } w
 go_wp2
 have j:B < w.heap.size:=by omega
 have i:B+1 < w.heap.size:=by omega
 have g:B+1+1 < w.heap.size:=by omega
 go_region
 go_wp2
 refine ⟨rfl,_,by cases f;simp_all,zi #[],by simp [results,Tryz.results50],rfl,rfl,?_⟩;refine ⟨by simp [go_sem,c0],by simp [go_sem,c3],by simp [go_sem,c1],by simp [go_sem,c2],?_⟩;exact (((((Below.refl B w).setCell (by simp) _).setCell (by simp) _).setCell (by simp) _).setCell (by simp;omega) _).drew
def G4 (tv:Value) (ts:List Tok) (w:World):Prop:=ts.length<=6000/\∃ ao cap,tv=zc ao ts.length cap /\
  (ts≠[]->∃ b off,ao=some ⟨b,off,none⟩/\∀ (j:Nat) (u:Value),(AM ts)[j]? = some u->w.cell? ⟨b,off+j,none⟩=some u)
structure RdT (w:World) (rb:Nat) (tv:Value) (ts:List Tok) (en n:Nat) (V:World):Prop where
 tk:G4 tv ts w
 hr:w.heap.size<=rb
 st:St rb tv ts en n V
 bel:Below w.heap.size w V
section
variable {rb:Nat} {tv:Value} {ts:List Tok} {en n n1 b j:Nat} {w V V':World} {u:Value}
theorem RdT.size (h:RdT w rb tv ts en n V):w.heap.size<=V.heap.size:=h.bel.size
theorem LE {c:Nat} (h:G4 tv ts w) {ao:Option Addr} {cap:Nat} (hv:tv=zc ao ts.length cap) (hne:ts≠[]):∃ b off,ao=some ⟨b,off,none⟩/\b < w.heap.size/\∀ (j:Nat) (u:Value),(AM ts)[j]? = some u->w.cell? ⟨b,off+j,none⟩=some u:=by
 obtain ⟨_,v,g,a,i⟩:=h;rw [hv] at a;injection a with r y x;subst r;obtain ⟨b,off,n,f⟩:=i hne;refine ⟨b,off,n,?_,f⟩
 cases ts with
 | nil=>exact absurd rfl hne
 | cons t l=>exact World.block_lt_of_cell? w _ (f 0 (I O t.kind) (by simp [AM,Eg]))
theorem RdT.mk' (tk:G4 tv ts w) (hr:w.heap.size<=rb) (hn:n<=ts.length) (hb:V.heap[rb]? = some (Obj.cells #[tv,I O (n:Int),I O (en:Int)] 93 (0,0))) (bel:Below w.heap.size w V):RdT w rb tv ts en n V:=by
 obtain ⟨r,A,g,i,B⟩:=id tk;refine ⟨tk,hr,⟨hb,hn,r,A,g,i,fun f=>?_⟩,bel⟩;obtain ⟨b,a,y,x,v⟩:=LE (c:=0) tk i f;exact ⟨b,a,y,by omega,fun j u l=>by rw [bel.cell (p:=⟨b,a+j,none⟩) x];exact v j u l⟩
theorem RdT.call (h:RdT w rb tv ts en n V) (hg:V.grownBy V' (some rb)) (hs:St rb tv ts en n1 V'):RdT w rb tv ts en n1 V':=
 ⟨h.tk,h.hr,hs,h.bel.grown hg h.size fun k hk=>by injection hk with hk;rw [<-hk];exact h.hr⟩
theorem RdT.gave (h:RdT w rb tv ts en n V) (hg:V.grownBy V' (some rb)):Below w.heap.size w V':=h.bel.grown hg h.size fun k hk=>by injection hk with hk;rw [<-hk];exact h.hr
theorem RdT.over (h:RdT w rb tv ts en n V) (hb:Ov V V'):RdT w rb tv ts en n V':=⟨h.tk,h.hr,h.st.below hb,h.bel.trans (hb.mono h.size)⟩
theorem RdT.set (h:RdT w rb tv ts en n V) (hb:w.heap.size<=b) (hne:b≠rb):RdT w rb tv ts en n (V.setCell ⟨b,j,none⟩ u):=
 RdT.mk' h.tk h.hr h.st.2.1 (by rw [Below.heap_setCell _ _ _ _ (by show rb≠b;omega)];exact h.st.1) (h.bel.setCell hb u)
theorem RdT.row {B T s k:Nat} {v:Value} {xs:List Value} (h:RdT w rb tv ts en n V) (ho:V.ownsRow B T s v k xs) (hB:rb < B) (hg:V.grownBy V' v.ownBlock):RdT w rb tv ts en n V':=
 RdT.mk' h.tk h.hr h.st.2.1 (by rw [hg.block rb h.st.lt (fun e=>by have:=(AO ho e.symm).1;omega)];exact h.st.1) (h.bel.grown hg h.size fun k hk=>by have:=(AO ho hk).1;have:=h.hr;omega)
theorem Bx.grown {b:Nat} {cs:List Value} {r:Option Nat} (h:Bx b cs V) (hg:V.grownBy V' r) (hb:some b≠r):Bx b cs V':=
 ⟨fun j u hu=>hg.cell (h.row j u hu) hb,fun j=>by rw [World.frozen?_of_block (a:=⟨b,j,none⟩) (hg.block b h.lt hb)];exact h.fz j,Nat.lt_of_lt_of_le h.lt hg.size⟩
end
structure J2 (w:World) (tv:Value) (ts:List Tok) (en B b1 b2 rb:Nat) (acc:List D) (n:Nat) (v:Value) (V:World):Prop where
 rd:RdT w rb tv ts en n V
 t:Bx B [v,zc none 0 0] V
 p:Bx b1 [I O 0] V
 q:Bx b2 [I O 0] V
 cop:Cop (rb+1) 51 13 (fun i cs W=>∀ x,acc[i]? = some x->XD W (2*ts.length+3) cs x) acc.length v V
 few:acc.length<=n
section
variable {w V V':World} {tv v:Value} {ts:List Tok} {en B b1 b2 rb n n1:Nat} {acc:List D}
theorem J2.call (h:J2 w tv ts en B b1 b2 rb acc n v V) (hl:B < rb/\b1 < rb/\b2 < rb) (hg:V.grownBy V' (some rb)) (hs:St rb tv ts en n1 V') (hn:n<=n1):J2 w tv ts en B b1 b2 rb acc n1 v V':=
 ⟨h.rd.call hg hs,h.t.keep hg (by omega),h.p.keep hg (by omega),h.q.keep hg (by omega),h.cop.keep hg (Nat.lt_succ_self _),Nat.le_trans h.few hn⟩
end
def Om (B:Nat) (ts:List Tok) (en:Nat) (res:Res (List D × List D)) (e:Ending) (w':World):Prop:=
 match res with
 | .inl ((ds,l),_)=>∃ a c a2 c2,e=zh (zi #[zg #[zc a ds.length c,zc a2 l.length c2],I O 0,I O 0])/\Off B none w' (fun W=>LS 13 (XD W (2*ts.length+3)) W (zc a ds.length c) ds)/\Off B none w' (fun W=>LS 12 (XC W (2*ts.length+3)) W (zc a2 l.length c2) l)/\ds.length<=6000/\l.length<=6000
 | .inr m=>e=zh (zi #[zg #[zc none 0 0,zc none 0 0],I O (Av ts en m),I O 1])
def J1 (w:World) (ts:List Tok) (en:Nat) (e:Ending) (w':World):Prop:=Below w.heap.size w w'/\Om w.heap.size ts en (D5 ts en) e w'
theorem Tryz.infoTD:(Tryz.prog.info? 51).map (fun i=>(i.zero,i.size,i.bytes))=some (some (zg #[I O 0,I O 0,.string ⟨#[]⟩,.string ⟨#[]⟩,zd false,zc none 0 0,zc none 0 0,zc none 0 0,I O 0,I O 0,I O 0,.string ⟨#[]⟩,zc none 0 0]),13,192):=by kernel_rfl
def LQ (ts:List Tok) (en:Nat) (ds:List D) (n:Nat):Res (List D × List D):=Ar (Aq ts [109,97,105,110] n) fun _ n1=>Ar (Be ts (AL ts en (2*ts.length+3) []) n1) fun l n2=>if n2 < ts.length then .inr n2 else .inl ((ds,l),n2)
theorem Jy (ts:List Tok) (en f:Nat) (acc:List D) (n:Nat):DD ts en (f+1) acc n=if isT ts n [109,97,105,110]=true then .inl (acc,n) else Ar (Bo ts en n) fun d n1=>DD ts en f (acc++[d]) n1:=rfl
def Q8 (R:Act->World->Prop) (A:Act->Prop) (Pn:List PanicEntry->World->Prop):Exit->Act->World->Prop
 | .normal,a,w=>R a w
 | .panic c,a,w=>A a/\Pn c w
 | _,_,_=>False
theorem Jq {P:Program} {id:Nat} {ops:Array Oper} {dr:Bool} {Q:Exit->Act->World->Prop} {a:Act} {w:World} (R:Act->World->Prop) (A:Act->Prop) (Pn:List PanicEntry->World->Prop) (h:(Code.region id ops dr).wp P (Q8 R A Pn) a w) (hq:∀ a w,R a w->Q .normal a w) (hp:∀ c a w,A a->Pn c w->Q (.panic c) a w):(Code.region id ops dr).wp P Q a w:=
 Code.wp_mono (by intro e a w h;cases e <;> first | exact hq _ _ h | exact hp _ _ _ h.1 h.2 | exact h.elim) h
def I4 (x y z:Value) (ds:List Deferred) (a:Act):Prop:=a.defers=ds/\a.tmps[4]? = some x/\a.tmps[5]? = some y/\a.tmps[6]? = some z
theorem I4.put {x y z:Value} {ds:List Deferred} {a:Act} {d:Nat} {v:Value} (hd:7<=d) (h:I4 x y z ds (a.put (some d) v)):I4 x y z ds a:=by
 obtain ⟨g,f,c,b⟩:=h;simp only [Act.put] at g f c b;rw [Array.getElem?_setIfInBounds_ne (by omega)] at f c b;exact ⟨g,f,c,b⟩
theorem P3 {tv:Value} {ts:List Tok} {en:Nat} (hall:ts.all Ao=true) (w:World) (h:G4 tv ts w):Calls Tryz.prog 23 #[tv,I O (en:Int)] w (J1 w ts en):=by
 have ez:∀ (fn:Fn) (first cap:Array Value) (w:World),(Instr.makeFunc fn first cap).run Tryz.prog w=.ok (.func fn first cap) w:=fun _ _ _ _=>rfl;obtain ⟨i0,hi,ck,cj,ci⟩:=info_parts Tryz.infoTD;unfold J1;obtain ⟨am,bt⟩:=nm (D5 ts en);rw [<-bt];have HR:Hx (Ar (DD ts en (ts.length+1) [] 0) (LQ ts en)=am):=bt.symm;have HT:=Aa h;obtain ⟨h6,ao,cap,hv,-⟩:=h;subst hv;clear bt
 go_enter_defers Tryz.func23,Tryz.ntmps23
 go_wp2_with fail;go_loopw [] (fun wr=>∃ (acc:List D) (m f:Nat) (v:Value),J2 w (zc ao ts.length cap) ts en w.heap.size (w.heap.size+1) (w.heap.size+1+1) (w.heap.size+1+1+1) acc m v wr/\Ar (DD ts en f acc m) (LQ ts en)=am/\ts.length+1<=f+m) (fun wr=>ts.length+1 - nOf (w.heap.size+1+1+1) wr)
 case atStart=>
  refine ⟨[],0,ts.length+1,zc none 0 0,⟨?_,?_,?_,?_,Cop.nil,Nat.zero_le _⟩,HR.o,Nat.le_refl _⟩
  ·refine RdT.mk' HT.o (by omega) (Nat.zero_le _) ?_ ?_
   ·have t:=fun A A2 A3 o=>Gp (((w.alloc A).alloc A2).alloc A3) o
    simp only [alS] at t;exact t _ _ _ _
   ·exact ((((Below.refl _ w).alloc (Nat.le_refl _) _).alloc (by simp) _).alloc (by simp;omega) _).alloc (by simp;omega) _
  ·exact (((Bx.new w [zc none 0 0,zc none 0 0] _).over (bA _ _)).over (bA _ _)).over (bA _ _)
  ·have t:=fun T A o o'=>((Bx.new (w.alloc A) [I O 0] T).over (bA _ o)).over (bA _ o')
   simp only [alS] at t;exact t _ _ _ _
  ·have t:=fun T A A2 o=>(Bx.new ((w.alloc A).alloc A2) [I O 0] T).over (bA _ o)
   simp only [alS] at t;exact t _ _ _ _
 case round=>
  obtain ⟨acc,m,f,v,hI,hp,hf⟩:=hrel;obtain ⟨f,rfl⟩:∃ g,f=g+1:=⟨f - 1,by have:=hI.rd.st.2.1;omega⟩;rw [Jy] at hp;have K1:=Aa (ME ⟨#[109,97,105,110]⟩ [109,97,105,110] rfl m wr hI.rd.st);obtain ⟨la,lc,dw,-⟩:=hI.cop.cells (by decide);subst dw;have HN:=Aa (FW hI.rd.st);have HI:=Aa hI;have dg:=Aa hp;have HF:=Aa hf;obtain ⟨k,hk⟩:=nm acc.length;rw [<-hk] at HI;have HK:=Aa hk;clear hI hp hf hk h6;go_wp2_with fail;refine K1.o.mono ?_;rintro e w1 ⟨rfl,N,hs⟩;have c6:=HI.o.call (by omega) N hs (Nat.le_refl _);have B:=Aa c6;have fb:=Aa N;clear N hs c6 K1
  cases hq:isT ts m [109,97,105,110] with
  | true=>
   have HE:Hx (am=LQ ts en acc m):=by show _=_;rw [<-dg.o,if_pos hq];rfl
   have hh:=HE.o;unfold LQ at hh;replace HE:=Aa hh;have K2:=Aa (Bs ⟨#[109,97,105,110]⟩ (by decide) m w1 B.o.rd.st);clear hq hh;go_wp2_with fail;refine K2.o.mono ?_;rintro e wx R;obtain ⟨m1,M⟩ | ⟨_u,n1,M⟩:=Aj (Aq ts [109,97,105,110] m)
   ·replace R:Am ts en (Aq ts [109,97,105,110] m) _ _ e wx:=R
    rw [M] at R;obtain ⟨rfl,N⟩:=R;have ae:Hx (am=.inr m1):=by show _=_;rw [HE.o,M];rfl
    have a3:=Aa (B.o.rd.gave N);have Q:=Aa (B.o.t.keep N (by omega));have af:=Aa (B.o.p.keep N (by omega));have S:=Aa (B.o.q.keep N (by omega));clear N M;unfold Ai;go_wp2_with fail;refine leaves_cons (f:=50) (args:=#[zf (some ⟨w.heap.size,0,none⟩),zf (some ⟨w.heap.size+1,0,none⟩),zf (some ⟨w.heap.size+1+1,0,none⟩)]) (by simp) (by simp [go_sem]) ?_;refine (C9 w.heap.size _ _ 0 0 _ [] _ (by have:=S.o.lt;omega) (Q.o.row 0 _ rfl) (Q.o.row 1 _ rfl) (af.o.row 0 _ rfl) (S.o.row 0 _ rfl) (Q.o.fz 0) (Q.o.fz 1) (af.o.fz 0) (S.o.fz 0)).mono ?_;rintro e u' w9 ⟨rfl,rfl,d0,d1,d2,d3,a0⟩;have az:=a3.o.trans a0;simp [Leaves,settle,results,Tryz.results23,go_sem,d0,d1,d2,d3];rw [ae.o];exact ⟨az,rfl⟩
   replace R:Am ts en (Aq ts [109,97,105,110] m) _ _ e wx:=R;rw [M] at R;obtain ⟨rfl,N,hs⟩:=R;have hh:=HE.o;rw [M,Al] at hh;replace HE:=Aa hh;have E:=Aa (B.o.call (by omega) N hs (Nat.le_of_lt (Bk M)));have K3:=Aa (Gn (2*ts.length+3) (L5 (rb:=w.heap.size+1+1+1) (en:=en) hall _).2 n1 wx hs (by omega));clear hh M N hs K2 B;obtain ⟨w2,c0⟩:=nm wx;rw [<-c0] at E K3 ⊢;clear c0;go_wp2_with fail;refine K3.o.mono ?_;clear wx;rintro e wx R;obtain ⟨m1,M⟩ | ⟨l,n2,M⟩:=Aj (Be ts (fun n=>AL ts en (2*ts.length+3) [] n) n1)
   ·replace R:Am ts en (Be ts (fun n=>AL ts en (2*ts.length+3) [] n) n1) _ _ e wx:=R
    rw [M] at R;obtain ⟨rfl,N⟩:=R;have ae:Hx (am=.inr m1):=by show _=_;rw [HE.o,M];rfl
    have a3:=Aa (E.o.rd.gave N);have Q:=Aa (E.o.t.keep N (by omega));have af:=Aa (E.o.p.keep N (by omega));have S:=Aa (E.o.q.keep N (by omega));clear N M;unfold Ai;go_wp2_with fail;refine leaves_cons (f:=50) (args:=#[zf (some ⟨w.heap.size,0,none⟩),zf (some ⟨w.heap.size+1,0,none⟩),zf (some ⟨w.heap.size+1+1,0,none⟩)]) (by simp) (by simp [go_sem]) ?_;refine (C9 w.heap.size _ _ 0 0 _ [] _ (by have:=S.o.lt;omega) (Q.o.row 0 _ rfl) (Q.o.row 1 _ rfl) (af.o.row 0 _ rfl) (S.o.row 0 _ rfl) (Q.o.fz 0) (Q.o.fz 1) (af.o.fz 0) (S.o.fz 0)).mono ?_;rintro e u' w9 ⟨rfl,rfl,d0,d1,d2,d3,a0⟩;have az:=a3.o.trans a0;simp [Leaves,settle,results,Tryz.results23,go_sem,d0,d1,d2,d3];rw [ae.o];exact ⟨az,rfl⟩
   replace R:Am ts en (Be ts (fun n=>AL ts en (2*ts.length+3) [] n) n1) _ _ e wx:=R;rw [M] at R;obtain ⟨a2,c2,rfl,ap,c5,N,hs⟩:=R;have hh:=HE.o;rw [M,Al] at hh;replace HE:=Aa hh;have d8:=Aa (Nat.le_of_lt (Di (fun n l n1 h=>CD _ [] n l n1 h) M));have ag:=Aa (E.o.call (by omega) N hs d8.o);have aj:=Aa ap;have d9:=Aa c5;clear hh M N hs ap c5 K3;have t0:=ag.o.t.row 0 _ rfl;have t1:=ag.o.t.row 1 _ rfl;have t2:=ag.o.t.fz 1;obtain ⟨Z,ai⟩:=nm (wx.setCell ⟨w.heap.size,1,none⟩ (zc a2 l.length c2));have a1:Hx (RdT w (w.heap.size+1+1+1) (zc ao ts.length cap) ts en n2 Z):=by show RdT _ _ _ _ _ _ _;rw [ai];exact ag.o.rd.set (Nat.le_refl _) (by omega)
   have ak:Hx (Bx w.heap.size [zc la k lc,zc a2 l.length c2] Z):=by show Bx _ _ _;rw [ai];exact ag.o.t.set (j:=1) (by simp)
   have ax:Hx (Bx (w.heap.size+1) [I O 0] Z):=by show Bx _ _ _;rw [ai];exact ag.o.p.far (by omega)
   have aw:Hx (Bx (w.heap.size+1+1) [I O 0] Z):=by show Bx _ _ _;rw [ai];exact ag.o.q.far (by omega)
   obtain ⟨dt,dr,rc2,dq⟩:=a1.o.st.cells;obtain ⟨lk,cm⟩:=nm l.length;rw [<-cm] at ai ak ⊢;have d7:=Aa cm;clear cm;by_cases hlt:n2 < ts.length
   ·have K4:=Aa (BQ _ _ ts en n2 _ a1.o.st)
    go_wp2_with fail;rw [<-ai];clear ai t0 t1 t2
    go_quiet ((fail))
    go_wp2_with fail;have L:Hx (Ov Z (Z.drewN nq)):=below_drewN (Below.refl _ _) _;generalize Z.drewN nq=W5 at L ⊢;refine (BQ _ _ ts en n2 _ (a1.o.st.below L.o)).mono ?_;rintro e wz ⟨rfl,c9⟩;have ce:=Aa (Ac L.o c9);have ae:Hx (am=.inr n2):=by show _=_;rw [HE.o,if_pos hlt]
    have a3:=Aa (a1.o.bel.trans (ce.o.mono a1.o.size));have Q:=Aa (ak.o.over ce.o);have af:=Aa (ax.o.over ce.o);have S:=Aa (aw.o.over ce.o);clear c9 hlt;unfold Ai;go_wp2_with fail;refine leaves_cons (f:=50) (args:=#[zf (some ⟨w.heap.size,0,none⟩),zf (some ⟨w.heap.size+1,0,none⟩),zf (some ⟨w.heap.size+1+1,0,none⟩)]) (by simp) (by simp [go_sem]) ?_;refine (C9 w.heap.size _ _ 0 0 _ [] _ (by have:=S.o.lt;omega) (Q.o.row 0 _ rfl) (Q.o.row 1 _ rfl) (af.o.row 0 _ rfl) (S.o.row 0 _ rfl) (Q.o.fz 0) (Q.o.fz 1) (af.o.fz 0) (S.o.fz 0)).mono ?_;rintro e u' w9 ⟨rfl,rfl,d0,d1,d2,d3,a0⟩;have az:=a3.o.trans a0;simp [Leaves,settle,results,Tryz.results23,go_sem,d0,d1,d2,d3];rw [ae.o];exact ⟨az,rfl⟩
   ·go_wp2_with fail
    rw [<-ai];have de:=Aa ai;clear ai t0 t1 t2
    go_quiet ((fail))
    have L:Hx (Ov Z (Z.drewN nq)):=below_drewN (Below.refl _ _) _;generalize Z.drewN nq=W5 at L ⊢;have b2:=Aa (ak.o.over L.o);have co:=Aa (ax.o.over L.o);have cn:=Aa (aw.o.over L.o);have t0:=b2.o.row 0 _ rfl;have t1:=b2.o.row 1 _ rfl;have t2:=b2.o.fz 0;have t3:=b2.o.fz 1;have t4:=co.o.row 0 _ rfl;have t5:=co.o.fz 0;have t6:=cn.o.row 0 _ rfl;have t7:=cn.o.fz 0;have ae:Hx (am=.inl ((acc,l),n2)):=by show _=_;rw [HE.o,if_neg hlt]
    go_wp2_with fail;clear t0 t1 t2 t3 t4 t5 t6 t7 dt dr rc2 dq;obtain ⟨V9,au⟩:=nm ((((W5.setCell ⟨w.heap.size,0,none⟩ (zc la k lc)).setCell ⟨w.heap.size,1,none⟩ (zc a2 lk c2)).setCell ⟨w.heap.size+1,0,none⟩ (I O 0)).setCell ⟨w.heap.size+1+1,0,none⟩ (I O 0));rw [<-au];have df:Hx (Bx w.heap.size [zc la k lc,zc a2 lk c2] V9):=by show Bx _ _ _;rw [au];exact (((b2.o.set (j:=0) (by simp)).set (j:=1) (by simp)).far (by omega)).far (by omega)
    have d5:Hx (Bx (w.heap.size+1) [I O 0] V9):=by show Bx _ _ _;rw [au];exact (((co.o.far (by omega)).far (by omega)).set (j:=0) (by simp)).far (by omega)
    have d4:Hx (Bx (w.heap.size+1+1) [I O 0] V9):=by show Bx _ _ _;rw [au];exact (((cn.o.far (by omega)).far (by omega)).far (by omega)).set (j:=0) (by simp)
    have ec:Hx (Below w.heap.size w V9):=by show Below _ _ _;rw [au];exact ((((a1.o.bel.trans (L.o.mono a1.o.size)).setCell (by simp) _).setCell (by simp) _).setCell (by simp) _).setCell (by simp;omega) _
    have c8:Cop (w.heap.size+1+1+1+1) 51 13 (fun i cs W=>∀ x,acc[i]? = some x->XD W (2*ts.length+3) cs x) acc.length (zc la k lc) Z:=by rw [de.o];exact ag.o.cop.set (by omega)
    have c7:Cop (w.heap.size+1+1+1+1) 51 13 (fun i cs W=>∀ x,acc[i]? = some x->XD W (2*ts.length+3) cs x) acc.length (zc la k lc) V9:=by rw [au];exact ((((c8.over L.o).set (by omega)).set (by omega)).set (by omega)).set (by omega)
    have b0:acc.length<=6000:=by have:=ag.o.few;have:=ag.o.rd.st.2.1;have:=ag.o.rd.st.2.2.1;omega
    obtain ⟨a,c,hv,ap⟩:=Cop.ls c7 (by decide) (by omega);injection hv with v1 v2 v3;subst v1 v3;have hz:w.heap.size+1+1 < w2.heap.size:=E.o.q.lt;have c4:Off w2.heap.size none Z (fun W=>LS 12 (XC W (2*ts.length+3)) W (zc a2 l.length c2) l):=by rw [de.o];exact aj.o.set (by omega)
    have c3:Off w2.heap.size none V9 (fun W=>LS 12 (XC W (2*ts.length+3)) W (zc a2 l.length c2) l):=by rw [au];exact ((((c4.over L.o).set (by omega)).set (by omega)).set (by omega)).set (by omega)
    have dz:=Aa (ap.base (B':=w.heap.size) (by omega));have dy:=Aa (c3.base (B':=w.heap.size) (by omega));have eb:=Aa b0;clear au c8 c7 b0 ap c4 c3 hz v2 hlt;refine leaves_cons (f:=50) (args:=#[zf (some ⟨w.heap.size,0,none⟩),zf (some ⟨w.heap.size+1,0,none⟩),zf (some ⟨w.heap.size+1+1,0,none⟩)]) (by simp) (by simp [go_sem]) ?_;refine (Jr _ _ _ _).mono ?_;rintro e u' w9 ⟨rfl,rfl,cl⟩;have cl:=cl.symm;subst cl;have d0:=df.o.row 0 _ rfl;have d1:=df.o.row 1 _ rfl;have d2:=d5.o.row 0 _ rfl;have d3:=d4.o.row 0 _ rfl;simp [Leaves,settle,results,Tryz.results23,go_sem,d0,d1,d2,d3];rw [ae.o];exact ⟨ec.o,_,_,_,_,by rw [HK.o,d7.o],dz.o,dy.o,eb.o,d9.o⟩
  | false=>
   have hr:=dg.o;rw [if_neg (by rw [hq];simp)] at hr;have cd:=Aa hr;have KD:Hx (∀ X,Ov w1 X->_):=fun X (hX:Ov w1 X)=>Qs (rb:=w.heap.size+1+1+1) (en:=en) hall m X (B.o.rd.st.below hX);have s1:=B.o.t.row 0 _ rfl;clear hr hq;go_wp2_with fail;refine Jq (fun dc W=>∃ (d:D) (n1:Nat) (v:Value) (u13 u14 u15 u16 u17 u18 u19 u20 u21 u22:Value),dc={ tmps:=#[zc ao ts.length cap,I O (en:Int),undef,undef,zf (some ⟨w.heap.size,0,none⟩),zf (some ⟨w.heap.size+1,0,none⟩),zf (some ⟨w.heap.size+1+1,0,none⟩),zf (some ⟨w.heap.size+1+1+1,0,none⟩),.func (Fn.func 50) #[] #[zf (some ⟨w.heap.size,0,none⟩),zf (some ⟨w.heap.size+1,0,none⟩),zf (some ⟨w.heap.size+1+1,0,none⟩)],zc ao ts.length cap,I O (en:Int),zg #[zc ao ts.length cap,I O 0,I O (en:Int)],zf (some ⟨w.heap.size+1+1+1,0,none⟩),u13,u14,u15,u16,u17,u18,u19,u20,u21,u22,undef,undef,undef,undef,undef,undef,undef,undef,undef,undef,undef,undef,undef,undef,undef,undef,undef,undef],defers:=[{ target:=Target.fn (Fn.func 50) #[zf (some ⟨w.heap.size,0,none⟩),zf (some ⟨w.heap.size+1,0,none⟩),zf (some ⟨w.heap.size+1+1,0,none⟩)],args:=#[] }] }/\Bo ts en m=.inl (d,n1)/\J2 w (zc ao ts.length cap) ts en (w.heap.size) (w.heap.size+1) (w.heap.size+1+1) (w.heap.size+1+1+1) (acc++[d]) n1 v W) (I4 (zf (some ⟨w.heap.size,0,none⟩)) (zf (some ⟨w.heap.size+1,0,none⟩)) (zf (some ⟨w.heap.size+1+1,0,none⟩)) [{ target:=Target.fn (Fn.func 50) #[zf (some ⟨w.heap.size,0,none⟩),zf (some ⟨w.heap.size+1,0,none⟩),zf (some ⟨w.heap.size+1+1,0,none⟩)],args:=#[] }]) (fun c W=>∃ m1,Bo ts en m=.inr m1/\c=[{ v:=.iface 90 (I O (Av ts en m1)),recovered:=false }]/\w1.grownBy W (some (w.heap.size+1+1+1))) ?_ ?_ ?_
   ·refine gS (fun _=>True) trivial fun b=>?_
    have L:Hx (Ov w1 w1.drew):=bD w1;have sv:=ce1 (bD w1) s1;clear s1;generalize w1.drew=W at b L sv ⊢;refine kT (hQ:=by exact fun c a w h=>⟨I4.put (by decide) h.1,h.2⟩) 0 ?_;refine kT (hQ:=by exact fun c a w h=>⟨I4.put (by decide) h.1,h.2⟩) 2 ?_;refine rdB 1 3 rfl (fun K J=>?_) rfl fun K J=>?_
    ·first | (have sx:=s3;go_simp) | (have sx:=s2;go_simp) | (have sx:=sv;go_simp)
     refine xK J (trivial) fun b=>?_;clear J K;refine rdA 3 rfl fun K J=>?_;go_simp;refine (KD.o _ L.o).mono ?_;rintro e w2 hp;obtain ⟨m1,M⟩ | ⟨d,n1,M⟩:=Aj (Bo ts en m)
     ·rw [M] at hp
      obtain ⟨rfl,N⟩:=hp;have HG:=Aa (Ab (Ad L.o) N);have HO:=Aa M;clear N M J b;unfold Ai;go_simp;exact ⟨⟨rfl,rfl,rfl,rfl⟩,m1,HO.o,rfl,HG.o⟩
     rw [M] at hp;obtain ⟨kd,a,x,y,gv,q0,q1,q2,q3,q4,q5,q6,q7,q8,e0,e1,e2,e3,q9,r0,r1,rfl,bu,bz,an⟩:=hp;have bw:=Ab (Ad (r:=some (w.heap.size+1+1+1)) L.o) bz;have ay:=B.o.call (by omega) bw an (Nat.le_of_lt (DL M));have E:=Aa ay;have aj:=Aa (bu.base L.o.size);have HO:=Aa M;have s2:=ay.t.row 0 _ rfl;clear M bz an bw b bu ay;go_simp;refine xK J (trivial) fun b=>?_;clear J K;refine rdA 4 rfl fun K J=>?_;obtain ⟨W3,Y⟩:=nm (w2.alloc (ze #[I O kd,I O a,.string x,.string y,zd gv,zc q0 q1 q2,zc q3 q4 q5,zc q6 q7 q8,I O e0,I O e1,I O e2,.string e3,zc q9 r0 r1] 51));obtain ⟨zb,ab⟩:=nm w2.heap.size;have G:Hx (Ov w2 W3):=by show Ov _ _;rw [Y];exact bA _ _
     have HZ:Hx (Af [I O kd,I O a,.string x,.string y,zd gv,zc q0 q1 q2,zc q3 q4 q5,zc q6 q7 q8,I O e0,I O e1,I O e2,.string e3,zc q9 r0 r1] W3 zb):=by show Af _ _ _;rw [Y,ab];exact Ax w2 [I O kd,I O a,.string x,.string y,zd gv,zc q0 q1 q2,zc q3 q4 q5,zc q6 q7 q8,I O e0,I O e1,I O e2,.string e3,zc q9 r0 r1] 51
     have s3:=ce1 G.o s2;go_simp;rw [<-Y,<-ab];clear Y ab b;refine xK J (trivial) fun b=>?_;clear J K;refine rdA 5 rfl fun K J=>?_;obtain ⟨xs,F,aq⟩:=E.o.cop.over G.o;obtain ⟨v2,Z,aa,H,C,-,ar⟩:=run_append_own_at (P:=Tryz.prog) (w:=W3) (w.heap.size+1+1+1+1) 22 22 51 i0 (zg #[I O 0,I O 0,.string ⟨#[]⟩,.string ⟨#[]⟩,zd false,zc none 0 0,zc none 0 0,zc none 0 0,I O 0,I O 0,I O 0,.string ⟨#[]⟩,zc none 0 0]) 13 192 Tryz.underlying22 hi ck cj ci rfl (by decide) _ _ _ F ⟨zb,0,none⟩ 1 1 [I O kd,I O a,.string x,.string y,zd gv,zc q0 q1 q2,zc q3 q4 q5,zc q6 q7 q8,I O e0,I O e1,I O e2,.string e3,zc q9 r0 r1] rfl (fun jj u hu=>by rw [Addr.add_lit,Nat.zero_add];exact HZ.o jj u hu) (by simp [Value.oneCell']) (by have:=B.o.few;have:=B.o.rd.st.2.1;have:=B.o.rd.st.2.2.1;unfold maxLen;omega) (by have:=B.o.few;have:=B.o.rd.st.2.1;have:=B.o.rd.st.2.2.1;omega) (by have:=E.o.rd.st.lt;have:=G.o.size;omega);have V:∀ i,i < w.heap.size+1+1+1+1->some i≠(Value.slice la k lc).ownBlock:=fun i hk e=>by have:=(AO F e.symm).1;omega
     have U:Bx (w.heap.size) [zc la k lc,zc none 0 0] Z:=(E.o.t.over G.o).grown C (V _ (by omega));have s4:=U.row 0 _ rfl;have f4:=U.fz 0;have ak:=Aa U;have ax:Hx (Bx (w.heap.size+1) [I O 0] Z):=(E.o.p.over G.o).grown C (V _ (by omega));have aw:Hx (Bx (w.heap.size+1+1) [I O 0] Z):=(E.o.q.over G.o).grown C (V _ (by omega));have av:=Aa ((E.o.rd.over G.o).row F (Nat.lt_succ_self _) C);have ah:Hx (Cop (w.heap.size+1+1+1+1) 51 13 (fun i cs W=>∀ x,(acc++[d])[i]? = some x->XD W (2*ts.length+3) cs x) (acc.length+1) v2 Z):=Cop.add (B1:=w1.heap.size) F (fun i hi=>by
       obtain ⟨ds,z1,z2,z3⟩:=aq i hi;exact ⟨ds,z1,z2,z3.imp fun W hW x hx=>hW x (by rw [List.getElem?_append_left hi] at hx;exact hx)⟩) rfl ((aj.o.over G.o).imp fun W hW x hx=>by
        rw [List.getElem?_append_right (Nat.le_refl _),Nat.sub_self] at hx;injection hx with hx;rw [<-hx];exact hW) B.o.rd.st.lt (fun g N=>by
        obtain ⟨ys,h1,-⟩:=B.o.cop;exact (AO h1 N).2) H C ar
     obtain ⟨bp,bn,bo,bs⟩:=AP H;subst bs;refine AV rfl _ _ _ rfl _ _ _ _ rfl rfl aa ?_;clear aa F aq H C ar V U;refine xK J (trivial) fun b=>?_;clear J K;refine kT (hQ:=by exact fun c a w h=>⟨I4.put (by decide) h.1,h.2⟩) 6 ?_;refine rdA 7 rfl fun K J=>?_;go_simp;refine xK J (trivial) fun b=>?_;clear J K;refine gE ?_;have b0:=B.o.few;have hlt:=DL HO.o;exact ⟨d,n1,zc bp bn bo,_,_,_,_,_,_,_,_,_,_,rfl,HO.o,⟨av.o.set (Nat.le_refl _) (by omega),ak.o.set (j:=0) (by simp),ax.o.far (by omega),aw.o.far (by omega),by rw [List.length_append];exact ah.o.set (by omega),by rw [List.length_append];show acc.length+1<=n1;omega⟩⟩
    ·go_simp
     refine (KD.o _ L.o).mono ?_;rintro e w2 hp;obtain ⟨m1,M⟩ | ⟨d,n1,M⟩:=Aj (Bo ts en m)
     ·rw [M] at hp
      obtain ⟨rfl,N⟩:=hp;have HG:=Aa (Ab (Ad L.o) N);have HO:=Aa M;clear N M J b;unfold Ai;go_simp;exact ⟨⟨rfl,rfl,rfl,rfl⟩,m1,HO.o,rfl,HG.o⟩
     rw [M] at hp;obtain ⟨kd,a,x,y,gv,q0,q1,q2,q3,q4,q5,q6,q7,q8,e0,e1,e2,e3,q9,r0,r1,rfl,bu,bz,an⟩:=hp;have bw:=Ab (Ad (r:=some (w.heap.size+1+1+1)) L.o) bz;have ay:=B.o.call (by omega) bw an (Nat.le_of_lt (DL M));have E:=Aa ay;have aj:=Aa (bu.base L.o.size);have HO:=Aa M;have s2:=ay.t.row 0 _ rfl;clear M bz an bw b bu ay;go_simp;refine xK J (trivial) fun b=>?_;clear J K;refine rdB 1 4 rfl (fun K J=>?_) rfl fun K J=>?_
     ·first | (have sx:=s3;go_simp) | (have sx:=s2;go_simp) | (have sx:=sv;go_simp)
      refine xK J (trivial) fun b=>?_;clear J K;refine rdA 4 rfl fun K J=>?_;obtain ⟨W3,Y⟩:=nm (w2.alloc (ze #[I O kd,I O a,.string x,.string y,zd gv,zc q0 q1 q2,zc q3 q4 q5,zc q6 q7 q8,I O e0,I O e1,I O e2,.string e3,zc q9 r0 r1] 51));obtain ⟨zb,ab⟩:=nm w2.heap.size;have G:Hx (Ov w2 W3):=by show Ov _ _;rw [Y];exact bA _ _
      have HZ:Hx (Af [I O kd,I O a,.string x,.string y,zd gv,zc q0 q1 q2,zc q3 q4 q5,zc q6 q7 q8,I O e0,I O e1,I O e2,.string e3,zc q9 r0 r1] W3 zb):=by show Af _ _ _;rw [Y,ab];exact Ax w2 [I O kd,I O a,.string x,.string y,zd gv,zc q0 q1 q2,zc q3 q4 q5,zc q6 q7 q8,I O e0,I O e1,I O e2,.string e3,zc q9 r0 r1] 51
      have s3:=ce1 G.o s2;go_simp;rw [<-Y,<-ab];clear Y ab b;refine xK J (trivial) fun b=>?_;clear J K;refine rdA 5 rfl fun K J=>?_;obtain ⟨xs,F,aq⟩:=E.o.cop.over G.o;obtain ⟨v2,Z,aa,H,C,-,ar⟩:=run_append_own_at (P:=Tryz.prog) (w:=W3) (w.heap.size+1+1+1+1) 22 22 51 i0 (zg #[I O 0,I O 0,.string ⟨#[]⟩,.string ⟨#[]⟩,zd false,zc none 0 0,zc none 0 0,zc none 0 0,I O 0,I O 0,I O 0,.string ⟨#[]⟩,zc none 0 0]) 13 192 Tryz.underlying22 hi ck cj ci rfl (by decide) _ _ _ F ⟨zb,0,none⟩ 1 1 [I O kd,I O a,.string x,.string y,zd gv,zc q0 q1 q2,zc q3 q4 q5,zc q6 q7 q8,I O e0,I O e1,I O e2,.string e3,zc q9 r0 r1] rfl (fun jj u hu=>by rw [Addr.add_lit,Nat.zero_add];exact HZ.o jj u hu) (by simp [Value.oneCell']) (by have:=B.o.few;have:=B.o.rd.st.2.1;have:=B.o.rd.st.2.2.1;unfold maxLen;omega) (by have:=B.o.few;have:=B.o.rd.st.2.1;have:=B.o.rd.st.2.2.1;omega) (by have:=E.o.rd.st.lt;have:=G.o.size;omega);have V:∀ i,i < w.heap.size+1+1+1+1->some i≠(Value.slice la k lc).ownBlock:=fun i hk e=>by have:=(AO F e.symm).1;omega
      have U:Bx (w.heap.size) [zc la k lc,zc none 0 0] Z:=(E.o.t.over G.o).grown C (V _ (by omega));have s4:=U.row 0 _ rfl;have f4:=U.fz 0;have ak:=Aa U;have ax:Hx (Bx (w.heap.size+1) [I O 0] Z):=(E.o.p.over G.o).grown C (V _ (by omega));have aw:Hx (Bx (w.heap.size+1+1) [I O 0] Z):=(E.o.q.over G.o).grown C (V _ (by omega));have av:=Aa ((E.o.rd.over G.o).row F (Nat.lt_succ_self _) C);have ah:Hx (Cop (w.heap.size+1+1+1+1) 51 13 (fun i cs W=>∀ x,(acc++[d])[i]? = some x->XD W (2*ts.length+3) cs x) (acc.length+1) v2 Z):=Cop.add (B1:=w1.heap.size) F (fun i hi=>by
        obtain ⟨ds,z1,z2,z3⟩:=aq i hi;exact ⟨ds,z1,z2,z3.imp fun W hW x hx=>hW x (by rw [List.getElem?_append_left hi] at hx;exact hx)⟩) rfl ((aj.o.over G.o).imp fun W hW x hx=>by
         rw [List.getElem?_append_right (Nat.le_refl _),Nat.sub_self] at hx;injection hx with hx;rw [<-hx];exact hW) B.o.rd.st.lt (fun g N=>by
         obtain ⟨ys,h1,-⟩:=B.o.cop;exact (AO h1 N).2) H C ar
      obtain ⟨bp,bn,bo,bs⟩:=AP H;subst bs;refine AV rfl _ _ _ rfl _ _ _ _ rfl rfl aa ?_;clear aa F aq H C ar V U;refine xK J (trivial) fun b=>?_;clear J K;refine kT (hQ:=by exact fun c a w h=>⟨I4.put (by decide) h.1,h.2⟩) 6 ?_;refine rdA 7 rfl fun K J=>?_;go_simp;refine xK J (trivial) fun b=>?_;clear J K;refine gE ?_;have b0:=B.o.few;have hlt:=DL HO.o;exact ⟨d,n1,zc bp bn bo,_,_,_,_,_,_,_,_,_,_,rfl,HO.o,⟨av.o.set (Nat.le_refl _) (by omega),ak.o.set (j:=0) (by simp),ax.o.far (by omega),aw.o.far (by omega),by rw [List.length_append];exact ah.o.set (by omega),by rw [List.length_append];show acc.length+1<=n1;omega⟩⟩
     ·obtain ⟨W3,Y⟩:=nm (w2.alloc (ze #[I O kd,I O a,.string x,.string y,zd gv,zc q0 q1 q2,zc q3 q4 q5,zc q6 q7 q8,I O e0,I O e1,I O e2,.string e3,zc q9 r0 r1] 51))
      obtain ⟨zb,ab⟩:=nm w2.heap.size;have G:Hx (Ov w2 W3):=by show Ov _ _;rw [Y];exact bA _ _
      have HZ:Hx (Af [I O kd,I O a,.string x,.string y,zd gv,zc q0 q1 q2,zc q3 q4 q5,zc q6 q7 q8,I O e0,I O e1,I O e2,.string e3,zc q9 r0 r1] W3 zb):=by show Af _ _ _;rw [Y,ab];exact Ax w2 [I O kd,I O a,.string x,.string y,zd gv,zc q0 q1 q2,zc q3 q4 q5,zc q6 q7 q8,I O e0,I O e1,I O e2,.string e3,zc q9 r0 r1] 51
      have s3:=ce1 G.o s2;go_simp;rw [<-Y,<-ab];clear Y ab b;refine xK J (trivial) fun b=>?_;clear J K;refine rdA 1 rfl fun K J=>?_;first | (have sx:=s3;go_simp) | (have sx:=s2;go_simp) | (have sx:=sv;go_simp)
      refine xK J (trivial) fun b=>?_;clear J K;refine rdA 5 rfl fun K J=>?_;obtain ⟨xs,F,aq⟩:=E.o.cop.over G.o;obtain ⟨v2,Z,aa,H,C,-,ar⟩:=run_append_own_at (P:=Tryz.prog) (w:=W3) (w.heap.size+1+1+1+1) 22 22 51 i0 (zg #[I O 0,I O 0,.string ⟨#[]⟩,.string ⟨#[]⟩,zd false,zc none 0 0,zc none 0 0,zc none 0 0,I O 0,I O 0,I O 0,.string ⟨#[]⟩,zc none 0 0]) 13 192 Tryz.underlying22 hi ck cj ci rfl (by decide) _ _ _ F ⟨zb,0,none⟩ 1 1 [I O kd,I O a,.string x,.string y,zd gv,zc q0 q1 q2,zc q3 q4 q5,zc q6 q7 q8,I O e0,I O e1,I O e2,.string e3,zc q9 r0 r1] rfl (fun jj u hu=>by rw [Addr.add_lit,Nat.zero_add];exact HZ.o jj u hu) (by simp [Value.oneCell']) (by have:=B.o.few;have:=B.o.rd.st.2.1;have:=B.o.rd.st.2.2.1;unfold maxLen;omega) (by have:=B.o.few;have:=B.o.rd.st.2.1;have:=B.o.rd.st.2.2.1;omega) (by have:=E.o.rd.st.lt;have:=G.o.size;omega);have V:∀ i,i < w.heap.size+1+1+1+1->some i≠(Value.slice la k lc).ownBlock:=fun i hk e=>by have:=(AO F e.symm).1;omega
      have U:Bx (w.heap.size) [zc la k lc,zc none 0 0] Z:=(E.o.t.over G.o).grown C (V _ (by omega));have s4:=U.row 0 _ rfl;have f4:=U.fz 0;have ak:=Aa U;have ax:Hx (Bx (w.heap.size+1) [I O 0] Z):=(E.o.p.over G.o).grown C (V _ (by omega));have aw:Hx (Bx (w.heap.size+1+1) [I O 0] Z):=(E.o.q.over G.o).grown C (V _ (by omega));have av:=Aa ((E.o.rd.over G.o).row F (Nat.lt_succ_self _) C);have ah:Hx (Cop (w.heap.size+1+1+1+1) 51 13 (fun i cs W=>∀ x,(acc++[d])[i]? = some x->XD W (2*ts.length+3) cs x) (acc.length+1) v2 Z):=Cop.add (B1:=w1.heap.size) F (fun i hi=>by
        obtain ⟨ds,z1,z2,z3⟩:=aq i hi;exact ⟨ds,z1,z2,z3.imp fun W hW x hx=>hW x (by rw [List.getElem?_append_left hi] at hx;exact hx)⟩) rfl ((aj.o.over G.o).imp fun W hW x hx=>by
         rw [List.getElem?_append_right (Nat.le_refl _),Nat.sub_self] at hx;injection hx with hx;rw [<-hx];exact hW) B.o.rd.st.lt (fun g N=>by
         obtain ⟨ys,h1,-⟩:=B.o.cop;exact (AO h1 N).2) H C ar
      obtain ⟨bp,bn,bo,bs⟩:=AP H;subst bs;refine AV rfl _ _ _ rfl _ _ _ _ rfl rfl aa ?_;clear aa F aq H C ar V U;refine xK J (trivial) fun b=>?_;clear J K;refine kT (hQ:=by exact fun c a w h=>⟨I4.put (by decide) h.1,h.2⟩) 6 ?_;refine rdA 7 rfl fun K J=>?_;go_simp;refine xK J (trivial) fun b=>?_;clear J K;refine gE ?_;have b0:=B.o.few;have hlt:=DL HO.o;exact ⟨d,n1,zc bp bn bo,_,_,_,_,_,_,_,_,_,_,rfl,HO.o,⟨av.o.set (Nat.le_refl _) (by omega),ak.o.set (j:=0) (by simp),ax.o.far (by omega),aw.o.far (by omega),by rw [List.length_append];exact ah.o.set (by omega),by rw [List.length_append];show acc.length+1<=n1;omega⟩⟩
   ·rintro dc W ⟨d,n1,v,u13,u14,u15,u16,u17,u18,u19,u20,u21,u22,rfl,M,hI⟩
    have hr:=cd.o;rw [M,Al] at hr;have ae:=Aa hr;have cp:=Aa hI;have d6:=Aa (DL M);clear hr M hI s1 KD cd;go_wp2_with fail;have hN:=HN.o;have e6:=FW cp.o.rd.st;have hF:=HF.o;have hL:=d6.o;have hs:=cp.o.rd.st.2.1;refine ⟨⟨_,_,_,_,_,_,_,_,_,_,⟨acc++[d],n1,f,v,cp.o,ae.o,by omega⟩,rfl⟩,by omega⟩
   ·rintro c a W ⟨hd,h4,h5,h6⟩ ⟨m1,M,rfl,N⟩
    have hr:=cd.o;rw [M] at hr;have ae:Hx (am=.inr m1):=hr.symm;have a3:=Aa (B.o.rd.gave N);have Q:=Aa (B.o.t.keep N (by omega));have af:=Aa (B.o.p.keep N (by omega));have S:=Aa (B.o.q.keep N (by omega));obtain ⟨ad,e7⟩:=a;simp only at hd h4 h5 h6;clear hr M N s1 KD cd;go_simp;simp (config:={ zetaDelta:=true }) only [Exit.then,Exit.inBlock];refine leaves_cons (f:=50) (args:=#[zf (some ⟨w.heap.size,0,none⟩),zf (some ⟨w.heap.size+1,0,none⟩),zf (some ⟨w.heap.size+1+1,0,none⟩)]) (by simp) (by simp [go_sem]) ?_;refine (C9 w.heap.size _ _ 0 0 _ [] _ (by have:=S.o.lt;omega) (Q.o.row 0 _ rfl) (Q.o.row 1 _ rfl) (af.o.row 0 _ rfl) (S.o.row 0 _ rfl) (Q.o.fz 0) (Q.o.fz 1) (af.o.fz 0) (S.o.fz 0)).mono ?_;rintro e u' w9 ⟨rfl,rfl,d0,d1,d2,d3,a0⟩;have az:=a3.o.trans a0;simp [Leaves,settle,results,Tryz.results23,go_sem,d0,d1,d2,d3,h4,h5,h6];rw [ae.o];exact ⟨az,rfl⟩
end Go.Proofs.YtipngnjffjajpaaGreatDoor.Tx
