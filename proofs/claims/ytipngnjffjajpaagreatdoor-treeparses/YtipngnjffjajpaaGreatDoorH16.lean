/- Package tree's reader: a declaration of any text. -/
import Derived.Test.YtipngnjffjajpaaGreatDoorH15
set_option linter.unusedVariables false
set_option maxHeartbeats 8000000
set_option maxRecDepth 100000
namespace Go.Proofs.YtipngnjffjajpaaGreatDoor.Tx
open Go.RowKit
open Go.Value renaming int -> M, slice -> U, bool -> zc, pointer -> zd, agg -> zf, tuple -> zh
open Go.IntKind renaming i64 -> O
open Go.Obj renaming cells -> ze
open Go.Ending renaming returned -> zg
section
variable {rb:Nat} {tv:Value} {ts:List Tok} {en:Nat}
theorem MU (n:Nat) (w:World) (h:St rb tv ts en n w) (hk:AX (Ah ts n).text.data.toList=0) :
  Calls Tryz.prog 52 #[zd (some ⟨rb,0,none⟩)] w (Ao ts en (Bj ts en n) (CD rb tv ts en w) (fun w'=>w.grownBy w' (some rb))):=by
 obtain ⟨E,g⟩:=nm (Bj ts en n);rw [<-g];have K:Hx (E=.inr n):=by show _=_;rw [g];unfold Bj;rw [hk];rfl
 obtain ⟨p,L⟩:=nm (Ar ts en n);have Y:=Aa L;have a:=Aa (Rd.start h);have HK:=Aa hk;clear g L h hk;obtain ⟨N,j⟩:=nm (w.alloc (ze #[M O 0,M O 0,.string ⟨#[]⟩,.string ⟨#[]⟩,zc false,U none 0 0,U none 0 0,U none 0 0,M O 0,M O 0,M O 0,.string ⟨#[]⟩,U none 0 0] 51));obtain ⟨C,r⟩:=nm w.heap.size;have f:=r;have A:Hx (w.heap.size<=C):=by show _<=_;rw [f];exact a.o.size
 have b:Hx (Bx C [M O 0,M O 0,.string ⟨#[]⟩,.string ⟨#[]⟩,zc false,U none 0 0,U none 0 0,U none 0 0,M O 0,M O 0,M O 0,.string ⟨#[]⟩,U none 0 0] N):=by show Bx _ _ _;rw [j,f];exact Bx.new w [M O 0,M O 0,.string ⟨#[]⟩,.string ⟨#[]⟩,zc false,U none 0 0,U none 0 0,U none 0 0,M O 0,M O 0,M O 0,.string ⟨#[]⟩,U none 0 0] 51
 replace a:Hx (Rd rb tv ts en w (n) N):=by show Rd _ _ _ _ _ _ _;rw [j];exact a.o.over (bA _ _)
 have Q:=Aa (Cl n _ a.o.st);go_enter Tryz.func52,Tryz.ntmps52;go_wp2_with fail;rw [<-j,<-r];clear f;clear r j;refine Q.o.mono ?_;rintro e S ⟨rfl,l,u⟩;rw [<-Y.o];replace b:=bkp b a.o.rlt A l;replace a:Hx (Rd rb tv ts en w (n) S):=a.o.call l u;clear l u;obtain ⟨V,x⟩:=nm (Ah ts n).kind;obtain ⟨T,v⟩:=nm (Ah ts n).pos;obtain ⟨tx,k⟩:=nm (Ah ts n).text;have J:=Aa (DR n _ a.o.st);rw [<-x,<-v,<-k] at J;have y:=Aa k;have F:=Bu V T tx;clear Q x v k;go_wp2_with fail;refine J.o.mono ?_;rintro e B ⟨rfl,l,u⟩;replace b:=bkp b a.o.rlt A l;replace a:Hx (Rd rb tv ts en w (n) B):=a.o.call l u;clear l u;have P:Hx (∀ W,Calls Tryz.prog 94 #[.string tx] W fun e w'=>e=zg (M O 0)/\W=w'):=fun W=>by
  have t:=BJ tx W;rw [y.o,HK.o] at t;rw [y.o];exact t.mono fun e w' h=>⟨h.1,h.2.symm⟩
 clear J;go_wp2_with fail;refine (P.o _).mono ?_;rintro e w' ⟨rfl,rfl⟩;clear F P;obtain ⟨I,i⟩:=nm (B.alloc (ze #[M O 0,M O p,.string ⟨#[]⟩,.string ⟨#[]⟩,zc false,U none 0 0,U none 0 0,U none 0 0,M O 0,M O 0,M O 0,.string ⟨#[]⟩,U none 0 0] 51));obtain ⟨H,m⟩:=nm B.heap.size;have c:=m;have Z:Hx (w.heap.size<=H):=by show _<=_;rw [c];exact a.o.size
 have R:Hx (C < H):=by show _ < _;rw [c];exact b.o.lt
 have ab:Hx (Bx H [M O 0,M O p,.string ⟨#[]⟩,.string ⟨#[]⟩,zc false,U none 0 0,U none 0 0,U none 0 0,M O 0,M O 0,M O 0,.string ⟨#[]⟩,U none 0 0] I):=by show Bx _ _ _;rw [i,c];exact Bx.new B [M O 0,M O p,.string ⟨#[]⟩,.string ⟨#[]⟩,zc false,U none 0 0,U none 0 0,U none 0 0,M O 0,M O 0,M O 0,.string ⟨#[]⟩,U none 0 0] 51
 replace b:Hx (Bx C [M O 0,M O 0,.string ⟨#[]⟩,.string ⟨#[]⟩,zc false,U none 0 0,U none 0 0,U none 0 0,M O 0,M O 0,M O 0,.string ⟨#[]⟩,U none 0 0] I):=by show Bx _ _ _;rw [i];exact b.o.over (bA _ _)
 replace a:Hx (Rd rb tv ts en w (n) I):=by show Rd _ _ _ _ _ _ _;rw [i];exact a.o.over (bA _ _)
 have X:=Aa (BK rb tv ts en n _ a.o.st);go_wp2_with fail;rw [<-i,<-m];clear c;clear m i;refine X.o.mono ?_;rintro e wz ⟨rfl,G⟩;unfold Ai;go_wp2_with fail;refine ⟨rfl,?_⟩;rw [K.o];exact ⟨rfl,Ac a.o.gr (Ad G)⟩
theorem LL (l:List UInt8):AX l=0\/AX l=1\/AX l=2\/AX l=3\/AX l=4\/AX l=5\/AX l=6\/AX l=7:=by
 unfold AX
 repeat' split
 all_goals simp
theorem MM (hall:ts.all An=true) (n:Nat) (w:World) (h:St rb tv ts en n w) :
  Calls Tryz.prog 52 #[zd (some ⟨rb,0,none⟩)] w (Ao ts en (Bj ts en n) (CD rb tv ts en w) (fun w'=>w.grownBy w' (some rb))):=by
 obtain a | h1 | h2 | h3 | h4 | h5 | h6 | h7:=LL (Ah ts n).text.data.toList
 ·exact MU n w h a
 ·exact MT hall n w h h1
 ·exact MS hall n w h h2
 ·exact MR hall n w h h3
 ·exact MQ hall n w h h4
 ·exact MP hall n w h h5
 ·exact MO hall n w h h6
 ·exact MN hall n w h h7
theorem Ls {p:Int} {x:ByteArray} {n:Nat} {d:D} {n1:Nat} (h:Ef ts en p x n=.inl (d,n1)):n+1<=n1:=by
 unfold Ef at h;obtain ⟨_,E,l,h⟩:=AE h;obtain ⟨_,C,k,h⟩:=AE h;obtain ⟨_,B,j,h⟩:=AE h;obtain ⟨_,A,i,h⟩:=AE h;obtain ⟨_,y,g,h⟩:=AE h;obtain ⟨_,v,f,h⟩:=AE h;obtain ⟨_,u,c,h⟩:=AE h;obtain ⟨_,r,b,h⟩:=AE h;obtain ⟨_,m,a,h⟩:=AE h;cases h;have:=Be l;have:=EX k;have:=Be j;have:=Be i;have:=B7 _ _ _ _ _ g;have:=Be f;have:=C6 c;have:=Be b;have:=Be a;omega
theorem JS {n:Nat} {l:List D} {n1:Nat} (h:BO ts en n=.inl (l,n1)):n<=n1:=by
 unfold BO at h;obtain ⟨_,i,c,h⟩:=AE h;obtain ⟨_,g,b,h⟩:=AE h;obtain ⟨_,f,a,h⟩:=AE h;have:=Be c;have:=DS (fun _ _ _ h=>Nat.le_of_lt (Ek h)) _ _ _ _ _ _ b;have:=Be a;have:=CL h;omega
theorem D6 {kd p:Int} {x y:ByteArray} {gv:Bool} {n:Nat} {d:D} {n1:Nat} (h:Cj ts en kd p x y gv n=.inl (d,n1)):n+1<=n1:=by
 unfold Cj at h;split at h
 ·obtain ⟨_,b,a,h⟩:=AE h
  obtain ⟨_,f,c,h⟩:=AE h;cases h;have:=JS a;have:=Be c;omega
 ·obtain ⟨_,b,a,h⟩:=AE h
  cases h;exact Be a
theorem C7 {n:Nat} {d:D} {n1:Nat} (h:Bj ts en n=.inl (d,n1)):n+1<=n1:=by
 unfold Bj at h;split at h
 ·cases h
 obtain ⟨a,i,f,h⟩:=AE h;have:=Bf f;split at h
 ·obtain ⟨b,g,c,h⟩:=AE h
  have:=Bf c;have:=D6 h;omega
 split at h
 ·have:=D6 h
  omega
 split at h
 ·have:=D6 h
  omega
 split at h
 ·have:=Ls h
  omega
 ·have:=D6 h
  omega
end
theorem Hm (p q r:Addr) (w:World) :
  CallsD Tryz.prog 50 #[zd (some p),zd (some q),zd (some r)] .returning w fun e u' w'=>e=zg (zh #[])/\u'=.returning/\w'=w:=by
 refine callsD_of_wpS Tryz.func50 rfl fun b c a=>?_;apply wpS_seq;apply wpS_region;simp [wpOpsS,go_sem,recoverD,a,Tryz.ntmps50,Exit.thenS];refine wpS_of_wp ?_
 change Code.wp Tryz.prog _ _ { tmps:=#[zd (some p),zd (some q),zd (some r),.nilIface,.nilIface,undef,undef,undef,undef,undef],defers:=[] } w
 go_wp2
 cases b
 simp_all [bodyPostS,results,Tryz.results50]
theorem LP (v:Value) (w:World):(Instr.typeAssert (.iface 90 v) 20 90 false).run Tryz.prog w=.ok v w:=by
 simp [Instr.typeAssert,run_underlying Tryz.underlying90,go_sem,Result.andThen]
theorem C0 (B:Nat) (x y:Value) (m n a:Int) (older:List PanicEntry) (w:World) (hB:B+3<=w.heap.size)
  (c0:w.cell? ⟨B,0,none⟩=some x) (c3:w.cell? ⟨B,1,none⟩=some y) (c1:w.cell? ⟨B+1,0,none⟩=some (M O m)) (c2:w.cell? ⟨B+1+1,0,none⟩=some (M O n))
  (f0:w.frozen? ⟨B,0,none⟩=false) (f3:w.frozen? ⟨B,1,none⟩=false) (f1:w.frozen? ⟨B+1,0,none⟩=false) (f2:w.frozen? ⟨B+1+1,0,none⟩=false) :
  CallsD Tryz.prog 50 #[zd (some ⟨B,0,none⟩),zd (some ⟨B+1,0,none⟩),zd (some ⟨B+1+1,0,none⟩)] (.panicking ({ v:=.iface 90 (M O a),recovered:=false }::older)) w fun en u' w'=>
   en=zg (zh #[])/\u'=.panicking ({ v:=.iface 90 (M O a),recovered:=true }::older) /\
   w'.cell? ⟨B,0,none⟩=some (U none 0 0)/\w'.cell? ⟨B,1,none⟩=some (U none 0 0)/\w'.cell? ⟨B+1,0,none⟩=some (M O a)/\w'.cell? ⟨B+1+1,0,none⟩=some (M O 1)/\Below B w w':=by
 have c:=LP;refine callsD_of_wpS Tryz.func50 rfl fun f g b=>?_;apply wpS_seq;apply wpS_region;simp [wpOpsS,go_sem,recoverD,b,Tryz.ntmps50,Exit.thenS];refine wpS_of_wp ?_
 change Code.wp Tryz.prog _ _ { tmps:=#[zd (some ⟨B,0,none⟩),zd (some ⟨B+1,0,none⟩),zd (some ⟨B+1+1,0,none⟩),.iface 90 (M O a),.iface 90 (M O a),undef,undef,undef,undef,undef],defers:=[] } w
 go_wp2
 have k1:B < w.heap.size:=by omega
 have k2:B+1 < w.heap.size:=by omega
 have k3:B+1+1 < w.heap.size:=by omega
 go_region
 go_wp2
 refine ⟨rfl,_,by cases f;simp_all,zh #[],by simp [results,Tryz.results50],rfl,rfl,?_⟩;refine ⟨by simp [go_sem,c0],by simp [go_sem,c3],by simp [go_sem,c1],by simp [go_sem,c2],?_⟩;exact (((((Below.refl B w).setCell (by simp) _).setCell (by simp) _).setCell (by simp) _).setCell (by simp;omega) _).drew
def F1 (tv:Value) (ts:List Tok) (w:World):Prop:=ts.length<=6000/\∃ ao cap,tv=U ao ts.length cap /\
  (ts≠[]->∃ b off,ao=some ⟨b,off,none⟩/\∀ (j:Nat) (u:Value),(AQ ts)[j]? = some u->w.cell? ⟨b,off+j,none⟩=some u)
structure RdT (w:World) (rb:Nat) (tv:Value) (ts:List Tok) (en n:Nat) (V:World):Prop where
 tk:F1 tv ts w
 hr:w.heap.size<=rb
 st:St rb tv ts en n V
 bel:Below w.heap.size w V
section
variable {rb:Nat} {tv:Value} {ts:List Tok} {en n n1 b j:Nat} {w V V':World} {u:Value}
theorem RdT.size (h:RdT w rb tv ts en n V):w.heap.size<=V.heap.size:=h.bel.size
theorem Jd {c:Nat} (h:F1 tv ts w) {ao:Option Addr} {cap:Nat} (hv:tv=U ao ts.length cap) (hne:ts≠[]):∃ b off,ao=some ⟨b,off,none⟩/\b < w.heap.size/\∀ (j:Nat) (u:Value),(AQ ts)[j]? = some u->w.cell? ⟨b,off+j,none⟩=some u:=by
 obtain ⟨_,n,g,a,i⟩:=h;rw [hv] at a;injection a with m v r;subst m;obtain ⟨b,off,k,f⟩:=i hne;refine ⟨b,off,k,?_,f⟩
 cases ts with
 | nil=>exact absurd rfl hne
 | cons t l=>exact World.block_lt_of_cell? w _ (f 0 (M O t.kind) (by simp [AQ,DL]))
theorem RdT.mk' (tk:F1 tv ts w) (hr:w.heap.size<=rb) (hn:n<=ts.length) (hb:V.heap[rb]? = some (Obj.cells #[tv,M O (n:Int),M O (en:Int)] 93 (0,0))) (bel:Below w.heap.size w V):RdT w rb tv ts en n V:=by
 obtain ⟨l,x,g,i,y⟩:=id tk;refine ⟨tk,hr,⟨hb,hn,l,x,g,i,fun f=>?_⟩,bel⟩;obtain ⟨b,a,v,r,m⟩:=Jd (c:=0) tk i f;exact ⟨b,a,v,by omega,fun j u k=>by rw [bel.cell (p:=⟨b,a+j,none⟩) r];exact m j u k⟩
theorem RdT.call (h:RdT w rb tv ts en n V) (hg:V.grownBy V' (some rb)) (hs:St rb tv ts en n1 V'):RdT w rb tv ts en n1 V':=
 ⟨h.tk,h.hr,hs,h.bel.grown hg h.size fun k hk=>by injection hk with hk;rw [<-hk];exact h.hr⟩
theorem RdT.gave (h:RdT w rb tv ts en n V) (hg:V.grownBy V' (some rb)):Below w.heap.size w V':=h.bel.grown hg h.size fun k hk=>by injection hk with hk;rw [<-hk];exact h.hr
theorem RdT.over (h:RdT w rb tv ts en n V) (hb:Ov V V'):RdT w rb tv ts en n V':=⟨h.tk,h.hr,h.st.below hb,h.bel.trans (hb.mono h.size)⟩
theorem RdT.set (h:RdT w rb tv ts en n V) (hb:w.heap.size<=b) (hne:b≠rb):RdT w rb tv ts en n (V.setCell ⟨b,j,none⟩ u):=
 RdT.mk' h.tk h.hr h.st.2.1 (by rw [Below.heap_setCell _ _ _ _ (by show rb≠b;omega)];exact h.st.1) (h.bel.setCell hb u)
theorem RdT.row {B T s k:Nat} {v:Value} {xs:List Value} (h:RdT w rb tv ts en n V) (ho:V.ownsRow B T s v k xs) (hB:rb < B) (hg:V.grownBy V' v.ownBlock):RdT w rb tv ts en n V':=
 RdT.mk' h.tk h.hr h.st.2.1 (by rw [hg.block rb h.st.lt (fun e=>by have:=(AF ho e.symm).1;omega)];exact h.st.1) (h.bel.grown hg h.size fun k hk=>by have:=(AF ho hk).1;have:=h.hr;omega)
theorem Bx.grown {b:Nat} {cs:List Value} {r:Option Nat} (h:Bx b cs V) (hg:V.grownBy V' r) (hb:some b≠r):Bx b cs V':=
 ⟨fun j u hu=>hg.cell (h.row j u hu) hb,fun j=>by rw [World.frozen?_of_block (a:=⟨b,j,none⟩) (hg.block b h.lt hb)];exact h.fz j,Nat.lt_of_lt_of_le h.lt hg.size⟩
end
structure Iq (w:World) (tv:Value) (ts:List Tok) (en B b1 b2 rb:Nat) (acc:List D) (n:Nat) (v:Value) (V:World):Prop where
 rd:RdT w rb tv ts en n V
 t:Bx B [v,U none 0 0] V
 p:Bx b1 [M O 0] V
 q:Bx b2 [M O 0] V
 cop:Cop (rb+1) 51 13 (fun i cs W=>∀ x,acc[i]? = some x->XD W (2*ts.length+3) cs x) acc.length v V
 few:acc.length<=n
section
variable {w V V':World} {tv v:Value} {ts:List Tok} {en B b1 b2 rb n n1:Nat} {acc:List D}
theorem Iq.call (h:Iq w tv ts en B b1 b2 rb acc n v V) (hl:B < rb/\b1 < rb/\b2 < rb) (hg:V.grownBy V' (some rb)) (hs:St rb tv ts en n1 V') (hn:n<=n1):Iq w tv ts en B b1 b2 rb acc n1 v V':=
 ⟨h.rd.call hg hs,h.t.keep hg (by omega),h.p.keep hg (by omega),h.q.keep hg (by omega),h.cop.keep hg (Nat.lt_succ_self _),Nat.le_trans h.few hn⟩
end
def LU (B:Nat) (ts:List Tok) (en:Nat) (res:Res (List D × List D)) (e:Ending) (w':World):Prop:=
 match res with
 | .inl ((ds,l),_)=>∃ a c a2 c2,e=zg (zh #[zf #[U a ds.length c,U a2 l.length c2],M O 0,M O 0])/\Off B none w' (fun W=>LS 13 (XD W (2*ts.length+3)) W (U a ds.length c) ds)/\Off B none w' (fun W=>LS 12 (XC W (2*ts.length+3)) W (U a2 l.length c2) l)/\ds.length<=6000/\l.length<=6000
 | .inr m=>e=zg (zh #[zf #[U none 0 0,U none 0 0],M O (Ar ts en m),M O 1])
def Ip (w:World) (ts:List Tok) (en:Nat) (e:Ending) (w':World):Prop:=Below w.heap.size w w'/\LU w.heap.size ts en (CG ts en) e w'
end Go.Proofs.YtipngnjffjajpaaGreatDoor.Tx
