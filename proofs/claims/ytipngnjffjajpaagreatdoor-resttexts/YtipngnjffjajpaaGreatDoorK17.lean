/- What tree.read defers: a place that was given up at is recovered, and laid into the results. -/
import Derived.Test.YtipngnjffjajpaaGreatDoorK16
import Derived.Deep.Cut
set_option linter.unusedVariables false
set_option maxHeartbeats 8000000
set_option maxRecDepth 100000
namespace Go.Proofs.YtipngnjffjajpaaGreatDoor.Tx
open Go.RowKit
open Go.Value renaming int -> O, slice -> zd, bool -> ze, agg -> zf, pointer -> zh, tuple -> zj
open Go.IntKind renaming i64 -> zc
open Go.Obj renaming cells -> zg
open Go.Ending renaming returned -> zi
theorem JZ (p q r:Addr) (w:World) :
  CallsD Tryz.prog 50 #[zh (some p),zh (some q),zh (some r)] .returning w fun e u' w'=>e=zi (zj #[])/\u'=.returning/\w'=w:=by
 refine callsD_of_wpS Tryz.func50 rfl fun b c a=>?_;apply wpS_seq;apply wpS_region;simp [wpOpsS,go_sem,recoverD,a,Tryz.ntmps50,Exit.thenS];refine wpS_of_wp ?_
 change Code.wp Tryz.prog _ _ { tmps:=#[zh (some p),zh (some q),zh (some r),.nilIface,.nilIface,undef,undef,undef,undef,undef],defers:=[] } w
 go_wp2
 cases b
 simp_all [bodyPostS,results,Tryz.results50]
theorem Pe (v:Value) (w:World):(Instr.typeAssert (.iface 90 v) 20 90 false).run Tryz.prog w=.ok v w:=by
 simp [Instr.typeAssert,run_underlying Tryz.underlying90,go_sem,Result.andThen]
theorem Ds (B:Nat) (x y:Value) (m n a:Int) (older:List PanicEntry) (w:World) (hB:B+3<=w.heap.size)
  (c0:w.cell? ⟨B,0,none⟩=some x) (c3:w.cell? ⟨B,1,none⟩=some y) (c1:w.cell? ⟨B+1,0,none⟩=some (O zc m)) (c2:w.cell? ⟨B+1+1,0,none⟩=some (O zc n))
  (f0:w.frozen? ⟨B,0,none⟩=false) (f3:w.frozen? ⟨B,1,none⟩=false) (f1:w.frozen? ⟨B+1,0,none⟩=false) (f2:w.frozen? ⟨B+1+1,0,none⟩=false) :
  CallsD Tryz.prog 50 #[zh (some ⟨B,0,none⟩),zh (some ⟨B+1,0,none⟩),zh (some ⟨B+1+1,0,none⟩)] (.panicking ({ v:=.iface 90 (O zc a),recovered:=false }::older)) w fun en u' w'=>
   en=zi (zj #[])/\u'=.panicking ({ v:=.iface 90 (O zc a),recovered:=true }::older) /\
   w'.cell? ⟨B,0,none⟩=some (zd none 0 0)/\w'.cell? ⟨B,1,none⟩=some (zd none 0 0)/\w'.cell? ⟨B+1,0,none⟩=some (O zc a)/\w'.cell? ⟨B+1+1,0,none⟩=some (O zc 1)/\Below B w w':=by
 have c:=Pe;refine callsD_of_wpS Tryz.func50 rfl fun f g b=>?_;apply wpS_seq;apply wpS_region;simp [wpOpsS,go_sem,recoverD,b,Tryz.ntmps50,Exit.thenS];refine wpS_of_wp ?_
 change Code.wp Tryz.prog _ _ { tmps:=#[zh (some ⟨B,0,none⟩),zh (some ⟨B+1,0,none⟩),zh (some ⟨B+1+1,0,none⟩),.iface 90 (O zc a),.iface 90 (O zc a),undef,undef,undef,undef,undef],defers:=[] } w
 go_wp2
 have k1:B < w.heap.size:=by omega
 have k2:B+1 < w.heap.size:=by omega
 have k3:B+1+1 < w.heap.size:=by omega
 go_region
 go_wp2
 refine ⟨rfl,_,by cases f;simp_all,zj #[],by simp [results,Tryz.results50],rfl,rfl,?_⟩;refine ⟨by simp [go_sem,c0],by simp [go_sem,c3],by simp [go_sem,c1],by simp [go_sem,c2],?_⟩;exact (((((Below.refl B w).setCell (by simp) _).setCell (by simp) _).setCell (by simp) _).setCell (by simp;omega) _).drew
def Hr (tv:Value) (ts:List Tok) (w:World):Prop:=ts.length<=6000/\∃ ao cap,tv=zd ao ts.length cap /\
  (ts≠[]->∃ b off,ao=some ⟨b,off,none⟩/\∀ (j:Nat) (u:Value),(AF ts)[j]? = some u->w.cell? ⟨b,off+j,none⟩=some u)
structure RdT (w:World) (rb:Nat) (tv:Value) (ts:List Tok) (en n:Nat) (V:World):Prop where
 tk:Hr tv ts w
 hr:w.heap.size<=rb
 st:St rb tv ts en n V
 bel:Below w.heap.size w V
section
variable {rb:Nat} {tv:Value} {ts:List Tok} {en n n1 b j:Nat} {w V V':World} {u:Value}
theorem RdT.size (h:RdT w rb tv ts en n V):w.heap.size<=V.heap.size:=h.bel.size
theorem L8 {c:Nat} (h:Hr tv ts w) {ao:Option Addr} {cap:Nat} (hv:tv=zd ao ts.length cap) (hne:ts≠[]):∃ b off,ao=some ⟨b,off,none⟩/\b < w.heap.size/\∀ (j:Nat) (u:Value),(AF ts)[j]? = some u->w.cell? ⟨b,off+j,none⟩=some u:=by
 obtain ⟨_,v,g,a,i⟩:=h;rw [hv] at a;injection a with r y x;subst r;obtain ⟨b,off,n,f⟩:=i hne;refine ⟨b,off,n,?_,f⟩
 cases ts with
 | nil=>exact absurd rfl hne
 | cons t l=>exact World.block_lt_of_cell? w _ (f 0 (O zc t.kind) (by simp [AF,EC]))
theorem RdT.mk' (tk:Hr tv ts w) (hr:w.heap.size<=rb) (hn:n<=ts.length) (hb:V.heap[rb]? = some (Obj.cells #[tv,O zc (n:Int),O zc (en:Int)] 93 (0,0))) (bel:Below w.heap.size w V):RdT w rb tv ts en n V:=by
 obtain ⟨r,A,g,i,B⟩:=id tk;refine ⟨tk,hr,⟨hb,hn,r,A,g,i,fun f=>?_⟩,bel⟩;obtain ⟨b,a,y,x,v⟩:=L8 (c:=0) tk i f;exact ⟨b,a,y,by omega,fun j u l=>by rw [bel.cell (p:=⟨b,a+j,none⟩) x];exact v j u l⟩
theorem RdT.call (h:RdT w rb tv ts en n V) (hg:V.grownBy V' (some rb)) (hs:St rb tv ts en n1 V'):RdT w rb tv ts en n1 V':=
 ⟨h.tk,h.hr,hs,h.bel.grown hg h.size fun k hk=>by injection hk with hk;rw [<-hk];exact h.hr⟩
theorem RdT.gave (h:RdT w rb tv ts en n V) (hg:V.grownBy V' (some rb)):Below w.heap.size w V':=h.bel.grown hg h.size fun k hk=>by injection hk with hk;rw [<-hk];exact h.hr
theorem RdT.over (h:RdT w rb tv ts en n V) (hb:Ov V V'):RdT w rb tv ts en n V':=⟨h.tk,h.hr,h.st.below hb,h.bel.trans (hb.mono h.size)⟩
theorem RdT.set (h:RdT w rb tv ts en n V) (hb:w.heap.size<=b) (hne:b≠rb):RdT w rb tv ts en n (V.setCell ⟨b,j,none⟩ u):=
 RdT.mk' h.tk h.hr h.st.2.1 (by rw [Below.heap_setCell _ _ _ _ (by show rb≠b;omega)];exact h.st.1) (h.bel.setCell hb u)
theorem RdT.row {B T s k:Nat} {v:Value} {xs:List Value} (h:RdT w rb tv ts en n V) (ho:V.ownsRow B T s v k xs) (hB:rb < B) (hg:V.grownBy V' v.ownBlock):RdT w rb tv ts en n V':=
 RdT.mk' h.tk h.hr h.st.2.1 (by rw [hg.block rb h.st.lt (fun e=>by have:=(AL ho e.symm).1;omega)];exact h.st.1) (h.bel.grown hg h.size fun k hk=>by have:=(AL ho hk).1;have:=h.hr;omega)
theorem Bx.grown {b:Nat} {cs:List Value} {r:Option Nat} (h:Bx b cs V) (hg:V.grownBy V' r) (hb:some b≠r):Bx b cs V':=
 ⟨fun j u hu=>hg.cell (h.row j u hu) hb,fun j=>by rw [World.frozen?_of_block (a:=⟨b,j,none⟩) (hg.block b h.lt hb)];exact h.fz j,Nat.lt_of_lt_of_le h.lt hg.size⟩
end
structure KU (w:World) (tv:Value) (ts:List Tok) (en B b1 b2 rb:Nat) (acc:List D) (n:Nat) (v:Value) (V:World):Prop where
 rd:RdT w rb tv ts en n V
 t:Bx B [v,zd none 0 0] V
 p:Bx b1 [O zc 0] V
 q:Bx b2 [O zc 0] V
 cop:Cop (rb+1) 51 13 (fun i cs W=>∀ x,acc[i]? = some x->XD W (2*ts.length+3) cs x) acc.length v V
 few:acc.length<=n
section
variable {w V V':World} {tv v:Value} {ts:List Tok} {en B b1 b2 rb n n1:Nat} {acc:List D}
theorem KU.call (h:KU w tv ts en B b1 b2 rb acc n v V) (hl:B < rb/\b1 < rb/\b2 < rb) (hg:V.grownBy V' (some rb)) (hs:St rb tv ts en n1 V') (hn:n<=n1):KU w tv ts en B b1 b2 rb acc n1 v V':=
 ⟨h.rd.call hg hs,h.t.keep hg (by omega),h.p.keep hg (by omega),h.q.keep hg (by omega),h.cop.keep hg (Nat.lt_succ_self _),Nat.le_trans h.few hn⟩
end
def Pi (B:Nat) (ts:List Tok) (en:Nat) (res:Res (List D × List D)) (e:Ending) (w':World):Prop:=
 match res with
 | .inl ((ds,l),_)=>∃ a c a2 c2,e=zi (zj #[zf #[zd a ds.length c,zd a2 l.length c2],O zc 0,O zc 0])/\Off B none w' (fun W=>LS 13 (XD W (2*ts.length+3)) W (zd a ds.length c) ds)/\Off B none w' (fun W=>LS 12 (XC W (2*ts.length+3)) W (zd a2 l.length c2) l)/\ds.length<=6000/\l.length<=6000
 | .inr m=>e=zi (zj #[zf #[zd none 0 0,zd none 0 0],O zc (Al ts en m),O zc 1])
def Kz (w:World) (ts:List Tok) (en:Nat) (e:Ending) (w':World):Prop:=Below w.heap.size w w'/\Pi w.heap.size ts en (DQ ts en) e w'
theorem Tryz.infoTD:(Tryz.prog.info? 51).map (fun i=>(i.zero,i.size,i.bytes))=some (some (zf #[O zc 0,O zc 0,.string ⟨#[]⟩,.string ⟨#[]⟩,ze false,zd none 0 0,zd none 0 0,zd none 0 0,O zc 0,O zc 0,O zc 0,.string ⟨#[]⟩,zd none 0 0]),13,192):=by kernel_rfl
def Mn (ts:List Tok) (en:Nat) (ds:List D) (n:Nat):Res (List D × List D):=Ao (AG ts [109,97,105,110] n) fun _ n1=>Ao (Bw ts (AQ ts en (2*ts.length+3) []) n1) fun l n2=>if n2 < ts.length then .inr n2 else .inl ((ds,l),n2)
theorem J6 (ts:List Tok) (en f:Nat) (acc:List D) (n:Nat):DX ts en (f+1) acc n=if isT ts n [109,97,105,110]=true then .inl (acc,n) else Ao (Bs ts en n) fun d n1=>DX ts en f (acc++[d]) n1:=rfl
def RZ (R:Act->World->Prop) (A:Act->Prop) (Pn:List PanicEntry->World->Prop):Exit->Act->World->Prop
 | .normal,a,w=>R a w
 | .panic c,a,w=>A a/\Pn c w
 | _,_,_=>False
theorem JY {P:Program} {id:Nat} {ops:Array Oper} {dr:Bool} {Q:Exit->Act->World->Prop} {a:Act} {w:World} (R:Act->World->Prop) (A:Act->Prop) (Pn:List PanicEntry->World->Prop) (h:(Code.region id ops dr).wp P (RZ R A Pn) a w) (hq:∀ a w,R a w->Q .normal a w) (hp:∀ c a w,A a->Pn c w->Q (.panic c) a w):(Code.region id ops dr).wp P Q a w:=
 Code.wp_mono (by intro e a w h;cases e <;> first | exact hq _ _ h | exact hp _ _ _ h.1 h.2 | exact h.elim) h
def JA (x y z:Value) (ds:List Deferred) (a:Act):Prop:=a.defers=ds/\a.tmps[4]? = some x/\a.tmps[5]? = some y/\a.tmps[6]? = some z
theorem JA.put {x y z:Value} {ds:List Deferred} {a:Act} {d:Nat} {v:Value} (hd:7<=d) (h:JA x y z ds (a.put (some d) v)):JA x y z ds a:=by
 obtain ⟨g,f,c,b⟩:=h;simp only [Act.put] at g f c b;rw [Array.getElem?_setIfInBounds_ne (by omega)] at f c b;exact ⟨g,f,c,b⟩
theorem QR {tv:Value} {ts:List Tok} {en:Nat} (hall:ts.all Ai=true) (w:World) (h:Hr tv ts w):Calls Tryz.prog 23 #[tv,O zc (en:Int)] w (Kz w ts en):=by
 have ey:∀ (fn:Fn) (first cap:Array Value) (w:World),(Instr.makeFunc fn first cap).run Tryz.prog w=.ok (.func fn first cap) w:=fun _ _ _ _=>rfl;obtain ⟨i0,hi,cc,cb,ca⟩:=info_parts Tryz.infoTD;unfold Kz;obtain ⟨ak,bd⟩:=nm (DQ ts en);rw [<-bd];have HR:Hx (Ao (DX ts en (ts.length+1) [] 0) (Mn ts en)=ak):=bd.symm;have HT:=Aa h;obtain ⟨h6,ao,cap,hv,-⟩:=h;subst hv;clear bd
 go_enter_defers Tryz.func23,Tryz.ntmps23
 go_wp2_with fail;go_loopw [] (fun wr=>∃ (acc:List D) (m f:Nat) (v:Value),KU w (zd ao ts.length cap) ts en w.heap.size (w.heap.size+1) (w.heap.size+1+1) (w.heap.size+1+1+1) acc m v wr/\Ao (DX ts en f acc m) (Mn ts en)=ak/\ts.length+1<=f+m) (fun wr=>ts.length+1 - nOf (w.heap.size+1+1+1) wr)
 case atStart=>
  refine ⟨[],0,ts.length+1,zd none 0 0,⟨?_,?_,?_,?_,Cop.nil,Nat.zero_le _⟩,HR.o,Nat.le_refl _⟩
  ·refine RdT.mk' HT.o (by omega) (Nat.zero_le _) ?_ ?_
   ·have t:=fun A A2 A3 o=>GL (((w.alloc A).alloc A2).alloc A3) o
    simp only [alS] at t;exact t _ _ _ _
   ·exact ((((Below.refl _ w).alloc (Nat.le_refl _) _).alloc (by simp) _).alloc (by simp;omega) _).alloc (by simp;omega) _
  ·exact (((Bx.new w [zd none 0 0,zd none 0 0] _).over (bA _ _)).over (bA _ _)).over (bA _ _)
  ·have t:=fun T A o o'=>((Bx.new (w.alloc A) [O zc 0] T).over (bA _ o)).over (bA _ o')
   simp only [alS] at t;exact t _ _ _ _
  ·have t:=fun T A A2 o=>(Bx.new ((w.alloc A).alloc A2) [O zc 0] T).over (bA _ o)
   simp only [alS] at t;exact t _ _ _ _
 case round=>
  obtain ⟨acc,m,f,v,hI,hp,hf⟩:=hrel;obtain ⟨f,rfl⟩:∃ g,f=g+1:=⟨f - 1,by have:=hI.rd.st.2.1;omega⟩;rw [J6] at hp;have K1:=Aa (M8 ⟨#[109,97,105,110]⟩ [109,97,105,110] rfl m wr hI.rd.st);obtain ⟨la,lc,dv,-⟩:=hI.cop.cells (by decide);subst dv;have HN:=Aa (Ge hI.rd.st);have HI:=Aa hI;have df:=Aa hp;have HF:=Aa hf;obtain ⟨k,hk⟩:=nm acc.length;rw [<-hk] at HI;have HK:=Aa hk;clear hI hp hf hk h6;go_wp2_with fail;refine K1.o.mono ?_;rintro e w1 ⟨rfl,M,hs⟩;have c4:=HI.o.call (by omega) M hs (Nat.le_refl _);have B:=Aa c4;have fa:=Aa M;clear M hs c4 K1
  cases hq:isT ts m [109,97,105,110] with
  | true=>
   have HE:Hx (ak=Mn ts en acc m):=by show _=_;rw [<-df.o,if_pos hq];rfl
   have hh:=HE.o;unfold Mn at hh;replace HE:=Aa hh;have K2:=Aa (BE ⟨#[109,97,105,110]⟩ (by decide) m w1 B.o.rd.st);clear hq hh;go_wp2_with fail;refine K2.o.mono ?_;rintro e wx Q;obtain ⟨m1,L⟩ | ⟨_u,n1,L⟩:=AM (AG ts [109,97,105,110] m)
   ·replace Q:AW ts en (AG ts [109,97,105,110] m) _ _ e wx:=Q
    rw [L] at Q;obtain ⟨rfl,M⟩:=Q;have ac:Hx (ak=.inr m1):=by show _=_;rw [HE.o,L];rfl
    have a0:=Aa (B.o.rd.gave M);have N:=Aa (B.o.t.keep M (by omega));have ae:=Aa (B.o.p.keep M (by omega));have R:=Aa (B.o.q.keep M (by omega));clear M L;unfold Ah;go_wp2_with fail;refine leaves_cons (f:=50) (args:=#[zh (some ⟨w.heap.size,0,none⟩),zh (some ⟨w.heap.size+1,0,none⟩),zh (some ⟨w.heap.size+1+1,0,none⟩)]) (by simp) (by simp [go_sem]) ?_;refine (Ds w.heap.size _ _ 0 0 _ [] _ (by have:=R.o.lt;omega) (N.o.row 0 _ rfl) (N.o.row 1 _ rfl) (ae.o.row 0 _ rfl) (R.o.row 0 _ rfl) (N.o.fz 0) (N.o.fz 1) (ae.o.fz 0) (R.o.fz 0)).mono ?_;rintro e u' w9 ⟨rfl,rfl,d0,d1,d2,d3,ay⟩;have ax:=a0.o.trans ay;simp [Leaves,settle,results,Tryz.results23,go_sem,d0,d1,d2,d3];rw [ac.o];exact ⟨ax,rfl⟩
   replace Q:AW ts en (AG ts [109,97,105,110] m) _ _ e wx:=Q;rw [L] at Q;obtain ⟨rfl,M,hs⟩:=Q;have hh:=HE.o;rw [L,AK] at hh;replace HE:=Aa hh;have E:=Aa (B.o.call (by omega) M hs (Nat.le_of_lt (Bl L)));have K3:=Aa (GJ (2*ts.length+3) (Mw (rb:=w.heap.size+1+1+1) (en:=en) hall _).2 n1 wx hs (by omega));clear hh L M hs K2 B;obtain ⟨w2,cy⟩:=nm wx;rw [<-cy] at E K3 ⊢;clear cy;go_wp2_with fail;refine K3.o.mono ?_;clear wx;rintro e wx Q;obtain ⟨m1,L⟩ | ⟨l,n2,L⟩:=AM (Bw ts (fun n=>AQ ts en (2*ts.length+3) [] n) n1)
   ·replace Q:AW ts en (Bw ts (fun n=>AQ ts en (2*ts.length+3) [] n) n1) _ _ e wx:=Q
    rw [L] at Q;obtain ⟨rfl,M⟩:=Q;have ac:Hx (ak=.inr m1):=by show _=_;rw [HE.o,L];rfl
    have a0:=Aa (E.o.rd.gave M);have N:=Aa (E.o.t.keep M (by omega));have ae:=Aa (E.o.p.keep M (by omega));have R:=Aa (E.o.q.keep M (by omega));clear M L;unfold Ah;go_wp2_with fail;refine leaves_cons (f:=50) (args:=#[zh (some ⟨w.heap.size,0,none⟩),zh (some ⟨w.heap.size+1,0,none⟩),zh (some ⟨w.heap.size+1+1,0,none⟩)]) (by simp) (by simp [go_sem]) ?_;refine (Ds w.heap.size _ _ 0 0 _ [] _ (by have:=R.o.lt;omega) (N.o.row 0 _ rfl) (N.o.row 1 _ rfl) (ae.o.row 0 _ rfl) (R.o.row 0 _ rfl) (N.o.fz 0) (N.o.fz 1) (ae.o.fz 0) (R.o.fz 0)).mono ?_;rintro e u' w9 ⟨rfl,rfl,d0,d1,d2,d3,ay⟩;have ax:=a0.o.trans ay;simp [Leaves,settle,results,Tryz.results23,go_sem,d0,d1,d2,d3];rw [ac.o];exact ⟨ax,rfl⟩
   replace Q:AW ts en (Bw ts (fun n=>AQ ts en (2*ts.length+3) [] n) n1) _ _ e wx:=Q;rw [L] at Q;obtain ⟨a2,c2,rfl,am,c3,M,hs⟩:=Q;have hh:=HE.o;rw [L,AK] at hh;replace HE:=Aa hh;have d7:=Aa (Nat.le_of_lt (CI (fun n l n1 h=>Cc _ [] n l n1 h) L));have af:=Aa (E.o.call (by omega) M hs d7.o);have ai:=Aa am;have d8:=Aa c3;clear hh L M hs am c3 K3;have t0:=af.o.t.row 0 _ rfl;have t1:=af.o.t.row 1 _ rfl;have t2:=af.o.t.fz 1;obtain ⟨Y,ah⟩:=nm (wx.setCell ⟨w.heap.size,1,none⟩ (zd a2 l.length c2));have az:Hx (RdT w (w.heap.size+1+1+1) (zd ao ts.length cap) ts en n2 Y):=by show RdT _ _ _ _ _ _ _;rw [ah];exact af.o.rd.set (Nat.le_refl _) (by omega)
   have aj:Hx (Bx w.heap.size [zd la k lc,zd a2 l.length c2] Y):=by show Bx _ _ _;rw [ah];exact af.o.t.set (j:=1) (by simp)
   have av:Hx (Bx (w.heap.size+1) [O zc 0] Y):=by show Bx _ _ _;rw [ah];exact af.o.p.far (by omega)
   have au:Hx (Bx (w.heap.size+1+1) [O zc 0] Y):=by show Bx _ _ _;rw [ah];exact af.o.q.far (by omega)
   obtain ⟨dr,dq,rc2,dp⟩:=az.o.st.cells;obtain ⟨lk,ce⟩:=nm l.length;rw [<-ce] at ah aj ⊢;have d6:=Aa ce;clear ce;by_cases hlt:n2 < ts.length
   ·have K4:=Aa (BV _ _ ts en n2 _ az.o.st)
    go_wp2_with fail;rw [<-ah];clear ah t0 t1 t2
    go_quiet ((fail))
    go_wp2_with fail;have J:Hx (Ov Y (Y.drewN nq)):=below_drewN (Below.refl _ _) _;generalize Y.drewN nq=W5 at J ⊢;refine mo (BV _ _ ts en n2 _ (az.o.st.below J.o)) fun wz c7=>?_;have bv:=Aa (Ab J.o c7);have ac:Hx (ak=.inr n2):=by show _=_;rw [HE.o,if_pos hlt]
    have a0:=Aa (az.o.bel.trans (bv.o.mono az.o.size));have N:=Aa (aj.o.over bv.o);have ae:=Aa (av.o.over bv.o);have R:=Aa (au.o.over bv.o);clear c7 hlt;unfold Ah;go_wp2_with fail;refine leaves_cons (f:=50) (args:=#[zh (some ⟨w.heap.size,0,none⟩),zh (some ⟨w.heap.size+1,0,none⟩),zh (some ⟨w.heap.size+1+1,0,none⟩)]) (by simp) (by simp [go_sem]) ?_;refine (Ds w.heap.size _ _ 0 0 _ [] _ (by have:=R.o.lt;omega) (N.o.row 0 _ rfl) (N.o.row 1 _ rfl) (ae.o.row 0 _ rfl) (R.o.row 0 _ rfl) (N.o.fz 0) (N.o.fz 1) (ae.o.fz 0) (R.o.fz 0)).mono ?_;rintro e u' w9 ⟨rfl,rfl,d0,d1,d2,d3,ay⟩;have ax:=a0.o.trans ay;simp [Leaves,settle,results,Tryz.results23,go_sem,d0,d1,d2,d3];rw [ac.o];exact ⟨ax,rfl⟩
   ·go_wp2_with fail
    rw [<-ah];have dd:=Aa ah;clear ah t0 t1 t2
    go_quiet ((fail))
    have J:Hx (Ov Y (Y.drewN nq)):=below_drewN (Below.refl _ _) _;generalize Y.drewN nq=W5 at J ⊢;have bj:=Aa (aj.o.over J.o);have cl:=Aa (av.o.over J.o);have ck:=Aa (au.o.over J.o);have t0:=bj.o.row 0 _ rfl;have t1:=bj.o.row 1 _ rfl;have t2:=bj.o.fz 0;have t3:=bj.o.fz 1;have t4:=cl.o.row 0 _ rfl;have t5:=cl.o.fz 0;have t6:=ck.o.row 0 _ rfl;have t7:=ck.o.fz 0;have ac:Hx (ak=.inl ((acc,l),n2)):=by show _=_;rw [HE.o,if_neg hlt]
    go_wp2_with fail;clear t0 t1 t2 t3 t4 t5 t6 t7 dr dq rc2 dp;obtain ⟨V9,aq⟩:=nm ((((W5.setCell ⟨w.heap.size,0,none⟩ (zd la k lc)).setCell ⟨w.heap.size,1,none⟩ (zd a2 lk c2)).setCell ⟨w.heap.size+1,0,none⟩ (O zc 0)).setCell ⟨w.heap.size+1+1,0,none⟩ (O zc 0));rw [<-aq];have de:Hx (Bx w.heap.size [zd la k lc,zd a2 lk c2] V9):=by show Bx _ _ _;rw [aq];exact (((bj.o.set (j:=0) (by simp)).set (j:=1) (by simp)).far (by omega)).far (by omega)
    have d4:Hx (Bx (w.heap.size+1) [O zc 0] V9):=by show Bx _ _ _;rw [aq];exact (((cl.o.far (by omega)).far (by omega)).set (j:=0) (by simp)).far (by omega)
    have dz:Hx (Bx (w.heap.size+1+1) [O zc 0] V9):=by show Bx _ _ _;rw [aq];exact (((ck.o.far (by omega)).far (by omega)).far (by omega)).set (j:=0) (by simp)
    have eb:Hx (Below w.heap.size w V9):=by show Below _ _ _;rw [aq];exact ((((az.o.bel.trans (J.o.mono az.o.size)).setCell (by simp) _).setCell (by simp) _).setCell (by simp) _).setCell (by simp;omega) _
    have c6:Cop (w.heap.size+1+1+1+1) 51 13 (fun i cs W=>∀ x,acc[i]? = some x->XD W (2*ts.length+3) cs x) acc.length (zd la k lc) Y:=by rw [dd.o];exact af.o.cop.set (by omega)
    have c5:Cop (w.heap.size+1+1+1+1) 51 13 (fun i cs W=>∀ x,acc[i]? = some x->XD W (2*ts.length+3) cs x) acc.length (zd la k lc) V9:=by rw [aq];exact ((((c6.over J.o).set (by omega)).set (by omega)).set (by omega)).set (by omega)
    have bi:acc.length<=6000:=by have:=af.o.few;have:=af.o.rd.st.2.1;have:=af.o.rd.st.2.2.1;omega
    obtain ⟨a,c,hv,am⟩:=Cop.ls c5 (by decide) (by omega);injection hv with v1 v2 v3;subst v1 v3;have hz:w.heap.size+1+1 < w2.heap.size:=E.o.q.lt;have c1:Off w2.heap.size none Y (fun W=>LS 12 (XC W (2*ts.length+3)) W (zd a2 l.length c2) l):=by rw [dd.o];exact ai.o.set (by omega)
    have c0:Off w2.heap.size none V9 (fun W=>LS 12 (XC W (2*ts.length+3)) W (zd a2 l.length c2) l):=by rw [aq];exact ((((c1.over J.o).set (by omega)).set (by omega)).set (by omega)).set (by omega)
    have dy:=Aa (am.base (B':=w.heap.size) (by omega));have dx:=Aa (c0.base (B':=w.heap.size) (by omega));have ea:=Aa bi;clear aq c6 c5 bi am c1 c0 hz v2 hlt;refine leaves_cons (f:=50) (args:=#[zh (some ⟨w.heap.size,0,none⟩),zh (some ⟨w.heap.size+1,0,none⟩),zh (some ⟨w.heap.size+1+1,0,none⟩)]) (by simp) (by simp [go_sem]) ?_;refine (JZ _ _ _ _).mono ?_;rintro e u' w9 ⟨rfl,rfl,cd⟩;have cd:=cd.symm;subst cd;have d0:=de.o.row 0 _ rfl;have d1:=de.o.row 1 _ rfl;have d2:=d4.o.row 0 _ rfl;have d3:=dz.o.row 0 _ rfl;simp [Leaves,settle,results,Tryz.results23,go_sem,d0,d1,d2,d3];rw [ac.o];exact ⟨eb.o,_,_,_,_,by rw [HK.o,d6.o],dy.o,dx.o,ea.o,d8.o⟩
  | false=>
   have hr:=df.o;rw [if_neg (by rw [hq];simp)] at hr;have bu:=Aa hr;have KD:Hx (∀ X,Ov w1 X->_):=fun X (hX:Ov w1 X)=>Rl (rb:=w.heap.size+1+1+1) (en:=en) hall m X (B.o.rd.st.below hX);have s1:=B.o.t.row 0 _ rfl;clear hr hq;go_wp2_with fail;refine JY (fun da W=>∃ (d:D) (n1:Nat) (v:Value) (u13 u14 u15 u16 u17 u18 u19 u20 u21 u22:Value),da={ tmps:=#[zd ao ts.length cap,O zc (en:Int),undef,undef,zh (some ⟨w.heap.size,0,none⟩),zh (some ⟨w.heap.size+1,0,none⟩),zh (some ⟨w.heap.size+1+1,0,none⟩),zh (some ⟨w.heap.size+1+1+1,0,none⟩),.func (Fn.func 50) #[] #[zh (some ⟨w.heap.size,0,none⟩),zh (some ⟨w.heap.size+1,0,none⟩),zh (some ⟨w.heap.size+1+1,0,none⟩)],zd ao ts.length cap,O zc (en:Int),zf #[zd ao ts.length cap,O zc 0,O zc (en:Int)],zh (some ⟨w.heap.size+1+1+1,0,none⟩),u13,u14,u15,u16,u17,u18,u19,u20,u21,u22,undef,undef,undef,undef,undef,undef,undef,undef,undef,undef,undef,undef,undef,undef,undef,undef,undef,undef],defers:=[{ target:=Target.fn (Fn.func 50) #[zh (some ⟨w.heap.size,0,none⟩),zh (some ⟨w.heap.size+1,0,none⟩),zh (some ⟨w.heap.size+1+1,0,none⟩)],args:=#[] }] }/\Bs ts en m=.inl (d,n1)/\KU w (zd ao ts.length cap) ts en (w.heap.size) (w.heap.size+1) (w.heap.size+1+1) (w.heap.size+1+1+1) (acc++[d]) n1 v W) (JA (zh (some ⟨w.heap.size,0,none⟩)) (zh (some ⟨w.heap.size+1,0,none⟩)) (zh (some ⟨w.heap.size+1+1,0,none⟩)) [{ target:=Target.fn (Fn.func 50) #[zh (some ⟨w.heap.size,0,none⟩),zh (some ⟨w.heap.size+1,0,none⟩),zh (some ⟨w.heap.size+1+1,0,none⟩)],args:=#[] }]) (fun c W=>∃ m1,Bs ts en m=.inr m1/\c=[{ v:=.iface 90 (O zc (Al ts en m1)),recovered:=false }]/\w1.grownBy W (some (w.heap.size+1+1+1))) ?_ ?_ ?_
   ·refine gS (fun _=>True) trivial fun b=>?_
    have J:Hx (Ov w1 w1.drew):=bD w1;have sv:=ce1 (bD w1) s1;clear s1;generalize w1.drew=W at b J sv ⊢;refine kT (hQ:=by exact fun c a w h=>⟨JA.put (by decide) h.1,h.2⟩) 0 ?_;refine kT (hQ:=by exact fun c a w h=>⟨JA.put (by decide) h.1,h.2⟩) 2 ?_;refine rdB 1 3 rfl (fun K I=>?_) rfl fun K I=>?_
    ·first | (have sx:=s3;go_simp) | (have sx:=s2;go_simp) | (have sx:=sv;go_simp)
     refine xK I (trivial) fun b=>?_;clear I K;refine rdA 3 rfl fun K I=>?_;go_simp;refine (KD.o _ J.o).mono ?_;rintro e w2 hp;obtain ⟨m1,L⟩ | ⟨d,n1,L⟩:=AM (Bs ts en m)
     ·rw [L] at hp
      obtain ⟨rfl,M⟩:=hp;have HG:=Aa (Ac (Ae J.o) M);have HO:=Aa L;clear M L I b;unfold Ah;go_simp;exact ⟨⟨rfl,rfl,rfl,rfl⟩,m1,HO.o,rfl,HG.o⟩
     rw [L] at hp;obtain ⟨kd,a,x,y,gv,q0,q1,q2,q3,q4,q5,q6,q7,q8,e0,e1,e2,e3,q9,r0,r1,rfl,be,bh,al⟩:=hp;have bg:=Ac (Ae (r:=some (w.heap.size+1+1+1)) J.o) bh;have aw:=B.o.call (by omega) bg al (Nat.le_of_lt (DG L));have E:=Aa aw;have ai:=Aa (be.base J.o.size);have HO:=Aa L;have s2:=aw.t.row 0 _ rfl;clear L bh al bg b be aw;go_simp;refine xK I (trivial) fun b=>?_;clear I K;refine rdA 4 rfl fun K I=>?_;obtain ⟨W3,V⟩:=nm (w2.alloc (zg #[O zc kd,O zc a,.string x,.string y,ze gv,zd q0 q1 q2,zd q3 q4 q5,zd q6 q7 q8,O zc e0,O zc e1,O zc e2,.string e3,zd q9 r0 r1] 51));obtain ⟨zb,aa⟩:=nm w2.heap.size;have G:=aov V;have HZ:=C2 V aa;have s3:=ce1 G.o s2;go_simp;rw [<-V,<-aa];clear V aa b;refine xK I (trivial) fun b=>?_;clear I K;refine rdA 5 rfl fun K I=>?_;obtain ⟨xs,F,an⟩:=E.o.cop.over G.o;obtain ⟨v2,Y,Z,H,C,-,ap⟩:=run_append_own_at (P:=Tryz.prog) (w:=W3) (w.heap.size+1+1+1+1) 22 22 51 i0 (zf #[O zc 0,O zc 0,.string ⟨#[]⟩,.string ⟨#[]⟩,ze false,zd none 0 0,zd none 0 0,zd none 0 0,O zc 0,O zc 0,O zc 0,.string ⟨#[]⟩,zd none 0 0]) 13 192 Tryz.underlying22 hi cc cb ca rfl (by decide) _ _ _ F ⟨zb,0,none⟩ 1 1 [O zc kd,O zc a,.string x,.string y,ze gv,zd q0 q1 q2,zd q3 q4 q5,zd q6 q7 q8,O zc e0,O zc e1,O zc e2,.string e3,zd q9 r0 r1] rfl (fun jj u hu=>by rw [Addr.add_lit,Nat.zero_add];exact HZ.o jj u hu) (by simp [Value.oneCell']) (by have:=B.o.few;have:=B.o.rd.st.2.1;have:=B.o.rd.st.2.2.1;unfold maxLen;omega) (by have:=B.o.few;have:=B.o.rd.st.2.1;have:=B.o.rd.st.2.2.1;omega) (by have:=E.o.rd.st.lt;have:=G.o.size;omega);have U:∀ i,i < w.heap.size+1+1+1+1->some i≠(Value.slice la k lc).ownBlock:=fun i hk e=>by have:=(AL F e.symm).1;omega
     have S:Bx (w.heap.size) [zd la k lc,zd none 0 0] Y:=(E.o.t.over G.o).grown C (U _ (by omega));have s4:=S.row 0 _ rfl;have f4:=S.fz 0;have aj:=Aa S;have av:Hx (Bx (w.heap.size+1) [O zc 0] Y):=(E.o.p.over G.o).grown C (U _ (by omega));have au:Hx (Bx (w.heap.size+1+1) [O zc 0] Y):=(E.o.q.over G.o).grown C (U _ (by omega));have ar:=Aa ((E.o.rd.over G.o).row F (Nat.lt_succ_self _) C);have ag:Hx (Cop (w.heap.size+1+1+1+1) 51 13 (fun i cs W=>∀ x,(acc++[d])[i]? = some x->XD W (2*ts.length+3) cs x) (acc.length+1) v2 Y):=Cop.add (B1:=w1.heap.size) F (fun i hi=>by
       obtain ⟨ds,z1,z2,z3⟩:=an i hi;exact ⟨ds,z1,z2,z3.imp fun W hW x hx=>hW x (by rw [List.getElem?_append_left hi] at hx;exact hx)⟩) rfl ((ai.o.over G.o).imp fun W hW x hx=>by
        rw [List.getElem?_append_right (Nat.le_refl _),Nat.sub_self] at hx;injection hx with hx;rw [<-hx];exact hW) B.o.rd.st.lt (fun g M=>by
        obtain ⟨ys,h1,-⟩:=B.o.cop;exact (AL h1 M).2) H C ap
     obtain ⟨a9,a7,a8,bc⟩:=AP H;subst bc;refine A4 rfl _ _ _ rfl _ _ _ _ rfl rfl Z ?_;clear Z F an H C ap U S;refine xK I (trivial) fun b=>?_;clear I K;refine kT (hQ:=by exact fun c a w h=>⟨JA.put (by decide) h.1,h.2⟩) 6 ?_;refine rdA 7 rfl fun K I=>?_;go_simp;refine xK I (trivial) fun b=>?_;clear I K;refine gE ?_;have bi:=B.o.few;have hlt:=DG HO.o;exact ⟨d,n1,zd a9 a7 a8,_,_,_,_,_,_,_,_,_,_,rfl,HO.o,⟨ar.o.set (Nat.le_refl _) (by omega),aj.o.set (j:=0) (by simp),av.o.far (by omega),au.o.far (by omega),by rw [List.length_append];exact ag.o.set (by omega),by rw [List.length_append];show acc.length+1<=n1;omega⟩⟩
    ·go_simp
     refine (KD.o _ J.o).mono ?_;rintro e w2 hp;obtain ⟨m1,L⟩ | ⟨d,n1,L⟩:=AM (Bs ts en m)
     ·rw [L] at hp
      obtain ⟨rfl,M⟩:=hp;have HG:=Aa (Ac (Ae J.o) M);have HO:=Aa L;clear M L I b;unfold Ah;go_simp;exact ⟨⟨rfl,rfl,rfl,rfl⟩,m1,HO.o,rfl,HG.o⟩
     rw [L] at hp;obtain ⟨kd,a,x,y,gv,q0,q1,q2,q3,q4,q5,q6,q7,q8,e0,e1,e2,e3,q9,r0,r1,rfl,be,bh,al⟩:=hp;have bg:=Ac (Ae (r:=some (w.heap.size+1+1+1)) J.o) bh;have aw:=B.o.call (by omega) bg al (Nat.le_of_lt (DG L));have E:=Aa aw;have ai:=Aa (be.base J.o.size);have HO:=Aa L;have s2:=aw.t.row 0 _ rfl;clear L bh al bg b be aw;go_simp;refine xK I (trivial) fun b=>?_;clear I K;refine rdB 1 4 rfl (fun K I=>?_) rfl fun K I=>?_
     ·first | (have sx:=s3;go_simp) | (have sx:=s2;go_simp) | (have sx:=sv;go_simp)
      refine xK I (trivial) fun b=>?_;clear I K;refine rdA 4 rfl fun K I=>?_;obtain ⟨W3,V⟩:=nm (w2.alloc (zg #[O zc kd,O zc a,.string x,.string y,ze gv,zd q0 q1 q2,zd q3 q4 q5,zd q6 q7 q8,O zc e0,O zc e1,O zc e2,.string e3,zd q9 r0 r1] 51));obtain ⟨zb,aa⟩:=nm w2.heap.size;have G:=aov V;have HZ:=C2 V aa;have s3:=ce1 G.o s2;go_simp;rw [<-V,<-aa];clear V aa b;refine xK I (trivial) fun b=>?_;clear I K;refine rdA 5 rfl fun K I=>?_;obtain ⟨xs,F,an⟩:=E.o.cop.over G.o;obtain ⟨v2,Y,Z,H,C,-,ap⟩:=run_append_own_at (P:=Tryz.prog) (w:=W3) (w.heap.size+1+1+1+1) 22 22 51 i0 (zf #[O zc 0,O zc 0,.string ⟨#[]⟩,.string ⟨#[]⟩,ze false,zd none 0 0,zd none 0 0,zd none 0 0,O zc 0,O zc 0,O zc 0,.string ⟨#[]⟩,zd none 0 0]) 13 192 Tryz.underlying22 hi cc cb ca rfl (by decide) _ _ _ F ⟨zb,0,none⟩ 1 1 [O zc kd,O zc a,.string x,.string y,ze gv,zd q0 q1 q2,zd q3 q4 q5,zd q6 q7 q8,O zc e0,O zc e1,O zc e2,.string e3,zd q9 r0 r1] rfl (fun jj u hu=>by rw [Addr.add_lit,Nat.zero_add];exact HZ.o jj u hu) (by simp [Value.oneCell']) (by have:=B.o.few;have:=B.o.rd.st.2.1;have:=B.o.rd.st.2.2.1;unfold maxLen;omega) (by have:=B.o.few;have:=B.o.rd.st.2.1;have:=B.o.rd.st.2.2.1;omega) (by have:=E.o.rd.st.lt;have:=G.o.size;omega);have U:∀ i,i < w.heap.size+1+1+1+1->some i≠(Value.slice la k lc).ownBlock:=fun i hk e=>by have:=(AL F e.symm).1;omega
      have S:Bx (w.heap.size) [zd la k lc,zd none 0 0] Y:=(E.o.t.over G.o).grown C (U _ (by omega));have s4:=S.row 0 _ rfl;have f4:=S.fz 0;have aj:=Aa S;have av:Hx (Bx (w.heap.size+1) [O zc 0] Y):=(E.o.p.over G.o).grown C (U _ (by omega));have au:Hx (Bx (w.heap.size+1+1) [O zc 0] Y):=(E.o.q.over G.o).grown C (U _ (by omega));have ar:=Aa ((E.o.rd.over G.o).row F (Nat.lt_succ_self _) C);have ag:Hx (Cop (w.heap.size+1+1+1+1) 51 13 (fun i cs W=>∀ x,(acc++[d])[i]? = some x->XD W (2*ts.length+3) cs x) (acc.length+1) v2 Y):=Cop.add (B1:=w1.heap.size) F (fun i hi=>by
        obtain ⟨ds,z1,z2,z3⟩:=an i hi;exact ⟨ds,z1,z2,z3.imp fun W hW x hx=>hW x (by rw [List.getElem?_append_left hi] at hx;exact hx)⟩) rfl ((ai.o.over G.o).imp fun W hW x hx=>by
         rw [List.getElem?_append_right (Nat.le_refl _),Nat.sub_self] at hx;injection hx with hx;rw [<-hx];exact hW) B.o.rd.st.lt (fun g M=>by
         obtain ⟨ys,h1,-⟩:=B.o.cop;exact (AL h1 M).2) H C ap
      obtain ⟨a9,a7,a8,bc⟩:=AP H;subst bc;refine A4 rfl _ _ _ rfl _ _ _ _ rfl rfl Z ?_;clear Z F an H C ap U S;refine xK I (trivial) fun b=>?_;clear I K;refine kT (hQ:=by exact fun c a w h=>⟨JA.put (by decide) h.1,h.2⟩) 6 ?_;refine rdA 7 rfl fun K I=>?_;go_simp;refine xK I (trivial) fun b=>?_;clear I K;refine gE ?_;have bi:=B.o.few;have hlt:=DG HO.o;exact ⟨d,n1,zd a9 a7 a8,_,_,_,_,_,_,_,_,_,_,rfl,HO.o,⟨ar.o.set (Nat.le_refl _) (by omega),aj.o.set (j:=0) (by simp),av.o.far (by omega),au.o.far (by omega),by rw [List.length_append];exact ag.o.set (by omega),by rw [List.length_append];show acc.length+1<=n1;omega⟩⟩
     ·obtain ⟨W3,V⟩:=nm (w2.alloc (zg #[O zc kd,O zc a,.string x,.string y,ze gv,zd q0 q1 q2,zd q3 q4 q5,zd q6 q7 q8,O zc e0,O zc e1,O zc e2,.string e3,zd q9 r0 r1] 51))
      obtain ⟨zb,aa⟩:=nm w2.heap.size;have G:=aov V;have HZ:=C2 V aa;have s3:=ce1 G.o s2;go_simp;rw [<-V,<-aa];clear V aa b;refine xK I (trivial) fun b=>?_;clear I K;refine rdA 1 rfl fun K I=>?_;first | (have sx:=s3;go_simp) | (have sx:=s2;go_simp) | (have sx:=sv;go_simp)
      refine xK I (trivial) fun b=>?_;clear I K;refine rdA 5 rfl fun K I=>?_;obtain ⟨xs,F,an⟩:=E.o.cop.over G.o;obtain ⟨v2,Y,Z,H,C,-,ap⟩:=run_append_own_at (P:=Tryz.prog) (w:=W3) (w.heap.size+1+1+1+1) 22 22 51 i0 (zf #[O zc 0,O zc 0,.string ⟨#[]⟩,.string ⟨#[]⟩,ze false,zd none 0 0,zd none 0 0,zd none 0 0,O zc 0,O zc 0,O zc 0,.string ⟨#[]⟩,zd none 0 0]) 13 192 Tryz.underlying22 hi cc cb ca rfl (by decide) _ _ _ F ⟨zb,0,none⟩ 1 1 [O zc kd,O zc a,.string x,.string y,ze gv,zd q0 q1 q2,zd q3 q4 q5,zd q6 q7 q8,O zc e0,O zc e1,O zc e2,.string e3,zd q9 r0 r1] rfl (fun jj u hu=>by rw [Addr.add_lit,Nat.zero_add];exact HZ.o jj u hu) (by simp [Value.oneCell']) (by have:=B.o.few;have:=B.o.rd.st.2.1;have:=B.o.rd.st.2.2.1;unfold maxLen;omega) (by have:=B.o.few;have:=B.o.rd.st.2.1;have:=B.o.rd.st.2.2.1;omega) (by have:=E.o.rd.st.lt;have:=G.o.size;omega);have U:∀ i,i < w.heap.size+1+1+1+1->some i≠(Value.slice la k lc).ownBlock:=fun i hk e=>by have:=(AL F e.symm).1;omega
      have S:Bx (w.heap.size) [zd la k lc,zd none 0 0] Y:=(E.o.t.over G.o).grown C (U _ (by omega));have s4:=S.row 0 _ rfl;have f4:=S.fz 0;have aj:=Aa S;have av:Hx (Bx (w.heap.size+1) [O zc 0] Y):=(E.o.p.over G.o).grown C (U _ (by omega));have au:Hx (Bx (w.heap.size+1+1) [O zc 0] Y):=(E.o.q.over G.o).grown C (U _ (by omega));have ar:=Aa ((E.o.rd.over G.o).row F (Nat.lt_succ_self _) C);have ag:Hx (Cop (w.heap.size+1+1+1+1) 51 13 (fun i cs W=>∀ x,(acc++[d])[i]? = some x->XD W (2*ts.length+3) cs x) (acc.length+1) v2 Y):=Cop.add (B1:=w1.heap.size) F (fun i hi=>by
        obtain ⟨ds,z1,z2,z3⟩:=an i hi;exact ⟨ds,z1,z2,z3.imp fun W hW x hx=>hW x (by rw [List.getElem?_append_left hi] at hx;exact hx)⟩) rfl ((ai.o.over G.o).imp fun W hW x hx=>by
         rw [List.getElem?_append_right (Nat.le_refl _),Nat.sub_self] at hx;injection hx with hx;rw [<-hx];exact hW) B.o.rd.st.lt (fun g M=>by
         obtain ⟨ys,h1,-⟩:=B.o.cop;exact (AL h1 M).2) H C ap
      obtain ⟨a9,a7,a8,bc⟩:=AP H;subst bc;refine A4 rfl _ _ _ rfl _ _ _ _ rfl rfl Z ?_;clear Z F an H C ap U S;refine xK I (trivial) fun b=>?_;clear I K;refine kT (hQ:=by exact fun c a w h=>⟨JA.put (by decide) h.1,h.2⟩) 6 ?_;refine rdA 7 rfl fun K I=>?_;go_simp;refine xK I (trivial) fun b=>?_;clear I K;refine gE ?_;have bi:=B.o.few;have hlt:=DG HO.o;exact ⟨d,n1,zd a9 a7 a8,_,_,_,_,_,_,_,_,_,_,rfl,HO.o,⟨ar.o.set (Nat.le_refl _) (by omega),aj.o.set (j:=0) (by simp),av.o.far (by omega),au.o.far (by omega),by rw [List.length_append];exact ag.o.set (by omega),by rw [List.length_append];show acc.length+1<=n1;omega⟩⟩
   ·rintro da W ⟨d,n1,v,u13,u14,u15,u16,u17,u18,u19,u20,u21,u22,rfl,L,hI⟩
    have hr:=bu.o;rw [L,AK] at hr;have ac:=Aa hr;have cm:=Aa hI;have d5:=Aa (DG L);clear hr L hI s1 KD bu;go_wp2_with fail;have hN:=HN.o;have e5:=Ge cm.o.rd.st;have hF:=HF.o;have hL:=d5.o;have hs:=cm.o.rd.st.2.1;refine ⟨⟨_,_,_,_,_,_,_,_,_,_,⟨acc++[d],n1,f,v,cm.o,ac.o,by omega⟩,rfl⟩,by omega⟩
   ·rintro c a W ⟨hd,h4,h5,h6⟩ ⟨m1,L,rfl,M⟩
    have hr:=bu.o;rw [L] at hr;have ac:Hx (ak=.inr m1):=hr.symm;have a0:=Aa (B.o.rd.gave M);have N:=Aa (B.o.t.keep M (by omega));have ae:=Aa (B.o.p.keep M (by omega));have R:=Aa (B.o.q.keep M (by omega));obtain ⟨ad,e6⟩:=a;simp only at hd h4 h5 h6;clear hr L M s1 KD bu;go_simp;simp (config:={ zetaDelta:=true }) only [Exit.then,Exit.inBlock];refine leaves_cons (f:=50) (args:=#[zh (some ⟨w.heap.size,0,none⟩),zh (some ⟨w.heap.size+1,0,none⟩),zh (some ⟨w.heap.size+1+1,0,none⟩)]) (by simp) (by simp [go_sem]) ?_;refine (Ds w.heap.size _ _ 0 0 _ [] _ (by have:=R.o.lt;omega) (N.o.row 0 _ rfl) (N.o.row 1 _ rfl) (ae.o.row 0 _ rfl) (R.o.row 0 _ rfl) (N.o.fz 0) (N.o.fz 1) (ae.o.fz 0) (R.o.fz 0)).mono ?_;rintro e u' w9 ⟨rfl,rfl,d0,d1,d2,d3,ay⟩;have ax:=a0.o.trans ay;simp [Leaves,settle,results,Tryz.results23,go_sem,d0,d1,d2,d3,h4,h5,h6];rw [ac.o];exact ⟨ax,rfl⟩
end Go.Proofs.YtipngnjffjajpaaGreatDoor.Tx
