/- Package tree's reader: commands, whatever stands there. -/
import Derived.Test.YtipngnjffjajpaaGreatDoorH13
set_option linter.unusedVariables false
set_option maxHeartbeats 8000000
set_option maxRecDepth 100000
namespace Go.Proofs.YtipngnjffjajpaaGreatDoor.Tx
open Go.RowKit
open Go.Value renaming int -> M, slice -> U, bool -> zc, pointer -> zd, agg -> zf, tuple -> zh
open Go.IntKind renaming i64 -> O
open Go.Obj renaming cells -> ze
open Go.Ending renaming returned -> zg
section
variable {rb:Nat} {tv:Value} {ts:List Tok} {en:Nat}
theorem LZ (hall:ts.all An=true) (f:Nat) (hB:CC rb tv ts en f):Ja rb tv ts en (f+1):=by
 intro n w h a
 cases q0:isT ts n [105,102] with
 | true=>exact L2 hall hB n w h a q0
 | false=>
 cases q1:isT ts n [119,104,105,108,101] with
 | true=>exact Iv hall hB n w h a q0 q1
 | false=>
 cases q2:isT ts n [103,101,116] with
 | true=>exact KU hall hB n w h a q0 q1 q2
 | false=>
 cases q3:isT ts n [112,117,116] with
 | true=>exact KG hall hB n w h a q0 q1 q2 q3
 | false=>
 cases q4:isT ts n [114,101,118,101,97,108] with
 | true=>exact G7 hall hB n w h a q0 q1 q2 q3 q4
 | false=>
 cases q5:isT ts n [116,114,117,115,116] with
 | true=>exact Iw hall hB n w h a q0 q1 q2 q3 q4 q5
 | false=>exact G8 hall hB n w h a q0 q1 q2 q3 q4 q5
theorem Jx (hall:ts.all An=true) (f:Nat):Ja rb tv ts en f/\CC rb tv ts en f:=by
 induction f using Nat.strongRecOn with
 | _ f ih=>
  refine ⟨?_,Kz f fun a h=>(ih a h).1⟩
  cases f with
  | zero=>intro n w h b;omega
  | succ f=>exact LZ hall f (ih f (by omega)).2
end
def XD (W:World) (f:Nat) (cs:List Value) (d:D):Prop:=∃ (kd a:Int) (x y:ByteArray) (gv:Bool) (vL:Value) (lb:List D) (vP:Value) (ps:List ByteArray) (vB:Value) (body:List D) (r0 r1 r2 r3 r4:Value) (r:D),cs=[M O kd,M O a,.string x,.string y,zc gv,vL,vP,vB,r0,r1,r2,r3,r4]/\d=deD kd a x y gv lb ps body r/\LS 4 (F2 W) W vL lb/\BF W vP ps/\LS 12 (XC W f) W vB body/\XE W 61 [r0,r1,r2,r3,r4] r
theorem IV {rb:Nat} {tv:Value} {ts:List Tok} {en:Nat} (hall:ts.all An=true) {w:World} {bs:Nat} (at_:Int) (nm_:ByteArray) (n:Nat) (u:World) (hd:Rd rb tv ts en w n u) (hsb:w.heap.size<=bs) (hb:Bx bs [M O 7,M O at_,.string nm_,.string ⟨#[]⟩,zc false,U none 0 0,U none 0 0,U none 0 0,M O 0,M O 0,M O 0,.string ⟨#[]⟩,U none 0 0] u) :
  Calls Tryz.prog 96 #[zd (some ⟨rb,0,none⟩),zd (some ⟨bs,0,none⟩)] u (Ao ts en (Ef ts en at_ nm_ n) (fun d n1 e w'=>e=zg (zh #[])/\∃ (pa:Option Addr) (pk pc:Nat) (ba:Option Addr) (bk bc:Nat) (e0 e1 e2:Int) (e3:ByteArray) (q0:Option Addr) (q1 q2:Nat),Bx bs [M O 7,M O at_,.string nm_,.string ⟨#[]⟩,zc false,U none 0 0,U pa pk pc,U ba bk bc,M O e0,M O e1,M O e2,.string e3,U q0 q1 q2] w'/\Off u.heap.size none w' (fun W=>XD W (2*ts.length+3) [M O 7,M O at_,.string nm_,.string ⟨#[]⟩,zc false,U none 0 0,U pa pk pc,U ba bk bc,M O e0,M O e1,M O e2,.string e3,U q0 q1 q2] d)/\Rd rb tv ts en w n1 w'/\Fz rb bs u w') (fun w'=>w.grownBy w' (some rb))):=by
 obtain ⟨P,am⟩:=nm (Ef ts en at_ nm_ n);rw [<-am];have k:Hx (P=Aw (Av ts [40] n) fun _ n1=>Aw (Bi ts (!isT ts n1 [41]) n1) fun ps n2=>Aw (Av ts [41] n2) fun _ n3=>Aw (Av ts [123] n3) fun _ n4=>
   Aw (AL ts en (2*ts.length+3) [] n4) fun E n5=>Aw (Av ts [114,101,116,117,114,110] n5) fun _ n6=>Aw (pX ts en n6) fun r n7=>Aw (Av ts [59] n7) fun _ n8=>Aw (Av ts [125] n8) fun _ n9=>
    .inl (deD 7 at_ nm_ noS false [] ps E r,n9)):=am
 have g:=Aa hd;have c:=Aa hb;have C:=Aa hsb;have i:=Aa (Fz.refl rb bs u);clear am hd hb hsb;go_enter Tryz.func96,Tryz.ntmps96;have K1:=Aa (Bp ⟨#[40]⟩ (by decide) n _ g.o.st);go_wp2_with fail;refine K1.o.mono ?_;rintro e w1 a;obtain ⟨m,f⟩ | ⟨cf,n1,f⟩:=Ak (Av ts [40] n)
 ·replace a:Ao ts en (Av ts [40] n) _ _ e w1:=a
  rw [f] at a;obtain ⟨rfl,b⟩:=a;have HO:Hx (P=.inr m):=by show _=_;rw [k.o,f];rfl
  have HG:=Aa (Ac g.o.gr b);clear b f;unfold Ai;go_wp2_with fail;refine ⟨rfl,?_⟩;rw [HO.o];exact ⟨rfl,HG.o⟩
 replace a:Ao ts en (Av ts [40] n) _ _ e w1:=a;rw [f] at a;obtain ⟨rfl,b,G⟩:=a;have hr:=k.o;rw [f,Am] at hr;replace k:=Aa hr;have B:=Aa f;clear hr f;clear K1;clear B;replace i:=Aa (i.o.call b);replace c:=bkp c g.o.rlt C b;replace g:Hx (Rd rb tv ts en w (n1) w1):=g.o.call b G;clear b G;have K2:=Aa (J4 ⟨#[41]⟩ [41] rfl n1 _ g.o.st);go_wp2_with fail;refine K2.o.mono ?_;rintro e wa ⟨rfl,b,G⟩;obtain ⟨q,hq⟩:=nm (isT ts n1 [41]);rw [<-hq] at k ⊢;clear hq K2;replace i:=Aa (i.o.call b);replace c:=bkp c g.o.rlt C b;replace g:Hx (Rd rb tv ts en w (n1) wa):=g.o.call b G;clear b G;have K3:=Aa (GJ (!q) n1 _ g.o.st);go_wp2_with fail;obtain ⟨z,hz⟩:=nm wa.heap.size;have ah:Hx (w.heap.size<=z):=by show _<=_;rw [hz];exact g.o.size
 have N:Hx (bs < z):=by show _ < _;rw [hz];exact c.o.lt
 have b5:Hx (u.heap.size<=z):=by show _<=_;rw [hz];exact i.o.1
 refine K3.o.mono ?_;rintro e w2 a;obtain ⟨m,f⟩ | ⟨ps,n2,f⟩:=Ak (Bi ts (!q) n1)
 ·replace a:Ao ts en (Bi ts (!q) n1) _ _ e w2:=a
  rw [f] at a;obtain ⟨rfl,b⟩:=a;have HO:Hx (P=.inr m):=by show _=_;rw [k.o,f];rfl
  have HG:=Aa (Ac g.o.gr b);clear b f;unfold Ai;go_wp2_with fail;refine ⟨rfl,?_⟩;rw [HO.o];exact ⟨rfl,HG.o⟩
 replace a:Ao ts en (Bi ts (!q) n1) _ _ e w2:=a;rw [f] at a;obtain ⟨pa,pc,rfl,A,bl,b,G⟩:=a;have hr:=k.o;rw [f,Am] at hr;replace k:=Aa hr;have B:=Aa f;clear hr f;obtain ⟨pk,bj⟩:=nm ps.length;rw [<-bj,<-hz] at A;rw [<-bj];have l:=Aa A;clear A bl bj hz K3;clear B;replace i:=Aa (i.o.call b);replace c:=bkp c g.o.rlt C b;replace g:Hx (Rd rb tv ts en w (n2) w2):=g.o.call b G;clear b G;obtain ⟨a8,a7,a6,a5,a4,a3,a2,a1,a0,az,Y,X,V⟩:=Ap c.o.row;obtain ⟨ay,ax,aw,av,au,ar,aq,ap,ao,an,T,S,R⟩:=A7 c.o.fz;obtain ⟨V3,ai⟩:=nm (w2.setCell ⟨bs,6,none⟩ (U pa pk pc));replace c:Hx (Bx bs [M O 7,M O at_,.string nm_,.string ⟨#[]⟩,zc false,U none 0 0,U pa pk pc,U none 0 0,M O 0,M O 0,M O 0,.string ⟨#[]⟩,U none 0 0] V3):=by show Bx _ _ _;rw [ai];exact c.o.set (j:=6) (by simp)
 replace g:Hx (Rd rb tv ts en w (n2) V3):=by show Rd _ _ _ _ _ _ _;rw [ai];exact g.o.set (by exact C.o)
 replace i:Hx (Fz rb bs u V3):=by show Fz _ _ _ _;rw [ai];exact i.o.set (Or.inl rfl)
 replace l:Hx (Off z none V3 (fun W=>BF W (U pa pk pc) ps)):=by show Off _ _ _ _;rw [ai];exact l.o.set N.o
 have K4:=Aa (Bp ⟨#[41]⟩ (by decide) n2 _ g.o.st);go_wp2_with fail;rw [<-ai];clear R S T an ao ap aq ar au av aw ax ay V X Y az a0 a1 a2 a3 a4 a5 a6 a7 a8;clear ai;refine K4.o.mono ?_;rintro e w4 a;obtain ⟨m,f⟩ | ⟨ce,n3,f⟩:=Ak (Av ts [41] n2)
 ·replace a:Ao ts en (Av ts [41] n2) _ _ e w4:=a
  rw [f] at a;obtain ⟨rfl,b⟩:=a;have HO:Hx (P=.inr m):=by show _=_;rw [k.o,f];rfl
  have HG:=Aa (Ac g.o.gr b);clear b f;unfold Ai;go_wp2_with fail;refine ⟨rfl,?_⟩;rw [HO.o];exact ⟨rfl,HG.o⟩
 replace a:Ao ts en (Av ts [41] n2) _ _ e w4:=a;rw [f] at a;obtain ⟨rfl,b,G⟩:=a;have hr:=k.o;rw [f,Am] at hr;replace k:=Aa hr;have B:=Aa f;clear hr f;clear K4;clear B;replace i:=Aa (i.o.call b);replace c:=bkp c g.o.rlt C b;replace l:=Aa (l.o.keep b (by have:=g.o.rlt;have:=ah.o;omega));replace g:Hx (Rd rb tv ts en w (n3) w4):=g.o.call b G;clear b G;have K5:=Aa (Bp ⟨#[123]⟩ (by decide) n3 _ g.o.st);go_wp2_with fail;refine K5.o.mono ?_;rintro e w5 a;obtain ⟨m,f⟩ | ⟨cd,n4,f⟩:=Ak (Av ts [123] n3)
 ·replace a:Ao ts en (Av ts [123] n3) _ _ e w5:=a
  rw [f] at a;obtain ⟨rfl,b⟩:=a;have HO:Hx (P=.inr m):=by show _=_;rw [k.o,f];rfl
  have HG:=Aa (Ac g.o.gr b);clear b f;unfold Ai;go_wp2_with fail;refine ⟨rfl,?_⟩;rw [HO.o];exact ⟨rfl,HG.o⟩
 replace a:Ao ts en (Av ts [123] n3) _ _ e w5:=a;rw [f] at a;obtain ⟨rfl,b,G⟩:=a;have hr:=k.o;rw [f,Am] at hr;replace k:=Aa hr;have B:=Aa f;clear hr f;clear K5;clear B;replace i:=Aa (i.o.call b);replace c:=bkp c g.o.rlt C b;replace l:=Aa (l.o.keep b (by have:=g.o.rlt;have:=ah.o;omega));replace g:Hx (Rd rb tv ts en w (n4) w5):=g.o.call b G;clear b G;have K6:=Aa ((Jx (rb:=rb) (tv:=tv) (en:=en) hall (2*ts.length+3)).2 n4 _ g.o.st (by omega));go_wp2_with fail;obtain ⟨y,hy⟩:=nm w5.heap.size;have a9:Hx (w.heap.size<=y):=by show _<=_;rw [hy];exact g.o.size
 have Q:Hx (bs < y):=by show _ < _;rw [hy];exact c.o.lt
 have b6:Hx (u.heap.size<=y):=by show _<=_;rw [hy];exact i.o.1
 refine K6.o.mono ?_;rintro e w6 a;obtain ⟨m,f⟩ | ⟨E,n5,f⟩:=Ak (AL ts en (2*ts.length+3) [] n4)
 ·replace a:Ao ts en (AL ts en (2*ts.length+3) [] n4) _ _ e w6:=a
  rw [f] at a;obtain ⟨rfl,b⟩:=a;have HO:Hx (P=.inr m):=by show _=_;rw [k.o,f];rfl
  have HG:=Aa (Ac g.o.gr b);clear b f;unfold Ai;go_wp2_with fail;refine ⟨rfl,?_⟩;rw [HO.o];exact ⟨rfl,HG.o⟩
 replace a:Ao ts en (AL ts en (2*ts.length+3) [] n4) _ _ e w6:=a;rw [f] at a;obtain ⟨ba,bc,rfl,A,bl,b,G⟩:=a;have hr:=k.o;rw [f,Am] at hr;replace k:=Aa hr;have B:=Aa f;clear hr f;obtain ⟨bk,bm⟩:=nm E.length;rw [<-bm,<-hy] at A;rw [<-bm];have v:=Aa A;clear A bl bm hy K6;clear B;replace i:=Aa (i.o.call b);replace c:=bkp c g.o.rlt C b;replace l:=Aa (l.o.keep b (by have:=g.o.rlt;have:=ah.o;omega));replace g:Hx (Rd rb tv ts en w (n5) w6):=g.o.call b G;clear b G;obtain ⟨a8,a7,a6,a5,a4,a3,a2,a1,a0,az,Y,X,V⟩:=Ap c.o.row;obtain ⟨ay,ax,aw,av,au,ar,aq,ap,ao,an,T,S,R⟩:=A7 c.o.fz;obtain ⟨V7,ac⟩:=nm (w6.setCell ⟨bs,7,none⟩ (U ba bk bc));replace c:Hx (Bx bs [M O 7,M O at_,.string nm_,.string ⟨#[]⟩,zc false,U none 0 0,U pa pk pc,U ba bk bc,M O 0,M O 0,M O 0,.string ⟨#[]⟩,U none 0 0] V7):=by show Bx _ _ _;rw [ac];exact c.o.set (j:=7) (by simp)
 replace g:Hx (Rd rb tv ts en w (n5) V7):=by show Rd _ _ _ _ _ _ _;rw [ac];exact g.o.set (by exact C.o)
 replace i:Hx (Fz rb bs u V7):=by show Fz _ _ _ _;rw [ac];exact i.o.set (Or.inl rfl)
 replace l:Hx (Off z none V7 (fun W=>BF W (U pa pk pc) ps)):=by show Off _ _ _ _;rw [ac];exact l.o.set N.o
 replace v:Hx (Off y none V7 (fun W=>LS 12 (XC W (2*ts.length+3)) W (U ba bk bc) E)):=by show Off _ _ _ _;rw [ac];exact v.o.set Q.o
 have K7:=Aa (Bp ⟨#[114,101,116,117,114,110]⟩ (by decide) n5 _ g.o.st);go_wp2_with fail;rw [<-ac];clear R S T an ao ap aq ar au av aw ax ay V X Y az a0 a1 a2 a3 a4 a5 a6 a7 a8;clear ac;refine K7.o.mono ?_;rintro e w8 a;obtain ⟨m,f⟩ | ⟨cc,n6,f⟩:=Ak (Av ts [114,101,116,117,114,110] n5)
 ·replace a:Ao ts en (Av ts [114,101,116,117,114,110] n5) _ _ e w8:=a
  rw [f] at a;obtain ⟨rfl,b⟩:=a;have HO:Hx (P=.inr m):=by show _=_;rw [k.o,f];rfl
  have HG:=Aa (Ac g.o.gr b);clear b f;unfold Ai;go_wp2_with fail;refine ⟨rfl,?_⟩;rw [HO.o];exact ⟨rfl,HG.o⟩
 replace a:Ao ts en (Av ts [114,101,116,117,114,110] n5) _ _ e w8:=a;rw [f] at a;obtain ⟨rfl,b,G⟩:=a;have hr:=k.o;rw [f,Am] at hr;replace k:=Aa hr;have B:=Aa f;clear hr f;clear K7;clear B;replace i:=Aa (i.o.call b);replace c:=bkp c g.o.rlt C b;replace l:=Aa (l.o.keep b (by have:=g.o.rlt;have:=ah.o;omega));replace v:=Aa (v.o.keep b (by have:=g.o.rlt;have:=a9.o;omega));replace g:Hx (Rd rb tv ts en w (n6) w8):=g.o.call b G;clear b G;have K8:=Aa (DY hall n6 _ g.o.st);go_wp2_with fail;obtain ⟨x,hx⟩:=nm w8.heap.size;have bt:Hx (w.heap.size<=x):=by show _<=_;rw [hx];exact g.o.size
 have Z:Hx (bs < x):=by show _ < _;rw [hx];exact c.o.lt
 have b7:Hx (u.heap.size<=x):=by show _<=_;rw [hx];exact i.o.1
 refine K8.o.mono ?_;rintro e w9 a;obtain ⟨m,f⟩ | ⟨ed,n7,f⟩:=Ak (pX ts en n6)
 ·replace a:Ao ts en (pX ts en n6) _ _ e w9:=a
  rw [f] at a;obtain ⟨rfl,b⟩:=a;have HO:Hx (P=.inr m):=by show _=_;rw [k.o,f];rfl
  have HG:=Aa (Ac g.o.gr b);clear b f;unfold Ai;go_wp2_with fail;refine ⟨rfl,?_⟩;rw [HO.o];exact ⟨rfl,HG.o⟩
 replace a:Ao ts en (pX ts en n6) _ _ e w9:=a;rw [f] at a;obtain ⟨e0,e1,e2,e3,q0,q1,q2,rfl,A,-,-,b,G⟩:=a;have hr:=k.o;rw [f,Am] at hr;replace k:=Aa hr;have B:=Aa f;clear hr f;rw [<-hx] at A;have F:=Aa A;clear A hx K8;clear B;replace i:=Aa (i.o.call b);replace c:=bkp c g.o.rlt C b;replace l:=Aa (l.o.keep b (by have:=g.o.rlt;have:=ah.o;omega));replace v:=Aa (v.o.keep b (by have:=g.o.rlt;have:=a9.o;omega));replace g:Hx (Rd rb tv ts en w (n7) w9):=g.o.call b G;clear b G;obtain ⟨a8,a7,a6,a5,a4,a3,a2,a1,a0,az,Y,X,V⟩:=Ap c.o.row;obtain ⟨ay,ax,aw,av,au,ar,aq,ap,ao,an,T,S,R⟩:=A7 c.o.fz;obtain ⟨ag,L⟩:=nm (w9.setCell ⟨bs,8,none⟩ (M O e0));replace c:Hx (Bx bs [M O 7,M O at_,.string nm_,.string ⟨#[]⟩,zc false,U none 0 0,U pa pk pc,U ba bk bc,M O e0,M O 0,M O 0,.string ⟨#[]⟩,U none 0 0] ag):=by show Bx _ _ _;rw [L];exact c.o.set (j:=8) (by simp)
 replace g:Hx (Rd rb tv ts en w (n7) ag):=by show Rd _ _ _ _ _ _ _;rw [L];exact g.o.set (by exact C.o)
 replace i:Hx (Fz rb bs u ag):=by show Fz _ _ _ _;rw [L];exact i.o.set (Or.inl rfl)
 replace l:Hx (Off z none ag (fun W=>BF W (U pa pk pc) ps)):=by show Off _ _ _ _;rw [L];exact l.o.set N.o
 replace v:Hx (Off y none ag (fun W=>LS 12 (XC W (2*ts.length+3)) W (U ba bk bc) E)):=by show Off _ _ _ _;rw [L];exact v.o.set Q.o
 replace F:Hx (Off x none ag (fun W=>XE W 61 [M O e0,M O e1,M O e2,.string e3,U q0 q1 q2] ed)):=by show Off _ _ _ _;rw [L];exact F.o.set Z.o
 obtain ⟨af,K⟩:=nm (ag.setCell ⟨bs,9,none⟩ (M O e1));replace c:Hx (Bx bs [M O 7,M O at_,.string nm_,.string ⟨#[]⟩,zc false,U none 0 0,U pa pk pc,U ba bk bc,M O e0,M O e1,M O 0,.string ⟨#[]⟩,U none 0 0] af):=by show Bx _ _ _;rw [K];exact c.o.set (j:=9) (by simp)
 replace g:Hx (Rd rb tv ts en w (n7) af):=by show Rd _ _ _ _ _ _ _;rw [K];exact g.o.set (by exact C.o)
 replace i:Hx (Fz rb bs u af):=by show Fz _ _ _ _;rw [K];exact i.o.set (Or.inl rfl)
 replace l:Hx (Off z none af (fun W=>BF W (U pa pk pc) ps)):=by show Off _ _ _ _;rw [K];exact l.o.set N.o
 replace v:Hx (Off y none af (fun W=>LS 12 (XC W (2*ts.length+3)) W (U ba bk bc) E)):=by show Off _ _ _ _;rw [K];exact v.o.set Q.o
 replace F:Hx (Off x none af (fun W=>XE W 61 [M O e0,M O e1,M O e2,.string e3,U q0 q1 q2] ed)):=by show Off _ _ _ _;rw [K];exact F.o.set Z.o
 obtain ⟨ae,J⟩:=nm (af.setCell ⟨bs,10,none⟩ (M O e2));replace c:Hx (Bx bs [M O 7,M O at_,.string nm_,.string ⟨#[]⟩,zc false,U none 0 0,U pa pk pc,U ba bk bc,M O e0,M O e1,M O e2,.string ⟨#[]⟩,U none 0 0] ae):=by show Bx _ _ _;rw [J];exact c.o.set (j:=10) (by simp)
 replace g:Hx (Rd rb tv ts en w (n7) ae):=by show Rd _ _ _ _ _ _ _;rw [J];exact g.o.set (by exact C.o)
 replace i:Hx (Fz rb bs u ae):=by show Fz _ _ _ _;rw [J];exact i.o.set (Or.inl rfl)
 replace l:Hx (Off z none ae (fun W=>BF W (U pa pk pc) ps)):=by show Off _ _ _ _;rw [J];exact l.o.set N.o
 replace v:Hx (Off y none ae (fun W=>LS 12 (XC W (2*ts.length+3)) W (U ba bk bc) E)):=by show Off _ _ _ _;rw [J];exact v.o.set Q.o
 replace F:Hx (Off x none ae (fun W=>XE W 61 [M O e0,M O e1,M O e2,.string e3,U q0 q1 q2] ed)):=by show Off _ _ _ _;rw [J];exact F.o.set Z.o
 obtain ⟨ad,I⟩:=nm (ae.setCell ⟨bs,11,none⟩ (.string e3));replace c:Hx (Bx bs [M O 7,M O at_,.string nm_,.string ⟨#[]⟩,zc false,U none 0 0,U pa pk pc,U ba bk bc,M O e0,M O e1,M O e2,.string e3,U none 0 0] ad):=by show Bx _ _ _;rw [I];exact c.o.set (j:=11) (by simp)
 replace g:Hx (Rd rb tv ts en w (n7) ad):=by show Rd _ _ _ _ _ _ _;rw [I];exact g.o.set (by exact C.o)
 replace i:Hx (Fz rb bs u ad):=by show Fz _ _ _ _;rw [I];exact i.o.set (Or.inl rfl)
 replace l:Hx (Off z none ad (fun W=>BF W (U pa pk pc) ps)):=by show Off _ _ _ _;rw [I];exact l.o.set N.o
 replace v:Hx (Off y none ad (fun W=>LS 12 (XC W (2*ts.length+3)) W (U ba bk bc) E)):=by show Off _ _ _ _;rw [I];exact v.o.set Q.o
 replace F:Hx (Off x none ad (fun W=>XE W 61 [M O e0,M O e1,M O e2,.string e3,U q0 q1 q2] ed)):=by show Off _ _ _ _;rw [I];exact F.o.set Z.o
 obtain ⟨aj,H⟩:=nm (ad.setCell ⟨bs,12,none⟩ (U q0 q1 q2));replace c:Hx (Bx bs [M O 7,M O at_,.string nm_,.string ⟨#[]⟩,zc false,U none 0 0,U pa pk pc,U ba bk bc,M O e0,M O e1,M O e2,.string e3,U q0 q1 q2] aj):=by show Bx _ _ _;rw [H];exact c.o.set (j:=12) (by simp)
 replace g:Hx (Rd rb tv ts en w (n7) aj):=by show Rd _ _ _ _ _ _ _;rw [H];exact g.o.set (by exact C.o)
 replace i:Hx (Fz rb bs u aj):=by show Fz _ _ _ _;rw [H];exact i.o.set (Or.inl rfl)
 replace l:Hx (Off z none aj (fun W=>BF W (U pa pk pc) ps)):=by show Off _ _ _ _;rw [H];exact l.o.set N.o
 replace v:Hx (Off y none aj (fun W=>LS 12 (XC W (2*ts.length+3)) W (U ba bk bc) E)):=by show Off _ _ _ _;rw [H];exact v.o.set Q.o
 replace F:Hx (Off x none aj (fun W=>XE W 61 [M O e0,M O e1,M O e2,.string e3,U q0 q1 q2] ed)):=by show Off _ _ _ _;rw [H];exact F.o.set Z.o
 have K9:=Aa (Bp ⟨#[59]⟩ (by decide) n7 _ g.o.st);go_wp2_with fail;rw [<-L,<-K,<-J,<-I,<-H];clear R S T an ao ap aq ar au av aw ax ay V X Y az a0 a1 a2 a3 a4 a5 a6 a7 a8;clear H I J K L;refine K9.o.mono ?_;rintro e be a;obtain ⟨m,f⟩ | ⟨cb,n8,f⟩:=Ak (Av ts [59] n7)
 ·replace a:Ao ts en (Av ts [59] n7) _ _ e be:=a
  rw [f] at a;obtain ⟨rfl,b⟩:=a;have HO:Hx (P=.inr m):=by show _=_;rw [k.o,f];rfl
  have HG:=Aa (Ac g.o.gr b);clear b f;unfold Ai;go_wp2_with fail;refine ⟨rfl,?_⟩;rw [HO.o];exact ⟨rfl,HG.o⟩
 replace a:Ao ts en (Av ts [59] n7) _ _ e be:=a;rw [f] at a;obtain ⟨rfl,b,G⟩:=a;have hr:=k.o;rw [f,Am] at hr;replace k:=Aa hr;have B:=Aa f;clear hr f;clear K9;clear B;replace i:=Aa (i.o.call b);replace c:=bkp c g.o.rlt C b;replace l:=Aa (l.o.keep b (by have:=g.o.rlt;have:=ah.o;omega));replace v:=Aa (v.o.keep b (by have:=g.o.rlt;have:=a9.o;omega));replace F:=Aa (F.o.keep b (by have:=g.o.rlt;have:=bt.o;omega));replace g:Hx (Rd rb tv ts en w (n8) be):=g.o.call b G;clear b G;have KA:=Aa (Bp ⟨#[125]⟩ (by decide) n8 _ g.o.st);go_wp2_with fail;refine KA.o.mono ?_;rintro e bd a;obtain ⟨m,f⟩ | ⟨ca,n9,f⟩:=Ak (Av ts [125] n8)
 ·replace a:Ao ts en (Av ts [125] n8) _ _ e bd:=a
  rw [f] at a;obtain ⟨rfl,b⟩:=a;have HO:Hx (P=.inr m):=by show _=_;rw [k.o,f];rfl
  have HG:=Aa (Ac g.o.gr b);clear b f;unfold Ai;go_wp2_with fail;refine ⟨rfl,?_⟩;rw [HO.o];exact ⟨rfl,HG.o⟩
 replace a:Ao ts en (Av ts [125] n8) _ _ e bd:=a;rw [f] at a;obtain ⟨rfl,b,G⟩:=a;have hr:=k.o;rw [f,Am] at hr;replace k:=Aa hr;have B:=Aa f;clear hr f;clear KA;clear B;replace i:=Aa (i.o.call b);replace c:=bkp c g.o.rlt C b;replace l:=Aa (l.o.keep b (by have:=g.o.rlt;have:=ah.o;omega));replace v:=Aa (v.o.keep b (by have:=g.o.rlt;have:=a9.o;omega));replace F:=Aa (F.o.keep b (by have:=g.o.rlt;have:=bt.o;omega));replace g:Hx (Rd rb tv ts en w (n9) bd):=g.o.call b G;clear b G;go_wp2_with fail;go_end0;rw [k.o];exact ⟨rfl,pa,pk,pc,ba,bk,bc,e0,e1,e2,e3,q0,q1,q2,c.o,(fun W hW=>⟨7,at_,nm_,⟨#[]⟩,false,_,[],_,ps,_,E,_,_,_,_,_,ed,rfl,rfl,LS.nil,(l.o.base b5.o) W hW,(v.o.base b6.o) W hW,(F.o.base b7.o) W hW⟩),g.o,i.o⟩
end Go.Proofs.YtipngnjffjajpaaGreatDoor.Tx
