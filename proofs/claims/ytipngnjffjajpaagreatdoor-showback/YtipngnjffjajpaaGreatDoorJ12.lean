/- Package tree's reader: commands, whatever stands there. -/
import Derived.Test.YtipngnjffjajpaaGreatDoorJ11
set_option linter.unusedVariables false
set_option maxHeartbeats 8000000
set_option maxRecDepth 100000
namespace Go.Proofs.YtipngnjffjajpaaGreatDoor.Tx
open Go.RowKit
open Go.Value renaming int -> I, slice -> zc, bool -> zd, pointer -> zf, agg -> zg, tuple -> zi
open Go.IntKind renaming i64 -> O
open Go.Obj renaming cells -> ze
open Go.Ending renaming returned -> zh
section
variable {rb:Nat} {tv:Value} {ts:List Tok} {en:Nat}
theorem OH (hall:ts.all Ao=true) (f:Nat) (hB:CM rb tv ts en f):Lx rb tv ts en (f+1):=by
 intro n w h a
 cases q0:isT ts n [105,102] with
 | true=>exact OI hall hB n w h a q0
 | false=>
 cases q1:isT ts n [119,104,105,108,101] with
 | true=>exact Ka hall hB n w h a q0 q1
 | false=>
 cases q2:isT ts n [103,101,116] with
 | true=>exact M2 hall hB n w h a q0 q1 q2
 | false=>
 cases q3:isT ts n [112,117,116] with
 | true=>exact M1 hall hB n w h a q0 q1 q2 q3
 | false=>
 cases q4:isT ts n [114,101,118,101,97,108] with
 | true=>exact Ja hall hB n w h a q0 q1 q2 q3 q4
 | false=>
 cases q5:isT ts n [116,114,117,115,116] with
 | true=>exact Kb hall hB n w h a q0 q1 q2 q3 q4 q5
 | false=>exact Jb hall hB n w h a q0 q1 q2 q3 q4 q5
theorem L5 (hall:ts.all Ao=true) (f:Nat):Lx rb tv ts en f/\CM rb tv ts en f:=by
 induction f using Nat.strongRecOn with
 | _ f ih=>
  refine ⟨?_,M0 f fun a h=>(ih a h).1⟩
  cases f with
  | zero=>intro n w h b;omega
  | succ f=>exact OH hall f (ih f (by omega)).2
end
def XD (W:World) (f:Nat) (cs:List Value) (d:D):Prop:=∃ (kd a:Int) (x y:ByteArray) (gv:Bool) (vL:Value) (lb:List D) (vP:Value) (ps:List ByteArray) (vB:Value) (body:List D) (r0 r1 r2 r3 r4:Value) (r:D),cs=[I O kd,I O a,.string x,.string y,zd gv,vL,vP,vB,r0,r1,r2,r3,r4]/\d=deD kd a x y gv lb ps body r/\LS 4 (G5 W) W vL lb/\BR W vP ps/\LS 12 (XC W f) W vB body/\XE W 61 [r0,r1,r2,r3,r4] r
theorem Li {rb:Nat} {tv:Value} {ts:List Tok} {en:Nat} (hall:ts.all Ao=true) {w:World} {bs:Nat} (at_:Int) (nm_:ByteArray) (n:Nat) (u:World) (hd:Rd rb tv ts en w n u) (hsb:w.heap.size<=bs) (hb:Bx bs [I O 7,I O at_,.string nm_,.string ⟨#[]⟩,zd false,zc none 0 0,zc none 0 0,zc none 0 0,I O 0,I O 0,I O 0,.string ⟨#[]⟩,zc none 0 0] u) :
  Calls Tryz.prog 96 #[zf (some ⟨rb,0,none⟩),zf (some ⟨bs,0,none⟩)] u (Am ts en (Fq ts en at_ nm_ n) (fun d n1 e w'=>e=zh (zi #[])/\∃ (pa:Option Addr) (pk pc:Nat) (ba:Option Addr) (bk bc:Nat) (e0 e1 e2:Int) (e3:ByteArray) (q0:Option Addr) (q1 q2:Nat),Bx bs [I O 7,I O at_,.string nm_,.string ⟨#[]⟩,zd false,zc none 0 0,zc pa pk pc,zc ba bk bc,I O e0,I O e1,I O e2,.string e3,zc q0 q1 q2] w'/\Off u.heap.size none w' (fun W=>XD W (2*ts.length+3) [I O 7,I O at_,.string nm_,.string ⟨#[]⟩,zd false,zc none 0 0,zc pa pk pc,zc ba bk bc,I O e0,I O e1,I O e2,.string e3,zc q0 q1 q2] d)/\Rd rb tv ts en w n1 w'/\Fz rb bs u w') (fun w'=>w.grownBy w' (some rb))):=by
 obtain ⟨Q,am⟩:=nm (Fq ts en at_ nm_ n);rw [<-am];have l:Hx (Q=Ar (Aq ts [40] n) fun _ n1=>Ar (Bp ts (!isT ts n1 [41]) n1) fun ps n2=>Ar (Aq ts [41] n2) fun _ n3=>Ar (Aq ts [123] n3) fun _ n4=>
   Ar (AL ts en (2*ts.length+3) [] n4) fun F n5=>Ar (Aq ts [114,101,116,117,114,110] n5) fun _ n6=>Ar (pX ts en n6) fun r n7=>Ar (Aq ts [59] n7) fun _ n8=>Ar (Aq ts [125] n8) fun _ n9=>
    .inl (deD 7 at_ nm_ noS false [] ps F r,n9)):=am
 have g:=Aa hd;have c:=Aa hb;have E:=Aa hsb;have i:=Aa (Fz.refl rb bs u);clear am hd hb hsb;go_enter Tryz.func96,Tryz.ntmps96;have K1:=Aa (Bs ⟨#[40]⟩ (by decide) n _ g.o.st);go_wp2_with fail;refine K1.o.mono ?_;rintro e w1 a;obtain ⟨m,f⟩ | ⟨cf,n1,f⟩:=Aj (Aq ts [40] n)
 ·replace a:Am ts en (Aq ts [40] n) _ _ e w1:=a
  rw [f] at a;obtain ⟨rfl,b⟩:=a;have HO:Hx (Q=.inr m):=by show _=_;rw [l.o,f];rfl
  have HG:=Aa (Ab g.o.gr b);clear b f;unfold Ai;go_wp2_with fail;refine ⟨rfl,?_⟩;rw [HO.o];exact ⟨rfl,HG.o⟩
 replace a:Am ts en (Aq ts [40] n) _ _ e w1:=a;rw [f] at a;obtain ⟨rfl,b,H⟩:=a;have hr:=l.o;rw [f,Al] at hr;replace l:=Aa hr;have C:=Aa f;clear hr f;clear K1;clear C;replace i:=Aa (i.o.call b);replace c:=bkp c g.o.rlt E b;replace g:Hx (Rd rb tv ts en w (n1) w1):=g.o.call b H;clear b H;have K2:=Aa (ME ⟨#[41]⟩ [41] rfl n1 _ g.o.st);go_wp2_with fail;refine K2.o.mono ?_;rintro e wa ⟨rfl,b,H⟩;obtain ⟨q,hq⟩:=nm (isT ts n1 [41]);rw [<-hq] at l ⊢;clear hq K2;replace i:=Aa (i.o.call b);replace c:=bkp c g.o.rlt E b;replace g:Hx (Rd rb tv ts en w (n1) wa):=g.o.call b H;clear b H;have K3:=Aa (IL (!q) n1 _ g.o.st);go_wp2_with fail;obtain ⟨z,hz⟩:=nm wa.heap.size;have ah:Hx (w.heap.size<=z):=by show _<=_;rw [hz];exact g.o.size
 have P:Hx (bs < z):=by show _ < _;rw [hz];exact c.o.lt
 have b5:Hx (u.heap.size<=z):=by show _<=_;rw [hz];exact i.o.1
 refine K3.o.mono ?_;rintro e w2 a;obtain ⟨m,f⟩ | ⟨ps,n2,f⟩:=Aj (Bp ts (!q) n1)
 ·replace a:Am ts en (Bp ts (!q) n1) _ _ e w2:=a
  rw [f] at a;obtain ⟨rfl,b⟩:=a;have HO:Hx (Q=.inr m):=by show _=_;rw [l.o,f];rfl
  have HG:=Aa (Ab g.o.gr b);clear b f;unfold Ai;go_wp2_with fail;refine ⟨rfl,?_⟩;rw [HO.o];exact ⟨rfl,HG.o⟩
 replace a:Am ts en (Bp ts (!q) n1) _ _ e w2:=a;rw [f] at a;obtain ⟨pa,pc,rfl,B,bl,b,H⟩:=a;have hr:=l.o;rw [f,Al] at hr;replace l:=Aa hr;have C:=Aa f;clear hr f;obtain ⟨pk,bj⟩:=nm ps.length;rw [<-bj,<-hz] at B;rw [<-bj];have v:=Aa B;clear B bl bj hz K3;clear C;replace i:=Aa (i.o.call b);replace c:=bkp c g.o.rlt E b;replace g:Hx (Rd rb tv ts en w (n2) w2):=g.o.call b H;clear b H;obtain ⟨a8,a7,a6,a5,a4,a3,a2,a1,a0,az,Y,X,V⟩:=AI c.o.row;obtain ⟨ay,ax,aw,av,au,ar,aq,ap,ao,an,U,T,S⟩:=BM c.o.fz;obtain ⟨V3,ai⟩:=nm (w2.setCell ⟨bs,6,none⟩ (zc pa pk pc));replace c:Hx (Bx bs [I O 7,I O at_,.string nm_,.string ⟨#[]⟩,zd false,zc none 0 0,zc pa pk pc,zc none 0 0,I O 0,I O 0,I O 0,.string ⟨#[]⟩,zc none 0 0] V3):=by show Bx _ _ _;rw [ai];exact c.o.set (j:=6) (by simp)
 replace g:Hx (Rd rb tv ts en w (n2) V3):=by show Rd _ _ _ _ _ _ _;rw [ai];exact g.o.set (by exact E.o)
 replace i:Hx (Fz rb bs u V3):=by show Fz _ _ _ _;rw [ai];exact i.o.set (Or.inl rfl)
 replace v:Hx (Off z none V3 (fun W=>BR W (zc pa pk pc) ps)):=by show Off _ _ _ _;rw [ai];exact v.o.set P.o
 have K4:=Aa (Bs ⟨#[41]⟩ (by decide) n2 _ g.o.st);go_wp2_with fail;rw [<-ai];clear S T U an ao ap aq ar au av aw ax ay V X Y az a0 a1 a2 a3 a4 a5 a6 a7 a8;clear ai;refine K4.o.mono ?_;rintro e w4 a;obtain ⟨m,f⟩ | ⟨ce,n3,f⟩:=Aj (Aq ts [41] n2)
 ·replace a:Am ts en (Aq ts [41] n2) _ _ e w4:=a
  rw [f] at a;obtain ⟨rfl,b⟩:=a;have HO:Hx (Q=.inr m):=by show _=_;rw [l.o,f];rfl
  have HG:=Aa (Ab g.o.gr b);clear b f;unfold Ai;go_wp2_with fail;refine ⟨rfl,?_⟩;rw [HO.o];exact ⟨rfl,HG.o⟩
 replace a:Am ts en (Aq ts [41] n2) _ _ e w4:=a;rw [f] at a;obtain ⟨rfl,b,H⟩:=a;have hr:=l.o;rw [f,Al] at hr;replace l:=Aa hr;have C:=Aa f;clear hr f;clear K4;clear C;replace i:=Aa (i.o.call b);replace c:=bkp c g.o.rlt E b;replace v:=Aa (v.o.keep b (by have:=g.o.rlt;have:=ah.o;omega));replace g:Hx (Rd rb tv ts en w (n3) w4):=g.o.call b H;clear b H;have K5:=Aa (Bs ⟨#[123]⟩ (by decide) n3 _ g.o.st);go_wp2_with fail;refine K5.o.mono ?_;rintro e w5 a;obtain ⟨m,f⟩ | ⟨cd,n4,f⟩:=Aj (Aq ts [123] n3)
 ·replace a:Am ts en (Aq ts [123] n3) _ _ e w5:=a
  rw [f] at a;obtain ⟨rfl,b⟩:=a;have HO:Hx (Q=.inr m):=by show _=_;rw [l.o,f];rfl
  have HG:=Aa (Ab g.o.gr b);clear b f;unfold Ai;go_wp2_with fail;refine ⟨rfl,?_⟩;rw [HO.o];exact ⟨rfl,HG.o⟩
 replace a:Am ts en (Aq ts [123] n3) _ _ e w5:=a;rw [f] at a;obtain ⟨rfl,b,H⟩:=a;have hr:=l.o;rw [f,Al] at hr;replace l:=Aa hr;have C:=Aa f;clear hr f;clear K5;clear C;replace i:=Aa (i.o.call b);replace c:=bkp c g.o.rlt E b;replace v:=Aa (v.o.keep b (by have:=g.o.rlt;have:=ah.o;omega));replace g:Hx (Rd rb tv ts en w (n4) w5):=g.o.call b H;clear b H;have K6:=Aa ((L5 (rb:=rb) (tv:=tv) (en:=en) hall (2*ts.length+3)).2 n4 _ g.o.st (by omega));go_wp2_with fail;obtain ⟨y,hy⟩:=nm w5.heap.size;have a9:Hx (w.heap.size<=y):=by show _<=_;rw [hy];exact g.o.size
 have R:Hx (bs < y):=by show _ < _;rw [hy];exact c.o.lt
 have b6:Hx (u.heap.size<=y):=by show _<=_;rw [hy];exact i.o.1
 refine K6.o.mono ?_;rintro e w6 a;obtain ⟨m,f⟩ | ⟨F,n5,f⟩:=Aj (AL ts en (2*ts.length+3) [] n4)
 ·replace a:Am ts en (AL ts en (2*ts.length+3) [] n4) _ _ e w6:=a
  rw [f] at a;obtain ⟨rfl,b⟩:=a;have HO:Hx (Q=.inr m):=by show _=_;rw [l.o,f];rfl
  have HG:=Aa (Ab g.o.gr b);clear b f;unfold Ai;go_wp2_with fail;refine ⟨rfl,?_⟩;rw [HO.o];exact ⟨rfl,HG.o⟩
 replace a:Am ts en (AL ts en (2*ts.length+3) [] n4) _ _ e w6:=a;rw [f] at a;obtain ⟨ba,bc,rfl,B,bl,b,H⟩:=a;have hr:=l.o;rw [f,Al] at hr;replace l:=Aa hr;have C:=Aa f;clear hr f;obtain ⟨bk,bm⟩:=nm F.length;rw [<-bm,<-hy] at B;rw [<-bm];have A:=Aa B;clear B bl bm hy K6;clear C;replace i:=Aa (i.o.call b);replace c:=bkp c g.o.rlt E b;replace v:=Aa (v.o.keep b (by have:=g.o.rlt;have:=ah.o;omega));replace g:Hx (Rd rb tv ts en w (n5) w6):=g.o.call b H;clear b H;obtain ⟨a8,a7,a6,a5,a4,a3,a2,a1,a0,az,Y,X,V⟩:=AI c.o.row;obtain ⟨ay,ax,aw,av,au,ar,aq,ap,ao,an,U,T,S⟩:=BM c.o.fz;obtain ⟨V7,ac⟩:=nm (w6.setCell ⟨bs,7,none⟩ (zc ba bk bc));replace c:Hx (Bx bs [I O 7,I O at_,.string nm_,.string ⟨#[]⟩,zd false,zc none 0 0,zc pa pk pc,zc ba bk bc,I O 0,I O 0,I O 0,.string ⟨#[]⟩,zc none 0 0] V7):=by show Bx _ _ _;rw [ac];exact c.o.set (j:=7) (by simp)
 replace g:Hx (Rd rb tv ts en w (n5) V7):=by show Rd _ _ _ _ _ _ _;rw [ac];exact g.o.set (by exact E.o)
 replace i:Hx (Fz rb bs u V7):=by show Fz _ _ _ _;rw [ac];exact i.o.set (Or.inl rfl)
 replace v:Hx (Off z none V7 (fun W=>BR W (zc pa pk pc) ps)):=by show Off _ _ _ _;rw [ac];exact v.o.set P.o
 replace A:Hx (Off y none V7 (fun W=>LS 12 (XC W (2*ts.length+3)) W (zc ba bk bc) F)):=by show Off _ _ _ _;rw [ac];exact A.o.set R.o
 have K7:=Aa (Bs ⟨#[114,101,116,117,114,110]⟩ (by decide) n5 _ g.o.st);go_wp2_with fail;rw [<-ac];clear S T U an ao ap aq ar au av aw ax ay V X Y az a0 a1 a2 a3 a4 a5 a6 a7 a8;clear ac;refine K7.o.mono ?_;rintro e w8 a;obtain ⟨m,f⟩ | ⟨cc,n6,f⟩:=Aj (Aq ts [114,101,116,117,114,110] n5)
 ·replace a:Am ts en (Aq ts [114,101,116,117,114,110] n5) _ _ e w8:=a
  rw [f] at a;obtain ⟨rfl,b⟩:=a;have HO:Hx (Q=.inr m):=by show _=_;rw [l.o,f];rfl
  have HG:=Aa (Ab g.o.gr b);clear b f;unfold Ai;go_wp2_with fail;refine ⟨rfl,?_⟩;rw [HO.o];exact ⟨rfl,HG.o⟩
 replace a:Am ts en (Aq ts [114,101,116,117,114,110] n5) _ _ e w8:=a;rw [f] at a;obtain ⟨rfl,b,H⟩:=a;have hr:=l.o;rw [f,Al] at hr;replace l:=Aa hr;have C:=Aa f;clear hr f;clear K7;clear C;replace i:=Aa (i.o.call b);replace c:=bkp c g.o.rlt E b;replace v:=Aa (v.o.keep b (by have:=g.o.rlt;have:=ah.o;omega));replace A:=Aa (A.o.keep b (by have:=g.o.rlt;have:=a9.o;omega));replace g:Hx (Rd rb tv ts en w (n6) w8):=g.o.call b H;clear b H;have K8:=Aa (Ew hall n6 _ g.o.st);go_wp2_with fail;obtain ⟨x,hx⟩:=nm w8.heap.size;have bt:Hx (w.heap.size<=x):=by show _<=_;rw [hx];exact g.o.size
 have Z:Hx (bs < x):=by show _ < _;rw [hx];exact c.o.lt
 have b7:Hx (u.heap.size<=x):=by show _<=_;rw [hx];exact i.o.1
 refine K8.o.mono ?_;rintro e w9 a;obtain ⟨m,f⟩ | ⟨ed,n7,f⟩:=Aj (pX ts en n6)
 ·replace a:Am ts en (pX ts en n6) _ _ e w9:=a
  rw [f] at a;obtain ⟨rfl,b⟩:=a;have HO:Hx (Q=.inr m):=by show _=_;rw [l.o,f];rfl
  have HG:=Aa (Ab g.o.gr b);clear b f;unfold Ai;go_wp2_with fail;refine ⟨rfl,?_⟩;rw [HO.o];exact ⟨rfl,HG.o⟩
 replace a:Am ts en (pX ts en n6) _ _ e w9:=a;rw [f] at a;obtain ⟨e0,e1,e2,e3,q0,q1,q2,rfl,B,-,-,b,H⟩:=a;have hr:=l.o;rw [f,Al] at hr;replace l:=Aa hr;have C:=Aa f;clear hr f;rw [<-hx] at B;have G:=Aa B;clear B hx K8;clear C;replace i:=Aa (i.o.call b);replace c:=bkp c g.o.rlt E b;replace v:=Aa (v.o.keep b (by have:=g.o.rlt;have:=ah.o;omega));replace A:=Aa (A.o.keep b (by have:=g.o.rlt;have:=a9.o;omega));replace g:Hx (Rd rb tv ts en w (n7) w9):=g.o.call b H;clear b H;obtain ⟨a8,a7,a6,a5,a4,a3,a2,a1,a0,az,Y,X,V⟩:=AI c.o.row;obtain ⟨ay,ax,aw,av,au,ar,aq,ap,ao,an,U,T,S⟩:=BM c.o.fz;obtain ⟨ag,N⟩:=nm (w9.setCell ⟨bs,8,none⟩ (I O e0));replace c:Hx (Bx bs [I O 7,I O at_,.string nm_,.string ⟨#[]⟩,zd false,zc none 0 0,zc pa pk pc,zc ba bk bc,I O e0,I O 0,I O 0,.string ⟨#[]⟩,zc none 0 0] ag):=by show Bx _ _ _;rw [N];exact c.o.set (j:=8) (by simp)
 replace g:Hx (Rd rb tv ts en w (n7) ag):=by show Rd _ _ _ _ _ _ _;rw [N];exact g.o.set (by exact E.o)
 replace i:Hx (Fz rb bs u ag):=by show Fz _ _ _ _;rw [N];exact i.o.set (Or.inl rfl)
 replace v:Hx (Off z none ag (fun W=>BR W (zc pa pk pc) ps)):=by show Off _ _ _ _;rw [N];exact v.o.set P.o
 replace A:Hx (Off y none ag (fun W=>LS 12 (XC W (2*ts.length+3)) W (zc ba bk bc) F)):=by show Off _ _ _ _;rw [N];exact A.o.set R.o
 replace G:Hx (Off x none ag (fun W=>XE W 61 [I O e0,I O e1,I O e2,.string e3,zc q0 q1 q2] ed)):=by show Off _ _ _ _;rw [N];exact G.o.set Z.o
 obtain ⟨af,M⟩:=nm (ag.setCell ⟨bs,9,none⟩ (I O e1));replace c:Hx (Bx bs [I O 7,I O at_,.string nm_,.string ⟨#[]⟩,zd false,zc none 0 0,zc pa pk pc,zc ba bk bc,I O e0,I O e1,I O 0,.string ⟨#[]⟩,zc none 0 0] af):=by show Bx _ _ _;rw [M];exact c.o.set (j:=9) (by simp)
 replace g:Hx (Rd rb tv ts en w (n7) af):=by show Rd _ _ _ _ _ _ _;rw [M];exact g.o.set (by exact E.o)
 replace i:Hx (Fz rb bs u af):=by show Fz _ _ _ _;rw [M];exact i.o.set (Or.inl rfl)
 replace v:Hx (Off z none af (fun W=>BR W (zc pa pk pc) ps)):=by show Off _ _ _ _;rw [M];exact v.o.set P.o
 replace A:Hx (Off y none af (fun W=>LS 12 (XC W (2*ts.length+3)) W (zc ba bk bc) F)):=by show Off _ _ _ _;rw [M];exact A.o.set R.o
 replace G:Hx (Off x none af (fun W=>XE W 61 [I O e0,I O e1,I O e2,.string e3,zc q0 q1 q2] ed)):=by show Off _ _ _ _;rw [M];exact G.o.set Z.o
 obtain ⟨ae,L⟩:=nm (af.setCell ⟨bs,10,none⟩ (I O e2));replace c:Hx (Bx bs [I O 7,I O at_,.string nm_,.string ⟨#[]⟩,zd false,zc none 0 0,zc pa pk pc,zc ba bk bc,I O e0,I O e1,I O e2,.string ⟨#[]⟩,zc none 0 0] ae):=by show Bx _ _ _;rw [L];exact c.o.set (j:=10) (by simp)
 replace g:Hx (Rd rb tv ts en w (n7) ae):=by show Rd _ _ _ _ _ _ _;rw [L];exact g.o.set (by exact E.o)
 replace i:Hx (Fz rb bs u ae):=by show Fz _ _ _ _;rw [L];exact i.o.set (Or.inl rfl)
 replace v:Hx (Off z none ae (fun W=>BR W (zc pa pk pc) ps)):=by show Off _ _ _ _;rw [L];exact v.o.set P.o
 replace A:Hx (Off y none ae (fun W=>LS 12 (XC W (2*ts.length+3)) W (zc ba bk bc) F)):=by show Off _ _ _ _;rw [L];exact A.o.set R.o
 replace G:Hx (Off x none ae (fun W=>XE W 61 [I O e0,I O e1,I O e2,.string e3,zc q0 q1 q2] ed)):=by show Off _ _ _ _;rw [L];exact G.o.set Z.o
 obtain ⟨ad,K⟩:=nm (ae.setCell ⟨bs,11,none⟩ (.string e3));replace c:Hx (Bx bs [I O 7,I O at_,.string nm_,.string ⟨#[]⟩,zd false,zc none 0 0,zc pa pk pc,zc ba bk bc,I O e0,I O e1,I O e2,.string e3,zc none 0 0] ad):=by show Bx _ _ _;rw [K];exact c.o.set (j:=11) (by simp)
 replace g:Hx (Rd rb tv ts en w (n7) ad):=by show Rd _ _ _ _ _ _ _;rw [K];exact g.o.set (by exact E.o)
 replace i:Hx (Fz rb bs u ad):=by show Fz _ _ _ _;rw [K];exact i.o.set (Or.inl rfl)
 replace v:Hx (Off z none ad (fun W=>BR W (zc pa pk pc) ps)):=by show Off _ _ _ _;rw [K];exact v.o.set P.o
 replace A:Hx (Off y none ad (fun W=>LS 12 (XC W (2*ts.length+3)) W (zc ba bk bc) F)):=by show Off _ _ _ _;rw [K];exact A.o.set R.o
 replace G:Hx (Off x none ad (fun W=>XE W 61 [I O e0,I O e1,I O e2,.string e3,zc q0 q1 q2] ed)):=by show Off _ _ _ _;rw [K];exact G.o.set Z.o
 obtain ⟨aj,J⟩:=nm (ad.setCell ⟨bs,12,none⟩ (zc q0 q1 q2));replace c:Hx (Bx bs [I O 7,I O at_,.string nm_,.string ⟨#[]⟩,zd false,zc none 0 0,zc pa pk pc,zc ba bk bc,I O e0,I O e1,I O e2,.string e3,zc q0 q1 q2] aj):=by show Bx _ _ _;rw [J];exact c.o.set (j:=12) (by simp)
 replace g:Hx (Rd rb tv ts en w (n7) aj):=by show Rd _ _ _ _ _ _ _;rw [J];exact g.o.set (by exact E.o)
 replace i:Hx (Fz rb bs u aj):=by show Fz _ _ _ _;rw [J];exact i.o.set (Or.inl rfl)
 replace v:Hx (Off z none aj (fun W=>BR W (zc pa pk pc) ps)):=by show Off _ _ _ _;rw [J];exact v.o.set P.o
 replace A:Hx (Off y none aj (fun W=>LS 12 (XC W (2*ts.length+3)) W (zc ba bk bc) F)):=by show Off _ _ _ _;rw [J];exact A.o.set R.o
 replace G:Hx (Off x none aj (fun W=>XE W 61 [I O e0,I O e1,I O e2,.string e3,zc q0 q1 q2] ed)):=by show Off _ _ _ _;rw [J];exact G.o.set Z.o
 have K9:=Aa (Bs ⟨#[59]⟩ (by decide) n7 _ g.o.st);go_wp2_with fail;rw [<-N,<-M,<-L,<-K,<-J];clear S T U an ao ap aq ar au av aw ax ay V X Y az a0 a1 a2 a3 a4 a5 a6 a7 a8;clear J K L M N;refine K9.o.mono ?_;rintro e be a;obtain ⟨m,f⟩ | ⟨cb,n8,f⟩:=Aj (Aq ts [59] n7)
 ·replace a:Am ts en (Aq ts [59] n7) _ _ e be:=a
  rw [f] at a;obtain ⟨rfl,b⟩:=a;have HO:Hx (Q=.inr m):=by show _=_;rw [l.o,f];rfl
  have HG:=Aa (Ab g.o.gr b);clear b f;unfold Ai;go_wp2_with fail;refine ⟨rfl,?_⟩;rw [HO.o];exact ⟨rfl,HG.o⟩
 replace a:Am ts en (Aq ts [59] n7) _ _ e be:=a;rw [f] at a;obtain ⟨rfl,b,H⟩:=a;have hr:=l.o;rw [f,Al] at hr;replace l:=Aa hr;have C:=Aa f;clear hr f;clear K9;clear C;replace i:=Aa (i.o.call b);replace c:=bkp c g.o.rlt E b;replace v:=Aa (v.o.keep b (by have:=g.o.rlt;have:=ah.o;omega));replace A:=Aa (A.o.keep b (by have:=g.o.rlt;have:=a9.o;omega));replace G:=Aa (G.o.keep b (by have:=g.o.rlt;have:=bt.o;omega));replace g:Hx (Rd rb tv ts en w (n8) be):=g.o.call b H;clear b H;have KA:=Aa (Bs ⟨#[125]⟩ (by decide) n8 _ g.o.st);go_wp2_with fail;refine KA.o.mono ?_;rintro e bd a;obtain ⟨m,f⟩ | ⟨ca,n9,f⟩:=Aj (Aq ts [125] n8)
 ·replace a:Am ts en (Aq ts [125] n8) _ _ e bd:=a
  rw [f] at a;obtain ⟨rfl,b⟩:=a;have HO:Hx (Q=.inr m):=by show _=_;rw [l.o,f];rfl
  have HG:=Aa (Ab g.o.gr b);clear b f;unfold Ai;go_wp2_with fail;refine ⟨rfl,?_⟩;rw [HO.o];exact ⟨rfl,HG.o⟩
 replace a:Am ts en (Aq ts [125] n8) _ _ e bd:=a;rw [f] at a;obtain ⟨rfl,b,H⟩:=a;have hr:=l.o;rw [f,Al] at hr;replace l:=Aa hr;have C:=Aa f;clear hr f;clear KA;clear C;replace i:=Aa (i.o.call b);replace c:=bkp c g.o.rlt E b;replace v:=Aa (v.o.keep b (by have:=g.o.rlt;have:=ah.o;omega));replace A:=Aa (A.o.keep b (by have:=g.o.rlt;have:=a9.o;omega));replace G:=Aa (G.o.keep b (by have:=g.o.rlt;have:=bt.o;omega));replace g:Hx (Rd rb tv ts en w (n9) bd):=g.o.call b H;clear b H;go_wp2_with fail;go_end0;rw [l.o];exact ⟨rfl,pa,pk,pc,ba,bk,bc,e0,e1,e2,e3,q0,q1,q2,c.o,(fun W hW=>⟨7,at_,nm_,⟨#[]⟩,false,_,[],_,ps,_,F,_,_,_,_,_,ed,rfl,rfl,LS.nil,(v.o.base b5.o) W hW,(A.o.base b6.o) W hW,(G.o.base b7.o) W hW⟩),g.o,i.o⟩
end Go.Proofs.YtipngnjffjajpaaGreatDoor.Tx
