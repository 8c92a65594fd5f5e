/- Each of a list as another one: policies, labels, variables. -/
import Derived.Test.YtfffpjkcfnekaaaGreatI17
set_option linter.unusedVariables false
set_option maxHeartbeats 8000000
set_option maxRecDepth 100000
namespace Go.Proofs.YtfffpjkcfnekaaaGreat.Ex
open Go.RowKit
open Go.Value renaming slice -> O, int -> zd, bool -> zg, agg -> zh, pointer -> zj, tuple -> zm
open Go.IntKind renaming i64 -> U
open Go.Obj renaming cells -> ze
open Go.Ending renaming returned -> zk
theorem Tryz.infoPoN:(Tryz.prog.info? 87).map (fun i=>(i.zero,i.size,i.bytes))=some (some (zh #[zd U 0,O none 0 0]),2,32):=by kernel_rfl
theorem Tryz.infoLaN:(Tryz.prog.info? 39).map (fun i=>(i.zero,i.size,i.bytes))=some (some (zh #[O none 0 0,O none 0 0]),2,48):=by kernel_rfl
theorem Tryz.infoVaN:(Tryz.prog.info? 41).map (fun i=>(i.zero,i.size,i.bytes))=some (some (zh #[zg false,O none 0 0,O none 0 0]),3,56):=by kernel_rfl
theorem SQ (F:FuncId) (cap:List Value) (P:Nat->List Value->World->Prop) (ao:Option Addr) (n c:Nat) (w:World) (hn:n<=100) (hC:∀ (args:Array Value) (w:World),(callFunc F args).run Tryz.prog w=.ok (.enter F args) w)
  (hv:n≠0->∃ b off,ao=some ⟨b,off,none⟩/\∀ i,i < n->∃ (k1:Int) (xa:Option Addr) (xl xc:Nat),(w.cell? ⟨b,off+i*2,none⟩=some (zd U k1)/\w.cell? ⟨b,off+i*2+1,none⟩=some (O xa xl xc))/\∀ W,Ov w W->Calls Tryz.prog F (zh #[zd U k1,O xa xl xc]::cap).toArray W fun e W'=>∃ (j1:Int) (za:Option Addr) (zl zc:Nat),e=zk (zh #[zd U j1,O za zl zc])/\Off W.heap.size none W' (P i [zd U j1,O za zl zc])/\Ov W W') :
  Calls Tryz.prog 199 #[O ao n c,.func (.func F) #[] cap.toArray] w fun e w'=>∃ a c',e=zk (O a n c')/\Cop w.heap.size 87 2 P n (O a n c') w'/\Ov w w':=by
 obtain ⟨i0,hi,X,T,S⟩:=info_parts Tryz.infoPoN;have HV:=Aa hv;clear hv;go_enter Tryz.func199,Tryz.ntmps199;go_wp2_with fail;go_loopw [5,10] (fun u i wr=>∃ j:Nat,j<=n/\i=zd U j/\Cop w.heap.size 87 2 P j u wr/\Ov w wr) (fun _ i _=>n - (intOf i).toNat)
 case atStart=>exact ⟨0,Nat.zero_le _,rfl,Cop.nil,Below.refl _ _⟩
 case round=>
  obtain ⟨j,hj,rfl,B,E⟩:=hrel;by_cases hlt:j < n
  ·obtain ⟨b,off,rfl,K⟩:=HV.o (by omega)
   obtain ⟨k1,xa,xl,xc,⟨c0,c1⟩,hF⟩:=K j hlt;obtain ⟨c0,c1⟩:=co2 E c0 c1;obtain ⟨oa,oc,rfl,-⟩:=B.cells (by decide);have s:Ov wr (wr.alloc (ze #[zd U k1,O xa xl xc] 87)):=bA _ _;obtain ⟨V,M⟩:=nm (wr.alloc (ze #[zd U k1,O xa xl xc] 87));have I:Ad [zd U k1,O xa xl xc] V wr.heap.size:=by rw [M];exact AP wr [zd U k1,O xa xl xc] 87
   have H:V.heap.size=wr.heap.size+1:=by rw [M];simp
   rw [<-M] at s;have A:Ov w V:=E.trans (s.mono E.size);have KF:=Aa (hF V A);obtain ⟨d0,d1⟩:=rc2 I;have HI:=Aa (B.over s);have ac:Hx (∀ g,(Value.slice oa j oc).ownBlock=some g->g < wr.heap.size):=fun g Z=>by
    obtain ⟨xs,ho,-⟩:=B;exact (E9 ho Z).2
   have t:=Aa A;have ab:=Aa H;have ay:=Aa E.size;have ad:(j:Int) < (n:Int):=by omega
   clear B E s I A H hF K HV;go_wp2_with fail;rw [<-M];clear M c0 c1;refine KF.o.mono ?_;rintro e G ⟨j1,za,zl,zc,rfl,hO,q⟩;have N:=HI.o.over q;have p:Ov G (G.alloc (ze #[zd U j1,O za zl zc] 87)):=bA _ _;obtain ⟨xs,k,y⟩:=N.over p;have hN:=AP G [zd U j1,O za zl zc] 87;have C:w.heap.size<=(G.alloc (ze #[zd U j1,O za zl zc] 87)).heap.size:=Nat.le_trans (Nat.le_trans t.o.size q.size) p.size;have HN:=Aa hN;have HO:=Aa (hO.over p);have Q:=Aa y;have R:Hx (Ov w (G.alloc (ze #[zd U j1,O za zl zc] 87))):=t.o.trans ((q.trans (p.mono q.size)).mono t.o.size);clear N hO q p hN y d0 d1;go_wp2_with (at_builtin;refine wpList_append_own_at _ rfl _ _ 37 rfl w.heap.size 87 i0 (zh #[zd U 0,O none 0 0]) 2 32 Tryz.underlying37 hi X T S rfl (by decide) _ _ _ rfl k ⟨G.heap.size,0,none⟩ 1 1 [zd U j1,O za zl zc] rfl rfl (fun jj u hu=>by rw [Addr.add_lit,Nat.zero_add];exact HN.o jj u hu) (by simp [Value.oneCell']) (by unfold maxLen;omega) (by omega) C ?_);intro v2 w2 f l _ L;have z:=Cop.add k Q.o rfl HO.o t.o.size (fun g Z=>by have:=ac.o g Z;have:=ab.o;omega) f l (by simpa using L);obtain ⟨al,aj,ak,rfl⟩:=AG f;have J:Ov w w2:=R.o.trans (Bz k l C);have d:=Aa (And.intro z J);clear z J k f l L C;go_wp2_with fail;exact ⟨⟨j+1,by omega,by go_num,d.o.1,d.o.2⟩,by simp [intOf];omega⟩
  ·have Y:j=n:=by omega
   subst Y;obtain ⟨oa,oc,rfl,-⟩:=B.cells (by decide);have d:=Aa (And.intro B E);clear B E HV hlt;go_wp2_with fail;go_ret;exact ⟨_,_,rfl,d.o.1,d.o.2⟩
theorem SR (F:FuncId) (cap:List Value) (P:Nat->List Value->World->Prop) (ao:Option Addr) (n c:Nat) (w:World) (hn:n<=100) (hC:∀ (args:Array Value) (w:World),(callFunc F args).run Tryz.prog w=.ok (.enter F args) w)
  (hv:n≠0->∃ b off,ao=some ⟨b,off,none⟩/\∀ i,i < n->∃ (xa:Option Addr) (xl xc:Nat) (ya:Option Addr) (yl yc:Nat),(w.cell? ⟨b,off+i*2,none⟩=some (O xa xl xc)/\w.cell? ⟨b,off+i*2+1,none⟩=some (O ya yl yc))/\∀ W,Ov w W->Calls Tryz.prog F (zh #[O xa xl xc,O ya yl yc]::cap).toArray W fun e W'=>∃ (za:Option Addr) (zl zc:Nat) (ua:Option Addr) (ul uc:Nat),e=zk (zh #[O za zl zc,O ua ul uc])/\Off W.heap.size none W' (P i [O za zl zc,O ua ul uc])/\Ov W W') :
  Calls Tryz.prog 140 #[O ao n c,.func (.func F) #[] cap.toArray] w fun e w'=>∃ a c',e=zk (O a n c')/\Cop w.heap.size 39 2 P n (O a n c') w'/\Ov w w':=by
 obtain ⟨i0,hi,X,T,S⟩:=info_parts Tryz.infoLaN;have HV:=Aa hv;clear hv;go_enter Tryz.func140,Tryz.ntmps140;go_wp2_with fail;go_loopw [5,10] (fun u i wr=>∃ j:Nat,j<=n/\i=zd U j/\Cop w.heap.size 39 2 P j u wr/\Ov w wr) (fun _ i _=>n - (intOf i).toNat)
 case atStart=>exact ⟨0,Nat.zero_le _,rfl,Cop.nil,Below.refl _ _⟩
 case round=>
  obtain ⟨j,hj,rfl,B,E⟩:=hrel;by_cases hlt:j < n
  ·obtain ⟨b,off,rfl,K⟩:=HV.o (by omega)
   obtain ⟨xa,xl,xc,ya,yl,yc,⟨c0,c1⟩,hF⟩:=K j hlt;obtain ⟨c0,c1⟩:=co2 E c0 c1;obtain ⟨oa,oc,rfl,-⟩:=B.cells (by decide);have s:Ov wr (wr.alloc (ze #[O xa xl xc,O ya yl yc] 39)):=bA _ _;obtain ⟨V,M⟩:=nm (wr.alloc (ze #[O xa xl xc,O ya yl yc] 39));have I:Ad [O xa xl xc,O ya yl yc] V wr.heap.size:=by rw [M];exact AP wr [O xa xl xc,O ya yl yc] 39
   have H:V.heap.size=wr.heap.size+1:=by rw [M];simp
   rw [<-M] at s;have A:Ov w V:=E.trans (s.mono E.size);have KF:=Aa (hF V A);obtain ⟨d0,d1⟩:=rc2 I;have HI:=Aa (B.over s);have ac:Hx (∀ g,(Value.slice oa j oc).ownBlock=some g->g < wr.heap.size):=fun g Z=>by
    obtain ⟨xs,ho,-⟩:=B;exact (E9 ho Z).2
   have t:=Aa A;have ab:=Aa H;have ay:=Aa E.size;have ad:(j:Int) < (n:Int):=by omega
   clear B E s I A H hF K HV;go_wp2_with fail;rw [<-M];clear M c0 c1;refine KF.o.mono ?_;rintro e G ⟨za,zl,zc,ua,ul,uc,rfl,hO,q⟩;have N:=HI.o.over q;have p:Ov G (G.alloc (ze #[O za zl zc,O ua ul uc] 39)):=bA _ _;obtain ⟨xs,k,y⟩:=N.over p;have hN:=AP G [O za zl zc,O ua ul uc] 39;have C:w.heap.size<=(G.alloc (ze #[O za zl zc,O ua ul uc] 39)).heap.size:=Nat.le_trans (Nat.le_trans t.o.size q.size) p.size;have HN:=Aa hN;have HO:=Aa (hO.over p);have Q:=Aa y;have R:Hx (Ov w (G.alloc (ze #[O za zl zc,O ua ul uc] 39))):=t.o.trans ((q.trans (p.mono q.size)).mono t.o.size);clear N hO q p hN y d0 d1;go_wp2_with (at_builtin;refine wpList_append_own_at _ rfl _ _ 26 rfl w.heap.size 39 i0 (zh #[O none 0 0,O none 0 0]) 2 48 Tryz.underlying26 hi X T S rfl (by decide) _ _ _ rfl k ⟨G.heap.size,0,none⟩ 1 1 [O za zl zc,O ua ul uc] rfl rfl (fun jj u hu=>by rw [Addr.add_lit,Nat.zero_add];exact HN.o jj u hu) (by simp [Value.oneCell']) (by unfold maxLen;omega) (by omega) C ?_);intro v2 w2 f l _ L;have z:=Cop.add k Q.o rfl HO.o t.o.size (fun g Z=>by have:=ac.o g Z;have:=ab.o;omega) f l (by simpa using L);obtain ⟨al,aj,ak,rfl⟩:=AG f;have J:Ov w w2:=R.o.trans (Bz k l C);have d:=Aa (And.intro z J);clear z J k f l L C;go_wp2_with fail;exact ⟨⟨j+1,by omega,by go_num,d.o.1,d.o.2⟩,by simp [intOf];omega⟩
  ·have Y:j=n:=by omega
   subst Y;obtain ⟨oa,oc,rfl,-⟩:=B.cells (by decide);have d:=Aa (And.intro B E);clear B E HV hlt;go_wp2_with fail;go_ret;exact ⟨_,_,rfl,d.o.1,d.o.2⟩
theorem SP (F:FuncId) (cap:List Value) (P:Nat->List Value->World->Prop) (ao:Option Addr) (n c:Nat) (w:World) (hn:n<=100) (hC:∀ (args:Array Value) (w:World),(callFunc F args).run Tryz.prog w=.ok (.enter F args) w)
  (hv:n≠0->∃ b off,ao=some ⟨b,off,none⟩/\∀ i,i < n->∃ (kb:Bool) (xa:Option Addr) (xl xc:Nat) (ya:Option Addr) (yl yc:Nat),(w.cell? ⟨b,off+i*3,none⟩=some (zg kb)/\w.cell? ⟨b,off+i*3+1,none⟩=some (O xa xl xc)/\w.cell? ⟨b,off+i*3+2,none⟩=some (O ya yl yc))/\∀ W,Ov w W->Calls Tryz.prog F (zh #[zg kb,O xa xl xc,O ya yl yc]::cap).toArray W fun e W'=>∃ (jb:Bool) (za:Option Addr) (zl zc:Nat) (ua:Option Addr) (ul uc:Nat),e=zk (zh #[zg jb,O za zl zc,O ua ul uc])/\Off W.heap.size none W' (P i [zg jb,O za zl zc,O ua ul uc])/\Ov W W') :
  Calls Tryz.prog 142 #[O ao n c,.func (.func F) #[] cap.toArray] w fun e w'=>∃ a c',e=zk (O a n c')/\Cop w.heap.size 41 3 P n (O a n c') w'/\Ov w w':=by
 obtain ⟨i0,hi,X,T,S⟩:=info_parts Tryz.infoVaN;have HV:=Aa hv;clear hv;go_enter Tryz.func142,Tryz.ntmps142;go_wp2_with fail;go_loopw [5,10] (fun u i wr=>∃ j:Nat,j<=n/\i=zd U j/\Cop w.heap.size 41 3 P j u wr/\Ov w wr) (fun _ i _=>n - (intOf i).toNat)
 case atStart=>exact ⟨0,Nat.zero_le _,rfl,Cop.nil,Below.refl _ _⟩
 case round=>
  obtain ⟨j,hj,rfl,B,E⟩:=hrel;by_cases hlt:j < n
  ·obtain ⟨b,off,rfl,K⟩:=HV.o (by omega)
   obtain ⟨kb,xa,xl,xc,ya,yl,yc,⟨c0,c1,c2⟩,hF⟩:=K j hlt;obtain ⟨c0,c1,c2⟩:=co3 E c0 c1 c2;obtain ⟨oa,oc,rfl,-⟩:=B.cells (by decide);have s:Ov wr (wr.alloc (ze #[zg kb,O xa xl xc,O ya yl yc] 41)):=bA _ _;obtain ⟨V,M⟩:=nm (wr.alloc (ze #[zg kb,O xa xl xc,O ya yl yc] 41));have I:Ad [zg kb,O xa xl xc,O ya yl yc] V wr.heap.size:=by rw [M];exact AP wr [zg kb,O xa xl xc,O ya yl yc] 41
   have H:V.heap.size=wr.heap.size+1:=by rw [M];simp
   rw [<-M] at s;have A:Ov w V:=E.trans (s.mono E.size);have KF:=Aa (hF V A);obtain ⟨d0,d1,d2⟩:=rc3 I;have HI:=Aa (B.over s);have ad:Hx (∀ g,(Value.slice oa j oc).ownBlock=some g->g < wr.heap.size):=fun g Z=>by
    obtain ⟨xs,ho,-⟩:=B;exact (E9 ho Z).2
   have t:=Aa A;have ac:=Aa H;have a0:=Aa E.size;have ae:(j:Int) < (n:Int):=by omega
   clear B E s I A H hF K HV;go_wp2_with fail;rw [<-M];clear M c0 c1 c2;refine KF.o.mono ?_;rintro e G ⟨jb,za,zl,zc,ua,ul,uc,rfl,hO,q⟩;have N:=HI.o.over q;have p:Ov G (G.alloc (ze #[zg jb,O za zl zc,O ua ul uc] 41)):=bA _ _;obtain ⟨xs,k,y⟩:=N.over p;have hN:=AP G [zg jb,O za zl zc,O ua ul uc] 41;have C:w.heap.size<=(G.alloc (ze #[zg jb,O za zl zc,O ua ul uc] 41)).heap.size:=Nat.le_trans (Nat.le_trans t.o.size q.size) p.size;have HN:=Aa hN;have HO:=Aa (hO.over p);have Q:=Aa y;have R:Hx (Ov w (G.alloc (ze #[zg jb,O za zl zc,O ua ul uc] 41))):=t.o.trans ((q.trans (p.mono q.size)).mono t.o.size);clear N hO q p hN y d0 d1 d2;go_wp2_with (at_builtin;refine wpList_append_own_at _ rfl _ _ 27 rfl w.heap.size 41 i0 (zh #[zg false,O none 0 0,O none 0 0]) 3 56 Tryz.underlying27 hi X T S rfl (by decide) _ _ _ rfl k ⟨G.heap.size,0,none⟩ 1 1 [zg jb,O za zl zc,O ua ul uc] rfl rfl (fun jj u hu=>by rw [Addr.add_lit,Nat.zero_add];exact HN.o jj u hu) (by simp [Value.oneCell']) (by unfold maxLen;omega) (by omega) C ?_);intro v2 w2 f l _ L;have z:=Cop.add k Q.o rfl HO.o t.o.size (fun g Z=>by have:=ad.o g Z;have:=ac.o;omega) f l (by simpa using L);obtain ⟨am,ak,al,rfl⟩:=AG f;have J:Ov w w2:=R.o.trans (Bz k l C);have d:=Aa (And.intro z J);clear z J k f l L C;go_wp2_with fail;exact ⟨⟨j+1,by omega,by go_num,d.o.1,d.o.2⟩,by simp [intOf];omega⟩
  ·have Y:j=n:=by omega
   subst Y;obtain ⟨oa,oc,rfl,-⟩:=B.cells (by decide);have d:=Aa (And.intro B E);clear B E HV hlt;go_wp2_with fail;go_ret;exact ⟨_,_,rfl,d.o.1,d.o.2⟩
theorem Qu (o:Int) (na:Option Addr) (nc:Nat) (names:List Int) (w:World) (h:AQ w (O na names.length nc) names) (hl:names.length<=100) :
  Calls Tryz.prog 200 #[zh #[zd U o,O na names.length nc]] w fun e w'=>∃ j1 za zl zc,e=zk (zh #[zd U j1,O za zl zc])/\Off w.heap.size none w' (fun W=>j1=o/\zl=names.length/\AQ W (O za zl zc) names)/\Ov w w':=by
 have l:Ov w ((w.alloc (ze #[zd U o,O na names.length nc] 87)).alloc (ze #[zd U 0,O none 0 0] 87)):=(bA w _).alloc (by simp) _;obtain ⟨V,p⟩:=nm ((w.alloc (ze #[zd U o,O na names.length nc] 87)).alloc (ze #[zd U 0,O none 0 0] 87));have C:V.heap.size=w.heap.size+2:=by rw [p];simp
 have s:Ad [zd U o,O na names.length nc] V w.heap.size:=by rw [p];exact Ad.over (AP w [zd U o,O na names.length nc] 87) (bA _ _)
 have E:Ad [zd U 0,O none 0 0] V (w.heap.size+1):=by
  rw [p];have hs:(w.alloc (ze #[zd U o,O na names.length nc] 87)).heap.size=w.heap.size+1:=by simp
  rw [<-hs];exact AP (w.alloc (ze #[zd U o,O na names.length nc] 87)) [zd U 0,O none 0 0] 87
 have F:∀ j,V.frozen? ⟨w.heap.size+1,j,none⟩=false:=fun j=>by rw [p];simp [go_sem]
 rw [<-p] at l;have X:=Aa (RP _ names V.drew ((h.over l).over (bD V)) hl);obtain ⟨i,k⟩:=nm names.length;rw [<-k] at s X ⊢;have z:CE V.drew w.heap.size 0 (zd U o)/\CE V.drew w.heap.size 1 (O na i nc):=rc2 s;have I:=Aa l;have M:=Aa E;have Q:=Aa F;have H:=Aa C;have ac:=Aa k;rw [<-k] at p;clear h l s E F C k hl;go_enter Tryz.func200,Tryz.ntmps200;go_wp2_with fail;rw [<-p];clear p;refine gS (fun T=>CE T w.heap.size 0 (zd U o)/\CE T w.heap.size 1 (O na i nc)) z fun g=>?_;refine kT 0 ?_;refine kT 1 ?_;refine kT 2 ?_;refine kT 3 ?_;refine rdA 4 rfl fun K G=>?_;go_simp;refine X.o.mono ?_;rintro e B ⟨a,c,rfl,S,R⟩;have d:Ov V B:=(bD V).trans (R.mono (Nat.le_refl _));have y:CE B w.heap.size 0 (zd U o)/\CE B w.heap.size 1 (O na i nc):=⟨Ab d _ _ z.1,Ab d _ _ z.2⟩;have f:=M.o.over d;have q:=(f.set (j:=0) (v:=zd U o) (by simp)).set (j:=1) (v:=O a i c) (by simp);simp only [List.set_cons_zero,List.set_cons_succ] at q;have t:=fun j=>((Am d).2 (w.heap.size+1) j (by have:=H.o;omega)).trans (Q.o j);have f0:=t 0;have f1:=t 1;obtain ⟨x0,x1⟩:=rc2 f;have J:CE ((B.setCell ⟨w.heap.size+1,0,none⟩ (zd U o)).setCell ⟨w.heap.size+1,1,none⟩ (O a i c)) w.heap.size 0 (zd U o)/\CE ((B.setCell ⟨w.heap.size+1,0,none⟩ (zd U o)).setCell ⟨w.heap.size+1,1,none⟩ (O a i c)) w.heap.size 1 (O na i nc):=⟨Aq (Aq y.1 (by omega)) (by omega),Aq (Aq y.2 (by omega)) (by omega)⟩;have L:=Aa q;have P:=Aa S;have N:Hx (Ov w B):=I.o.trans (d.mono I.o.size);have A:Hx (V.drew.heap.size=w.heap.size+2):=H.o;clear S R d f q t;go_simp;refine xK G y fun g=>?_;clear G K;refine kT 5 ?_;refine rdA 6 rfl fun K G=>?_;go_simp;refine xK G J fun g=>?_;clear G K;refine gE ?_;go_wp2_with fail;obtain ⟨Z,Y⟩:=rc2 L.o;refine bodyPost_ret (v:=zh #[zd U o,O a i c]) (by simp [results,Tryz.results200,go_sem,Z,Y]) rfl ?_;refine ⟨o,a,i,c,rfl,?_,(N.o.setCell (by simp) _).setCell (by simp) _⟩;have h1:=((P.o.set (b:=w.heap.size+1) (j:=0) (u:=zd U o) (by rw [A.o];omega)).set (b:=w.heap.size+1) (j:=1) (u:=O a i c) (by rw [A.o];omega)).base (B':=w.heap.size) (by rw [A.o];omega);exact h1.imp fun W hW=>⟨rfl,rfl,hW⟩
theorem Ko (v:Value) (ps:List Pol) (w:World) (h:Au w v ps) (hl:ps.length<=100) (hn:∀ p∈ps,p.names.length<=100) :
  Calls Tryz.prog 199 #[v,.func (.func 200) #[] #[]] w fun e w'=>∃ a c,e=zk (O a ps.length c)/\Off w.heap.size none w' (fun W=>Au W (O a ps.length c) ps)/\Ov w w':=by
 obtain ⟨V,A,rfl,t⟩:=h;refine (SQ 200 [] (fun i cs W=>∀ p,ps[i]? = some p->∃ nv,cs=[zd U p.owner,nv]/\AQ W nv p.names) V ps.length A w hl (enters_of Tryz.func200 (by kernel_rfl) rfl) (fun d=>?_)).mono ?_
 ·obtain ⟨b,off,y,u⟩:=t (by rintro rfl;simp at d)
  refine ⟨b,off,y,fun i f=>?_⟩;obtain ⟨T,nv,G,k⟩:=u i f;obtain ⟨C,B,s,-⟩:=id k;subst s;refine ⟨_,C,_,B,⟨T,G⟩,fun W hW=>?_⟩;refine (Qu ps[i].owner C B ps[i].names W (AQ.over (w:=w) k hW) (hn _ (List.getElem_mem f))).mono ?_;rintro e W' ⟨M,K,I,J,rfl,Q,z⟩;refine ⟨M,K,I,J,rfl,Q.imp fun X E p q=>?_,z⟩;rw [List.getElem?_eq_getElem f] at q;injection q with q;subst q;exact ⟨_,by rw [E.1],E.2.2⟩
 ·rintro e w' ⟨a,H,rfl,l,z⟩
  obtain ⟨Z,Y,N,g⟩:=l.cells (by decide);injection N with x1 x2 L;subst x1 L;refine ⟨a,H,rfl,g.imp fun W hW=>⟨a,H,rfl,fun d=>?_⟩,z⟩;obtain ⟨b,P,u⟩:=hW (fun h=>d (List.eq_nil_of_length_eq_zero h));refine ⟨b,0,P,fun i f=>?_⟩;obtain ⟨cs,G,F,S⟩:=u i f;obtain ⟨nv,rfl,R⟩:=S _ (List.getElem?_eq_getElem f);rw [Nat.zero_add];exact ⟨F 0 _ rfl,nv,F 1 _ rfl,R⟩
theorem MF (bl:Lab) (ra:Option Addr) (rc:Nat) (wa:Option Addr) (wc:Nat) (w:World) (hx:Au w (O ra bl.r.length rc) bl.r) (hy:Au w (O wa bl.w.length wc) bl.w) (hl:bl.r.length<=100/\bl.w.length<=100) (hn:(∀ p∈bl.r,p.names.length<=100)/\∀ p∈bl.w,p.names.length<=100) :
  Calls Tryz.prog 141 #[zh #[O ra bl.r.length rc,O wa bl.w.length wc]] w fun e w'=>∃ za zl zc ua ul uc,e=zk (zh #[O za zl zc,O ua ul uc])/\Off w.heap.size none w' (fun W=>Au W (O za zl zc) bl.r/\Au W (O ua ul uc) bl.w)/\Ov w w':=by
 have l:Ov w ((w.alloc (ze #[O ra bl.r.length rc,O wa bl.w.length wc] 39)).alloc (ze #[O none 0 0,O none 0 0] 39)):=(bA w _).alloc (by simp) _;obtain ⟨V,t⟩:=nm ((w.alloc (ze #[O ra bl.r.length rc,O wa bl.w.length wc] 39)).alloc (ze #[O none 0 0,O none 0 0] 39));have P:V.heap.size=w.heap.size+2:=by rw [t];simp
 have s:Ad [O ra bl.r.length rc,O wa bl.w.length wc] V w.heap.size:=by rw [t];exact Ad.over (AP w [O ra bl.r.length rc,O wa bl.w.length wc] 39) (bA _ _)
 have R:Ad [O none 0 0,O none 0 0] V (w.heap.size+1):=by
  rw [t];have hs:(w.alloc (ze #[O ra bl.r.length rc,O wa bl.w.length wc] 39)).heap.size=w.heap.size+1:=by simp
  rw [<-hs];exact AP (w.alloc (ze #[O ra bl.r.length rc,O wa bl.w.length wc] 39)) [O none 0 0,O none 0 0] 39
 have S:∀ j,V.frozen? ⟨w.heap.size+1,j,none⟩=false:=fun j=>by rw [t];simp [go_sem]
 rw [<-t] at l;have KX:=Aa (Ko _ bl.r V.drew (Ah (Ah hx l) (bD V)) hl.1 hn.1);have KY:=Aa fun (U:World) (hz:Ov V U)=>Ko _ bl.w U (Ah (Ah hy l) hz) hl.2 hn.2;obtain ⟨i,Q⟩:=nm bl.r.length;obtain ⟨g,N⟩:=nm bl.w.length;rw [<-Q] at s KX t ⊢;rw [<-N] at s KY t ⊢;have q:CE V.drew w.heap.size 0 (O ra i rc)/\CE V.drew w.heap.size 1 (O wa g wc):=rc2 s;have X:=Aa l;have ab:=Aa R;have ag:=Aa S;have J:=Aa P;clear hx hy l s R S P Q N hl hn;go_enter Tryz.func141,Tryz.ntmps141;go_wp2_with fail;rw [<-t];clear t;refine gS (fun U=>CE U w.heap.size 0 (O ra i rc)/\CE U w.heap.size 1 (O wa g wc)) q fun f=>?_;refine kT 0 ?_;refine kT 1 ?_;refine kT 3 ?_;refine kT 4 ?_;refine rdA 2 rfl fun K z=>?_;go_simp;refine KX.o.mono ?_;rintro e M ⟨a,c,rfl,hO,hb⟩;have d:Ov V M:=(bD V).trans (hb.mono (Nat.le_refl _));have Z:CE M w.heap.size 0 (O ra i rc)/\CE M w.heap.size 1 (O wa g wc):=⟨Ab d _ _ q.1,Ab d _ _ q.2⟩;have y:=Aa d;have af:=Aa hO;clear hO hb d;go_simp;refine xK z Z fun f=>?_;clear z K;refine rdA 5 rfl fun K z=>?_;go_simp;refine (KY.o M y.o).mono ?_;rintro e L ⟨G,F,rfl,T,C⟩;have d:Ov V L:=y.o.trans (C.mono y.o.size);have E:CE L w.heap.size 0 (O ra i rc)/\CE L w.heap.size 1 (O wa g wc):=⟨Ab d _ _ q.1,Ab d _ _ q.2⟩;have k:=ab.o.over d;have A:=(k.set (j:=0) (v:=O a i c) (by simp)).set (j:=1) (v:=O G g F) (by simp);simp only [List.set_cons_zero,List.set_cons_succ] at A;have B:=fun j=>((Am d).2 (w.heap.size+1) j (by have:=J.o;omega)).trans (ag.o j);have f0:=B 0;have f1:=B 1;obtain ⟨x0,x1⟩:=rc2 k;have Y:CE ((L.setCell ⟨w.heap.size+1,0,none⟩ (O a i c)).setCell ⟨w.heap.size+1,1,none⟩ (O G g F)) w.heap.size 0 (O ra i rc)/\CE ((L.setCell ⟨w.heap.size+1,0,none⟩ (O a i c)).setCell ⟨w.heap.size+1,1,none⟩ (O G g F)) w.heap.size 1 (O wa g wc):=⟨Aq (Aq E.1 (by omega)) (by omega),Aq (Aq E.2 (by omega)) (by omega)⟩;have aa:=Aa A;have ae:Hx (Ov w L):=X.o.trans (d.mono X.o.size);have H:Hx (V.drew.heap.size=w.heap.size+2):=J.o;have I:Hx (w.heap.size+2<=M.heap.size):=by have h1:=y.o.size;have h2:=J.o;show w.heap.size+2<=M.heap.size;omega
 have ad:=Aa (af.o.over C);have ac:=Aa T;clear T C d k A B;go_simp;refine xK z E fun f=>?_;clear z K;refine kT 6 ?_;refine rdA 7 rfl fun K z=>?_;go_simp;refine xK z Y fun f=>?_;clear z K;refine gE ?_;go_wp2_with fail;obtain ⟨r0,r1⟩:=rc2 aa.o;refine bodyPost_ret (v:=zh #[O a i c,O G g F]) (by simp [results,Tryz.results141,go_sem,r0,r1]) rfl ?_;refine ⟨a,i,c,G,g,F,rfl,?_,(ae.o.setCell (by simp) _).setCell (by simp) _⟩;have h1:=((ad.o.set (b:=w.heap.size+1) (j:=0) (u:=O a i c) (by rw [H.o];omega)).set (b:=w.heap.size+1) (j:=1) (u:=O G g F) (by rw [H.o];omega)).base (B':=w.heap.size) (by rw [H.o];omega);have h2:=((ac.o.set (b:=w.heap.size+1) (j:=0) (u:=O a i c) (by have:=I.o;omega)).set (b:=w.heap.size+1) (j:=1) (u:=O G g F) (by have:=I.o;omega)).base (B':=w.heap.size) (by have:=I.o;omega);exact fun W hW=>⟨h1 W hW,h2 W hW⟩
theorem Pi:∀ (k:Nat) (cs:List Value) (d:D) (w:World),RX w k cs d->(AO k d).length<=15 ->
  Calls Tryz.prog 147 #[.agg cs.toArray] w fun e w'=>∃ a c,e=zk (zh #[zd U (AD d),zd U (A5 d),O a (AC d).length c])/\Off w.heap.size none w' (fun W=>RX W k [zd U (AD d),zd U (A5 d),O a (AC d).length c] d)/\Ov w w':=by
 intro k
 induction k with
 | zero=>intro cs d w h;exact h.elim
 | succ k ih=>
  intro cs d w h Z;obtain ⟨p,n,v,f,rfl,rfl,aa,hn,E,G,l,rfl,hc⟩:=h;have t:AO (k+1) (xD p n f)=xD p n f::f.flatMap (AO k):=rfl;rw [t] at Z;have B:∀ d∈f,0 < (AO k d).length:=fun d hd=>by
   obtain ⟨i,N,rfl⟩:=List.getElem_of_mem hd;obtain ⟨b,off,-,y⟩:=hc (by rintro rfl;simp at N);obtain ⟨cs,-,-,hr⟩:=y i f[i] (List.getElem?_eq_getElem N);exact FX hr
  have aw:f.length<=14:=by have:=J2 B;simp only [List.length_cons] at Z;omega
  have C:∀ i (h:i < f.length),(AO k f[i]).length<=15:=fun i h=>by
   have h2:f.flatMap (AO k)=(f.take i).flatMap (AO k)++((f.drop i).flatMap (AO k)):=by rw [<-List.flatMap_append,List.take_append_drop]
   rw [List.drop_eq_getElem_cons h,List.flatMap_cons] at h2;rw [h2] at Z;simp only [List.length_cons,List.length_append] at Z;omega
  have e1:AD (xD p n f)=p:=rfl;have e2:A5 (xD p n f)=n:=rfl;have e3:AC (xD p n f)=f:=rfl;rw [e1,e2,e3];have g:Ov w ((w.alloc (ze #[zd U p,zd U n,O G f.length l] 94)).alloc (ze #[zd U 0,zd U 0,O none 0 0] 94)):=(bA w _).alloc (by simp) _;obtain ⟨V,z⟩:=nm ((w.alloc (ze #[zd U p,zd U n,O G f.length l] 94)).alloc (ze #[zd U 0,zd U 0,O none 0 0] 94));have P:V.heap.size=w.heap.size+2:=by rw [z];simp
  have k2:V.cell? ⟨w.heap.size,2,none⟩=some (O G f.length l):=by rw [z];simp [go_sem]
  have T:Ad [zd U p,zd U n,O G f.length l] V w.heap.size:=by rw [z];exact Ad.over (AP w [zd U p,zd U n,O G f.length l] 94) (bA _ _)
  have S:Ad [zd U 0,zd U 0,O none 0 0] V (w.heap.size+1):=by
   rw [z];have hs:(w.alloc (ze #[zd U p,zd U n,O G f.length l] 94)).heap.size=w.heap.size+1:=by simp
   rw [<-hs];exact AP (w.alloc (ze #[zd U p,zd U n,O G f.length l] 94)) [zd U 0,zd U 0,O none 0 0] 94
  have ac:∀ j,V.frozen? ⟨w.heap.size,j,none⟩=false:=fun j=>by rw [z];simp [go_sem]
  have ab:∀ j,V.frozen? ⟨w.heap.size+1,j,none⟩=false:=fun j=>by rw [z];simp [go_sem]
  rw [<-z] at g;have KE:=Aa (Q4 147 [] (fun i cs W=>∀ d',f[i]? = some d'->RX W k cs d') G f.length l V (by omega) (enters_of Tryz.func147 (by kernel_rfl) rfl) (fun I=>by
   obtain ⟨b,off,ak,y⟩:=hc (by rintro rfl;simp at I);refine ⟨b,off,ak,fun i N=>?_⟩;obtain ⟨cs,bf,J,hr⟩:=y i f[i] (List.getElem?_eq_getElem N);obtain ⟨ya,yc,hy⟩:=hr.form;subst hy;refine ⟨AD f[i],A5 f[i],ya,(AC f[i]).length,yc,⟨Ab g _ _ (J 0 _ rfl),Ab g _ _ (J 1 _ rfl),Ab g _ _ (J 2 _ rfl)⟩,fun W hW=>?_⟩;refine (ih _ f[i] W (hr.over (g.trans (hW.mono g.size))) (C i N)).mono ?_;rintro e W' ⟨a,c,rfl,hO,hB⟩;exact ⟨_,_,a,_,c,rfl,hO.imp fun X hX d' q=>by rw [List.getElem?_eq_getElem N] at q;injection q with q;rw [<-q];exact hX,hB⟩))
  have ag:=Aa g;have HA:=Aa T;have am:=Aa S;have ar:=Aa ac;have aq:=Aa ab;have A:=Aa P;have M:=Aa (And.intro aa (And.intro hn E));clear hc ih Z B C t g T S ac ab P e1 e2 e3 aa hn E;go_enter Tryz.func147,Tryz.ntmps147;go_wp2_with fail;rw [<-z];clear z;refine KE.o.mono ?_;rintro e W1 ⟨a,L,rfl,F,s⟩;have ad:=HA.o.over s;have K:=am.o.over s;obtain ⟨a0,a1,a2⟩:=rc3 ad;obtain ⟨b0,b1,b2⟩:=rc3 K;have au:w.heap.size+2<=W1.heap.size:=by have:=s.size;have:=A.o;omega
  have fA:=fun j=>((Am s).2 w.heap.size j (by have:=A.o;omega)).trans (ar.o j);have fB:=fun j=>((Am s).2 (w.heap.size+1) j (by have:=A.o;omega)).trans (aq.o j);have bu:=fA 2;have bt:=fB 0;have bs:=fB 1;have br:=fB 2;have an:Hx (Ov w W1):=ag.o.trans (s.mono ag.o.size);have ae:=Aa F;have af:=Aa K;clear F s ad K fA fB k2 KE;go_wp2_with fail;have R:Ad [zd U 0,zd U 0,O none 0 0] (W1.setCell ⟨w.heap.size,2,none⟩ (O a f.length L)) (w.heap.size+1):=Ad.other af.o (by omega);have Q:=((R.set (j:=0) (v:=zd U p) (by simp)).set (j:=1) (v:=zd U n) (by simp)).set (j:=2) (v:=O a f.length L) (by simp);simp only [List.set_cons_zero,List.set_cons_succ] at Q;obtain ⟨r0,r1,r2⟩:=rc3 Q;refine bodyPost_ret (v:=zh #[zd U p,zd U n,O a f.length L]) (by simp [results,Tryz.results147,go_sem,r0,r1,r2]) rfl ?_;refine ⟨a,L,rfl,?_,?_⟩
  ·obtain ⟨a',c2,he,Y⟩:=ae.o.cells (by decide)
   injection he with x1 x2 x3;subst x1 x3;have bk:w.heap.size+2=V.heap.size:=A.o.symm;have H:=((((Y.set (b:=w.heap.size) (j:=2) (u:=O a f.length L) (by omega)).set (b:=w.heap.size+1) (j:=0) (u:=zd U p) (by omega)).set (b:=w.heap.size+1) (j:=1) (u:=zd U n) (by omega)).set (b:=w.heap.size+1) (j:=2) (u:=O a f.length L) (by omega)).base (B':=w.heap.size) (by omega);refine H.imp fun W hW=>?_;refine ⟨p,n,_,f,rfl,rfl,M.o.1,M.o.2.1,M.o.2.2,a,L,rfl,fun I=>?_⟩;obtain ⟨b,hb,y⟩:=hW (fun h=>I (List.eq_nil_of_length_eq_zero h));refine ⟨b,0,hb,fun i d' q=>?_⟩;obtain ⟨cs,h1,h2,h3⟩:=y i (List.getElem?_eq_some_iff.1 q).1;exact ⟨cs,h1,fun j u hu=>by rw [Nat.zero_add];exact h2 j u hu,h3 d' q⟩
  ·exact (((an.o.setCell (Nat.le_refl _) _).setCell (by simp) _).setCell (by simp) _).setCell (by simp) _
def LK (b:Lab):Prop:=(b.r.length<=100/\b.w.length<=100)/\(∀ p∈b.r,p.names.length<=100)/\∀ p∈b.w,p.names.length<=100
theorem Kp (v:Value) (ls:List Lab) (w:World) (h:AX w v ls) (hl:ls.length<=100) (hn:∀ b∈ls,LK b) :
  Calls Tryz.prog 140 #[v,.func (.func 141) #[] #[]] w fun e w'=>∃ a c,e=zk (O a ls.length c)/\(a=none->c=0)/\Off w.heap.size none w' (fun W=>AX W (O a ls.length c) ls)/\Ov w w':=by
 obtain ⟨Z,ao,B,rfl,t⟩:=h;refine (SR 141 [] (fun i cs W=>∀ b,ls[i]? = some b->∃ pr pw,cs=[pr,pw]/\Au W pr b.r/\Au W pw b.w) ao ls.length B w hl (enters_of Tryz.func141 (by kernel_rfl) rfl) (fun f=>?_)).mono ?_
 ·obtain ⟨b,off,z,y⟩:=t (by rintro rfl;simp at f)
  refine ⟨b,off,z,fun i l=>?_⟩;obtain ⟨pr,pw,h0,L,I,hw⟩:=y i l;obtain ⟨H,G,k,-⟩:=id I;obtain ⟨F,E,u,-⟩:=id hw;subst k u;obtain ⟨f1,f2⟩:=hn _ (List.getElem_mem l);refine ⟨H,_,G,F,_,E,⟨h0,L⟩,fun W hW=>?_⟩;refine (MF ls[i] H G F E W (Ah I hW) (Ah hw hW) f1 f2).mono ?_;rintro e W' ⟨R,P,Q,V,T,U,rfl,hO,A⟩;refine ⟨R,P,Q,V,T,U,rfl,hO.imp fun X J b p=>?_,A⟩;rw [List.getElem?_eq_getElem l] at p;injection p with p;subst p;exact ⟨_,_,rfl,J.1,J.2⟩
 ·rintro e w' ⟨a,C,rfl,d,A⟩
  have s:a=none->C=0:=fun ha=>by
   obtain ⟨xs,Y,-⟩:=d;rcases Y.2 with ⟨k,-⟩ | ⟨g,N,ai,k,-⟩
   ·injection k
   ·injection k with M;rw [ha] at M;cases M
  obtain ⟨a',c2,k,q⟩:=d.cells (by decide);injection k with x1 x2 S;subst x1 S;refine ⟨a,C,rfl,s,q.imp fun W hW=>⟨Z,a,C,rfl,fun f=>?_⟩,A⟩;obtain ⟨b,p,y⟩:=hW (fun h=>f (List.eq_nil_of_length_eq_zero h));refine ⟨b,0,p,fun i l=>?_⟩;obtain ⟨cs,L,K,h3⟩:=y i l;obtain ⟨pr,pw,rfl,h4,h5⟩:=h3 _ (List.getElem?_eq_getElem l);rw [Nat.zero_add];exact ⟨pr,pw,K 0 _ rfl,K 1 _ rfl,h4,h5⟩
theorem Qt (kb:Bool) (bl:Lab) (ra:Option Addr) (rc:Nat) (wa:Option Addr) (wc:Nat) (w:World) (hx:Au w (O ra bl.r.length rc) bl.r) (hy:Au w (O wa bl.w.length wc) bl.w) (hn:LK bl) :
  Calls Tryz.prog 143 #[zh #[zg kb,O ra bl.r.length rc,O wa bl.w.length wc]] w fun e w'=>∃ jb za zl zc ua ul uc,e=zk (zh #[zg jb,O za zl zc,O ua ul uc])/\Off w.heap.size none w' (fun W=>jb=kb/\Au W (O za zl zc) bl.r/\Au W (O ua ul uc) bl.w)/\Ov w w':=by
 have f:Ov w ((w.alloc (ze #[zg kb,O ra bl.r.length rc,O wa bl.w.length wc] 41)).alloc (ze #[zg false,O none 0 0,O none 0 0] 41)):=(bA w _).alloc (by simp) _;obtain ⟨V,l⟩:=nm ((w.alloc (ze #[zg kb,O ra bl.r.length rc,O wa bl.w.length wc] 41)).alloc (ze #[zg false,O none 0 0,O none 0 0] 41));have A:V.heap.size=w.heap.size+2:=by rw [l];simp
 have i:Ad [zg kb,O ra bl.r.length rc,O wa bl.w.length wc] V w.heap.size:=by rw [l];exact Ad.over (AP w [zg kb,O ra bl.r.length rc,O wa bl.w.length wc] 41) (bA _ _)
 have C:Ad [zg false,O none 0 0,O none 0 0] V (w.heap.size+1):=by
  rw [l];have hs:(w.alloc (ze #[zg kb,O ra bl.r.length rc,O wa bl.w.length wc] 41)).heap.size=w.heap.size+1:=by simp
  rw [<-hs];exact AP (w.alloc (ze #[zg kb,O ra bl.r.length rc,O wa bl.w.length wc] 41)) [zg false,O none 0 0,O none 0 0] 41
 have E:∀ j,V.frozen? ⟨w.heap.size+1,j,none⟩=false:=fun j=>by rw [l];simp [go_sem]
 rw [<-l] at f;have N:=Aa (MF bl ra rc wa wc V.drew (Ah (Ah hx f) (bD V)) (Ah (Ah hy f) (bD V)) hn.1 hn.2);obtain ⟨J,B⟩:=nm bl.r.length;obtain ⟨I,z⟩:=nm bl.w.length;rw [<-B] at i N l ⊢;rw [<-z] at i N l ⊢;have q:CE V.drew w.heap.size 0 (zg kb)/\CE V.drew w.heap.size 1 (O ra J rc)/\CE V.drew w.heap.size 2 (O wa I wc):=rc3 i;have H:=Aa f;have Q:=Aa C;have T:=Aa E;have G:=Aa A;clear hx hy f i C E A B z hn;go_enter Tryz.func143,Tryz.ntmps143;go_wp2_with fail;rw [<-l];clear l;refine gS (fun M=>CE M w.heap.size 0 (zg kb)/\CE M w.heap.size 1 (O ra J rc)/\CE M w.heap.size 2 (O wa I wc)) q fun g=>?_;refine kT 0 ?_;refine kT 1 ?_;refine kT 2 ?_;refine kT 3 ?_;refine rdA 4 rfl fun K F=>?_;go_simp;refine N.o.mono ?_;rintro e t ⟨za,zl,zc,ua,ul,uc,rfl,X,U⟩;have c:Ov V t:=(bD V).trans (U.mono (Nat.le_refl _));have p:CE t w.heap.size 0 (zg kb)/\CE t w.heap.size 1 (O ra J rc)/\CE t w.heap.size 2 (O wa I wc):=⟨Ab c _ _ q.1,Ab c _ _ q.2.1,Ab c _ _ q.2.2⟩;have d:=Q.o.over c;have y:=((d.set (j:=0) (v:=zg kb) (by simp)).set (j:=1) (v:=O za zl zc) (by simp)).set (j:=2) (v:=O ua ul uc) (by simp);simp only [List.set_cons_zero,List.set_cons_succ] at y;have k:=fun j=>((Am c).2 (w.heap.size+1) j (by have:=G.o;omega)).trans (T.o j);have f0:=k 0;have f1:=k 1;have f2:=k 2;obtain ⟨x0,x1,x2⟩:=rc3 d;have L:CE (((t.setCell ⟨w.heap.size+1,0,none⟩ (zg kb)).setCell ⟨w.heap.size+1,1,none⟩ (O za zl zc)).setCell ⟨w.heap.size+1,2,none⟩ (O ua ul uc)) w.heap.size 0 (zg kb)/\CE (((t.setCell ⟨w.heap.size+1,0,none⟩ (zg kb)).setCell ⟨w.heap.size+1,1,none⟩ (O za zl zc)).setCell ⟨w.heap.size+1,2,none⟩ (O ua ul uc)) w.heap.size 1 (O ra J rc)/\CE (((t.setCell ⟨w.heap.size+1,0,none⟩ (zg kb)).setCell ⟨w.heap.size+1,1,none⟩ (O za zl zc)).setCell ⟨w.heap.size+1,2,none⟩ (O ua ul uc)) w.heap.size 2 (O wa I wc):=⟨Aq (Aq (Aq p.1 (by omega)) (by omega)) (by omega),Aq (Aq (Aq p.2.1 (by omega)) (by omega)) (by omega),Aq (Aq (Aq p.2.2 (by omega)) (by omega)) (by omega)⟩;have P:=Aa y;have S:Hx (Ov w t):=H.o.trans (c.mono H.o.size);have s:Hx (V.drew.heap.size=w.heap.size+2):=G.o;have R:=Aa X;clear X U c d y k;go_simp;refine xK F p fun g=>?_;clear F K;refine kT 5 ?_;refine rdA 6 rfl fun K F=>?_;go_simp;refine xK F L fun g=>?_;clear F K;refine gE ?_;go_wp2_with fail;obtain ⟨r0,Z,Y⟩:=rc3 P.o;refine bodyPost_ret (v:=zh #[zg kb,O za zl zc,O ua ul uc]) (by simp [results,Tryz.results143,go_sem,r0,Z,Y]) rfl ?_;refine ⟨kb,za,zl,zc,ua,ul,uc,rfl,?_,((S.o.setCell (by simp) _).setCell (by simp) _).setCell (by simp) _⟩;have h1:=(((R.o.set (b:=w.heap.size+1) (j:=0) (u:=zg kb) (by rw [s.o];omega)).set (b:=w.heap.size+1) (j:=1) (u:=O za zl zc) (by rw [s.o];omega)).set (b:=w.heap.size+1) (j:=2) (u:=O ua ul uc) (by rw [s.o];omega)).base (B':=w.heap.size) (by rw [s.o];omega);exact h1.imp fun W hW=>⟨rfl,hW.1,hW.2⟩
theorem Pj (v:Value) (vs:List (Bool × Lab)) (w:World) (h:Bo w v vs) (hl:vs.length<=100) (hn:∀ b∈vs,LK b.2) :
  Calls Tryz.prog 142 #[v,.func (.func 143) #[] #[]] w fun e w'=>∃ a c,e=zk (O a vs.length c)/\Off w.heap.size none w' (fun W=>Bo W (O a vs.length c) vs)/\Ov w w':=by
 obtain ⟨T,ao,B,rfl,q⟩:=h;refine (SP 143 [] (fun i cs W=>∀ b,vs[i]? = some b->∃ pr pw,cs=[zg b.1,pr,pw]/\Au W pr b.2.r/\Au W pw b.2.w) ao vs.length B w hl (enters_of Tryz.func143 (by kernel_rfl) rfl) (fun d=>?_)).mono ?_
 ·obtain ⟨b,off,y,u⟩:=q (by rintro rfl;simp at d)
  refine ⟨b,off,y,fun i f=>?_⟩;obtain ⟨pr,pw,h0,I,p,H,hw⟩:=u i f;obtain ⟨G,F,t,-⟩:=id H;obtain ⟨E,C,s,-⟩:=id hw;subst t s;refine ⟨_,G,_,F,E,_,C,⟨h0,I,p⟩,fun W hW=>?_⟩;refine (Qt vs[i].1 vs[i].2 G F E C W (Ah H hW) (Ah hw hW) (hn _ (List.getElem_mem f))).mono ?_;rintro e W' ⟨S,M,K,L,R,P,Q,rfl,U,A⟩;refine ⟨S,M,K,L,R,P,Q,rfl,U.imp fun X z b g=>?_,A⟩;rw [List.getElem?_eq_getElem f] at g;injection g with g;subst g;exact ⟨_,_,by rw [z.1],z.2.1,z.2.2⟩
 ·rintro e w' ⟨a,J,rfl,l,A⟩
  obtain ⟨a',c2,t,k⟩:=l.cells (by decide);injection t with x1 x2 N;subst x1 N;refine ⟨a,J,rfl,k.imp fun W hW=>⟨T,a,J,rfl,fun d=>?_⟩,A⟩;obtain ⟨b,g,u⟩:=hW (fun h=>d (List.eq_nil_of_length_eq_zero h));refine ⟨b,0,g,fun i f=>?_⟩;obtain ⟨cs,I,p,Z⟩:=u i f;obtain ⟨pr,pw,rfl,Y,V⟩:=Z _ (List.getElem?_eq_getElem f);rw [Nat.zero_add];exact ⟨pr,pw,p 0 _ rfl,p 1 _ rfl,p 2 _ rfl,Y,V⟩
theorem Pk (k:Nat) (v:Value) (ds:List D) (w:World) (h:XS 3 (RX w k) w v ds) (hl:ds.length<=100) (hn:∀ d∈ds,(AO k d).length<=15) :
  Calls Tryz.prog 201 #[v,.func (.func 147) #[] #[]] w fun e w'=>∃ a c,e=zk (O a ds.length c)/\Off w.heap.size none w' (fun W=>XS 3 (RX W k) W (O a ds.length c) ds)/\Ov w w':=by
 obtain ⟨J,T,B,rfl,t⟩:=h;refine (Q4 147 [] (fun i cs W=>∀ d,ds[i]? = some d->RX W k cs d) T ds.length B w hl (enters_of Tryz.func147 (by kernel_rfl) rfl) (fun g=>?_)).mono ?_
 ·obtain ⟨b,off,z,y⟩:=t (by rintro rfl;simp at g)
  refine ⟨b,off,z,fun i s=>?_⟩;obtain ⟨cs,K,l,C⟩:=y i ds[i] (List.getElem?_eq_getElem s);obtain ⟨ya,yc,H⟩:=C.form;subst H;refine ⟨AD ds[i],A5 ds[i],ya,(AC ds[i]).length,yc,⟨l 0 _ rfl,l 1 _ rfl,l 2 _ rfl⟩,fun W hW=>?_⟩;refine (Pi k _ ds[i] W (C.over hW) (hn _ (List.getElem_mem s))).mono ?_;rintro e Y ⟨a,c,rfl,P,A⟩;exact ⟨_,_,a,_,c,rfl,P.imp fun X N E f=>by rw [List.getElem?_eq_getElem s] at f;injection f with f;rw [<-f];exact N,A⟩
 ·rintro e w' ⟨a,F,rfl,q,A⟩
  obtain ⟨V,U,L,p⟩:=q.cells (by decide);injection L with x1 x2 G;subst x1 G;refine ⟨a,F,rfl,p.imp fun W hW=>⟨J,a,F,rfl,fun g=>?_⟩,A⟩;obtain ⟨b,M,y⟩:=hW (fun h=>g (List.eq_nil_of_length_eq_zero h));refine ⟨b,0,M,fun i E f=>?_⟩;obtain ⟨cs,S,R,Q⟩:=y i (List.getElem?_eq_some_iff.1 f).1;exact ⟨cs,S,fun j u I=>by rw [Nat.zero_add];exact R j u I,Q E f⟩
theorem Off.keep {B:Nat} {g:Option Nat} {w w':World} {P:World->Prop} (h:Off B g w P) (hs:w.heap.size<=w'.heap.size) (hk:∀ k,B<=k->k < w.heap.size->w'.heap[k]? = w.heap[k]?):Off B g w' P:=
 fun W hW=>h W fun k h1 h2 h3=>(hW k h1 (Nat.lt_of_lt_of_le h2 hs) h3).trans (hk k h1 h2)
theorem Cop.keep {B T s n:Nat} {P:Nat->List Value->World->Prop} {v:Value} {w w':World} (h:Cop B T s P n v w) (hs:w.heap.size<=w'.heap.size) (hk:∀ k,B<=k->k < w.heap.size->w'.heap[k]? = w.heap[k]?):Cop B T s P n v w':=by
 obtain ⟨u,t,z⟩:=h;refine ⟨u,⟨t.1,?_⟩,fun i y=>?_⟩
 ·rcases t.2 with h | ⟨g,q,p,l,f,d,A⟩
  ·exact Or.inl h
  ·exact Or.inr ⟨g,q,p,l,f,by rw [hk g f (Array.getElem?_eq_some_iff.1 d).1];exact d,A⟩
 ·obtain ⟨cs,l,f,d⟩:=z i y
  exact ⟨cs,l,f,fun W hW=>d W fun k a b c=>(hW k a (Nat.lt_of_lt_of_le b hs) c).trans (hk k a b)⟩
structure CI (bs:Nat) (nd:List Bool) (bc a:Nat) (W:World):Prop where
 row:Ad [O (some ⟨bs,0,none⟩) nd.length nd.length,zd U (a:Int)] W bc
 fz:∀ j,W.frozen? ⟨bc,j,none⟩=false
 nd:Ad (nd.map Value.bool) W bs
 ne:bs≠bc
def XC (bc:Nat) (_:World) (k:Nat):Prop:=k=bc
theorem CZ (bc:Nat):XOk (XC bc):=⟨fun _ _ _ _ h=>h⟩
section
variable {bs:Nat} {nd:List Bool} {bc a:Nat} {W W':World}
theorem CI.lt (h:CI bs nd bc a W):bc < W.heap.size:=bL (h.row 0 _ rfl)
theorem CI.over (h:CI bs nd bc a W) (hb:Ov W W'):CI bs nd bc a W':=⟨h.row.over hb,fun j=>((Am hb).2 _ _ h.lt).trans (h.fz j),h.nd.over hb,h.ne⟩
theorem CI.next (h:CI bs nd bc a W) (a':Nat):CI bs nd bc a' (W.setCell ⟨bc,1,none⟩ (zd U (a':Int)))/\FrW (XC bc) W (W.setCell ⟨bc,1,none⟩ (zd U (a':Int))):=by
 have d:(W.setCell ⟨bc,1,none⟩ (zd U (a':Int))).heap.size=W.heap.size:=by simp [World.setCell]
 have c:=h.row.set (j:=1) (v:=zd U (a':Int)) (by simp);simp only [List.set_cons_succ,List.set_cons_zero] at c;refine ⟨⟨c,fun j=>AM.trans (h.fz j),Ad.other h.nd h.ne,h.ne⟩,⟨rfl,rfl,rfl,by rw [d];exact Nat.le_refl _,fun k hk b=>Bw (fun e=>b e.symm) _,fun k _ b=>b⟩⟩
theorem FrW.from {B:Nat} (h:FrW (XC bc) W W') (hB:bc < B):∀ k,B<=k->k < W.heap.size->W'.heap[k]? = W.heap[k]?:=fun k h1 h2=>h.block k h2 (fun e=>by have e':k=bc:=e;omega)
theorem FrW.base {w0:World} (h:FrW (XC bc) W W') (hB:w0.heap.size<=bc) (hw:Ov w0 W):Ov w0 W':=hw.trans ⟨h.os,h.tape,h.output,h.size,fun k hk=>h.block k (Nat.lt_of_lt_of_le hk hw.size) (fun e=>by have e':k=bc:=e;omega)⟩
end
theorem Hn (nd:List Bool) (k:Nat):∀ (l m:List D) (a:Nat),AJ nd k (l++m) a=AJ nd k l a++AJ nd k m (a+Ai k l)
 | [],m,a=>by simp [Hm,Ai]
 | d::r,m,a=>by rw [List.cons_append,BG,BG,Hn nd k r,Bj,List.append_assoc,Nat.add_assoc]
def Ki (K:Nat):Nat->D->Prop
 | 0,_=>False
 | k+1,d=>(AO K (Ao d)).length<=15/\(Al d).length<=100/\(∀ a∈Al d,(AO K a).length<=15)/\(∀ x∈Ag d,Ki K k x)/\∀ x∈Ak d,Ki K k x
theorem Tryz.infoSt:(Tryz.prog.info? 130).map (fun i=>(i.zero,i.size,i.bytes))=some (some (zh #[zd U 0,zd U 0,zd U 0,zd U 0,zd U 0,O none 0 0,O none 0 0,O none 0 0,O none 0 0]),9,136):=by kernel_rfl
section
variable {bs:Nat} {nd:List Bool} {bc a:Nat} {W W' w:World}
theorem CI.set (h:CI bs nd bc a W) {b j:Nat} {u:Value} (h1:b≠bc) (h2:b≠bs):CI bs nd bc a (W.setCell ⟨b,j,none⟩ u):=
 ⟨Ad.other h.row (Ne.symm h1),fun j=>AM.trans (h.fz j),Ad.other h.nd (Ne.symm h2),h.ne⟩
theorem CI.bsl (h:CI bs nd bc a W) {i:Nat} (hn:i < nd.length):bs < W.heap.size:=
 bL (h.nd i (zg nd[i]) (by rw [List.getElem?_map,List.getElem?_eq_getElem hn];rfl))
theorem FrW.set (h:FrW (XC bc) w W) {b j:Nat} {u:Value} (hb:w.heap.size<=b):FrW (XC bc) w (W.setCell ⟨b,j,none⟩ u):=
 ⟨h.os,h.tape,h.output,by rw [show (W.setCell ⟨b,j,none⟩ u).heap.size=W.heap.size by simp [World.setCell]];exact h.size,fun k hk hx=>(Bw (by omega) _).trans (h.block k hk hx),fun k hk hx=>hx⟩
theorem FrW.low (h:FrW (XC bc) w W) (hb:Below w.heap.size W W'):FrW (XC bc) w W':=
 ⟨hb.os.trans h.os,hb.tape.trans h.tape,hb.output.trans h.output,Nat.le_trans h.size hb.size,fun k hk hx=>(hb.block k hk).trans (h.block k hk hx),fun k hk hx=>hx⟩
theorem CI.low {B:Nat} (h:CI bs nd bc a W) (hb:Below B W W') (h1:bc < B) (h2:bs < B):CI bs nd bc a W':=
 ⟨fun j u hu=>(World.cell?_of_block (a:=⟨bc,j,none⟩) (hb.block bc h1)).trans (h.row j u hu),fun j=>(World.frozen?_of_block (a:=⟨bc,j,none⟩) (hb.block bc h1)).trans (h.fz j),
  fun j u hu=>(World.cell?_of_block (a:=⟨bs,j,none⟩) (hb.block bs h2)).trans (h.nd j u hu),h.ne⟩
end
theorem Off.and {B B1 B2:Nat} {w:World} {P Q:World->Prop} (h:Off B1 none w P) (k:Off B2 none w Q) (h1:B<=B1) (h2:B<=B2):Off B none w (fun W=>P W/\Q W):=
 fun W hW=>⟨h.base h1 W hW,k.base h2 W hW⟩
theorem FE (nd:List Bool):∀ (k:Nat) (l:List D) (a:Nat),(AJ nd k l a).length<=Ai k l
 | k,[],a=>Nat.zero_le _
 | 0,d::r,a=>by
  rw [BG,Bj,List.length_append];have h:=FE nd 0 r (a+BD 0 d);have h2:(FF nd 0 d a).length=0:=rfl;omega
 | k+1,d::r,a=>by
  rw [BG,Bj,List.length_append,AU];have h:=FE nd (k+1) r (a+BD (k+1) d);rw [AU] at h;have h2:(FF nd (k+1) d a).length<=1:=by
   unfold FF;split
   ·exact Nat.le_refl _
   ·exact Nat.zero_le _
  omega
theorem RS.of {X:World} {K k:Nat} {nd:List Bool} {d:D} {a:Nat} {ea:Option Addr} {el ec:Nat} {aa:Option Addr} {al ac:Nat} {ta:Option Addr} {tl tc:Nat} {sa:Option Addr} {sl sc:Nat} {kd va ot ek en:Int}
  (h0:kd=Af d) (h1:va=Ax d) (h2:ot=Ae d) (i0:Cq kd) (i1:Cq va) (i2:Cq ot) (hx:RX X K [zd U ek,zd U en,O ea el ec] (Ao d)) (ha:XS 3 (RX X K) X (O aa al ac) (Al d))
  (ht:AI X K k (O ta tl tc) (AJ nd k (Ag d) (a+1))) (hs:AI X K k (O sa sl sc) (AJ nd k (Ak d) (a+1+Ai k (Ag d)))) :
  RS X K (k+1) [zd U kd,zd U va,zd U ot,zd U ek,zd U en,O ea el ec,O aa al ac,O ta tl tc,O sa sl sc] (Dh nd k d a):=
 ⟨kd,va,ot,_,_,_,_,_,_,_,_,_,_,rfl,by rw [h0,h1,h2];rfl,i0,i1,i2,hx,ha,ht,hs⟩
theorem Tryz.infoFn:(Tryz.prog.info? 105).map (fun i=>(i.zero,i.size,i.bytes))=some (some (zh #[O none 0 0,O none 0 0,zd U 0,zd U 0,O none 0 0]),5,88):=by kernel_rfl
theorem SS (F:FuncId) (cap:List Value) (P:Nat->List Value->World->Prop) (J:Nat->World->Prop) (bo:Nat) (ao:Option Addr) (n c:Nat) (w0 w:World) (hw0:Ov w0 w) (hlo:w0.heap.size<=bo) (hJ0:J 0 w) (hJ:∀ i W W',J i W->Below w.heap.size W W'->J i W') (hbo:bo < w.heap.size) (hn:n<=100) (hC:∀ (args:Array Value) (w:World),(callFunc F args).run Tryz.prog w=.ok (.enter F args) w)
  (hv:n≠0->∃ b off,ao=some ⟨b,off,none⟩/\∀ i,i < n->∃ (pa:Option Addr) (pl pc:Nat) (ba:Option Addr) (bl bd:Nat) (k1 k2:Int) (xa:Option Addr) (xl xc:Nat),(w0.cell? ⟨b,off+i*5,none⟩=some (O pa pl pc)/\w0.cell? ⟨b,off+i*5+1,none⟩=some (O ba bl bd)/\w0.cell? ⟨b,off+i*5+2,none⟩=some (zd U k1)/\w0.cell? ⟨b,off+i*5+3,none⟩=some (zd U k2)/\w0.cell? ⟨b,off+i*5+4,none⟩=some (O xa xl xc))/\∀ W,FrW (XC bo) w W->J i W->Calls Tryz.prog F (zh #[O pa pl pc,O ba bl bd,zd U k1,zd U k2,O xa xl xc]::cap).toArray W fun e W'=>∃ (qa:Option Addr) (ql qc:Nat) (da:Option Addr) (dl dc:Nat) (j1 j2:Int) (za:Option Addr) (zl zc:Nat),e=zk (zh #[O qa ql qc,O da dl dc,zd U j1,zd U j2,O za zl zc])/\Off W.heap.size none W' (P i [O qa ql qc,O da dl dc,zd U j1,zd U j2,O za zl zc])/\FrW (XC bo) W W'/\J (i+1) W') :
  Calls Tryz.prog 144 #[O ao n c,.func (.func F) #[] cap.toArray] w fun e w'=>∃ a c',e=zk (O a n c')/\Cop w.heap.size 105 5 P n (O a n c') w'/\FrW (XC bo) w w'/\J n w':=by
 obtain ⟨i0,hi,ad,ac,ab⟩:=info_parts Tryz.infoFn;have HV:=Aa hv;have ar:=Aa hJ0;have HJ:=Aa hJ;have aj:=Aa hw0;have an:=Aa hlo;have au:=Aa hbo;clear hv hJ0 hJ hw0 hlo hbo;go_enter Tryz.func144,Tryz.ntmps144;go_wp2_with fail;go_loopw [5,10] (fun u i wr=>∃ j:Nat,j<=n/\i=zd U j/\Cop w.heap.size 105 5 P j u wr/\FrW (XC bo) w wr/\J j wr) (fun _ i _=>n - (intOf i).toNat)
 case atStart=>exact ⟨0,Nat.zero_le _,rfl,Cop.nil,FrW.refl _,ar.o⟩
 case round=>
  obtain ⟨j,hj,rfl,G,I,y⟩:=hrel;by_cases hlt:j < n
  ·obtain ⟨b,off,rfl,N⟩:=HV.o (by omega)
   obtain ⟨pa,pl,pc,ba,bl,bd,k1,k2,xa,xl,xc,⟨c0,c1,c2,c3,c4⟩,hF⟩:=N j hlt;obtain ⟨c0,c1,c2,c3,c4⟩:=co5 (I.base an.o aj.o) c0 c1 c2 c3 c4;obtain ⟨oa,oc,rfl,-⟩:=G.cells (by decide);have t:Ov wr (wr.alloc (ze #[O pa pl pc,O ba bl bd,zd U k1,zd U k2,O xa xl xc] 105)):=bA _ _;obtain ⟨V,R⟩:=nm (wr.alloc (ze #[O pa pl pc,O ba bl bd,zd U k1,zd U k2,O xa xl xc] 105));have L:Ad [O pa pl pc,O ba bl bd,zd U k1,zd U k2,O xa xl xc] V wr.heap.size:=by rw [R];exact AP wr [O pa pl pc,O ba bl bd,zd U k1,zd U k2,O xa xl xc] 105
   have K:V.heap.size=wr.heap.size+1:=by rw [R];simp
   rw [<-R] at t;have E:FrW (XC bo) w V:=I.trans (FrW.of_below (CZ bo) t);have KF:=Aa (hF V E (HJ.o j wr V y (t.mono I.size)));obtain ⟨d0,d1,d2,d3,d4⟩:=rc5 L;have HI:=Aa (G.over t);have am:Hx (∀ g,(Value.slice oa j oc).ownBlock=some g->g < wr.heap.size):=fun g hg=>by
    obtain ⟨xs,ho,-⟩:=G;exact (E9 ho hg).2
   have z:=Aa E;have al:=Aa K;have bj:=Aa I.size;have aw:(j:Int) < (n:Int):=by omega
   clear y G I t L E K hF N HV;go_wp2_with fail;rw [<-R];clear R c0 c1 c2 c3 c4;refine KF.o.mono ?_;rintro e C ⟨qa,ql,qc,da,dl,dc,j1,j2,za,zl,zc,rfl,hO,p,T⟩;have X:=HI.o.keep p.size (p.from au.o);have l:Ov C (C.alloc (ze #[O qa ql qc,O da dl dc,zd U j1,zd U j2,O za zl zc] 105)):=bA _ _;obtain ⟨xs,k,A⟩:=X.over l;have hN:=AP C [O qa ql qc,O da dl dc,zd U j1,zd U j2,O za zl zc] 105;have H:w.heap.size<=(C.alloc (ze #[O qa ql qc,O da dl dc,zd U j1,zd U j2,O za zl zc] 105)).heap.size:=Nat.le_trans (Nat.le_trans z.o.size p.size) l.size;have HN:=Aa hN;have HO:=Aa (hO.over l);have Z:=Aa A;have aq:=Aa T;have aa:Hx (FrW (XC bo) w (C.alloc (ze #[O qa ql qc,O da dl dc,zd U j1,zd U j2,O za zl zc] 105))):=(z.o.trans p).trans (FrW.of_below (CZ bo) l);have Y:Hx (Below w.heap.size C (C.alloc (ze #[O qa ql qc,O da dl dc,zd U j1,zd U j2,O za zl zc] 105))):=l.mono (Nat.le_trans z.o.size p.size);clear T X hO p l hN A d0 d1 d2 d3 d4;go_wp2_with (at_builtin;refine wpList_append_own_at _ rfl _ _ 28 rfl w.heap.size 105 i0 (zh #[O none 0 0,O none 0 0,zd U 0,zd U 0,O none 0 0]) 5 88 Tryz.underlying28 hi ad ac ab rfl (by decide) _ _ _ rfl k ⟨C.heap.size,0,none⟩ 1 1 [O qa ql qc,O da dl dc,zd U j1,zd U j2,O za zl zc] rfl rfl (fun jj u hu=>by rw [Addr.add_lit,Nat.zero_add];exact HN.o jj u hu) (by simp [Value.oneCell']) (by unfold maxLen;omega) (by omega) H ?_);intro v2 w2 f s _ Q;have B:=Cop.add k Z.o rfl HO.o z.o.size (fun g hg=>by have:=am.o g hg;have:=al.o;omega) f s (by simpa using Q);obtain ⟨a4,a2,a3,rfl⟩:=AG f;have q:=Bz k s H;have M:FrW (XC bo) w w2:=FrW.low aa.o q;have S:J (j+1) w2:=HJ.o _ _ _ aq.o (Y.o.trans q);have d:=Aa (And.intro B (And.intro M S));clear q S B M k f s Q H;go_wp2_with fail;exact ⟨⟨j+1,by omega,by go_num,d.o.1,d.o.2.1,d.o.2.2⟩,by simp [intOf];omega⟩
  ·have ae:j=n:=by omega
   subst ae;obtain ⟨oa,oc,rfl,-⟩:=G.cells (by decide);have d:=Aa (And.intro G (And.intro I y));clear G I y HV hlt;go_wp2_with fail;go_ret;exact ⟨_,_,rfl,d.o.1,d.o.2.1,d.o.2.2⟩
end Go.Proofs.YtfffpjkcfnekaaaGreat.Ex
