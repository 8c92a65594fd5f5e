/- The document's answer: ParseOf of the small text. -/
import Derived.Test.YtipngnjffjajpaaGreatDoorJ30
import Derived.Test.YtipngnjffjajpaaGreatDoorJ31
set_option linter.unusedVariables false
set_option maxHeartbeats 8000000
set_option maxRecDepth 100000
namespace Go.Proofs.YtipngnjffjajpaaGreatDoor.Tx
open Go.RowKit
open Go.Value renaming int -> I, slice -> zc, bool -> zd, pointer -> zf, agg -> zg, tuple -> zi
open Go.IntKind renaming i64 -> O
open Go.Obj renaming cells -> ze
open Go.Ending renaming returned -> zh
section
variable {rb:Nat} {tv:Value} {ts:List Tok} {en b j:Nat} {s s':Sg} {w V V':World} {u:Value}
structure RqT (w:World) (rb:Nat) (tv:Value) (ts:List Tok) (en:Nat) (s:Sg) (V:World):Prop where
 tk:G4 tv ts w
 hr:w.heap.size<=rb
 st:Sd rb tv ts en s V
 bel:Below w.heap.size w V
theorem RqT.mk' (tk:G4 tv ts w) (hr:w.heap.size<=rb) (hn:s.1<=ts.length) (hb:V.heap[rb]? = some (Obj.cells #[tv,I O (s.1:Int),I O (en:Int),zd s.2] 58 (0,0))) (bel:Below w.heap.size w V):RqT w rb tv ts en s V:=by
 obtain ⟨n,y,g,i,A⟩:=id tk;refine ⟨tk,hr,⟨hb,hn,n,y,g,i,fun f=>?_⟩,bel⟩;obtain ⟨b,a,x,v,r⟩:=LE (c:=0) tk i f;exact ⟨b,a,x,by omega,fun j u l=>by rw [bel.cell (p:=⟨b,a+j,none⟩) v];exact r j u l⟩
theorem RqT.size (h:RqT w rb tv ts en s V):w.heap.size<=V.heap.size:=h.bel.size
theorem RqT.call (h:RqT w rb tv ts en s V) (hq:Qo rb tv ts en V s s' V'):RqT w rb tv ts en s' V':=
 ⟨h.tk,h.hr,hq.2.1,h.bel.grown hq.1 h.size fun k hk=>by injection hk with hk;rw [<-hk];exact h.hr⟩
theorem RqT.over (h:RqT w rb tv ts en s V) (hb:Ov V V'):RqT w rb tv ts en s V':=⟨h.tk,h.hr,h.st.below hb,h.bel.trans (hb.mono h.size)⟩
theorem RqT.set (h:RqT w rb tv ts en s V) (hb:w.heap.size<=b) (hne:b≠rb):RqT w rb tv ts en s (V.setCell ⟨b,j,none⟩ u):=
 RqT.mk' h.tk h.hr h.st.2.1 (by rw [Below.heap_setCell _ _ _ _ (by show rb≠b;omega)];exact h.st.1) (h.bel.setCell hb u)
theorem RqT.row {B T q k:Nat} {v:Value} {xs:List Value} (h:RqT w rb tv ts en s V) (ho:V.ownsRow B T q v k xs) (hB:rb < B) (hg:V.grownBy V' v.ownBlock):RqT w rb tv ts en s V':=
 RqT.mk' h.tk h.hr h.st.2.1 (by rw [hg.block rb h.st.lt (fun e=>by have:=(AO ho e.symm).1;omega)];exact h.st.1) (h.bel.grown hg h.size fun k hk=>by have:=(AO ho hk).1;have:=h.hr;omega)
theorem GV (g:Nat) (acc:List D) (s:Sg) (h:s.2=true\/AK (tl ts s 0)=0):DW ts en g acc s=(acc,s):=by
 cases g with
 | zero=>rfl
 | succ g=>
  rw [DW,if_neg];rintro ⟨a,b⟩;rcases h with h | h
  ·rw [h] at a;cases a
  ·exact b h
theorem Ln (g:Nat) (acc:List D) (s:Sg) (h:s.2=false) (h2:¬ AK (tl ts s 0)=0):DW ts en (g+1) acc s=DW ts en g (acc++[(Fp ts en s).1]) (Fp ts en s).2:=by
 rw [DW,if_pos ⟨h,h2⟩]
theorem QN {a a2:Option Addr} {c c2:Nat} {ds l:List D} {W:World} (hall:ts.all Ao=true) {n:Nat} (hp:D5 ts en=.inl ((ds,l),n)) (h1:LS 13 (XD W (2*ts.length+3)) W (zc a ds.length c) ds) (h2:LS 12 (XC W (2*ts.length+3)) W (zc a2 l.length c2) l):ZT W 61 (2*ts.length+3) (zg #[zc a ds.length c,zc a2 l.length c2]) ds l:=by
 obtain ⟨s1,g⟩:=Jw ts en hall (ds,l) n hp;exact ⟨a,c,a2,c2,rfl,h1.imp fun i d b f=>f.z (s1 d b),h2.imp fun i d b f=>f.z (g d b)⟩
end
theorem Gx:AX.size=49:=rfl
theorem Me:AZ AX=0:=by kernel_rfl
theorem Md:(An AX).length=22:=by kernel_rfl
theorem Mf:((An AX).all fun t=>decide (AK t.text.data.toList=0\/AK t.text.data.toList=1\/AK t.text.data.toList=5))=true:=by kernel_rfl
theorem Ki (s:Sg) (h:¬ AK (tl (An AX) s 0)=0):AK (tl (An AX) s 0)=1\/AK (tl (An AX) s 0)=5:=by
 have a:AK (tl (An AX) s 0)=0\/AK (tl (An AX) s 0)=1\/AK (tl (An AX) s 0)=5:=by
  unfold tl tx;split
  ·exact Or.inl (by decide)
  ·unfold Ag
   cases e:(An AX)[s.1+0]? with
   | none=>exact Or.inl (by decide)
   | some t=>exact of_decide_eq_true (List.all_eq_true.1 Mf t (List.mem_of_getElem? e))
 exact a.resolve_left h
theorem Je:DW (An AX) 49 ((An AX).length+2) [] (0,false)=(Cg,(11,false)):=by kernel_rfl
theorem Kh:AB (An AX) [109,97,105,110] (11,false)=(12,false):=by kernel_rfl
theorem Kg:AB (An AX) [123] (12,false)=(13,false):=by kernel_rfl
theorem FL:tl (An AX) (13,false) 0=[112,117,116]:=by kernel_rfl
theorem Kf:tl (An AX) (21,false) 0=[125]:=by kernel_rfl
theorem Ke (g:Nat):(EW (An AX) 49 (g+1) (13,false)).2=(21,false):=by
 show (FM (An AX) 49 _ (13,false)).2=_;unfold FM;rw [if_neg (by rw [FL];decide),if_pos FL]
 kernel_rfl
theorem Jf:E8 (An AX) (fun s=>BP (An AX) 49 (2*(An AX).length+3) [125] [] s) (12,false)=(Co,(22,false)):=by kernel_rfl
theorem Kc:D5 (An AX) 49=.inl ((Cg,Co),22):=by kernel_rfl
theorem M5:∀ d∈Cg,(gI 0 d=1/\gB 4 d=false)\/(gI 0 d=5/\gB 4 d=true):=fun d hd=>by
 unfold Cg at hd;simp only [List.mem_cons,List.not_mem_nil,or_false] at hd;rcases hd with rfl | rfl
 ·exact Or.inl ⟨(gDd ..).1,by simp [gDd]⟩
 ·exact Or.inr ⟨(gDd ..).1,by simp [gDd]⟩
theorem M4:∀ s∈Co,gI 0 s=4:=fun s hs=>by
 unfold Co at hs;simp only [List.mem_cons,List.not_mem_nil,or_false] at hs;rw [hs];exact (gSs ..).1
theorem Ix (w:World):Calls Tryz.prog 11 #[.string AX] w fun e w'=>Ov w w'/\∃ v,e=zh (zi #[v,I O 0,I O 0])/\ZT w' 61 (2*(An AX).length+3) v Cg Co:=by
 have hs:AX.size<=maxLen:=by rw [Gx];unfold maxLen;omega
 obtain ⟨s,bs⟩:=nm AX;rw [<-bs] at hs ⊢;have bc:=Aa bs;have e8:s.size<=9223372036854775807:=hs;obtain ⟨V,hV⟩:=nm (w.alloc (ze #[zc none 0 0,zc none 0 0] 25));obtain ⟨b0,a1⟩:=nm w.heap.size;have bp:Hx (Ov w V):=by show Ov _ _;rw [hV];exact bA _ _
 have cn:Hx (Bx b0 [zc none 0 0,zc none 0 0] V):=by show Bx _ _ _;rw [hV,a1];exact Bx.new w [zc none 0 0,zc none 0 0] 25
 have cy:=Aa a1;have KS:=Aa (Kp s hs V);clear bs hs;go_enter Tryz.func11,Tryz.ntmps11;go_wp2_with fail;rw [<-hV,<-a1];clear hV a1;refine KS.o.mono ?_;rintro e Z ⟨v,b,p,r,rfl,c,hb,cf⟩;have d8:Hx (Ov w Z):=Ac bp.o hb;have A:=Aa (cn.o.over hb);clear KS cn bp;obtain ⟨va,vn,vc,rfl⟩:=AP c;have h6:s.size<=6000:=by rw [bc.o,Gx];omega
 have he:AZ s=0:=by rw [bc.o];exact Me
 rw [if_pos h6] at cf;obtain ⟨ai,rfl,hr⟩:=cf;rw [he] at hr;subst hr;have al:Hx (b.all Ao=true):=by show _=_;rw [ai];exact Dn s h6
 have ch:b.length<=6000:=by rw [ai];exact Jl s h6
 have b3:=Aa (I8 c ch);have dh:=CY c;have d4:=Aa ai;obtain ⟨en,bw⟩:=nm s.size;have bf:Hx (en=49):=by show _=_;rw [bw,bc.o];rfl
 have F:Hx (b=An AX):=by show _=_;rw [ai,bc.o]
 subst dh;obtain ⟨tv,ay⟩:=nm (Value.slice va b.length vc);rw [<-ay] at b3;have ff:=Aa ay;obtain ⟨V2,aj⟩:=nm ((Z.alloc (ze #[zc va b.length vc,I O 0,I O (en:Int),zd false] 58)).alloc (ze #[zc none 0 0,zc none 0 0] 25));obtain ⟨rb,aa⟩:=nm Z.heap.size;obtain ⟨M,a0⟩:=nm (Z.heap.size+1);have b1:Below Z.heap.size Z V2:=by rw [aj];exact Ac (bA _ _) (bA _ _)
 have a:Hx (b0 < rb/\M=rb+1/\Z.heap.size<=rb):=⟨by rw [aa];exact A.o.lt,by rw [a0,aa],by rw [aa];exact Nat.le_refl _⟩;have B:Hx (RqT Z rb tv b en ((0,false):Sg) V2):=RqT.mk' b3.o a.o.2.2 (Nat.zero_le _) (by rw [aj,aa,ay];exact Cj (Gp Z _)) b1;replace A:=Aa (A.o.over b1);have HT:Hx (Bx M [zc none 0 0,zc none 0 0] V2):=by
  have h9:=Bx.new (Z.alloc (ze #[zc va b.length vc,I O 0,I O (en:Int),zd false] 58)) [zc none 0 0,zc none 0 0] 25;rw [alS] at h9;show Bx _ _ _;rw [aj,a0];exact h9
 obtain ⟨U,Q⟩:=nm (DW b en (b.length+2) [] (0,false));have cw:Hx (U=(Cg,(11,false))):=by show _=_;rw [Q,bf.o,F.o];exact Je
 have P:=Aa Q;obtain ⟨i0,hi,dg,df,de⟩:=info_parts Tryz.infoTD;clear c hb ai b1 Q ay b3
 go_upto_region 6 with fail
 rw [<-bw,<-aj,<-a0,<-aa];clear aj a0 aa bw;go_wp2_with fail;go_loopw [] (fun wr=>∃ (acc:List D) (s2:Sg) (g:Nat) (la:Option Addr) (k lc:Nat),k=acc.length/\RqT Z rb tv b en s2 wr/\Bx b0 [zc none 0 0,zc none 0 0] wr/\Bx M [zc la k lc,zc none 0 0] wr/\Cop (M+1) 51 13 (fun i cs W=>∀ x,acc[i]? = some x->XD W (2*b.length+3) cs x) k (zc la k lc) wr/\DW b en g acc s2=U/\(s2.2=true\/b.length - s2.1 < g)/\acc.length+bN s2.2<=s2.1+1) (fun wr=>mQ rb b.length wr)
 case atStart=>exact ⟨[],(0,false),b.length+2,none,0,0,rfl,B.o,A.o,HT.o,Cop.nil,P.o.symm,Or.inr (by omega),by simp [bN]⟩
 case round=>
  clear B A HT P;obtain ⟨acc,s2,g,la,k,lc,hk,hd,hx,ht,ci,cc,cg,cj⟩:=hrel;have d5:=Aa (Et b.length hd.st);have dw:s2.1<=b.length:=hd.st.2.1;have B:=Aa hd;have A:=Aa hx;have HT:=Aa ht;have f:=Aa ci;have P:=Aa cc;have HK:=Aa hk;have HF:Hx ((s2.2=true\/b.length - s2.1 < g)/\acc.length+bN s2.2<=s2.1+1/\acc.length<=6001):=⟨cg,cj,by omega⟩;clear hk hd hx ht ci cc cg cj dw;obtain ⟨bq,ar,rc2,ah,-,-⟩:=B.o.st.cells
  cases hfl:s2.2 with
  | true=>
   have HE:U=(acc,s2):=by rw [<-P.o];exact GV _ _ _ (Or.inl hfl)
   rw [cw.o] at HE;injection HE with e1 e2;rw [<-e2] at hfl;cases hfl
  | false=>
   rw [hfl] at ah;have b5:=Aa hfl;have KD:=Aa (Qr (rb:=rb) (tv:=tv) (en:=en) al.o (fun s h=>by rw [F.o] at h ⊢;exact Ki s h) s2 _ B.o.st hfl);clear hfl;go_wp2_with fail;clear bq ar rc2 ah;refine KD.o.mono ?_;rintro e w3 ⟨bu,br⟩;by_cases hk0:AK (tl b s2 0)=0
   ·obtain ⟨⟨kd,a9,x,y,gv,l0,l1,l2,p0,p1,p2,c0,c1,c2,e0,e1,e2,e3,q0,q1,q2,rfl⟩,J⟩:=bu hk0
    have HE:Hx (U=(acc,s2)):=by show _=_;rw [<-P.o];exact GV _ _ _ (Or.inr hk0)
    obtain ⟨W4,N⟩:=nm (w3.alloc (ze #[I O kd,I O a9,.string x,.string y,zd gv,zc l0 l1 l2,zc p0 p1 p2,zc c0 c1 c2,I O e0,I O e1,I O e2,.string e3,zc q0 q1 q2] 51));have E:Ov w3 W4:=by rw [N];exact bA _ _
    have G:=J.1;replace A:=Aa ((A.o.keep G (by have:=a.o;omega)).over E);replace HT:=Aa ((HT.o.keep G (by have:=a.o;omega)).over E);replace f:=Aa ((f.o.keep G (by have:=a.o;omega)).over E);replace B:=Aa ((B.o.call J).over E);clear G J E bu br KD hk0
    go_upto_region 10 with fail
    rw [<-N];clear N;have bz:acc=Cg/\s2=(11,false):=by
     have h9:=HE.o;rw [cw.o] at h9;injection h9 with e1 e2;exact ⟨e1.symm,e2.symm⟩
    have b6:=Aa bz.1;have dm:=bz.2;clear bz;subst dm;have KN:=Aa (BX ⟨#[109,97,105,110]⟩ [109,97,105,110] rfl (by decide) (11,false) _ B.o.st);rw [show AB b [109,97,105,110] (11,false)=(12,false) by rw [F.o];exact Kh] at KN;clear HE;go_wp2_with fail;refine KN.o.mono ?_;rintro e w5 ⟨rfl,J⟩;have G:=J.1;replace A:=Aa (A.o.keep G (by have:=a.o;omega));replace HT:=Aa (HT.o.keep G (by have:=a.o;omega));replace f:=Aa (f.o.keep G (by have:=a.o;omega));replace B:=Aa (B.o.call J);clear G J KN;have KL:=Aa (PK al.o (2*b.length+3) (by rw [F.o];exact FL) (by rw [F.o];exact Kf) (fun g=>by rw [F.o,bf.o];exact Ke g) (by rw [F.o];exact Kg) _ B.o.st (by omega));rw [show E8 b (fun s=>BP b en (2*b.length+3) [125] [] s) (12,false)=(Co,(22,false)) by rw [F.o,bf.o];exact Jf] at KL;obtain ⟨l,hl⟩:=nm Co;rw [<-hl] at KL;have b4:=Aa hl;clear hl;obtain ⟨z,hz⟩:=nm w5.heap.size;have co:Hx (M < z):=by show _ < _;rw [hz];exact HT.o.lt
    go_wp2_with fail;refine KL.o.mono ?_;rintro e w6 ⟨ma,mc,rfl,n,-,J⟩;dsimp only at n J;rw [<-hz] at n;obtain ⟨mk,az⟩:=nm l.length;rw [<-az] at n;try dsimp only
    rw [<-az];have G:=J.1;replace A:=Aa (A.o.keep G (by have:=a.o;omega));replace HT:=Aa (HT.o.keep G (by have:=a.o;omega));replace f:=Aa (f.o.keep G (by have:=a.o;omega));replace B:=Aa (B.o.call J);have bd:=Aa n;have cr:=Aa az;clear G J KL n az hz;have dl:=HT.o.row 0 _ rfl;have dk:=HT.o.row 1 _ rfl;have dt:=HT.o.fz 1;obtain ⟨S,C⟩:=nm (w6.setCell ⟨M,1,none⟩ (zc ma mk mc));replace HT:Hx (Bx M [zc la k lc,zc ma mk mc] S):=by show Bx _ _ _;rw [C];exact HT.o.set (j:=1) (by simp)
    replace A:Hx (Bx b0 [zc none 0 0,zc none 0 0] S):=by show Bx _ _ _;rw [C];exact A.o.far (by have:=a.o;omega)
    replace B:Hx (RqT Z rb tv b en (22,false) S):=by show RqT _ _ _ _ _ _ _;rw [C];exact B.o.set (by have:=a.o;omega) (by have:=a.o;omega)
    replace f:Hx (Cop (M+1) 51 13 (fun i cs W=>∀ x,acc[i]? = some x->XD W (2*b.length+3) cs x) k (zc la k lc) S):=by show Cop _ _ _ _ _ _ _;rw [C];exact f.o.set (Nat.lt_succ_self _)
    replace bd:Hx (Off z none S (fun W=>LS 12 (XC W (2*b.length+3)) W (zc ma mk mc) l)):=by show Off _ _ _ _;rw [C];exact bd.o.set co.o
    go_upto_region 12 with fail
    rw [<-C];clear dl dk dt C;obtain ⟨bq,ar,rc2,ah,-,-⟩:=B.o.st.cells;dsimp only at ar ah;have R:¬ 22 < b.length:=by rw [F.o,Md];omega
    have bj:¬ (22:Int) < (b.length:Int):=by omega
    have cd:D5 b en=.inl ((acc,l),22):=by rw [F.o,bf.o,b6.o,b4.o];exact Kc
    have T:Hx (Off (M+1) none S (fun W=>LS 13 (XD W (2*b.length+3)) W (zc la k lc) acc)):=by
     have hc:=f.o;rw [HK.o] at hc;obtain ⟨a9,c9,di,dn⟩:=Cop.ls hc (by decide) (by have Y:=HF.o;omega);injection di with v1 v2 v3;exact dn.imp fun W hW=>by rw [HK.o,v1,v3];exact hW
    have HZ:Hx (∀ W:World,(∀ i,M+1<=i->i < S.heap.size->W.heap[i]? = S.heap[i]?)->ZT W 61 (2*b.length+3) (zg #[zc la k lc,zc ma mk mc]) acc l):=fun W hW=>by
     have Y:=T.o W fun i Y h2 _=>hW i Y h2;have h2:=bd.o W fun i h3 h4 _=>hW i (by have:=co.o;omega) h4;rw [HK.o] at Y;rw [cr.o] at h2;rw [HK.o,cr.o];exact QN al.o cd Y h2
    have KC:Hx (∀ X,Ov S X->Ro 15 #[zg #[zc la k lc,zc ma mk mc]] X (I O 0)):=fun X hX=>by
     have hz:=(HZ.o S fun _ _ _=>rfl).over hX;rw [b6.o,b4.o] at hz;exact JX 61 (2*b.length+2) Cg Co _ X hz (by rw [F.o];exact Ei) M5 M4
    clear cd bd T f;have ag:=HT.o.row 0 _ rfl;have ca:=HT.o.row 1 _ rfl;generalize b.length=tl0 at bj R ⊢;go_wp2_with fail;refine (KC.o _ (Below.refl _ _)).mono ?_;rintro e w8 ⟨rfl,hb⟩;replace A:=Aa (A.o.over hb);replace HT:=Aa (HT.o.over hb);have cx:=Aa hb;have d7:Hx (Ov w w8):=Ac (Ac d8.o B.o.bel) hb;clear KC hb ag ca bq ar rc2 ah R bj;have x0:=A.o.row 0 _ rfl;have x1:=A.o.row 1 _ rfl;have z0:=A.o.fz 0;have z1:=A.o.fz 1;have ag:=HT.o.row 0 _ rfl;have ca:=HT.o.row 1 _ rfl;have es:b0≠M:=by have:=a.o;omega
    have er:M≠b0:=by have:=a.o;omega
    go_wp2_with fail;obtain ⟨V9,a4⟩:=nm ((w8.setCell ⟨b0,0,none⟩ (zc la k lc)).setCell ⟨b0,1,none⟩ (zc ma mk mc));have ck:Bx b0 [zc la k lc,zc ma mk mc] V9:=by rw [a4];exact (A.o.set (j:=0) (by simp)).set (j:=1) (by simp)
    have du:Ov w V9:=by rw [a4];exact ((d7.o).setCell (by have:=cy.o;simp;omega) _).setCell (by have:=cy.o;simp;omega) _
    rw [<-a4];have d0:=ck.row 0 _ rfl;have d1:=ck.row 1 _ rfl;refine bodyPost_ret (v:=zi #[zg #[zc la k lc,zc ma mk mc],I O 0,I O 0]) (by simp [results,Tryz.results11,go_sem,d0,d1]) rfl ⟨du,?_⟩;exact ⟨_,rfl,by
     have h9:=HZ.o V9 fun i Y h2=>by
      rw [a4,Below.heap_setCell _ _ _ _ (by show i≠b0;have:=a.o;omega),Below.heap_setCell _ _ _ _ (by show i≠b0;have:=a.o;omega)];exact cx.o.block i h2
     rw [d4.o,b6.o,b4.o] at h9;exact h9⟩
   ·obtain ⟨kd,a9,x,y,gv,l0,l1,l2,p0,p1,p2,c0,c1,c2,e0,e1,e2,e3,q0,q1,q2,rfl,n,R,J⟩:=br hk0
    obtain ⟨g,rfl⟩:∃ g',g=g' + 1:=⟨g - 1,by have Y:=HF.o.1;rw [b5.o] at Y;simp at Y;omega⟩;have hr:=P.o;rw [Ln _ _ _ b5.o hk0] at hr;obtain ⟨pd,ce⟩:=nm (Fp b en s2);rw [<-ce] at hr n R J;obtain ⟨d,s4⟩:=pd;dsimp only at hr n R J;replace P:=Aa hr;obtain ⟨W4,N⟩:=nm (w3.alloc (ze #[I O kd,I O a9,.string x,.string y,zd gv,zc l0 l1 l2,zc p0 p1 p2,zc c0 c1 c2,I O e0,I O e1,I O e2,.string e3,zc q0 q1 q2] 51));have E:Ov w3 W4:=by rw [N];exact bA _ _
    have cq:Hx (Bx w3.heap.size [I O kd,I O a9,.string x,.string y,zd gv,zc l0 l1 l2,zc p0 p1 p2,zc c0 c1 c2,I O e0,I O e1,I O e2,.string e3,zc q0 q1 q2] W4):=by show Bx _ _ _;rw [N];exact Bx.new w3 [I O kd,I O a9,.string x,.string y,zd gv,zc l0 l1 l2,zc p0 p1 p2,zc c0 c1 c2,I O e0,I O e1,I O e2,.string e3,zc q0 q1 q2] 51
    have G:=J.1;have bn:Hx (∀ q,(Value.slice la k lc).ownBlock=some q->q < wr.heap.size):=fun q G=>by
     obtain ⟨ys,Y,-⟩:=f.o;exact (AO Y G).2
    have d3:Hx (M+1<=wr.heap.size):=HT.o.lt;replace A:=Aa ((A.o.keep G (by have:=a.o;omega)).over E);replace HT:=Aa ((HT.o.keep G (by have:=a.o;omega)).over E);replace f:=Aa ((f.o.keep G (by have:=a.o;omega)).over E);replace B:=Aa ((B.o.call J).over E);have T:=Aa (n.over E);have ct:=Aa R;have d6:=Aa J.2.2;clear G J E bu br KD hk0 n R ce hr
    go_upto_region 9 with fail
    rw [<-N];clear N;obtain ⟨W5,ac⟩:=nm (W4.alloc (ze #[I O kd,I O a9,.string x,.string y,zd gv,zc l0 l1 l2,zc p0 p1 p2,zc c0 c1 c2,I O e0,I O e1,I O e2,.string e3,zc q0 q1 q2] 51));have ab:Ov W4 W5:=by rw [ac];exact bA _ _
    have cp:Hx (Af [I O kd,I O a9,.string x,.string y,zd gv,zc l0 l1 l2,zc p0 p1 p2,zc c0 c1 c2,I O e0,I O e1,I O e2,.string e3,zc q0 q1 q2] W5 W4.heap.size):=by show Af _ _ _;rw [ac];exact Ax W4 [I O kd,I O a9,.string x,.string y,zd gv,zc l0 l1 l2,zc p0 p1 p2,zc c0 c1 c2,I O e0,I O e1,I O e2,.string e3,zc q0 q1 q2] 51
    obtain ⟨n0,n1,n2,n3,n4,n5,n6,n7,n8,n9,dd,dc,db⟩:=AI cq.o.row;have ag:=HT.o.row 0 _ rfl;have b9:=HT.o.fz 0;replace A:=Aa (A.o.over ab);replace HT:=Aa (HT.o.over ab);replace f:=Aa (f.o.over ab);replace B:=Aa (B.o.over ab);replace T:=Aa (T.o.over ab);obtain ⟨xs,c,bi⟩:=f.o;have cl:M+1<=W5.heap.size:=HT.o.lt;have dr:k<=6001:=by have Y:=HF.o;have h2:=HK.o;omega
    have bo:=Aa bi;clear bi ab f cq;go_wp2_with (at_builtin;(try rw [<-ac]);refine wpList_append_own_at _ rfl _ _ 22 rfl (M+1) 51 i0 (zg #[I O 0,I O 0,.string ⟨#[]⟩,.string ⟨#[]⟩,zd false,zc none 0 0,zc none 0 0,zc none 0 0,I O 0,I O 0,I O 0,.string ⟨#[]⟩,zc none 0 0]) 13 192 Tryz.underlying22 hi dg df de rfl (by decide) _ _ _ rfl c ⟨W4.heap.size,0,none⟩ 1 1 [I O kd,I O a9,.string x,.string y,zd gv,zc l0 l1 l2,zc p0 p1 p2,zc c0 c1 c2,I O e0,I O e1,I O e2,.string e3,zc q0 q1 q2] rfl rfl (fun jj u hu=>by rw [Addr.add_lit,Nat.zero_add];exact cp.o jj u hu) (by simp [Value.oneCell']) (by unfold maxLen;omega) (by omega) cl ?_);intro v2 W6 K H _ a3;rw [<-ac] at H;have cb:W5.heap.size=W4.heap.size+1:=by rw [ac];simp
    replace a3:v2.ownBlock=(Value.slice la k lc).ownBlock\/v2.ownBlock=some W5.heap.size:=by rw [cb];simpa using a3
    have bk:Cop (M+1) 51 13 (fun i cs W=>∀ x,(acc++[d])[i]? = some x->XD W (2*b.length+3) cs x) (k+1) v2 W6:=Cop.add (B1:=wr.heap.size) c (fun i hi=>by
      obtain ⟨ds,z1,z2,z3⟩:=bo.o i hi;exact ⟨ds,z1,z2,z3.imp fun W hW x hx=>hW x (by rw [List.getElem?_append_left (by rw [<-HK.o];exact hi)] at hx;exact hx)⟩) rfl (T.o.imp fun W hW x hx=>by
       rw [List.getElem?_append_right (by rw [HK.o];exact Nat.le_refl _),HK.o,Nat.sub_self] at hx;injection hx with hx;rw [<-hx];exact hW) d3.o bn.o K H a3
    replace B:=Aa (B.o.row c (by have:=a.o;omega) H);replace A:=Aa (A.o.grown H (fun e=>by have Y:=(AO c e.symm).1;have h2:=a.o;omega));replace HT:=Aa (HT.o.grown H (fun e=>by have Y:=(AO c e.symm).1;omega));obtain ⟨aq,em,ap,dj⟩:=AP K;subst dj;obtain rfl:=CY K;have ak:=Aa bk;clear bk c K H a3 cl cb ac ag b9 n0 n1 n2 n3 n4 n5 n6 n7 n8 n9 dd dc db bo bn dr T cp;have ag:=HT.o.row 0 _ rfl;have b9:=HT.o.fz 0;obtain ⟨S,C⟩:=nm (W6.setCell ⟨M,0,none⟩ (zc aq (k+1) ap));replace HT:Hx (Bx M [zc aq (k+1) ap,zc none 0 0] S):=by show Bx _ _ _;rw [C];exact HT.o.set (j:=0) (by simp)
    replace A:Hx (Bx b0 [zc none 0 0,zc none 0 0] S):=by show Bx _ _ _;rw [C];exact A.o.far (by have:=a.o;omega)
    replace B:Hx (RqT Z rb tv b en s4 S):=by show RqT _ _ _ _ _ _ _;rw [C];exact B.o.set (by have:=a.o;omega) (by have:=a.o;omega)
    replace ak:Hx (Cop (M+1) 51 13 (fun i cs W=>∀ x,(acc++[d])[i]? = some x->XD W (2*b.length+3) cs x) (k+1) (zc aq (k+1) ap) S):=by show Cop _ _ _ _ _ _ _;rw [C];exact ak.o.set (Nat.lt_succ_self _)
    go_wp2_with fail;rw [<-C];have dp:=Et b.length B.o.st;have bv:=IT (L:=b.length) (k:=acc.length) (g:=g) (s:=s2) (s4:=s4) HF.o.1 b5.o HF.o.2.1 d6.o ct.o B.o.st.2.1;exact ⟨⟨acc++[d],s4,g,aq,k+1,ap,by rw [List.length_append,HK.o];rfl,B.o,A.o,HT.o,ak.o,P.o,bv.1,by rw [List.length_append];exact bv.2.1⟩,by rw [dp,d5.o];exact bv.2.2⟩
end Go.Proofs.YtipngnjffjajpaaGreatDoor.Tx
