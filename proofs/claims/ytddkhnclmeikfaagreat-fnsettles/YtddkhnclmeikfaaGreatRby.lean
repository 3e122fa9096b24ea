import Derived.Test.YtddkhnclmeikfaaGreatBy
import Derived.Carry
import Derived.ChangeSlices
import Derived.OpenShut
import Derived.ProofKit
set_option maxRecDepth 100000
set_option maxHeartbeats 4000000
namespace Go.Proofs.YtddkhnclmeikfaaGreat
open Go.RowKit
attribute [local go_sem ↓] Go.wp_at_zero Go.wp_at_succ
variable{B g kr kc kg:Nat}{w:World}{ar ac ag:Option Addr}
def HV(w:World)(x:Hp)(ar:Option Addr)(kr:Nat)(ac:Option Addr)(kc:Nat)(ag:Option Addr)(kg:Nat):Prop:=HRd w x ar kr ac kc ag kg/\a2k w x ac
theorem GAt.hv[Inhabited uZ]{x:Hp}{br bc:Nat}{pb:Nat->Nat}{pa:Nat->Option Addr}{pk:Nat->Nat}{role:Nat->Nat}(hg:GAt B w g x ar kr ac kc (.slice ag x.gray.length kg) br bc pb pa pk role)(s:Snd x):HV w x ar kr ac kc ag kg:=by
 refine⟨hg.rd (by rw[s.r1.regs];omega) (by have:=s.ok.n8;omega) (λq hq=>s.ok.p200 q hq) (by have:=s.r1.gray;have:=s.ok.n8;omega),λi hi bc2 oc ad l c ha hc=>.inl ?_⟩;have hn:0<x.cells.length:=by omega
 rw[hg.hc hn] at ha;simp only [Option.some.injEq,Addr.mk.injEq] at ha;obtain⟨rfl,rfl,_⟩:=ha;rw[Nat.zero_add,hg.rw.p7 i hi] at hc;simp only [Option.some.injEq,Value.slice.injEq] at hc;obtain⟨_,rfl,rfl⟩:=hc;exact hg.rw.kp i hi
theorem Bd.hv{v:World}{b c m:Nat}(h:Bd B v w b c g m):∃(x:Hp) (ar:Option Addr) (kr:Nat) (ac:Option Addr) (kc:Nat) (ag:Option Addr) (kg:Nat),Hid (Snd x)/\dY w g x (.slice ar x.regs.length kr) (.slice ac x.cells.length kc) (.slice ag x.gray.length kg)/\Hid (∀W,uX (λq=>q<B) w W->HV W x ar kr ac kc ag kg)/\v.heap.size<=B/\B<=g:=by
 obtain⟨x,L,va,lf,h⟩:=h;have s:=h.s;obtain⟨z,_,ar,kr,ac,kc,vg,br,bc,pb,pa,pk,role,hg⟩:=h.gg;obtain⟨bx,nf,lo,ha,hc,rs,gr,sp,kl,pr,cc⟩:=hg
 letI:Inhabited uZ:=⟨⟨λ_=>none⟩⟩
 obtain⟨ag,kg,hvg⟩:∃a k,vg=.slice a x.gray.length k:=gr.form;subst hvg;have hg:GAt B w g x ar kr ac kc (.slice ag x.gray.length kg) br bc pb pa pk role:=⟨bx,nf,lo,ha,hc,rs,gr,sp,kl,(λq o hq=>by cases hq),cc⟩;exact⟨x,ar,kr,ac,kc,ag,kg,s,bx,λW o=>(GAt.low (λ_=>rfl) hg o (λq e=>e)).hv s,h.vB,lo⟩
theorem c6s(w:World)(u:Value)(h:ByAt w u):
  Calls Tryz.prog 23 #[u] w λe w'=>∃(x:Hp) (ar:Option Addr) (kr:Nat) (ac:Option Addr) (kc:Nat) (ag:Option Addr) (kg:Nat),Hid (e=.returned (x.v (.slice ar x.regs.length kr) (.slice ac x.cells.length kc) (.slice ag x.gray.length kg)))/\Hid (Snd x)/\Hid (HV w' x ar kr ac kc ag kg)/\Ext w w':=by
 obtain⟨ad,n,k,rfl,hn,hx⟩:=h;obtain⟨v,hv⟩:∃v,v=w.alloc (.cells #[iv 0,iv 0,iv 0,.slice none 0 0,.slice none 0 0,iv 0,iv 0,iv 0,.slice none 0 0,iv 0,iv 0,iv 0,iv 0] 34):=⟨_,rfl⟩;have xv:Ext w v:=by rw[hv];exact(Ext.refl w).alloc _
 have sv:v.heap.size=w.heap.size+1:=by rw[hv];simp [go_sem]
 have CU:=uU (show Cu v (v.alloc (.cells #[.slice ad n k,iv 0,.int .u64 0] 79)) v.heap.size 0 from⟨(Ext.refl v).alloc _,Nat.le_refl _,⟨by simp [go_sem],λj=>by simp [go_sem]⟩,ad,n,k,0,0,by simp [go_sem],by simp [go_sem],by simp [go_sem],by omega,by omega,hn,λi hi=>let ⟨b,o,z,e,c,r⟩:=hx i hi;⟨b,o,z,e,xv.keep c,r⟩⟩);have Q:=uU (c6r v _ v.heap.size 0 CU (by omega))
 have RC:=uU (show(∀o,o<13->∃u,v.cell? ⟨w.heap.size,o,none⟩=some u)/\∀o,v.frozen? ⟨w.heap.size,o,none⟩=false from⟨λo ho=>by
  rw[hv]
  match o,ho with
  | 0,_ | 1,_ | 2,_ | 3,_ | 4,_ | 5,_ | 6,_ | 7,_ | 8,_ | 9,_ | 10,_ | 11,_ | 12,_=>exact⟨_,by simp [go_sem];rfl⟩,λo=>by rw[hv];simp [go_sem]⟩)
 clear CU hx;go_enter Tryz.func23,Tryz.ntmps23;go_wp2_with fail;rw[<-hv,<-sv];refine Q.mono ?_;rintro e w3 ⟨b,g,B,m,he,bd,_⟩;have e2:=uH he;subst e2;obtain⟨x,ar,kr,ac,kc,ag,kg,S,bx,HR,vB,Bg⟩:=bd.hv;have X3:=bd.cu.1;obtain⟨d0,d1,d2,d3,d4,d5,d6,d7,d8,d9,d10,d11,d12⟩:=bx;have hg3:g<w3.heap.size:=uL d0;obtain⟨r,hr⟩:∃r,r=w.heap.size:=⟨_,rfl⟩;have rB:r<B:=by omega
 have XW:=uU (xv.trans X3);have RF:=uU (show ∀o,w3.frozen? ⟨r,o,none⟩=false from λo=>by rw[(dH X3).2 r o (by omega),hr];exact RC.2 o);have RV:=uU (λo (ho:o<13)=>show ∃u,w3.cell? ⟨r,o,none⟩=some u from let ⟨u,hu⟩:=RC.1 o ho;⟨u,by rw[hr];exact X3.keep hu⟩);have ng:¬g=r:=by omega
 have ng2:¬r=g:=by omega
 have hr3:r<w3.heap.size:=by have:=X3.size;omega
 obtain⟨u0,r0⟩:=RV 0 (by omega);obtain⟨u1,r1⟩:=uH RV 1 (by omega);obtain⟨u2,r2⟩:=uH RV 2 (by omega);obtain⟨u3,r3⟩:=uH RV 3 (by omega);obtain⟨u4,r4⟩:=uH RV 4 (by omega);obtain⟨u5,r5⟩:=uH RV 5 (by omega);obtain⟨u6,r6⟩:=uH RV 6 (by omega);obtain⟨u7,r7⟩:=uH RV 7 (by omega);obtain⟨u8,r8⟩:=uH RV 8 (by omega);obtain⟨u9,r9⟩:=uH RV 9 (by omega);obtain⟨u10,r10⟩:=uH RV 10 (by omega);obtain⟨u11,r11⟩:=uH RV 11 (by omega);obtain⟨u12,r12⟩:=uH RV 12 (by omega);have f0:=uH RF 0;have f1:=uH RF 1;have f2:=uH RF 2;have f3:=uH RF 3;have f4:=uH RF 4;have f5:=uH RF 5;have f6:=uH RF 6;have f7:=uH RF 7;have f8:=uH RF 8;have f9:=uH RF 9;have f10:=uH RF 10;have f11:=uH RF 11;have f12:=uH RF 12;rw[<-hr];have HRr:=uU hr;clear hr hv sv xv X3 RC Q he bd;go_wp2_with fail;refine bodyPost_ret (v:=x.v (.slice ar x.regs.length kr) (.slice ac x.cells.length kc) (.slice ag x.gray.length kg)) (by simp [results,Tryz.results23,go_sem,r0,r1,r2,r3,r4,r5,r6,r7,r8,r9,r10,r11,r12]) rfl ⟨x,ar,kr,ac,kc,ag,kg,rfl,S,?_⟩;refine(λ(F:uX (λq=>q=r) w3 _)=>⟨uH HR _ (F.mono λq e=>by omega),F.ext XW (λq hq e=>by have:=uH HRr;omega)⟩) ?_
 repeat (first | (with_reducible refine uX.setCell ?_ (by simp) _) | (with_reducible exact uX.refl _ _))
theorem c0o(xs:List Wd)(v v':Value)(w:World)(h:SlW w v xs)(h':SlW w v' xs):
  Calls Tryz.prog 63 #[v,v'] w λe w'=>e=.returned (.bool true)/\Ext w w':=by
 obtain⟨ad,cap,rfl,hl,hx⟩:=h;obtain⟨ad',cap',rfl,_,hx'⟩:=h';have HX:=uU hx;have HY:=uU hx';clear hx hx';go_enter Tryz.func63,Tryz.ntmps63;go_wp2_with fail;go_loopw [5,13] (λ_i i wr=>∃k:Nat,k<=xs.length/\i=.int .i64 k/\Ext w wr) (λ_ i _=>xs.length-(intOf i).toNat)
 case atStart=>exact⟨0,Nat.zero_le _,rfl,Ext.refl _⟩
 case round=>
  obtain⟨k,hk,rfl,hbl⟩:=hrel;by_cases hlt:k<xs.length
  ·obtain⟨b,o,rfl,p0,p1,p2⟩:=uH HX k hlt;obtain⟨b',o',rfl,q0,q1,q2⟩:=uH HY k hlt;have e0:=hbl.keep p0;have g0:=hbl.keep q0;have e1:=hbl.keep p1;have g1:=hbl.keep q1;have e2:=hbl.keep p2;have g2:=hbl.keep q2;clear p0 q0 p1 q1 p2 q2;have hb:b<wr.heap.size:=uL e0;have hb':b'<wr.heap.size:=uL g0;have hk0:(0:Int)<=(k:Int):=by omega
   have hk1:(k:Int)<(xs.length:Int):=by omega
   obtain⟨y,hy⟩:∃y,y=xs[k]:=⟨_,rfl⟩;rw[<-hy] at e0 g0 e1 g1 e2 g2;clear hy;go_wp2_with fail
   go_region
   go_wp2_with fail;go_roundw
   ·exact⟨k+1,by omega,by go_num,hbl.drew⟩
   ·simp [intOf];omega
  ·go_wp2_with fail;go_ret;exact⟨rfl,hbl⟩
theorem c0p(xs:List Pr)(v v':Value)(w:World)(h:SlP w v xs)(h':SlP w v' xs):
  Calls Tryz.prog 64 #[v,v'] w λe w'=>e=.returned (.bool true)/\Ext w w':=by
 obtain⟨ad,cap,rfl,hl,hx⟩:=h;obtain⟨ad',cap',rfl,_,hx'⟩:=h';have HX:=uU hx;have HY:=uU hx';clear hx hx';go_enter Tryz.func64,Tryz.ntmps64;go_wp2_with fail;go_loopw [5,13] (λ_i i wr=>∃k:Nat,k<=xs.length/\i=.int .i64 k/\Ext w wr) (λ_ i _=>xs.length-(intOf i).toNat)
 case atStart=>exact⟨0,Nat.zero_le _,rfl,Ext.refl _⟩
 case round=>
  obtain⟨k,hk,rfl,hbl⟩:=hrel;by_cases hlt:k<xs.length
  ·obtain⟨b,o,rfl,p0,p1,p2,p3,p4,p5⟩:=uH HX k hlt;obtain⟨b',o',rfl,q0,q1,q2,q3,q4,q5⟩:=uH HY k hlt;have e0:=hbl.keep p0;have g0:=hbl.keep q0;have e1:=hbl.keep p1;have g1:=hbl.keep q1;have e2:=hbl.keep p2;have g2:=hbl.keep q2;have e3:=hbl.keep p3;have g3:=hbl.keep q3;have e4:=hbl.keep p4;have g4:=hbl.keep q4;have e5:=hbl.keep p5;have g5:=hbl.keep q5;clear p0 q0 p1 q1 p2 q2 p3 q3 p4 q4 p5 q5;have hb:b<wr.heap.size:=uL e0;have hb':b'<wr.heap.size:=uL g0;have hk0:(0:Int)<=(k:Int):=by omega
   have hk1:(k:Int)<(xs.length:Int):=by omega
   obtain⟨y,hy⟩:∃y,y=xs[k]:=⟨_,rfl⟩;rw[<-hy] at e0 g0 e1 g1 e2 g2 e3 g3 e4 g4 e5 g5;clear hy;go_wp2_with fail
   go_region
   go_wp2_with fail;go_roundw
   ·exact⟨k+1,by omega,by go_num,hbl.drew⟩
   ·simp [intOf];omega
  ·go_wp2_with fail;go_ret;exact⟨rfl,hbl⟩
theorem c2q(xs:List Int)(v v':Value)(w:World)(h:SlI w v xs)(h':SlI w v' xs):
  Calls Tryz.prog 46 #[v,v'] w λe w'=>e=.returned (.bool true)/\Ext w w':=by
 obtain⟨ad,cap,rfl,hl,hx⟩:=h;obtain⟨ad',cap',rfl,_,hx'⟩:=h';have HX:=uU hx;have HY:=uU hx';clear hx hx';go_enter Tryz.func46,Tryz.ntmps46;go_wp2_with fail;go_loopw [5,13] (λ_i i wr=>∃k:Nat,k<=xs.length/\i=.int .i64 k/\Ext w wr) (λ_ i _=>xs.length-(intOf i).toNat)
 case atStart=>exact⟨0,Nat.zero_le _,rfl,Ext.refl _⟩
 case round=>
  obtain⟨k,hk,rfl,hbl⟩:=hrel;by_cases hlt:k<xs.length
  ·obtain⟨b,o,rfl,p0⟩:=uH HX k hlt;obtain⟨b',o',rfl,q0⟩:=uH HY k hlt;have e0:=hbl.keep p0;have g0:=hbl.keep q0;clear p0 q0;simp only [Nat.mul_one] at e0 g0;have hb:b<wr.heap.size:=uL e0;have hb':b'<wr.heap.size:=uL g0;have hk0:(0:Int)<=(k:Int):=by omega
   have hk1:(k:Int)<(xs.length:Int):=by omega
   obtain⟨y,hy⟩:∃y,y=xs[k]:=⟨_,rfl⟩;rw[<-hy] at e0 g0;clear hy;go_wp2_with fail
   go_region
   go_wp2_with fail;go_roundw
   ·exact⟨k+1,by omega,by go_num,hbl.drew⟩
   ·simp [intOf];omega
  ·go_wp2_with fail;go_ret;exact⟨rfl,hbl⟩
theorem c2r(x:Hp)(w:World){ar' ac' ag':Option Addr}{kr' kc' kg':Nat}(h:HRd w x ar kr ac kc ag kg)(h':HRd w x ar' kr' ac' kc' ag' kg'):
  Calls Tryz.prog 34 #[x.v (.slice ar x.regs.length kr) (.slice ac x.cells.length kc) (.slice ag x.gray.length kg),x.v (.slice ar' x.regs.length kr') (.slice ac' x.cells.length kc') (.slice ag' x.gray.length kg')] w λe w'=>e=.returned (.bool true)/\Ext w w':=by
 obtain⟨W,hW⟩:∃W,W=(w.alloc (.cells #[iv x.room,iv x.used,iv x.born,.slice ar x.regs.length kr,.slice ac x.cells.length kc,iv x.phase,iv x.hand,iv x.sub,.slice ag x.gray.length kg,iv x.per,iv x.start,iv x.rounds,iv x.forced] 34)).alloc (.cells #[iv x.room,iv x.used,iv x.born,.slice ar' x.regs.length kr',.slice ac' x.cells.length kc',iv x.phase,iv x.hand,iv x.sub,.slice ag' x.gray.length kg',iv x.per,iv x.start,iv x.rounds,iv x.forced] 34):=⟨_,rfl⟩;have xW:Ext w W:=by rw[hW];exact((Ext.refl w).alloc _).alloc _
 have B1:=uU (dY.new w x (.slice ar x.regs.length kr) (.slice ac x.cells.length kc) (.slice ag x.gray.length kg) 34);have B2:=uU (dY.new (w.alloc (.cells #[iv x.room,iv x.used,iv x.born,.slice ar x.regs.length kr,.slice ac x.cells.length kc,iv x.phase,iv x.hand,iv x.sub,.slice ag x.gray.length kg,iv x.per,iv x.start,iv x.rounds,iv x.forced] 34)) x (.slice ar' x.regs.length kr') (.slice ac' x.cells.length kc') (.slice ag' x.gray.length kg') 34);have B1:=uU (B1.ext ((Ext.refl _).alloc (.cells #[iv x.room,iv x.used,iv x.born,.slice ar' x.regs.length kr',.slice ac' x.cells.length kc',iv x.phase,iv x.hand,iv x.sub,.slice ag' x.gray.length kg',iv x.per,iv x.start,iv x.rounds,iv x.forced] 34)));have e1:(w.alloc (.cells #[iv x.room,iv x.used,iv x.born,.slice ar x.regs.length kr,.slice ac x.cells.length kc,iv x.phase,iv x.hand,iv x.sub,.slice ag x.gray.length kg,iv x.per,iv x.start,iv x.rounds,iv x.forced] 34)).heap.size=w.heap.size+1:=by simp [go_sem]
 rw[<-hW] at B1 B2;rw[e1] at B2;have H1:=uU (h.ext xW);have H2:=uU (h'.ext xW);obtain⟨p,hp⟩:∃p,p=w.heap.size:=⟨_,rfl⟩;clear h h' e1;go_enter Tryz.func34,Tryz.ntmps34
 go_upto_region 1 with(fail)
 rw[<-hW,<-hp];rw[<-hp] at B1 B2;obtain⟨c0,c1,c2,c3,c4,c5,c6,c7,c8,c9,c10,c11,c12⟩:=uH B1;obtain⟨d0,d1,d2,d3,d4,d5,d6,d7,d8,d9,d10,d11,d12⟩:=uH B2;have hp1:p<W.heap.size:=uL c0;have hp2:p+1<W.heap.size:=uL d0;have XW:=uU xW;clear hW hp xW;go_wp2_with fail;refine(c0o x.regs _ _ _ H1.1 H2.1).mono ?_;rintro e w1 ⟨rfl,x1⟩;have B1:=uU (B1.ext x1);have B2:=uU (B2.ext x1);have H1:=uU (H1.ext x1);have H2:=uU (H2.ext x1);have XW:=uU (XW.trans x1);clear c0 c1 c2 c3 c4 c5 c6 c7 c8 c9 c10 c11 c12 d0 d1 d2 d3 d4 d5 d6 d7 d8 d9 d10 d11 d12 x1 hp1 hp2;obtain⟨c0,c1,c2,c3,c4,c5,c6,c7,c8,c9,c10,c11,c12⟩:=uH B1;obtain⟨d0,d1,d2,d3,d4,d5,d6,d7,d8,d9,d10,d11,d12⟩:=uH B2;have hp1:p<w1.heap.size:=uL c0;have hp2:p+1<w1.heap.size:=uL d0;go_wp2_with fail;go_loopw [5,6,7,47] (λ_a _b _c i wr=>∃k:Nat,k<=x.cells.length/\i=.int .i64 k/\Ext w1 wr) (λ_ _ _ i _=>x.cells.length-(intOf i).toNat)
 case atStart=>exact⟨0,Nat.zero_le _,rfl,Ext.refl _⟩
 case round=>
  obtain⟨k,hk,rfl,hbl⟩:=hrel;have B3:=uU (B1.ext hbl);have B4:=uU (B2.ext hbl);clear c0 c1 c2 c3 c4 c5 c6 c7 c8 c9 c10 c11 c12 d0 d1 d2 d3 d4 d5 d6 d7 d8 d9 d10 d11 d12 hp1 hp2;obtain⟨c0,c1,c2,c3,c4,c5,c6,c7,c8,c9,c10,c11,c12⟩:=uH B3;obtain⟨d0,d1,d2,d3,d4,d5,d6,d7,d8,d9,d10,d11,d12⟩:=uH B4;have hp1:p<wr.heap.size:=uL c0;have hp2:p+1<wr.heap.size:=uL d0;by_cases hlt:k<x.cells.length
  ·obtain⟨_,_,ea,_,hx⟩:=H1.2.1;obtain⟨_,_,eb,_,hy⟩:=H2.2.1;obtain⟨b,o,rfl,vp,p0,p1,p2,p3,p4,p5,p6,p7,hP⟩:=hx k hlt;obtain⟨b',o',rfl,vq,q0,q1,q2,q3,q4,q5,q6,q7,hQ⟩:=hy k hlt;cases ea;cases eb;obtain⟨ap,kp,rfl,hl1⟩:=hP;obtain⟨aq,kq,rfl,hl2⟩:=hQ;have hP:SlP w1 (.slice ap (x.cells[k]).prs.length kp) (x.cells[k]).prs:=⟨ap,kp,rfl,hl1⟩;have hQ:SlP w1 (.slice aq (x.cells[k]).prs.length kq) (x.cells[k]).prs:=⟨aq,kq,rfl,hl2⟩;clear hl1 hl2;have e0:=hbl.keep p0;have e1:=hbl.keep p1;have e2:=hbl.keep p2;have e3:=hbl.keep p3;have e4:=hbl.keep p4;have e5:=hbl.keep p5;have e6:=hbl.keep p6;have e7:=hbl.keep p7;have f0:=hbl.keep q0;have f1:=hbl.keep q1;have f2:=hbl.keep q2;have f3:=hbl.keep q3;have f4:=hbl.keep q4;have f5:=hbl.keep q5;have f6:=hbl.keep q6;have f7:=hbl.keep q7;have HP:=uU (SlP.ext hbl hP);have HQ:=uU (SlP.ext hbl hQ);have hb:b<wr.heap.size:=uL e0;have hb':b'<wr.heap.size:=uL f0;clear p0 p1 p2 p3 p4 p5 p6 p7 q0 q1 q2 q3 q4 q5 q6 q7 hx hy hP hQ;have hk0:(0:Int)<=(k:Int):=by omega
   have hk1:(k:Int)<(x.cells.length:Int):=by omega
   obtain⟨y,hy⟩:∃y,y=x.cells[k]:=⟨_,rfl⟩;rw[<-hy] at e0 e1 e2 e3 e4 e5 e6 e7 f0 f1 f2 f3 f4 f5 f6 f7 HP HQ;clear hy;go_wp2_with fail;refine(c0p y.prs _ _ _ (SlP.ext (((Ext.refl wr).alloc _).alloc _) HP) (SlP.ext (((Ext.refl wr).alloc _).alloc _) HQ)).mono ?_;rintro e w3 ⟨rfl,x3⟩;have X3:=uU (hbl.trans (Ext.trans (((Ext.refl wr).alloc _).alloc _) x3));clear x3;go_wp2_with fail;go_roundw
   ·exact⟨k+1,by omega,by go_num,X3⟩
   ·simp [intOf];omega
  ·go_wp2_with fail;refine(c2q x.gray _ _ _ (SlI.ext hbl H1.2.2) (SlI.ext hbl H2.2.2)).mono ?_;rintro e w3 ⟨rfl,x3⟩;have B5:=uU (B3.ext x3);have B6:=uU (B4.ext x3);have X3:=uU ((XW.trans hbl).trans x3);clear c0 c1 c2 c3 c4 c5 c6 c7 c8 c9 c10 c11 c12 d0 d1 d2 d3 d4 d5 d6 d7 d8 d9 d10 d11 d12 hp1 hp2 x3;obtain⟨c0,c1,c2,c3,c4,c5,c6,c7,c8,c9,c10,c11,c12⟩:=uH B5;obtain⟨d0,d1,d2,d3,d4,d5,d6,d7,d8,d9,d10,d11,d12⟩:=uH B6;have hp1:p<w3.heap.size:=uL c0;have hp2:p+1<w3.heap.size:=uL d0;go_wp2_with fail;go_ret;exact⟨rfl,X3⟩
end Go.Proofs.YtddkhnclmeikfaaGreat
namespace Go.Proofs.YtddkhnclmeikfaaGreat
open Go.ChangeShapes Go.WideShapes Go.ChangeAt Go.RowKit
attribute [local go_sem ↓] Go.wp_at_zero Go.wp_at_succ
def ByL(w:World)(v:Value):Prop:=∃(ad:Option Addr) (n k:Nat),v=.slice ad n k/\n<=9223372036854775807/\∀i,i<n->∃b o z,ad=some ⟨b,o,none⟩/\w.cell? ⟨b,o+i,none⟩=some (.int .u8 z)/\0<=z/\z<256
theorem cells5:Tryz.prog.cellsOf 5=1:=by kernel_rfl
theorem d0k{H:Type}{enc:TypeId×Value->H}{w:World}{base:Nat}{r:Reach}{b0:Nat}{held:Bool}{v:Value}{d:DataW H}{p:List MemPlace}(hok:Value.okWide Tryz.prog w r b0 22 v)(h:DataW.Trod enc Tryz.prog w base (λ_=>true) held 22 v d p):ByL w v:=by
 obtain⟨ad,len,cap,rfl⟩:=okWide_slice Tryz.underlying22 hok;obtain⟨fuel,ht⟩:=h;rcases open_ints Tryz.underlying22 Tryz.underlying5 cells5 ht with⟨hcs,_⟩ | ⟨a,len',cap',zs,hcs,_,hl,hm,hz,_,hcell,hwz⟩
 ·have e:Value.slice ad len cap=.slice none 0 0:=by simpa [Value.cells] using hcs
  cases e;exact⟨none,0,0,rfl,by omega,λi hi=>by omega⟩
 ·have e:Value.slice ad len cap=.slice (some a) len' cap':=by simpa [Value.cells] using hcs
  cases e;simp only [if_true] at hz;refine⟨some a,len,cap,rfl,by unfold maxLen at hm;omega,λi hi=>?_⟩;have hc:=hcell i (by omega);obtain⟨b,o,spot⟩:=a
  have hspot:spot=none:=by
   have h0:=hcell 0 (by omega)
   simpa [Addr.add] using World.cell?_spot h0
  subst hspot;rw[b7s] at hc;obtain⟨z,hz2⟩:∃z,z=zs.getD i 0:=⟨_,rfl⟩
  have hw:=hwz z (by
   have:zs.getD i 0=zs[i]'(by omega):=by simp [show i<zs.length by omega]
   rw[hz2,this];exact List.getElem_mem _)
  rw[<-hz2] at hc;refine⟨b,o,z,rfl,hc,?_⟩;have hw:IntKind.u8.min<=z/\z<=IntKind.u8.max:=by simpa [Lit.wf] using hw
  have e1:IntKind.u8.min=0:=by decide
  have e2:IntKind.u8.max=255:=by decide
  omega
end Go.Proofs.YtddkhnclmeikfaaGreat
