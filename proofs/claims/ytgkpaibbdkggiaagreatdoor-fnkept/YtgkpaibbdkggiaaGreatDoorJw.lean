import Derived.Test.YtgkpaibbdkggiaaGreatDoorSpecA4
import Derived.Test.YtgkpaibbdkggiaaGreatDoorDn3
import Derived.Test.YtgkpaibbdkggiaaGreatDoorJd
set_option maxRecDepth 100000
set_option maxHeartbeats 8000000
namespace Go.Proofs.YtgkpaibbdkggiaaGreatDoor
open Go.RowKit Go.Proofs.Tryz
attribute [local go_sem ↓] Go.wp_at_zero Go.wp_at_succ
variable{x y z:Hp}{B b kr C a c br bd f p bn kn kc kg g i cb co kp k bp:Nat}{w:World}{n op cd nm:Int}{ar ac ag:Option Addr}{rv:Value}
def c0d(c:Cl):Bool:=(c.kind == 0) && (c.T == 0) && (c.U == 0) && (c.born == 0) && (c.J == 0) && ((c.F.length:Int) == 0)
theorem b1h{c:Cl}:c0d c=true↔a5d c:=by simp[c0d,a5d,and_assoc]
def a9r(x:Hp)(c:Cl):Bool:=qL c.kind 0 255 && qL c.T 0 3 && qL c.U 0 3 && qL c.born 1 x.born && qL c.J 0 2 && !(c.to != 0) && !decide ((c.F.length:Int) > 200)
theorem c0e{c:Cl}:a9r x c=true↔a2m x c:=by
 simp[a9r,a2m,qL,and_assoc];omega
def movB(x:Hp)(k:Nat):Bool:=c0d (x.c k) && !decide (x.E<4) && !decide ((x.c k).to<0) && !decide ((x.c k).to≥(k:Int)) && a6j x (x.c k).to.toNat
theorem c0f(x:Hp)(b:Nat)(w:World)(h:HAt w b x ar kr ac kc ag kg):
  Calls prog 59 #[.pointer (some ⟨b,0,none⟩)] w λe w'=>∃r:Bool,e=.returned (.bool r)/\(r=true↔R2 x)/\Ext w w':=by
 have c4:=h.c4;have lc:=h.lc;go_enter func59,ntmps59;go_wp21;go_loopw [12] (λi wr=>∃k:Nat,k<=x.A.length/\i=.int .i64 k/\Hid (∀j,j<k->cQ x j)/\Ext w wr) (λi _=>x.A.length-(intOf i).toNat)
 case atStart=>exact⟨0,kB _,rfl,λj h=>by omega,hO _⟩
 case round=>
 obtain⟨k,hk,rfl,HA,A⟩:=hrel;by_cases t:k<x.A.length;rotate_left
 ·go_wp21;refine(c0c x b _ (h.ext A)).mono ?_;rintro e w1 ⟨r,rfl,hr,q⟩;have R:=uU hr;clear hr;go_wp2;go_ret;exact⟨r,rfl,⟨λf=>⟨λj hj=>uH HA j (by omega),R.1 f⟩,λf=>R.2 f.2⟩,A.trans q⟩
 have y:=h.ext A;obtain⟨b',o,F,C,rfl,p0,p1,p2,p3,p4,p5,p6,p7,lp,P⟩:=y.cell k t;clear P;have e2:=y.c2;have e5:=y.c5;have al:=cLt p0;have D:=cLt e5;have aj:=i0N k;have ae:(k:Int)<(x.A.length:Int):=by omega
 obtain⟨V,hV⟩:=obE (wr.alloc (oCl (x.c k) (.slice F (x.c k).F.length C)));have L:=uU (show Ext w V by rw[hV];exact A.alloc _);have G:=uU (y.ext (show Ext wr V by rw[hV];exact(hO wr).alloc _));have HV:=uU hV;have ST:=uU (show cQ x k->Hid (∀j,j<k+1->cQ x j) from λn j hj=>by
  by_cases e:j=k;subst e;exact n;exact HA j (by omega))
 have NK:=uU (show ¬cQ x k->¬R2 x from λn r=>n (r.1 k t));clear hV y;go_upto_region 4 with fail;go_cut [5] from 17 to 45 (λv wx=>∃u:Bool,v=.bool u/\Hid (u=c0d (x.c k))/\V=wx)
 case first=>
  cases z0:((x.c k).kind == 0);rotate_left;cases z1:((x.c k).T == 0);rotate_left;cases z2:((x.c k).U == 0);rotate_left;cases z3:((x.c k).born == 0);rotate_left;cases z4:((x.c k).J == 0)
  all_goals
   go_wp21;go_meet;exact⟨_,rfl,by show _=_;simp[c0d, *],HV⟩
 case rest=>
 obtain⟨u,rfl,U,rfl⟩:=hcut;have v0:V.cell? ⟨wr.heap.size,0,none⟩=some (.int .i64 (x.c k).st):=by rw[uH HV];simp[go_sem]
 have v1:V.cell? ⟨wr.heap.size,1,none⟩=some (.int .i64 (x.c k).kind):=by rw[uH HV];simp[go_sem]
 have v2:V.cell? ⟨wr.heap.size,2,none⟩=some (.int .i64 (x.c k).T):=by rw[uH HV];simp[go_sem]
 have v3:V.cell? ⟨wr.heap.size,3,none⟩=some (.int .i64 (x.c k).U):=by rw[uH HV];simp[go_sem]
 have v4:V.cell? ⟨wr.heap.size,4,none⟩=some (.int .i64 (x.c k).born):=by rw[uH HV];simp[go_sem]
 have v5:V.cell? ⟨wr.heap.size,5,none⟩=some (.int .i64 (x.c k).J):=by rw[uH HV];simp[go_sem]
 have v6:V.cell? ⟨wr.heap.size,6,none⟩=some (.int .i64 (x.c k).to):=by rw[uH HV];simp[go_sem]
 have v7:V.cell? ⟨wr.heap.size,7,none⟩=some (.slice F (x.c k).F.length C):=by rw[uH HV];simp[go_sem]
 have f2:=G.c2;have f5:=G.c5;have rs:=cLt v0;have bs:=cLt f5;clear p0 p1 p2 p3 p4 p5 p6 p7 e2 e5 al D;cases s0:((x.c k).st == 0)
 ·cases s2:((x.c k).st == 2)
  ·cases s1:((x.c k).st == 1)
   ·have N:=uU (NK (λc=>by simp at s0 s1 s2;unfold cQ at c;omega));go_wp2;go_ret;first|(exact kj ⟨rfl,N,L⟩)|(exact⟨false,rfl,fNo N,L⟩)
   have K:=uU (show a9r x (x.c k)=true↔cQ x k by rw[c0e];simp at s0 s1 s2;simp[cQ,s1]);go_upto_region 19 with fail;go_cut [152] from 110 to 151 (λv wx=>∃u:Bool,v=.bool u/\Hid (u = !a9r x (x.c k))/\Hid (Ext V wx))
   case first=>
    cases i0:qL (x.c k).kind 0 255;rotate_left;cases i1:qL (x.c k).T 0 3;rotate_left;cases i2:qL (x.c k).U 0 3;rotate_left;cases i3:qL (x.c k).born 1 x.born;rotate_left;cases i4:qL (x.c k).J 0 2;rotate_left;cases i5:((x.c k).to != 0);by_cases i6:((x.c k).F.length:Int) > 200
    all_goals
     go_wp21;go_quiet ((go_at_call 113;first|(refine Calls.quiet_of_same (b3p _ _ _ true ?_ _);assumption)|(refine Calls.quiet_of_same (b3p _ _ _ false ?_ _);assumption)));go_wp21;go_meet;exact⟨_,rfl,by show _=_;simp only[a9r, *];first|rfl|simp,(hO V).drewN _⟩
   case rest=>
   obtain⟨v,rfl,HU,J⟩:=hcut;cases v
   ·have S:=uU (ST (K.1 (by have:=uH HU;simpa using this.symm)));go_wp2;go_roundw
    case rel=>exact⟨k+1,by omega,by go_num,S,L.trans J⟩
    simp[intOf];omega
   have N:=uU (NK (λc=>by have:=uH HU;rw[K.2 c]at this;cases this));go_wp2;go_ret;first|(exact kj ⟨rfl,N,L.trans J⟩)|(exact⟨false,rfl,fNo N,L.trans J⟩)
  have hu:=uU (λ(h0:0<=(x.c k).to) (h1:(x.c k).to<(k:Int))=>a8r x b (x.c k).to _ G h0 (by omega));go_upto_region 11 with fail;go_cut [85] from 59 to 84 (λv wx=>∃u:Bool,v=.bool u/\Hid (u = !movB x k)/\V=wx)
  case first=>
   cases u;rotate_left;by_cases m1:x.E<4;rotate_left;by_cases m2:(x.c k).to<0;rotate_left;by_cases m3:(x.c k).to≥(k:Int);rotate_left;have q:=uH hu (by omega) (by omega);cases m4:a6j x (x.c k).to.toNat
   all_goals
    first|rw[m4]at q|skip
    go_wp2_with (go_at_call 114;refine q.mono ?_;rintro e w' ⟨rfl,rfl⟩);go_meet;exact⟨_,rfl,by show _=_;simp only[movB,<-uH U, *];first|rfl|(simp <;> omega),rfl⟩
  case rest=>
  obtain⟨v,rfl,HU,rfl⟩:=hcut;have MS:=uU (show movB x k=true/\(x.E=4->∀j:Nat,(j:Int)<(x.c k).to->(x.c j).st≠0)↔cQ x k by
   simp at s2;simp[cQ,qD,s2,movB,b1h,c7h,and_assoc])
  cases v;rotate_left
  ·have N:=uU (NK (λc=>by have:=uH HU;rw[(MS.2 c).1]at this;cases this));go_wp2;go_ret;first|(exact kj ⟨rfl,N,L⟩)|(exact⟨false,rfl,fNo N,L⟩)
  have MB:=uU (show movB x k=true by have:=uH HU;simpa using this.symm);obtain⟨t',ht⟩:=km (show 0<=(x.c k).to by have:=uH MB;simp[movB]at this;omega);have tk:=uU (show(t':Int)<(k:Int) by have:=uH MB;simp[movB]at this;omega);have HT:=uU ht;have g4:=G.c4;rw[ht]at v6;clear ht;go_wp21;go_loop [6] (λi=>∃l:Nat,l<=t'/\i=.int .i64 l/\Hid (x.E=4->∀j,j<l->(x.c j).st≠0)) (λi=>t'-(intOf i).toNat)
  case atStart=>exact⟨0,kB _,rfl,λ_ j h=>by omega⟩
  case round=>
  obtain⟨l,hl,rfl,HB⟩:=hrel;by_cases l2:(l:Int)<(t':Int)
  ·cases m5:(x.E == 4)
   ·have S:=uU (ST (MS.1 ⟨MB,λe=>by simp[e]at m5⟩));go_wp2;go_roundw
    case rel=>exact⟨k+1,by omega,by go_num,S,L⟩
    simp[intOf];omega
   obtain⟨b2,o2,ap2,kp2,e2,r0,_⟩:=G.cell l (by have:=uH tk;omega);cases e2;have l0:=i0N l;have l1:(l:Int)<(x.A.length:Int):=by have:=uH tk;omega
   cases m6:((x.c l).st == 0)
   ·have S:=uU (show x.E=4->∀j,j<l+1->(x.c j).st≠0 from λe j hj=>by
     by_cases e2:j=l;subst e2;simpa using m6;exact HB e j (by omega))
    go_wp2;go_round
    case rel=>exact⟨l+1,by omega,by go_num,S⟩
    simp[intOf];omega
   have N:=uU (NK (λc=>(MS.2 c).2 (by simpa using m5) l (by rw[uH HT];exact l2) (by simpa using m6)));go_wp2;go_ret;first|(exact kj ⟨rfl,N,L⟩)|(exact⟨false,rfl,fNo N,L⟩)
  have S:=uU (ST (MS.1 ⟨MB,λe j hj=>uH HB e j (by rw[uH HT]at hj;omega)⟩));go_wp2;go_roundw
  case rel=>exact⟨k+1,by omega,by go_num,S,L⟩
  simp[intOf];omega
 by_cases ok:cQ x k
 ·have q:=show a5d (x.c k)/\(x.c k).to=0 by simp at s0;simpa[cQ,s0]using ok
  have e:u=true:=by rw[uH U];exact b1h.2 q.1
  have e2:((x.c k).to != 0)=false:=by simp[q.2]
  subst e;have S:=uU (ST ok);clear q ok;go_wp2;go_roundw
  case rel=>exact⟨k+1,by omega,by go_num,S,L⟩
  simp[intOf];omega
 have N:=uU (NK ok);cases u;rotate_left;have e2:((x.c k).to != 0)=true:=by
  simp at s0 ⊢;exact λe=>ok (kj ⟨s0,b1h.1 U.symm,e⟩)
 all_goals
  clear ok;go_wp2;go_ret;first|(exact kj ⟨rfl,N,L⟩)|(exact⟨false,rfl,fNo N,L⟩)
theorem hat_box(x:Hp)(w:World)(n:SlW w (.slice ar x.B.length kr) x.B)(l:SlC w (.slice ac x.A.length kc) x.A)(m:SlI w (.slice ag x.D.length kg) x.D):
  HAt (w.alloc (oHp x (.slice ar x.B.length kr) (.slice ac x.A.length kc) (.slice ag x.D.length kg))) w.heap.size x ar kr ac kc ag kg:=by
 have e:=eAl w (oHp x (.slice ar x.B.length kr) (.slice ac x.A.length kc) (.slice ag x.D.length kg));obtain⟨u,t,g,j,R⟩:=n;obtain⟨s,r,f,k,C⟩:=l;obtain⟨q,v,d,h,G⟩:=m;simp only[Value.slice.injEq]at g f d;obtain⟨rfl,_,rfl⟩:=g;obtain⟨rfl,_,rfl⟩:=f;obtain⟨rfl,_,rfl⟩:=d;refine⟨?_,?_,?_,?_,?_,?_,?_,?_,?_,?_,?_,?_,?_,j,k,h,?_,?_,?_⟩;iterate 13 (simp[go_sem])
 exact λi b=>let ⟨c,o,a,p⟩:=R i b;⟨c,o,a,p.ext e⟩
 intro i b;obtain⟨c,o,a,p⟩:=C i b;rw[Hp.c_eq]at p;exact⟨c,o,a,p.ext e⟩;exact λi b=>let ⟨c,o,a,p⟩:=G i b;⟨c,o,a,p.ext e⟩
theorem a6o(x:Hp)(w:World)(Z:SlW w (.slice ar x.B.length kr) x.B)(W:SlC w (.slice ac x.A.length kc) x.A)(X:SlI w (.slice ag x.D.length kg) x.D):
  Calls prog 27 #[x.v (.slice ar x.B.length kr) (.slice ac x.A.length kc) (.slice ag x.D.length kg)] w λe w'=>∃n:Int,e=.returned (iv n)/\qU x n/\Ext w w':=by
 have h:=hat_box x w Z W X;have L:=eAl w (oHp x (.slice ar x.B.length kr) (.slice ac x.A.length kc) (.slice ag x.D.length kg));have H:=uU (show ∀j,j<0->Rn x j from λj d=>by omega);clear Z W X;go_in;go_wp21;refine(c0b x _ _ h).mono ?_;rintro e s ⟨g,rfl,a,b⟩;have h:=h.ext b;have L:=L.trans b;cases g
 rotate_left
 have H:=uU (a3e H (a.1 rfl));clear a;go_wp21;refine(c0f x _ _ h).mono ?_;rintro e s ⟨g,rfl,a,b⟩;have h:=h.ext b;have L:=L.trans b;cases g
 rotate_left
 have H:=uU (a3e H (a.1 rfl));clear a;have r1:R1 x:=uH H 0 (by omega);have n8:x.A.length<=8000:=by have:=r1.M;have:=r1.A;omega
 have q:=uU (λw' (e:Up s w')=>a7w (c0a x w.heap.size w' (h.ext e.ext) n8 (c3z (H 1 (by omega)))) e);have I:∀w',Up s w'->w'.cell? (aA w.heap.size 0)=some (iv x.M)/\w'.cell? (aA w.heap.size 1)=some (iv x.K):=λw' e=>⟨e.ext.keep h.c0,e.ext.keep h.c1⟩
 focus
  go_upto_region 6 with fail;go_cut [21] from 10 to 20 (λv W=>∃u:Bool,v=.bool u/\Hid ((!u)=true↔R3 x)/\Ext s W)
  case first=>
   cases t:(x.K != (dZ x.A:Int)) <;> by_cases u:x.K > x.M
   all_goals
    refine wp_region_quiet (C:=Up s) (by kernel_rfl) (by kernel_rfl) (show Ext _ _ from eDr _) ?_;go_simp
    iterate 12 (first|go_big_quiet_skip|(go_big_quiet_want;go_big_quiet_op;first|go_big_quiet_on|(apply Exists.intro;refine⟨λw' j=>?_,?_⟩;(first|(go_at_call 60;exact(uH q w' j))|(with_reducible rfl)|(go_simp;first|done|(with_reducible rfl)|(refine⟨?_,?_⟩ <;> with_reducible rfl)));go_big_quiet_on)))
    refine wpQuiet_nil ?_;intro R f;go_wp21;go_meet;exact⟨_,rfl,by show _↔_;simp at t;simp[R3,t] <;> omega,f.ext⟩
  obtain⟨g,rfl,a,b⟩:=hcut;have a:=uH a;have h:=h.ext b;have L:=L.trans b;clear I q;cases g
  rotate_left
  focus skip
  rotate_left
  have H:=uU (a3e H (a.1 rfl));clear a;go_wp21;refine(c0g x _ _ h).mono ?_;rintro e s ⟨g,rfl,a,b⟩;have h:=h.ext b;have L:=L.trans b;cases g
  rotate_left
  have H:=uU (a3e H (a.1 rfl));clear a;go_wp21;refine(b8p x _ _ h).mono ?_;rintro e s ⟨g,rfl,a,b⟩;have h:=h.ext b;have L:=L.trans b;cases g
  rotate_left
  have H:=uU (a3e H (a.1 rfl));clear a;go_wp21;refine(c0h x _ _ h (H 0 (by omega)) (H 4 (by omega))).mono ?_;rintro e s ⟨g,rfl,a,b⟩;have h:=h.ext b;have L:=L.trans b;cases g
  rotate_left
  have H:=uU (a3e H (a.1 rfl));clear a;go_wp21;refine(c0i x _ _ h (H 0 (by omega)) (H 3 (by omega)) (H 5 (by omega))).mono ?_;rintro e s ⟨g,rfl,a,b⟩;have h:=h.ext b;have L:=L.trans b;cases g
  rotate_left
  have H:=uU (a3e H (a.1 rfl));clear a;go_wp21;refine(b6n x _ _ h).mono ?_;rintro e s ⟨g,rfl,a,b⟩;have h:=h.ext b;have L:=L.trans b;cases g
  rotate_left
  ·have Y:=uU (c6b (a3e H (a.1 rfl)));go_wp21;go_ret;exact⟨0,rfl,Y,L⟩
 all_goals
  have Y:=uU (b1g (by omega) H (λr=>by simpa using a.2 r));go_wp21;go_ret;exact⟨_,rfl,Y,L⟩
theorem GOk.set9[qr](h:GOk B w g x)(v:Int):GOk B (w.setCell (aA g 9) (iv v)) g { x with per:=v }:=by
 obtain⟨b,i,m,l,e,f,j,k,c,d,a,h⟩:=h;exact⟨_,_,_,_,_,_,_,_,_,_,_,h.boxed (x':={ x with per:=v }) (tJ w g 9 _) (h.nf.set _ _) rfl rfl rfl (h.bx.set9 v)⟩
theorem GOk.set10[qr](h:GOk B w g x)(v:Int):GOk B (w.setCell (aA g 10) (iv v)) g { x with V:=v }:=by
 obtain⟨b,i,m,l,e,f,j,k,c,d,a,h⟩:=h;exact⟨_,_,_,_,_,_,_,_,_,_,_,h.boxed (x':={ x with V:=v }) (tJ w g 10 _) (h.nf.set _ _) rfl rfl rfl (h.bx.set10 v)⟩
theorem GReg.put[qr]{A:Nat}{j v:World}(R:GReg B j g x A kr)(C:Ext v j)(hv:v.heap.size<=B)(ha:a<16)(u:Wd):∃z,z=cX j A (a*3) u/\Hid (GOk B z g (regTo x a u)/\Ext v z):=
 ⟨_,rfl,R.set j a u (hO _) ha,(cD j A (a*3) u).ext C (λq hq e=>by have:=R.lo.1;omega)⟩
theorem d1o[p:qr](B g:Nat)(x:Hp)(k:Nat)(op:Int)(a b c:Nat)(n:Int)(w:World)(hk:(k=2/\op=2)\/(k=3/\op=3)\/(k=4/\op=4)\/(k=13/\op=13)\/(k=14/\op=14)\/(k=15/\op=15))(h:GOk B w g x)(s:Snd x)(ok:zC op a b c n=true)(v:World)(hv:v.heap.size<=B)(hx:Ext v w)(ha:a<16)(hB:k=4\/k=13->b<16):
  Calls prog 28 #[pP g,yU op a b c n] w λe w'=>a1a B g x a b c n k v e w':=by
 obtain⟨p1,o1,g1⟩:=GOk.enter h (w0:=doW w op a b c n) ((eAl w _).alloc _);obtain⟨A,kr,hr⟩:=g1.B s.r1.B;have HR:=uU hr;have i0:=i0N a;have i1:(a:Int)<16:=by omega
 have HG:=uU g1;have t:=uU o1;have QA:=uU (λW=>a1g op a b c n W);rw[ok]at QA;have G:=uU (show v.heap.size<=w.heap.size+1 by have:=hx.size;omega);have XD:=uU (show Ext v (doW w op a b c n) from(hx.alloc _).alloc _);have BX:=uU (yE.new w op a b c n);clear h s hr o1 g1;obtain⟨rfl,rfl⟩|⟨rfl,rfl⟩|⟨rfl,rfl⟩|⟨rfl,rfl⟩|⟨rfl,rfl⟩|⟨rfl,rfl⟩:=hk;all_goals
  go_in;go_wp21;refine(QA _).mono ?_;rintro e j ⟨rfl,X⟩;have C:=uU (XD.trans X);have U:=uU (BX.ext X);obtain⟨R,N,M,O,K,P,H,L⟩:=uH U;have Z:=uU (HG.ext X);have R1:=uU (HR.ext X);have F:=R1.c3;obtain⟨D,E,I⟩:=R1.r a ha;clear X QA U BX XD HG HR
 focus
  obtain⟨z,d,u⟩:=R1.put C hv ha ⟨1,n,0⟩;clear M O
 rotate_left
 focus
  obtain⟨z,d,u⟩:=R1.put C hv ha Wd0;unfold Wd0 at d
 rotate_left
 focus
  have hb:=hB (by simp);have j0:=i0N b;have j1:(b:Int)<16:=by omega
  obtain⟨Y,T,V⟩:=R1.r b hb;obtain⟨z,d,u⟩:=R1.put C hv ha (x.r b)
 rotate_left
 ·have hb:=hB (by simp);have j0:=i0N b;have j1:(b:Int)<16:=by omega
  have we:=λW=>wd_eq (x.r a) (x.r b) W
  obtain⟨Y,T,V⟩:=R1.r b hb;cases q:wdB (x.r a) (x.r b);all_goals
   rw[q]at we;have Q:=uU q;clear q;go_wp21;go_quiet (fail);obtain⟨z,d⟩:=obE (j.drewN nq);rw[<-d];have i:Ext j z:=by rw[d];exact Ext.drewN (hO j) nq
   clear d;go_wp21;refine(a0j _ _).mono ?_;rintro e S ⟨rfl,l⟩;have o:=uU (Z.ext (i.trans l));have y:=uU (C.trans (i.trans l));clear F D E I Y T V R N M O K P H L l i we;obtain⟨u0,u1,u2,u3,u4,u5,u6,u7⟩:=o.boxes t;go_wp21;refine bodyPost_ret ?_ rfl (a7g t o y G ⟨rfl,rfl,by rw[uH Q];rfl⟩);simp[results,results28,go_sem,u5,u6]
 ·go_wp21;go_region_with (go_at_call 71;refine(a0j (x.r a).k _).mono ?_;rintro e S ⟨rfl,l⟩;have J:=kI (eDr j) l;have o:=uU (Z.ext J);have y:=uU (C.trans J);obtain⟨u0,u1,u2,u3,u4,u5,u6,u7⟩:=o.boxes t;clear l J);all_goals
   go_wp21;refine bodyPost_ret ?_ rfl (a7g t o y G ⟨rfl,rfl,rfl⟩);simp[results,results28,go_sem,u5,u6]
 ·cases q:((x.r a).k == 1)
  all_goals
   have q2:((x.r a).k != 1)=_:=congrArg not q;have Q:=uU q;clear q;go_wp21;go_quiet (fail);obtain⟨z,d⟩:=obE (j.drewN nq);rw[<-d];have i:Ext j z:=by rw[d];exact Ext.drewN (hO j) nq
   have e0:=uU (Z.ext i);have X2:=uU (C.trans i);clear d
  go_wp21;refine(a0r 2 _).mono ?_;rintro e S ⟨rfl,l⟩;have o:=uU (e0.ext l);have y:=uU (X2.trans l);clear F D E I R N M O K P H L l;obtain⟨u0,u1,u2,u3,u4,u5,u6,u7⟩:=o.boxes t;go_wp21;refine bodyPost_ret ?_ rfl (a7g t o y G ⟨rfl,.inl ⟨by simpa using uH Q,rfl,rfl⟩⟩);simp[results,results28,go_sem,u5,u6];have F:=i.keep F;have D:=i.keep D;have E:=i.keep E;obtain⟨u0,u1,u2,u3,u4,u5,u6,u7⟩:=e0.boxes t;go_wp21;go_region;all_goals
   go_wp21;refine bodyPost_ret (v:=tD 0 (x.r a).n) (by simp[results,results28,go_sem,u5,u6]) rfl ?_;exact⟨x,0,(x.r a).n,rfl,⟨rfl,.inr ⟨by simpa using uH Q,rfl,rfl⟩⟩,GOk.doneD t e0 0 (x.r a).n,(eJ X2 G 0 (x.r a).n).drew⟩
 all_goals
  have f:=R1.f;unfold cX at d;go_wp21;go_region;go_wp21;rw[<-d];refine(a0j 0 _).mono ?_;rintro e S ⟨rfl,l⟩;have m:=kI (eDr z) l;have o:=uU (u.1.ext m);have y:=uU (u.2.trans m);obtain⟨u0,u1,u2,u3,u4,u5,u6,u7⟩:=o.boxes t;clear d u F D E I f R N K P H L l m;go_wp21;refine bodyPost_ret ?_ rfl (a7g t o y G ⟨rfl,rfl,rfl⟩);simp[results,results28,go_sem,u5,u6]
theorem l5do_in[p:qr](B g:Nat)(x:Hp)(k:Nat)(op:Int)(a b c:Nat)(n:Int)(w:World)(hk:(k=18/\op=18)\/(k=19/\op=19)\/(k=20/\op=20)\/(k=21/\op=21)\/(k=22/\op=22)\/(k=23/\op=23)\/(k=24/\op=24))(h:GOk B w g x)(s:Snd x)(ok:zC op a b c n=true)(v:World)(hv:v.heap.size<=B)(hx:Ext v w)(ha:a<16)(hC:k=22->c<=100000):
  Calls prog 28 #[pP g,yU op a b c n] w λe w'=>a1a B g x a b c n k v e w':=by
 obtain⟨p1,o1,g1⟩:=GOk.enter h (w0:=doW w op a b c n) ((eAl w _).alloc _);have S:=uU s;have HG:=uU g1;have j:=uU o1;have QA:=uU (λW=>a1g op a b c n W);rw[ok]at QA;have Q:=uU (show v.heap.size<=w.heap.size+1 by have:=hx.size;omega);have XD:=uU (show Ext v (doW w op a b c n) from(hx.alloc _).alloc _);have BX:=uU (yE.new w op a b c n);clear h s o1 g1;obtain⟨rfl,rfl⟩|⟨rfl,rfl⟩|⟨rfl,rfl⟩|⟨rfl,rfl⟩|⟨rfl,rfl⟩|⟨rfl,rfl⟩|⟨rfl,rfl⟩:=hk;all_goals
  go_in;go_wp21;refine(QA _).mono ?_;rintro e t ⟨rfl,x1⟩;have D:=uU (XD.trans x1);have Y:=uU (BX.ext x1);obtain⟨N,G,M,J,K,P,O,F⟩:=uH Y;have m:=uU (HG.ext x1);clear x1 QA Y BX XD HG
 focus
  have QS:=uU (show Calls prog 72 #[pP g] t λe w'=>∃H:Nat->Bool,e=.returned (.tuple #[iv (qJ x H x.A.length),iv (kE x H x.A.length)])/\Hid (∀i,H i=true↔qX x i)/\GOk B w' g (a1u x H)/\Ext v w' from by
   obtain⟨V,R,T,X,vg,br,bc,pb,pa,pk,o,h⟩:=m;exact b9d ⟨pb,pa,pk,o,h⟩ S v hv D)
  go_wp21;refine QS.mono ?_;rintro e w2 ⟨H,rfl,hh,q,u⟩;have A:=uU q;clear q
 rotate_left
 ·go_wp21;refine(c8e B g x a _ m S ha v hv D).mono ?_;rintro e U ⟨y,nm,rfl,aa,f,l⟩;obtain⟨cd,E⟩:=obE (0:Int);rw[<-E];have dr:=uU (show DoR x a b c n y cd nm 19 from⟨E,aa⟩);clear E aa;obtain⟨u0,u1,u2,u3,u4,u5,u6,u7⟩:=f.boxes j;clear N G M J K P O F;go_wp21;refine bodyPost_ret ?_ rfl (a7g j f l Q dr);simp[results,results28,go_sem,u5,u6]
 focus
  obtain⟨Z,V,R,T,X,kg,HT⟩:∃Z V R T X kg,Hid (HAt t g x V R T X Z kg):=by
   obtain⟨V,R,T,X,vg,br,bc,pb,pa,pk,o,h⟩:=m;obtain⟨Z,kg,I⟩:=h.hat S;exact⟨Z,V,R,T,X,kg,I⟩
  go_wp21;refine(b2y x g t HT S.r2 S.r4 S.ok.n8).mono ?_;rintro e w2 ⟨vv,L,rfl,sn,hL,C⟩;have SN:=uU sn;have H2:=uU (HT.ext C);have A:=uU (m.ext C);have u:=D.trans C;clear sn C;go_wp21;refine(b7i x g t.heap.size (λi=>decide ((i:Int)∈L)) w2 H2 SN.s S.ok.n8 S.ok.p200).mono ?_;rintro e ae ⟨rfl,rfl⟩
 rotate_left
 focus
  have QL:=uU (show Calls prog 76 #[pP g] t λe w'=>∃r:Nat,Hid (e=.returned (iv (r:Int)))/\d1e x r/\Ext t w' from by
   obtain⟨V,R,T,X,vg,br,bc,pb,pa,pk,o,h⟩:=m;obtain⟨Z,kg,I⟩:=h.hat S;exact c4p x g t I S.ok)
  go_wp21;refine QL.mono ?_;rintro e w2 ⟨r,rfl,lv,C⟩;have LV:=uU lv;have A:=uU (m.ext C);have u:=D.trans C;clear lv C
 rotate_left
 focus
  have hc:=hC (by simp);go_wp21;refine(a9a B g x c _ m S hc v hv D).mono ?_;rintro e w2 ⟨k,rfl,st,q,u⟩;have A:=uU q;clear q
 rotate_left
 focus
  obtain⟨c0,c1,c2,c5,c9,ab,ad⟩:=m.nums;have fz:=m.box.2.2.2.1;have lo:v.heap.size<=g:=kA hv m.box.2.2.2.2.1;have A:=uU ((m.set9 b).set10 c);have u:=(D.sc g 9 lo (iv b)).sc g 10 lo (iv c);clear c0 c1 c2 c5 ad
 rotate_left
 focus
  go_wp21;refine(b2w B g x _ m S v hv D).mono ?_;rintro e w2 ⟨y,z,rfl,rr,q,u⟩;have A:=uU q;clear q
 rotate_left
 all_goals
  go_wp21;refine(a0j _ _).mono ?_;rintro e U ⟨rfl,d⟩;have f:=uU (A.ext d);have l:=uU (u.trans d);clear d N G M J K P O F;obtain⟨u0,u1,u2,u3,u4,u5,u6,u7⟩:=f.boxes j;go_wp21;refine bodyPost_ret ?_ rfl (a7g j f l Q ?_);simp[results,results28,go_sem,u5,u6]
 exact⟨rfl,H,hh,rfl,rfl⟩;exact⟨rfl,rfl,λi=>decide ((i:Int)∈L),λi=>by rw[decide_eq_true_iff];exact hL i,rfl⟩;obtain⟨_,p,h,q⟩|⟨h,_⟩:=uH LV
 ·exact⟨rfl,rfl,p,h,by rw[q]⟩
 exact absurd S.ok h;exact⟨rfl,rfl,k,st,rfl⟩;exact⟨rfl,rfl,rfl⟩;exact⟨rfl,rfl,y,rr.1,rr.2⟩
theorem c8h[p:qr](B g:Nat)(x:Hp)(k:Nat)(op:Int)(a b c:Nat)(n:Int)(w:World)(h:GOk B w g x)(s:Snd x)(m:a<16)(v:World)(l:Ext v w)(i:¬(x.r a).k=2->DoR x a b c n x 2 0 k)(j:(x.r a).k=2->Calls prog 70 #[pP g,yU op a b c n] w λe w'=>a1a B g x a b c n k v e w'):
  Calls prog 70 #[pP g,yU op a b c n] w λe w'=>a1a B g x a b c n k v e w':=by
 by_cases f:(x.r a).k=2;exact j f;exact(b7m B g x op a b c n w h s m f v l).mono λe o d=>⟨x,2,0,d.1,i f,d.2.1,d.2.2⟩
def calK(k:Nat):FuncId:=if k<=8 then 69 else 70
theorem b1t[p:qr](B g:Nat)(x:Hp)(k:Nat)(op:Int)(a b c:Nat)(n:Int)(w:World)(M:(k=5/\op=5)\/(k=6/\op=6)\/(k=7/\op=7)\/(k=8/\op=8)\/(k=10/\op=10)\/(k=11/\op=11)\/(k=12/\op=12)\/(k=16/\op=16)\/(k=17/\op=17))(h:GOk B w g x)(N:zC op a b c n=true)(v:World)(q:Ext v w)
  (O:∀(_:Inhabited uL)(w1:World),GOk B w1 g x->Ext v w1->Calls prog (calK k) #[pP g,yU op a b c n] w1 λe w'=>a1a B g x a b c n k v e w') :
  Calls prog 28 #[pP g,yU op a b c n] w λe w'=>a1a B g x a b c n k v e w':=by
 obtain⟨t,r,K⟩:=GOk.enter h (w0:=doW w op a b c n) ((eAl w _).alloc _);have J:=uU K;have o:=uU r;have m:=uU (λW=>a1g op a b c n W);rw[N]at m;have L:=uU (show v.heap.size<=w.heap.size+1 by have:=q.size;omega);have z:=uU (show Ext v (doW w op a b c n) from(q.alloc _).alloc _);have H:=uU (yE.new w op a b c n);obtain⟨rfl,rfl⟩|⟨rfl,rfl⟩|⟨rfl,rfl⟩|⟨rfl,rfl⟩|⟨rfl,rfl⟩|⟨rfl,rfl⟩|⟨rfl,rfl⟩|⟨rfl,rfl⟩|⟨rfl,rfl⟩:=M;all_goals
  go_in;go_wp21;refine(m _).mono ?_;rintro e w1 ⟨rfl,j⟩;have s:=uU (z.trans j);have i:=uU (H.ext j);obtain⟨Y,U,T,V,Q,X,P,S⟩:=uH i;have F:=uU (J.ext j);have C:=uU (O t w1 F s);go_wp21;refine C.mono ?_;rintro e R ⟨y,f,d,I,D,E,A⟩;have G:=uH I;subst G;have l:=uU E;have u:=uU A;obtain⟨u0,u1,u2,u3,u4,u5,u6,u7⟩:=l.boxes o;go_wp2;refine bodyPost_ret (v:=tD f d) (by simp[results,results28,go_sem,u5,u6]) rfl ?_;exact⟨y,f,d,rfl,D,GOk.done o l f d,eJ u L f d⟩
def a4c(z:Hp)(i m:Nat):Hp:={ z with A:=z.A.set i (tK (z.c i) m) }
theorem c6p(z:Hp)(i m:Nat)(a:i<z.A.length)(q:Nat):(a4c z i m).c q=if q=i then tK (z.c i) m else z.c q:=Hp.c_set z i (tK (z.c i) m) a q
theorem moreH_0(z:Hp)(i:Nat)(a:i<z.A.length):a4c z i 0=z:=by
 have e:tK (z.c i) 0=z.A[i]:=by rw[Hp.c_eq];simp[tK]
 unfold a4c;rw[e,List.set_getElem_self]
theorem moreH_s(z:Hp)(i m:Nat)(a:i<z.A.length):moreP (a4c z i m) i=a4c z i (m+1):=by
 have e:=c6p z i m a i;rw[if_pos rfl]at e;unfold moreP;rw[e];simp[a4c,tK,List.replicate_succ']
theorem c8k(z:Hp)(i m:Nat):(a4c z i m).A.length=z.A.length:=by simp[a4c]
theorem d1u(z:Hp)(i m:Nat)(a:i<z.A.length):((a4c z i m).c i).F.length=(z.c i).F.length+m:=by grind[a4c,Hp.c,c6p,tK]
abbrev GrwPo[qr](B g:Nat)(x:Hp)(a c:Nat)(v:World)(e:Ending)(w':World):Prop:=∃(y:Hp)(cd nm:Int),Hid (e=.returned (tD cd nm))/\Hid (a7e x a c (x.at a) y cd nm)/\Hid (GOk B w' g y)/\Ext v w'
theorem c4u[p:qr](B g:Nat)(x:Hp)(a b c:Nat)(n:Int)(w:World)(h:GOk B w g x)(s:Snd x)(ha:a<16)(hc:c<=200)(hk:(x.r a).k=2)(v:World)(hv:v.heap.size<=B)(hx:Ext v w):
  Calls prog 129 #[pP g,yU 9 a b c n] w λe w'=>GrwPo B g x a c v e w':=by
 obtain⟨p1,o1,g1⟩:=GOk.enter h (w0:=doW w 9 a b c n) ((eAl w _).alloc _);obtain⟨V,E⟩:∃W,W=doW w 9 a b c n:=⟨_,rfl⟩;have bx:=yE.new w 9 a b c n;have x1:Ext v (doW w 9 a b c n):=(hx.alloc _).alloc _;rw[<-E]at g1 bx x1;obtain⟨br,kr,hr⟩:=g1.B s.r1.B;have c3:=hr.c3;obtain⟨r0,r1,r2⟩:=hr.r a ha;have t:=cLt c3;have F:=cLt r0;have H:=uU o1;have G1:=uU g1;have V0:=uU (show v.heap.size<=w.heap.size+1 by have:=hx.size;omega);have X1:=uU x1;obtain⟨f,L,O,K,J,G,I,M⟩:=bx;have av:=cLt f;have j0:=i0N a;have j1:(a:Int)<16:=by omega
 have D:=uU hk;obtain⟨en,ea,hi,st,nd⟩:=s.at a ha hk;obtain⟨i,hI⟩:=obE (x.at a);have HI:=uU hI;rw[<-hI]at ea hi st nd;rw[ea]at r2;have S:=uU s;have ad:=s.ok.p200 i hi;have i0:=i0N i;have i1:(i:Int)<(x.A.length:Int):=by omega
 obtain⟨bc,kc,ap,kp,T⟩:=g1.cel i hi;have c4:=T.c4;have p7:=T.p7;have ai:=cLt p7;obtain⟨l,Z⟩:=obE ((x.c i).F.length);rw[<-Z]at p7 ad;have LL:=uU Z;clear Z;clear hk ea hI s en nd T;clear h hr o1 g1 x1;go_in;go_wp21;unfold doW at E;rw[<-E];clear E;by_cases hl:l+c<=200
 ·have q1:¬((l:Int)+(c:Int) > 200):=by omega
  have QR:=uU (λW(xW:Ext V W)=>b4y B g x c W (G1.ext xW) S (by omega) v hv (X1.trans xW));go_quiet (fail);go_wp21;refine(QR _ ((hO V).drewN nq)).mono ?_;rintro e w2 ⟨z,rfl,hz,g2,x2⟩;have G2:=uU g2;have X2:=uU x2;have HZ:=uU hz;clear g2 x2 hz QR c3 r0 r1 r2 c4 p7 f L O K J G I M t F av ai q1 i0 i1 G1 X1;obtain⟨f,L,O,K,J,G,I,M⟩:=G2.boxes H;have ay:=cLt f;have aj:w.heap.size+1<w2.heap.size:=uQ G;cases hf:zV z c;have HF:=uU hf;clear hf;go_wp21;refine(a0r 4 _).mono ?_;rintro e w3 ⟨rfl,x3⟩;have C:=uU (G2.ext x3);have X3:=uU (X2.trans x3);clear f L O K J G I M;obtain⟨u0,u1,u2,u3,u4,u5,u6,u7⟩:=C.boxes H;have u:w.heap.size+1<w3.heap.size:=uQ u5;clear x3;go_wp21;refine bodyPost_ret (v:=tD 4 0) (by simp[results,results129,go_sem,u5,u6]) rfl ?_;exact⟨_,4,0,rfl,⟨rfl,.inr ⟨by rw[<-uH HI,<-uH LL];exact hl,z,HZ,.inl ⟨HF,rfl,rfl⟩⟩⟩,GOk.done H C 4 0,eJ X3 V0 4 0⟩;have HF:=uU hf;clear hf;have sz:=HZ.snd S;obtain⟨k1,k2⟩:=KpN.M S ha D HZ;obtain⟨_,ea,ak,U,_⟩:=sz.at a ha k1;rw[<-uH HI,<-uH LL]at k2;obtain⟨m,hM⟩:=obE (z.at a);have HM:=uU hM;rw[<-hM]at ea ak U k2;have SZ:=uU sz;have ax:=uU (show z.K+c<=z.M by have e:=uH HF;unfold zV at e;exact of_decide_eq_true e);have KL:=uU k2;have aq:=uU U;obtain⟨au,bb,Q⟩:=G2.B sz.r1.B;have c3:=Q.c3;obtain⟨r0,r1,r2⟩:=Q.r a ha;rw[ea]at r2;have t:=cLt c3;have F:=cLt r2;clear hM k1 ea sz k2 Q U r0 r1;go_wp21;go_quiet (fail);obtain⟨W3,P⟩:∃W,W=w2.drewN nq:=⟨_,rfl⟩;have aa:Ext w2 W3:=by rw[P];exact(hO _).drewN _
  have C:=uU (G2.ext aa);have X3:=uU (X2.trans aa);rw[<-P];clear P aa c3 r2 t F f L O K J G I M ay aj G2 X2;obtain⟨f,L,O,K,J,G,I,M⟩:=C.boxes H;have u:=cLt f;clear f L O J G I M;go_wp21;obtain⟨ar,al,ac,ae,vg,ag,d,pb,pa,pk,N,A⟩:=uH C;have af:=uU (show GK B W3 g z ar al ac ae vg ag d from⟨pb,pa,pk,N,A⟩);have ZR:=uU (show 0<z.B.length by rw[SZ.r1.B];omega);have o:=uU ak;clear A C;go_loopw [7] (λsi wr=>∃k:Nat,k<=c/\si=iv k/\Hid (GK B wr g (a4c z m k) ar al ac ae vg ag d)/\Hid (Ext v wr)) (λsi _=>c-(intOf si).toNat)
  case atStart=>exact⟨0,kB _,rfl,by rw[moreH_0 z m (uH o)];exact uH af,X3⟩
  case round=>
   clear af X3 K u;obtain⟨k,hk,rfl,hG,hX⟩:=hrel;obtain⟨f,L,O,K,J,G,I,M⟩:=hG.ok.boxes H;have u:=cLt f;clear f L O J G I M;by_cases bf:k<c
   ·have aw:(k:Int)<(c:Int):=by omega
    have NX:=uU (moreH_s z m k o);have PL:=uU (show((a4c z m k).c m).F.length<200 by rw[d1u z m k (uH o),uH KL];omega);have X:m<(a4c z m k).A.length:=by rw[c8k];exact o
    have ab:=uU (show 0<(a4c z m k).B.length from uH ZR);obtain⟨q,hq⟩:=obE (a4c z m k);rw[<-hq]at hG NX PL ab X;clear hq;obtain⟨pb,pa,pk,N,A⟩:=uH hG;have HA:=uU A;have hn:0<q.A.length:=by omega
    have c4:=A.bx.2.2.2.2.1;rw[A.hc hn]at c4;have p7:=A.rw.p7 m X;have f7:=(A.rw.nc hn).1.2 (m*8+7);have R:v.heap.size<=d:=kA hv (A.rw.nc hn).2;have t:=cLt c4;have F:=cLt p7;have m0:=i0N m;have m1:(m:Int)<(q.A.length:Int):=by omega
    have wk:wrap64 ((k:Int)+1)=(k:Int)+1:=a1e _ (by omega) (by omega);have WK:=uU wk;clear A wk;go_wp21;go_region_law (refine c8j _ rfl _ _ rfl HA m X ab PL (by first|exact(hO wr).alloc _|exact(eAl wr _).drew|exact(eDr wr).alloc _) _ 1 (by first|rfl|simp[Act.eval,Act.put]) (by first|rfl|simp[Act.eval,Act.put];rfl) (World.news_of_block (cs:=#[iv 0,iv 0,iv 0,iv 0,iv 0,iv 0]) (by first|exact heap_alloc_new _ _|simp)) v hv hX ?_;intro a' k' w3 j;have ao:=(cOb g 4 (j.far g (.inl rfl))).trans c4;have an:=(cOb d (m*8+7) (j.far d (.inr rfl))).trans p7;have ba:=(fOb d (m*8+7) (j.far d (.inr rfl))).trans f7;have be:=cLt ao;have bg:=cLt an;have HP:=uU j;clear j);all_goals
     go_wp21;go_roundw
     case rel=>exact⟨k+1,by omega,by go_num,by rw[<-uH NX];first|exact HP.gk _ (hO _)|exact HP.gk _ (eDr _)|exact(HP.gk _ (hO _)).ext (eDr _),by first|exact HP.ex.sc d (m*8+7) R _|exact HP.ex.drew.sc d (m*8+7) R _|exact(HP.ex.sc d (m*8+7) R _).drew⟩
     simp[intOf];omega
   have am:k=c:=by omega
   have aw:¬((k:Int)<(c:Int)):=by omega
   have c1:wr.cell? (aA g 1)=some (iv z.K):=hG.ok.nums.2.1;obtain⟨_,_,_,fb,az,t⟩:=hG.ok.box;have f1:=fb 1;have us:=SZ.ok;have hu:0<=z.K/\z.K<=4000:=by have h3:=SZ.r3;have h1:=SZ.r1.M;unfold R3 at h3;omega
   have WU:=uU (show wrap64 (z.K+(c:Int))=z.K+(c:Int) from a1e _ (by omega) (by omega));have sg:=SZ.grow m c o aq (by rw[uH KL];exact hl) ax;have GF:=uU (show GOk B (wr.setCell (aA g 1) (iv (z.K+(c:Int)))) g (zJ z m c) from by have:=hG.ok.set1 (z.K+(c:Int));rw[am]at this;exact this);have XF:=uU (show Ext v (wr.setCell (aA g 1) (iv (z.K+(c:Int)))) from hX.sc g 1 (kA hv az) _);have QP:=uU (λW(xW:Ext (wr.setCell (aA g 1) (iv (z.K+(c:Int)))) W)=>b4z B g (zJ z m c) c W (GF.ext xW) sg (by omega) v hv (XF.trans xW));clear sg us fb hG hX GF XF am;go_wp21;go_region;go_wp21;refine(QP _ (eDr _)).mono ?_;rintro e w5 ⟨y,rfl,ah,g5,x5⟩;have G5:=uU g5;have X5:=uU x5;have PC:=uU ah;clear g5 x5 ah QP K u c1 f1;go_wp21;refine(a0j 0 _).mono ?_;rintro e w6 ⟨rfl,x6⟩;have G6:=uU (G5.ext x6);have X6:=uU (X5.trans x6);obtain⟨u0,u1,u2,u3,u4,u5,u6,u7⟩:=G6.boxes H;have bd:w.heap.size+1<w6.heap.size:=uQ u5;clear x6;go_wp21;refine bodyPost_ret (v:=tD 0 0) (by simp[results,results129,go_sem,u5,u6]) rfl ?_;exact⟨_,0,0,rfl,⟨rfl,.inr ⟨by rw[<-uH HI,<-uH LL];exact hl,z,HZ,.inr ⟨HF,rfl,by rw[<-uH HM];exact uH PC⟩⟩⟩,GOk.done H G6 0 0,eJ X6 V0 0 0⟩
 have q1:(l:Int)+(c:Int) > 200:=by omega
 go_quiet (fail);go_wp21;refine(a0r 5 _).mono ?_;rintro e w3 ⟨rfl,x3⟩;have Y:=((hO V).drewN nq).trans x3;have C:=uU (G1.ext Y);have X3:=uU (X1.trans Y);obtain⟨u0,u1,u2,u3,u4,u5,u6,u7⟩:=C.boxes H;have u:w.heap.size+1<w3.heap.size:=uQ u5;clear x3 Y;go_wp21;refine bodyPost_ret (v:=tD 5 0) (by simp[results,results129,go_sem,u5,u6]) rfl ?_;exact⟨_,5,0,rfl,⟨rfl,.inl ⟨by rw[<-uH HI,<-uH LL];omega,rfl,rfl⟩⟩,GOk.done H C 5 0,eJ X3 V0 5 0⟩
theorem d1v[p:qr](B g:Nat)(x:Hp)(a b c:Nat)(n:Int)(w:World)(h:GOk B w g x)(s:Snd x)(O:a<16)(hc:c<=200)(A:(x.r a).k=2)(v:World)(hv:v.heap.size<=B)(hx:Ext v w):
  Calls prog 70 #[pP g,yU 9 a b c n] w λe w'=>a1a B g x a b c n 9 v e w':=by
 obtain⟨p1,o1,q⟩:=GOk.enter h (w0:=doW w 9 a b c n) ((eAl w _).alloc _);obtain⟨l,d⟩:∃W,W=doW w 9 a b c n:=⟨_,rfl⟩;have X:=yE.new w 9 a b c n;have G:Ext v (doW w 9 a b c n):=(hx.alloc _).alloc _;rw[<-d]at q X G;obtain⟨br,kr,J⟩:=q.B s.r1.B;have R:=J.c3;obtain⟨r0,r1,r2⟩:=J.r a O;have ac:=cLt R;have ae:=cLt r0;have K:=uU o1;have G1:=uU q;have X1:=uU G;obtain⟨o,I,M,F,E,z,C,L⟩:=X;have ad:=cLt o;have j0:=i0N a;have j1:(a:Int)<16:=by omega
 have D:=uU A;have af:((x.r a).k != 2)=false:=by simpa using A
 obtain⟨en,N,hi,st,nd⟩:=s.at a O A;obtain⟨i,H⟩:=obE (x.at a);have HI:=uU H;rw[<-H]at N hi st nd;have EA:=uU N;have S:=uU s;have i0:=i0N i;have i1:(i:Int)<(x.A.length:Int):=by omega
 clear A N H s en;clear nd;clear h J o1 q G;go_in;go_wp21;unfold doW at d;rw[<-d];clear d;go_region;obtain⟨m,f⟩:∃W,W=(l.alloc (oWd (x.r a))).drew:=⟨_,rfl⟩;rw[<-f];have j:Ext l m:=by rw[f];exact(eAl _ _).drew
 have WB:yD m l.heap.size 0 (x.r a):=by rw[f];exact⟨by simp[go_sem],by simp[go_sem],by simp[go_sem]⟩
 obtain⟨y0,y1,y2⟩:=WB;have U:=uU (G1.ext j);have X2:=uU (X1.trans j);have ab:=cLt y0;clear f j R r0 r1 r2 o I M F E z C L;obtain⟨o,I,M,F,E,z,C,L⟩:=U.boxes K;have ag:=cLt o;have aa:w.heap.size+1<m.heap.size:=uQ z;rw[uH EA]at y2;have Y:=uU (λW(xW:Ext m W)=>c4u B g x a b c n W (U.ext xW) S O hc D v hv (X2.trans xW));go_wp21;refine(Y _ (hO m)).mono ?_;rintro e w3 ⟨y,t,u,T,P,Z,V⟩;have e2:=uH T;subst e2;have DR:=uU P;have Q:=uU Z;have X3:=uU V;clear T Z V P Y;clear o I M F E z C L y0 y1 y2;obtain⟨u0,u1,u2,u3,u4,u5,u6,u7⟩:=Q.boxes K;have ah:w.heap.size+1<w3.heap.size:=uQ u5;go_wp21;refine bodyPost_ret (v:=tD t u) (by simp[results,results70,go_sem,u5,u6]) rfl ?_;exact⟨y,t,u,rfl,.inr ⟨D,DR⟩,GOk.done K Q t u,eJ X3 (show v.heap.size<=w.heap.size+1 by have:=hx.size;omega) t u⟩
theorem l5do_9[p:qr](B g:Nat)(x:Hp)(a b c:Nat)(n:Int)(w:World)(h:GOk B w g x)(s:Snd x)(T:zC 9 a b c n=true)(D:a<16)(R:c<=200)(v:World)(U:v.heap.size<=B)(C:Ext v w):
  Calls prog 28 #[pP g,yU 9 a b c n] w λe w'=>a1a B g x a b c n 9 v e w':=by
 have⟨p1,J,K⟩:=GOk.enter h (w0:=doW w 9 a b c n) ((eAl w _).alloc _);have S:=uU s;have q:=λW=>a1g 9 a b c n W;rw[T]at q;go_in;go_wp21;refine(q _).mono ?_;rintro e o ⟨rfl,l⟩;have u:=(show Ext v (doW w 9 a b c n) from(C.alloc _).alloc _).trans l;have m:=(yE.new w 9 a b c n).ext l;have⟨t0,t1,t2,Z,t4,Y,X,t7⟩:=uH m;have t:=K.ext l
 go_wp21;refine(show Calls prog 70 #[pP g,yU 9 a b c n] o λe w'=>a1a B g x a b c n 9 v e w' from by
  by_cases i:(x.r a).k=2;exact d1v B g x a b c n o t S D R i v U u;exact(b7m B g x 9 a b c n o t S D i v u).mono λe V j=>⟨x,2,0,j.1,.inl ⟨i,rfl,rfl,rfl⟩,j.2.1,j.2.2⟩).mono ?_;rintro e w3 ⟨y,f,d,G,I,P,L⟩;have O:=uH G;subst O;have z:=uU P;obtain⟨u0,u1,u2,u3,u4,u5,u6,u7⟩:=z.boxes J;go_wp2;refine bodyPost_ret (v:=tD f d) (by simp[results,results28,go_sem,u5,u6]) rfl ?_;exact⟨y,f,d,rfl,I,GOk.done J z f d,eJ L (show v.heap.size<=w.heap.size+1 by have:=C.size;omega) f d⟩
theorem c9i(r:a2i z x)(a:z.A.length=x.A.length):uV z=uV x:=by grind[Hp.r,a2i,uV,qU.r5]
theorem Snd.stTo{x:Hp}(s:Snd x)(H:Nat->Bool):∀k,k<=x.A.length->Snd (stTo x H k)
 | 0,_=>s
 | k+1,hk=>by
  have sz:=Snd.stTo s H k (by omega);have zl:=a2j x H k;have zc:(Go.Proofs.YtgkpaibbdkggiaaGreatDoor.stTo x H k).c k=x.c k:=by rw[b1w x H k (by omega) k,if_neg (by omega)]
  have sc:=c9i (a3p x H k) zl;show Snd (a1b x H k (Go.Proofs.YtgkpaibbdkggiaaGreatDoor.stTo x H k));have⟨z,hz⟩:=obE (Go.Proofs.YtgkpaibbdkggiaaGreatDoor.stTo x H k);rw[<-hz]at sz zl zc sc ⊢;have hi:k<z.A.length:=by omega
  unfold a1b;split;have e:({ z with A:=z.A.set k (a7c x H (x.c k)),K:=z.K-qC x H (x.c k) (x.c k).F,sub:=zW x H k z.sub }:Hp)=b9o z k (λp=>!goB x H (x.c k) p) (qC x H (x.c k) (x.c k).F) (zW x H k z.sub):=by
   unfold b9o b9n a7c a5p;rw[zc]
  rw[e];refine sz.thin (b3m.flt sz k hi _ _ _ ?_ ?_);rw[zc];exact a4w x H (x.c k) (x.c k).F;unfold zW;rw[sc,zc];split;rename_i es;have a:=sz.scan k (sc▸es);have b:=sz.r1.sub;rw[zc]at a;have c:=a4w x H (x.c k) ((x.c k).F.take z.sub.toNat);rw[mw]at c;unfold a5p at c;omega;rfl;split
  ·rename_i _ e1;have e:({ z with A:=z.A.set k (b5b (x.c k)) }:Hp)=hD z k (b5b (z.c k)):=by rw[zc];rfl
   rw[e];exact sz.thin (b3m.self sz k _ hi (a0u sz.r2 k hi (.inl (by rw[zc];exact e1))) ⟨rfl,rfl,rfl,rfl,rfl⟩ rfl (.inl rfl) (.inr ⟨by show(0:Int)<=2;omega,by show(2:Int)<=3;omega⟩) (λ_=>.inl (zc▸e1)))
  exact sz
theorem Snd.settle(s:Snd x)(H:Nat->Bool):Snd (a1u x H):=by
 rw[<-a4d];exact s.stTo H _ (hT _)
theorem DoR.sndB(s:Snd x)(m:a<16)(l:k≠1->k≠23->b<16)(d:k=1->b<=255/\c<=200)(g:k=23->b<=64/\c<=4000)(i:k=11->c<=3)(f:k=12->c<=1)(j:k≠9)(h:DoR x a b c n y cd nm k):Snd y:=by
 by_cases e:k=1;subst e;exact a7d.snd s (d rfl).1 (d rfl).2 h;grind[Snd.settle,DoR.sndA,DoR,Hp.c]
theorem DoR.snd(s:Snd x)(i:a<16)(j:k≠1->k≠23->b<16)(l:k=1->b<=255/\c<=200)(f:k=23->b<=64/\c<=4000)(g:k=11->c<=3)(e:k=12->c<=1)(h:DoR x a b c n y cd nm k):Snd y:=by
 by_cases d:k=9;subst d;obtain h|h:=h
 ·rw[h.2.1];exact s
 exact a7e.snd s i h.1 rfl h.2;grind[DoR.sndB,DoR,Hp.c]
theorem c2f(p:Nat->Bool)(h:Nat):∀d,(List.range (h+d)).filter (λi=>p i && decide ((i:Int)<(h:Int)))=(List.range h).filter p
 | 0=>by
  refine List.filter_congr λi hi=>?_
  have:=me.1 hi;have e:decide ((i:Int)<(h:Int))=true:=by simp;omega
  rw[e,nt]
 | d+1=>by
  rw[<-Nat.add_assoc,mn,mH,c2f p h d,qP (by simp;intro _;omega),List.filter_nil,qA]
theorem c9o(x:Hp)(k:Nat):(a6u x k).length<=k:=a2q _ _ _
theorem b3n.soq[qr](hz:∀q,(default:uL).z q=none)(h:b3n B w b x)(s:Snd x):SOq 24000 B w b x:=by
 have⟨ar,kr,a4,n4,k4,a8,m8,k8,br,cB,cO,bn,pb,pa,pk,kn,hd,vf,F,vk,role,hst,ho,pm,hk⟩:=h;have hh:=s.r1.I;have n8:=s.ok.n8;refine⟨ar,kr,a4,n4,k4,a8,m8,k8,br,cB,cO,bn,pb,pa,pk,kn,hd,vf,F,vk,_,role,hst,⟨ho,λi hi h0=>by grind[a4t,b3n,SOq],λv hv=>by grind[a4t,b3n,SOq],?_,λh3=>?_,λh4=>?_,λh3 h4=>?_⟩,by omega,hz bn⟩;have l1:=pm.length_eq;have l2:=c9o x x.A.length;have l3:kU x<=16000:=by grind[kU,b3n,SOq]
 omega;have e:x.A.length=x.I.toNat+(x.A.length-x.I.toNat):=by omega
 have e2:zZ x x.A.length=(List.range x.A.length).filter (λi=>((x.c i).st == 1) && decide ((i:Int)<(x.I.toNat:Int))):=by grind[zZ,Hp.c,SAt.I,Snd.I,a1n,b3n,SOq]
 rw[e2,e,c2f (λi=>(x.c i).st == 1) x.I.toNat _];refine⟨List.pairwise_lt_range.filter _,λi hi=>?_,λi hi h1 hn=>?_⟩;grind[b3n,SOq];grind[b3n,SOq];have e2:zZ x x.A.length=(List.range x.A.length).filter (λi=>(x.c i).st == 1):=by
  unfold zZ;refine List.filter_congr λi _=>?_
  have:a1n x i=true:=by unfold a1n;simp[h4]
  rw[this,nt]
 rw[e2];refine⟨List.pairwise_lt_range.filter _,λi hi=>?_,λi hi h1 hn=>?_⟩;grind[b3n,SOq];grind[b3n,SOq];unfold zZ;refine List.filter_eq_nil_iff.2 λi _=>?_
 have:a1n x i=false:=by unfold a1n;simp[h3,h4]
 simp[this]
theorem b5y[qr](h:SOq C B w b x)(i:C<=1000000000)(s:Snd x)(a:World)(j:a.heap.size<=B)(g:Ext a w):
  Calls prog 84 #[pP b] w λe w'=>∃k:Nat,e=.returned (iv k)/\Hid (b2v x k)/\Hid (SOq C B w' b (itU k x))/\Ext a w':=by
 go_in;go_wp21;refine(a4f 9223372036854775807 h i s a j g).mono ?_;rintro e l ⟨k,rfl,d,f,c⟩;have E:=uU (show b2v x k by
  have⟨r,_,e⟩:=uH d;refine⟨?_,r⟩;obtain e|e:=e;have:=r.le s;omega;exact e)
 go_wp2;go_ret;exact⟨k,rfl,E,f,c⟩
def EndH(x:Hp)(y:Hp):Prop:=∃k,b2v x k/\y=itU k x
theorem EndH.snd(s:Snd x)(h:EndH x y):Snd y/\y.E=0:=by
 have⟨k,a,b⟩:=h;rw[b];exact⟨s.itU k,a.1⟩
theorem b2e[qr](h:SOq C B w b x)(t:C+16000<=1000000000)(s:Snd x)(a:World)(f:a.heap.size<=B)(r:Ext a w):
  Calls prog 32 #[pP b] w λe w'=>∃y z,e=.returned (.tuple #[])/\Hid (EndH x y/\EndH (dC y 1 0) z)/\Hid (SOq (C+16000) B w' b z)/\Ext a w':=by
 go_in;go_wp21;refine(b5y h (by omega) s a f r).mono ?_;rintro e v ⟨k,rfl,d,g,m⟩;have⟨y,i⟩:=obE (itU k x);rw[<-i]at g;have c:=uU (show EndH x y from⟨k,d,i⟩);go_wp21;refine(b2d g (c.snd s).2 a f m).mono ?_;rintro e u ⟨rfl,l,o⟩;go_wp21;refine(b5y l t ((c.snd s).1.begin (c.snd s).2) a f o).mono ?_;rintro e A ⟨j,rfl,d,q,n⟩;go_wp21;go_end0;exact⟨y,_,rfl,⟨c,(show EndH (dC y 1 0) (itU j (dC y 1 0)) from⟨j,d,rfl⟩)⟩,q,n⟩
theorem c2g[qr](n:Nat)(h:SOq C B w b x)(m:C+16000<=1000000000)(s:Snd x)(A:n<=100000)(a:World)(j:a.heap.size<=B)(l:Ext a w):
  Calls prog 31 #[pP b,iv n] w λe w'=>∃k:Nat,e=.returned (iv k)/\Hid (a2f (stepH x n) n k)/\Hid (SOq (C+16000) B w' b (itU k (stepH x n)))/\Ext a w':=by
 have r:=h.box.1;have H:=uU h;by_cases f:n=0;have e:stepH x n=x:=by unfold stepH;rw[if_neg (λh=>h.2 f)]
 rw[e];have p:¬(n:Int) > 0:=by omega
 clear h e f;go_in;go_wp21;refine(a4f n (H.wide (by omega:C<=C+16000)) m s a j l).mono ?_;rintro e o ⟨k,rfl,i,d,g⟩;go_wp21;go_ret;exact⟨k,rfl,i,d,g⟩;have p:(n:Int) > 0:=by omega
 by_cases c:x.E=0;have e:stepH x n=dC x 1 0:=by unfold stepH;rw[if_pos ⟨c,f⟩]
 rw[e];rw[c]at r;have v:=uU (b2d h c a j l);have t:=uU (s.begin c);clear h e f c;go_in;go_wp21;refine v.mono ?_;rintro e o ⟨rfl,d,g⟩;go_wp21;refine(a4f n d m t a j g).mono ?_;rintro e y ⟨k,rfl,i,q,u⟩;go_wp21;go_ret;exact⟨k,rfl,i,q,u⟩;have e:stepH x n=x:=by unfold stepH;rw[if_neg (λh=>c h.1)]
 rw[e];have z:(x.E == 0)=false:=by simpa using c
 clear h e f c;go_in;go_wp21;refine(a4f n (H.wide (by omega:C<=C+16000)) m s a j l).mono ?_;rintro e o ⟨k,rfl,i,d,g⟩;go_wp21;go_ret;exact⟨k,rfl,i,d,g⟩
structure SPr[qr](C B:Nat)(w:World)(b:Nat)(x:Hp)(i k bn kn cb co bp kp:Nat):Prop where
 ce:b6f C B w b x i bn kn cb co (some ⟨bp,0,none⟩) kp
 pr:qY w bp (k*6) ((x.c i).p k)
 f:∀j,w.frozen? ⟨bp,j,none⟩=false
 lo:B<=bp/\bp<w.heap.size
theorem b8d(W:World)(a o:Nat)(q:Pr)(y:Wd)(h:qY W a o q):qY (cX W a o y) a o ⟨y,q.val⟩:=by
 obtain⟨f,b,d,c,g,e⟩:=h;have k:=a1m W a o y q.key ⟨f,b,d⟩;exact⟨k.1,k.2.1,k.2.2,(dL _ _ _ _ _ (by omega)).trans c,(dL _ _ _ _ _ (by omega)).trans g,(dL _ _ _ _ _ (by omega)).trans e⟩
theorem b8e(W:World)(a o:Nat)(q:Pr)(y:Wd)(h:qY W a o q):qY (cX W a (o+3) y) a o ⟨q.key,y⟩:=by
 obtain⟨f,b,d,c,g,e⟩:=h;have k:=a1m W a (o+3) y q.val ⟨c,g,e⟩;exact⟨(dL _ _ _ _ _ (by omega)).trans f,(dL _ _ _ _ _ (by omega)).trans b,(dL _ _ _ _ _ (by omega)).trans d,k.1,k.2.1,k.2.2⟩
def PutS[qr](C B:Nat)(w:World)(b:Nat)(x:Hp)(i k bn bp:Nat):Prop:=
 ∀(o:Nat)(y:Wd)(z:Hp),(o=0/\z=hD x i (keyC (x.c i) k y))\/(o=3/\z=hD x i (valC (x.c i) k y))->∀W W2:World,Ext w W->Ext (cX W bp (k*6+o) y) W2->
  yD W2 bp (k*6+o) y/\SOq C B W2 b z/\(∃kn,W2.cell? ⟨b,13,none⟩=some (.slice (some ⟨bn,0,none⟩) x.A.length kn))/\
  ∀(v:World)(t:Nat),t<x.A.length->v.heap.size<=B->Ext v W2->(eE z t=true->x.D.length<4000)->Calls prog 222 #[.pointer (some ⟨b,0,none⟩),ndp bn t] W2 λe w'=>e=.returned (.tuple #[])/\Hid (SOq C B w' b (uK z t))/\Ext v w'
theorem SOq.prw[qr](h:SOq C B w b x)(i:Nat)(d:i<x.A.length)(k:Nat)(u:k<(x.c i).F.length):∃bn kn cb co bp kp,SPr C B w b x i k bn kn cb co bp kp/\PutS C B w b x i k bn bp:=by
 have h0:=h;obtain⟨ar,kr,a4,n4,X,a8,U,k8,br,D,H,bn,g,pa,pk,kn,hd,vf,F,vk,K,l,h,v,R⟩:=h;obtain⟨f,N,cb,co,ap,kp,s⟩:=h0.cel i d;have O:0<(x.c i).F.length:=by omega
 obtain⟨Z,Q,_,e4⟩:=h.rw.pl i d (h.rw.pw d O);have G:f=bn:=by
  have:=s.n13.symm.trans h.sb.n13;simp at this;exact this.1
 subst G;have E:cb=D i/\co=H i:=by
  have:=s.m1.symm.trans (h.sb.nd i d).2;simp at this;exact this
 obtain⟨rfl,rfl⟩:=E;have L:ap=some (aA (g i) 0):=by
  have:=s.p7.symm.trans (h.rw.p7 i d);rw[Z]at this;simp at this;exact this.1
 subst L;have sm:∀c:Cl,c.st=(x.c i).st->dQ x (hD x i c):=λc hc=>dQ.set x i c hc rfl
 refine⟨f,N,D i,H i,g i,kp,⟨s,h.rw.p i d k u,Q.2,⟨e4,Q.1⟩⟩,λo y z ho W W2 e n=>?_⟩;have r:=h.ext e;have a:=r.rw.p i d k u;have m:=(r.rw.pl i d (r.rw.pw d O)).2.1.n1;have M:SAt B (cX W (g i) (k*6+o) y) b z ar kr (.slice a4 n4 X) (.slice a8 U k8) br D H f g pa pk kn hd vf F vk K l/\dQ x z/\z.E=x.E/\z.I=x.I/\z.M=x.M/\z.D=x.D/\z.A.length=x.A.length/\yD (cX W (g i) (k*6+o) y) (g i) (k*6+o) y:=by
  obtain⟨rfl,rfl⟩|⟨rfl,rfl⟩:=ho;refine⟨r.setp i d k u ⟨y,((x.c i).p k).val⟩ (cD _ _ _ _) (a2g m _ _) (b8d _ _ _ _ _ a) (λj hj=>dL _ _ _ _ _ (by omega)),sm _ rfl,rfl,rfl,rfl,rfl,by simp[hD],a1m _ _ _ _ ((x.c i).p k).key ⟨a.1,a.2.1,a.2.2.1⟩⟩;refine⟨r.setp i d k u ⟨((x.c i).p k).key,y⟩ (cD _ _ _ _) (a2g m _ _) (b8e _ _ _ _ _ a) (λj hj=>dL _ _ _ _ _ (by omega)),sm _ rfl,rfl,rfl,rfl,rfl,by simp[hD],a1m _ _ _ _ ((x.c i).p k).val ⟨a.2.2.2.1,a.2.2.2.2.1,a.2.2.2.2.2⟩⟩
 obtain⟨Y,V,k3,A,P,k6,T,I⟩:=M;have J:=Y.ext n;have S:zQ C z F K:=v.alike V k3 A;refine⟨I.ext n,⟨_,_,_,_,_,_,_,_,_,_,_,_,_,_,_,_,_,_,_,_,_,_,J,S,by rw[P];exact R⟩,⟨kn,by have:=J.sb.n13;rw[T]at this;exact this⟩,λvv t ht hv hx hg=>?_⟩;refine(b5o t W2 J (by rw[T];exact ht) (λq=>by rw[k6];exact hg q) vv hv hx).mono ?_;rintro e w' ⟨h1,h2,h3⟩;exact⟨h1,⟨_,_,_,_,_,_,_,_,_,_,_,_,_,_,_,_,_,_,_,_,_,_,h2,S.alike (a5t _ t) (cC _ t).2.2.2.2.2.1 (cC _ t).2.2.2.2.2.2.1,by rw[(cC _ t).1,P];exact R⟩,h3⟩
theorem c7b[qr](h:b2f C B w b x br kr)(d:tQ w bd b op a p c n rv)(l:f<16)(g:(x.r f).k≠2):
  Calls prog 220 #[pP bd,pQ br (f*3)] w λe w'=>e=.returned (.tuple #[.pointer none,.iface 146 (.agg #[iv 2])])/\Ext w w':=by
 have i:=uU (a5b h d l g);go_in;go_wp21;refine i.mono ?_;rintro e m ⟨rfl,j⟩;go_wp21;go_ret2;exact⟨rfl,j⟩
theorem b6g[qr](h:b2f C B w b x br kr)(d:tQ w bd b op a p c n rv)(s:f<16){ap:Option Addr}(j:b6f C B w b x i bn kn cb co ap kp)(m:(x.r f).k=2)(o:(x.r f).a=(i:Int))(t:i<x.A.length)(K:(x.c i).F.length<=c):
  Calls prog 220 #[pP bd,pQ br (f*3)] w λe w'=>e=.returned (.tuple #[.pointer none,.iface 146 (.agg #[iv 3])])/\Ext w w':=by
 have D:=uU d;have q:=uU (a2b h j d s m o t);have l:=uU j;go_in;go_wp21;refine q.mono ?_;rintro e E ⟨rfl,g⟩;have y:=(l.ext g).m1;have F:=(l.ext g).p7;obtain⟨G,H,z,v,A,u,J⟩:=D.ext g;have I:(c:Int)≥((x.c i).F.length:Int):=by omega
 go_wp21;go_quiet (fail);go_wp21;go_ret2;exact⟨rfl,Ext.drewN g _⟩
theorem c3a[qr](h:b2f C B w b x br kr)(d:tQ w bd b op a p c n rv)(G:f<16)(m:SPr C B w b x i c bn kn cb co bp kp)(y:(x.r f).k=2)(z:(x.r f).a=(i:Int))(H:i<x.A.length)(Q:c<(x.c i).F.length)(I:op=5\/op=7):
  Calls prog 220 #[pP bd,pQ br (f*3)] w λe w'=>e=.returned (.tuple #[pQ bp (c*6),.nilIface])/\Ext w w':=by
 have D:=uU d;have A:=uU (a2b h m.ce d G y z H);have t:=uU m.ce;clear m y z;clear h d;go_in;go_wp21;refine A.mono ?_;rintro e s ⟨rfl,l⟩;have q:=(t.ext l).m1;have o:=(t.ext l).p7;obtain⟨P,u,O,L,v,J,N⟩:=D.ext l;have K:(c:Int)<((x.c i).F.length:Int):=by omega
 have M:=i0N c;obtain rfl|rfl:=I;all_goals
  go_wp21;go_quiet (fail);obtain⟨E,g⟩:∃W,W=s.drewN nq:=⟨_,rfl⟩;rw[<-g];have j:Ext s E:=by rw[g];exact Ext.drewN (hO _) nq
  have q:=j.keep q;have o:=j.keep o;have u:=j.keep u;have v:=j.keep v;have F:=uU (l.trans j);clear g;go_wp21;go_quiet (fail);go_wp21;go_ret2;exact⟨rfl,Ext.drewN F _⟩
theorem c3b[qr](h:b2f C B w b x br kr)(d:tQ w bd b op a p c n rv)(G:f<16)(m:SPr C B w b x i c bn kn cb co bp kp)(y:(x.r f).k=2)(z:(x.r f).a=(i:Int))(H:i<x.A.length)(Q:c<(x.c i).F.length)(I:op=6\/op=8):
  Calls prog 220 #[pP bd,pQ br (f*3)] w λe w'=>e=.returned (.tuple #[pQ bp (c*6+3),.nilIface])/\Ext w w':=by
 have D:=uU d;have A:=uU (a2b h m.ce d G y z H);have t:=uU m.ce;clear m y z;clear h d;go_in;go_wp21;refine A.mono ?_;rintro e s ⟨rfl,l⟩;have q:=(t.ext l).m1;have o:=(t.ext l).p7;obtain⟨P,u,O,L,v,J,N⟩:=D.ext l;have K:(c:Int)<((x.c i).F.length:Int):=by omega
 have M:=i0N c;obtain rfl|rfl:=I;all_goals
  go_wp21;go_quiet (fail);obtain⟨E,g⟩:∃W,W=s.drewN nq:=⟨_,rfl⟩;rw[<-g];have j:Ext s E:=by rw[g];exact Ext.drewN (hO _) nq
  have q:=j.keep q;have o:=j.keep o;have u:=j.keep u;have v:=j.keep v;have F:=uU (l.trans j);clear g;go_wp21;go_quiet (fail);go_wp21;go_ret2;exact⟨rfl,Ext.drewN F _⟩
theorem SAt.rowTo[qr]{v4 v8:Value}{cB cO:Nat->Nat}{pb:Nat->Nat}{pa:Nat->Option Addr}{pk:Nat->Nat}{hd:Nat}{vf:Value}{F:List Int}{vk:Value}{K:List Nat}{role:Nat->Nat}{w':World}(h:SAt B w b z ar kr v4 v8 br cB cO bn pb pa pk kn hd vf F vk K role)(i:Nat)(P:i<z.A.length)(r0:0<z.B.length)(L:List Pr)(N:Nat)(Y:Option Addr)(S:Nat)(hL:L.length<=S)(o:uZ (λq=>q=cB i\/(q=pb i/\0<pk i)) w w')(Z:Nf1 (cB i) w')(R:(N=pb i/\0<pk i)\/w.heap.size<=N)(hN:0<S->Y=some (aA N 0)/\Nfp N S w')(aa:B<=N)(c7:w'.cell? (aA (cB i) (cO i+7))=some (.slice Y L.length S))(X:∀j,j≠cO i+7->w'.cell? (aA (cB i) j)=w.cell? (aA (cB i) j))(hp:kN w' N L):
  SAt B w' b { z with A:=z.A.set i { z.c i with F:=L } } ar kr v4 v8 br cB cO bn (λq=>if q=i then N else pb q) (λq=>if q=i then Y else pa q) (λq=>if q=i then S else pk q) kn hd vf F vk K (λd=>if w.heap.size<=d then 6+i else role d):=by
 have y:∀q,q<w.heap.size->(if w.heap.size<=q then 6+i else role q)=role q:=λq g=>if_neg (by omega)
 have A:∀q,q<w.heap.size->role q≠3->role q≠6+i->w'.heap[q]?=w.heap[q]?:=λq g E W=>o.block q g (λe=>by
  obtain e|⟨e,l⟩:=e;exact E (e▸h.sp.c i P);exact W (e▸h.sp.p i P l))
 have v:({ z with A:=z.A.set i { z.c i with F:=L } }:Hp).A.length=z.A.length:=by simp
 have hc:=Hp.c_set z i { z.c i with F:=L } P;have G:∀q,q≠i->(({ z with A:=z.A.set i { z.c i with F:=L } }:Hp).c q)=z.c q:=λq e=>by rw[hc q,if_neg e]
 have J:(({ z with A:=z.A.set i { z.c i with F:=L } }:Hp).c i)={ z.c i with F:=L }:=by rw[hc i,if_pos rfl]
 have I:∀q,q<w.heap.size->role q≠6+i->q≠N:=λq g E e=>by
  obtain⟨e1,l⟩|e1:=R;exact E (by rw[e,e1];exact h.sp.p i P l);omega
 have pf:∀q,q<z.A.length->q≠i->0<pk q->w'.heap[pb q]?=w.heap[pb q]?:=λq g ab v=>A (pb q) (h.rw.pl q g v).2.1.1 (by rw[h.sp.p q g v];omega) (by rw[h.sp.p q g v];omega)
 have t:=h.sb.same o.size (A b h.sb.nb.1 (by rw[h.sp.b];omega) (by rw[h.sp.b];omega)) (A bn h.sb.lo.2.2.1 (by rw[h.sp.n];omega) (by rw[h.sp.n];omega)) (λq g=>A q (h.sb.fr.own.lt q g).2 (by rw[h.sp.f q g];omega) (by rw[h.sp.f q g];omega)) (λq g=>A q (h.sb.kp.lt q g).2 (by rw[h.sp.k q g];omega) (by rw[h.sp.k q g];omega));have cf:∀q,q<z.A.length->cB q≠cB i->w'.heap[cB q]?=w.heap[cB q]?:=λq g e=>o.block (cB q) (h.rw.nc q g).1.1 (λl=>by
  obtain l|⟨l,e3⟩:=l;exact e l;exact(h.rw.pl i P e3).2.2.1.2 q g l.symm)
 have ck:∀q,q<z.A.length->q≠i->∀k,k<8->w'.cell? (aA (cB q) (cO q+k))=w.cell? (aA (cB q) (cO q+k)):=λq g e k V=>by
  by_cases l:cB q=cB i;rw[l];obtain d|d|d:=h.rw.dc q i g P e
  ·exact(d l).elim
  exact X _ (by omega);exact X _ (by omega);exact cOb (cB q) _ (cf q g l)
 have cn:∀q,q<z.A.length->Nf1 (cB q) w':=λq g=>by
  by_cases l:cB q=cB i;rw[l];exact Z;exact uY (h.rw.nc q g).1 (cf q g l) o.size
 have fr:0<z.B.length->w'.heap[br]?=w.heap[br]?:=λE=>A br (h.rw.nr E).1.1 (by rw[h.sp.r E];omega) (by rw[h.sp.r E];omega)
 refine⟨⟨t.bx,t.ha,v▸t.n13,λk V=>t.nd k (by rw[v]at V;exact V),t.fr,t.rg,t.k0,t.kp,t.nb,t.lo⟩,⟨λj D=>?_,λq g=>?_,λq g=>?_,λq g j D=>?_,λq g x=>?_,λE=>⟨uY (h.rw.nr E).1 (fr E) o.size,(h.rw.nr E).2⟩,λq g=>⟨cn q (by rw[v]at g;exact g),(h.rw.nc q (by rw[v]at g;exact g)).2⟩,λq g=>h.rw.d q (by rw[v]at g;exact g),λq M g C Q H O=>?_,λq M g C G=>h.rw.dc q M (by rw[v]at g;exact g) (by rw[v]at C;exact C) G,λq g=>?_⟩,⟨by rw[y b h.sb.nb.1];exact h.sp.b,by rw[y bn h.sb.lo.2.2.1];exact h.sp.n,λE=>by rw[y br (h.rw.nr E).1.1];exact h.sp.r E,λq g=>by rw[v]at g;rw[y (cB q) (h.rw.nc q g).1.1];exact h.sp.c q g,λq g=>by rw[y q (h.sb.fr.own.lt q g).2];exact h.sp.f q g,λq g=>by rw[y q (h.sb.kp.lt q g).2];exact h.sp.k q g,λq g x=>?_⟩,h.pr.of (λq g H=>A q g (by rw[H];omega) (by rw[H];omega)) (λq g H=>by(try dsimp only);rw[y q g];exact H)⟩;exact(h.rw.r j D).of λm _=>cOb br _ (fr (by have:j<z.B.length:=D;omega))
 rw[v]at g;by_cases e:q=i
 ·subst e;rw[J];exact(h.rw.s q g).of λm hm=>X _ (by omega)
 rw[G q e];exact(h.rw.s q g).of λm hm=>ck q g e m (by omega)
 rw[v]at g;by_cases e:q=i
 ·subst e;rw[J];simp only[if_true];exact c7
 rw[G q e];simp only[if_neg e];rw[ck q g e 7 (by omega)];exact h.rw.p7 q g;rw[v]at g;by_cases e:q=i
 ·subst e;rw[J]at D ⊢;simp only[if_true];have:=hp j D;rw[Cl.p_eq { z.c q with F:=L } j D]at this;exact this
 rw[G q e]at D ⊢;simp only[if_neg e];exact(h.rw.p q g j D).of λm _=>cOb (pb q) _ (pf q g e (h.rw.pw g (by omega)))
 rw[v]at g;by_cases e:q=i
 ·subst e;simp only[if_true]at x ⊢;have⟨T,U⟩:=hN x;refine⟨T,U,⟨λe=>?_,λj D e=>?_⟩,aa⟩
  ·exact I br (h.rw.nr r0).1.1 (by rw[h.sp.r r0];omega) e.symm
  rw[v]at D;exact I (cB j) (h.rw.nc j D).1.1 (by rw[h.sp.c j D];omega) e.symm
 simp only[if_neg e]at x ⊢;have⟨T,U,a3,a4⟩:=h.rw.pl q g x;exact⟨T,eN U (pf q g e x) o.size,⟨a3.1,λj D=>a3.2 j (by rw[v]at D;exact D)⟩,a4⟩;rw[v]at g C;by_cases e:q=i
 ·subst e;have e':M≠q:=λe=>Q e.symm
  simp only[if_true,if_neg e']at H O ⊢;exact λu=>I (pb M) (h.rw.pl M C O).2.1.1 (by rw[h.sp.p M C O];omega) u.symm
 by_cases l:M=i
 ·subst l;simp only[if_true,if_neg e]at H O ⊢;exact I (pb q) (h.rw.pl q g H).2.1.1 (by rw[h.sp.p q g H];omega)
 simp only[if_neg e,if_neg l]at H O ⊢;exact h.rw.dp q M g C Q H O;rw[v]at g;by_cases e:q=i
 ·subst e;rw[J];simp only[if_true];exact hL
 rw[G q e];simp only[if_neg e];exact h.rw.kp q g;rw[v]at g;by_cases e:q=i
 ·subst e;simp only[if_true]at x ⊢;obtain⟨e1,l⟩|e1:=R
  ·rw[e1,y (pb q) (h.rw.pl q g l).2.1.1];exact h.sp.p q g l
  rw[if_pos e1]
 simp only[if_neg e]at x ⊢;rw[y (pb q) (h.rw.pl q g x).2.1.1];exact h.sp.p q g x
