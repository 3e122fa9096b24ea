import Derived.Test.YtolmnenlnpbcfaaGreatDoorSpecA4
import Derived.Test.YtolmnenlnpbcfaaGreatDoorDn3
import Derived.Test.YtolmnenlnpbcfaaGreatDoorQe
import Derived.RangeFuncFrom
set_option maxRecDepth 100000
set_option maxHeartbeats 8000000
namespace Go.Proofs.YtolmnenlnpbcfaaGreatDoor
open Go.RowKit Go.Proofs.Tryz
attribute [local go_sem ↓] Go.wp_at_zero Go.wp_at_succ
variable{kr B b C br bn kn bd f a p c kc kg i cb co kp bp:Nat}{x:Hp}{w:World}{ar ac ag:Option Addr}{op n:Int}{rv:Value}
def c0t(c:Cl):Bool:=(c.kind == 0) && (c.T == 0) && (c.U == 0) && (c.born == 0) && (c.J == 0) && ((c.F.length:Int) == 0)
theorem b1n{c:Cl}:c0t c=true↔a5g c:=by simp[c0t,a5g,and_assoc]
def a9x(x:Hp)(c:Cl):Bool:=eK c.kind 0 255 && eK c.T 0 3 && eK c.U 0 3 && eK c.born 1 x.born && eK c.J 0 2 && !(c.to != 0) && !decide ((c.F.length:Int) > 200)
theorem c0u{c:Cl}:a9x x c=true↔a2q x c:=by
 simp[a9x,a2q,eK,and_assoc];omega
def movB(x:Hp)(k:Nat):Bool:=c0t (x.c k) && !decide (x.E<4) && !decide ((x.c k).to<0) && !decide ((x.c k).to≥(k:Int)) && a6m x (x.c k).to.toNat
theorem c0v(x:Hp)(b:Nat)(w:World)(h:HAt w b x ar kr ac kc ag kg):
  Calls prog 26 #[.pointer (some ⟨b,0,none⟩)] w λe w'=>∃r:Bool,e=.returned (.bool r)/\(r=true↔R2 x)/\Ext w w':=by
 have c4:=h.c4;have lc:=h.lc;go_enter func26,ntmps26;go_wp21;go_loopw [12] (λi wr=>∃k:Nat,k<=x.A.length/\i=.int .i64 k/\Hid (∀j,j<k->cZ x j)/\Ext w wr) (λi _=>x.A.length-(intOf i).toNat)
 case atStart=>exact⟨0,kB _,rfl,λj h=>by omega,hO _⟩
 case round=>
 obtain⟨k,hk,rfl,HA,A⟩:=hrel;by_cases t:k<x.A.length;rotate_left
 ·go_wp21;refine(c0s x b _ (h.ext A)).mono ?_;rintro e w1 ⟨r,rfl,hr,q⟩;have R:=uU hr;clear hr;go_wp2;go_ret;exact⟨r,rfl,⟨λf=>⟨λj hj=>uH HA j (by omega),R.1 f⟩,λf=>R.2 f.2⟩,A.trans q⟩
 have y:=h.ext A;obtain⟨b',o,F,C,rfl,p0,p1,p2,p3,p4,p5,p6,p7,lp,P⟩:=y.cell k t;clear P;have e2:=y.c2;have e5:=y.c5;have al:=cLt p0;have D:=cLt e5;have aj:=i0N k;have ae:(k:Int)<(x.A.length:Int):=by omega
 obtain⟨V,hV⟩:=obE (wr.alloc (oCl (x.c k) (.slice F (x.c k).F.length C)));have L:=uU (show Ext w V by rw[hV];exact A.alloc _);have G:=uU (y.ext (show Ext wr V by rw[hV];exact(hO wr).alloc _));have HV:=uU hV;have ST:=uU (show cZ x k->Hid (∀j,j<k+1->cZ x j) from λn j hj=>by
  by_cases e:j=k;subst e;exact n;exact HA j (by omega))
 have NK:=uU (show ¬cZ x k->¬R2 x from λn r=>n (r.1 k t));clear hV y;go_upto_region 4 with fail;go_cut [5] from 17 to 45 (λv wx=>∃u:Bool,v=.bool u/\Hid (u=c0t (x.c k))/\V=wx)
 case first=>
  cases z0:((x.c k).kind == 0);rotate_left;cases z1:((x.c k).T == 0);rotate_left;cases z2:((x.c k).U == 0);rotate_left;cases z3:((x.c k).born == 0);rotate_left;cases z4:((x.c k).J == 0)
  all_goals
   go_wp21;go_meet;exact⟨_,rfl,by show _=_;simp[c0t, *],HV⟩
 case rest=>
 obtain⟨u,rfl,U,rfl⟩:=hcut;have v0:V.cell? ⟨wr.heap.size,0,none⟩=some (.int .i64 (x.c k).st):=by rw[uH HV];simp[go_sem]
 have v1:V.cell? ⟨wr.heap.size,1,none⟩=some (.int .i64 (x.c k).kind):=by rw[uH HV];simp[go_sem]
 have v2:V.cell? ⟨wr.heap.size,2,none⟩=some (.int .i64 (x.c k).T):=by rw[uH HV];simp[go_sem]
 have v3:V.cell? ⟨wr.heap.size,3,none⟩=some (.int .i64 (x.c k).U):=by rw[uH HV];simp[go_sem]
 have v4:V.cell? ⟨wr.heap.size,4,none⟩=some (.int .i64 (x.c k).born):=by rw[uH HV];simp[go_sem]
 have v5:V.cell? ⟨wr.heap.size,5,none⟩=some (.int .i64 (x.c k).J):=by rw[uH HV];simp[go_sem]
 have v6:V.cell? ⟨wr.heap.size,6,none⟩=some (.int .i64 (x.c k).to):=by rw[uH HV];simp[go_sem]
 have v7:V.cell? ⟨wr.heap.size,7,none⟩=some (.slice F (x.c k).F.length C):=by rw[uH HV];simp[go_sem]
 have f2:=G.c2;have f5:=G.c5;have rs:=cLt v0;have bs:=cLt f5;clear p0 p1 p2 p3 p4 p5 p6 p7 e2 e5 al D;cases s0:((x.c k).st == 0)
 ·cases s2:((x.c k).st == 2)
  ·cases s1:((x.c k).st == 1)
   ·have N:=uU (NK (λc=>by simp at s0 s1 s2;unfold cZ at c;omega));go_wp2;go_ret;first|(exact kT ⟨rfl,N,L⟩)|(exact⟨false,rfl,fNo N,L⟩)
   have K:=uU (show a9x x (x.c k)=true↔cZ x k by rw[c0u];simp at s0 s1 s2;simp[cZ,s1]);go_upto_region 19 with fail;go_cut [152] from 110 to 151 (λv wx=>∃u:Bool,v=.bool u/\Hid (u = !a9x x (x.c k))/\Hid (Ext V wx))
   case first=>
    cases i0:eK (x.c k).kind 0 255;rotate_left;cases i1:eK (x.c k).T 0 3;rotate_left;cases i2:eK (x.c k).U 0 3;rotate_left;cases i3:eK (x.c k).born 1 x.born;rotate_left;cases i4:eK (x.c k).J 0 2;rotate_left;cases i5:((x.c k).to != 0);by_cases i6:((x.c k).F.length:Int) > 200
    all_goals
     go_wp21;go_quiet ((go_at_call 65;first|(refine Calls.quiet_of_same (b3w _ _ _ true ?_ _);assumption)|(refine Calls.quiet_of_same (b3w _ _ _ false ?_ _);assumption)));go_wp21;go_meet;exact⟨_,rfl,by show _=_;simp only[a9x, *];first|rfl|simp,(hO V).drewN _⟩
   case rest=>
   obtain⟨v,rfl,HU,J⟩:=hcut;cases v
   ·have S:=uU (ST (K.1 (by have:=uH HU;simpa using this.symm)));go_wp2;go_roundw
    case rel=>exact⟨k+1,by omega,by go_num,S,L.trans J⟩
    simp[intOf];omega
   have N:=uU (NK (λc=>by have:=uH HU;rw[K.2 c]at this;cases this));go_wp2;go_ret;first|(exact kT ⟨rfl,N,L.trans J⟩)|(exact⟨false,rfl,fNo N,L.trans J⟩)
  have hu:=uU (λ(h0:0<=(x.c k).to) (h1:(x.c k).to<(k:Int))=>a8y x b (x.c k).to _ G h0 (by omega));go_upto_region 11 with fail;go_cut [85] from 59 to 84 (λv wx=>∃u:Bool,v=.bool u/\Hid (u = !movB x k)/\V=wx)
  case first=>
   cases u;rotate_left;by_cases m1:x.E<4;rotate_left;by_cases m2:(x.c k).to<0;rotate_left;by_cases m3:(x.c k).to≥(k:Int);rotate_left;have q:=uH hu (by omega) (by omega);cases m4:a6m x (x.c k).to.toNat
   all_goals
    first|rw[m4]at q|skip
    go_wp2_with (go_at_call 66;refine q.mono ?_;rintro e w' ⟨rfl,rfl⟩);go_meet;exact⟨_,rfl,by show _=_;simp only[movB,<-uH U, *];first|rfl|(simp <;> omega),rfl⟩
  case rest=>
  obtain⟨v,rfl,HU,rfl⟩:=hcut;have MS:=uU (show movB x k=true/\(x.E=4->∀j:Nat,(j:Int)<(x.c k).to->(x.c j).st≠0)↔cZ x k by
   simp at s2;simp[cZ,qL,s2,movB,b1n,c8d,and_assoc])
  cases v;rotate_left
  ·have N:=uU (NK (λc=>by have:=uH HU;rw[(MS.2 c).1]at this;cases this));go_wp2;go_ret;first|(exact kT ⟨rfl,N,L⟩)|(exact⟨false,rfl,fNo N,L⟩)
  have MB:=uU (show movB x k=true by have:=uH HU;simpa using this.symm);obtain⟨t',ht⟩:=k9 (show 0<=(x.c k).to by have:=uH MB;simp[movB]at this;omega);have tk:=uU (show(t':Int)<(k:Int) by have:=uH MB;simp[movB]at this;omega);have HT:=uU ht;have g4:=G.c4;rw[ht]at v6;clear ht;go_wp21;go_loop [6] (λi=>∃l:Nat,l<=t'/\i=.int .i64 l/\Hid (x.E=4->∀j,j<l->(x.c j).st≠0)) (λi=>t'-(intOf i).toNat)
  case atStart=>exact⟨0,kB _,rfl,λ_ j h=>by omega⟩
  case round=>
  obtain⟨l,hl,rfl,HB⟩:=hrel;by_cases l2:(l:Int)<(t':Int)
  ·cases m5:(x.E == 4)
   ·have S:=uU (ST (MS.1 ⟨MB,λe=>by simp[e]at m5⟩));go_wp2;go_roundw
    case rel=>exact⟨k+1,by omega,by go_num,S,L⟩
    simp[intOf];omega
   obtain⟨b2,o2,ap2,kp2,e2,r0,_⟩:=G.cell l (by have:=uH tk;omega);cases e2;have l0:=i0N l;have l1:(l:Int)<(x.A.length:Int):=by have:=uH tk;omega
   cases m6:((x.c l).st == 0)
   ·have S:=uU (show x.E=4->∀j,j<l+1->(x.c j).st≠0 from λe j hj=>by
     by_cases e2:j=l;subst e2;simpa using m6;exact HB e j (by omega))
    go_wp2;go_round
    case rel=>exact⟨l+1,by omega,by go_num,S⟩
    simp[intOf];omega
   have N:=uU (NK (λc=>(MS.2 c).2 (by simpa using m5) l (by rw[uH HT];exact l2) (by simpa using m6)));go_wp2;go_ret;first|(exact kT ⟨rfl,N,L⟩)|(exact⟨false,rfl,fNo N,L⟩)
  have S:=uU (ST (MS.1 ⟨MB,λe j hj=>uH HB e j (by rw[uH HT]at hj;omega)⟩));go_wp2;go_roundw
  case rel=>exact⟨k+1,by omega,by go_num,S,L⟩
  simp[intOf];omega
 by_cases ok:cZ x k
 ·have q:=show a5g (x.c k)/\(x.c k).to=0 by simp at s0;simpa[cZ,s0]using ok
  have e:u=true:=by rw[uH U];exact b1n.2 q.1
  have e2:((x.c k).to != 0)=false:=by simp[q.2]
  subst e;have S:=uU (ST ok);clear q ok;go_wp2;go_roundw
  case rel=>exact⟨k+1,by omega,by go_num,S,L⟩
  simp[intOf];omega
 have N:=uU (NK ok);cases u;rotate_left;have e2:((x.c k).to != 0)=true:=by
  simp at s0 ⊢;exact λe=>ok (kT ⟨s0,b1n.1 U.symm,e⟩)
 all_goals
  clear ok;go_wp2;go_ret;first|(exact kT ⟨rfl,N,L⟩)|(exact⟨false,rfl,fNo N,L⟩)
theorem c2q[qd](n:Nat)(h:SOq C B w b x)(m:C+16000<=1000000000)(s:Snd x)(A:n<=100000)(a:World)(j:a.heap.size<=B)(l:Ext a w):
  Calls prog 46 #[pP b,iv n] w λe w'=>∃k:Nat,e=.returned (iv k)/\Hid (a2j (stepH x n) n k)/\Hid (SOq (C+16000) B w' b (itU k (stepH x n)))/\Ext a w':=by
 have r:=h.box.1;have H:=uU h;by_cases f:n=0;have e:stepH x n=x:=by unfold stepH;rw[if_neg (λh=>h.2 f)]
 rw[e];have p:¬(n:Int) > 0:=by omega
 clear h e f;go_in;go_wp21;refine(a4f n (H.wide (by omega:C<=C+16000)) m s a j l).mono ?_;rintro e o ⟨k,rfl,i,d,g⟩;go_wp21;go_ret;exact⟨k,rfl,i,d,g⟩;have p:(n:Int) > 0:=by omega
 by_cases c:x.E=0;have e:stepH x n=dC x 1 0:=by unfold stepH;rw[if_pos ⟨c,f⟩]
 rw[e];rw[c]at r;have v:=uU (b2a h c a j l);have t:=uU (s.begin c);clear h e f c;go_in;go_wp21;refine v.mono ?_;rintro e o ⟨rfl,d,g⟩;go_wp21;refine(a4f n d m t a j g).mono ?_;rintro e y ⟨k,rfl,i,q,u⟩;go_wp21;go_ret;exact⟨k,rfl,i,q,u⟩;have e:stepH x n=x:=by unfold stepH;rw[if_neg (λh=>c h.1)]
 rw[e];have z:(x.E == 0)=false:=by simpa using c
 clear h e f c;go_in;go_wp21;refine(a4f n (H.wide (by omega:C<=C+16000)) m s a j l).mono ?_;rintro e o ⟨k,rfl,i,d,g⟩;go_wp21;go_ret;exact⟨k,rfl,i,d,g⟩
theorem SAt.rowTo[qd]{z:Hp}{v4 v8:Value}{cB cO:Nat->Nat}{pb:Nat->Nat}{pa:Nat->Option Addr}{pk:Nat->Nat}{hd:Nat}{vf:Value}{F:List Int}{vk:Value}{K:List Nat}{role:Nat->Nat}{w':World}(h:SAt B w b z ar kr v4 v8 br cB cO bn pb pa pk kn hd vf F vk K role)(i:Nat)(P:i<z.A.length)(r0:0<z.B.length)(L:List Pr)(N:Nat)(Y:Option Addr)(S:Nat)(hL:L.length<=S)(o:uQ (λq=>q=cB i\/(q=pb i/\0<pk i)) w w')(Z:Nf1 (cB i) w')(R:(N=pb i/\0<pk i)\/w.heap.size<=N)(hN:0<S->Y=some (aA N 0)/\Nfp N S w')(aa:B<=N)(c7:w'.cell? (aA (cB i) (cO i+7))=some (.slice Y L.length S))(X:∀j,j≠cO i+7->w'.cell? (aA (cB i) j)=w.cell? (aA (cB i) j))(hp:yJ w' N L):
  SAt B w' b { z with A:=z.A.set i { z.c i with F:=L } } ar kr v4 v8 br cB cO bn (λq=>if q=i then N else pb q) (λq=>if q=i then Y else pa q) (λq=>if q=i then S else pk q) kn hd vf F vk K (λd=>if w.heap.size<=d then 6+i else role d):=by
 have y:∀q,q<w.heap.size->(if w.heap.size<=q then 6+i else role q)=role q:=λq g=>if_neg (by omega)
 have A:∀q,q<w.heap.size->role q≠3->role q≠6+i->w'.heap[q]?=w.heap[q]?:=λq g E W=>o.block q g (λe=>by
  obtain e|⟨e,l⟩:=e;exact E (e▸h.sp.c i P);exact W (e▸h.sp.p i P l))
 have v:({ z with A:=z.A.set i { z.c i with F:=L } }:Hp).A.length=z.A.length:=by simp
 have hc:=Hp.c_set z i { z.c i with F:=L } P;have G:∀q,q≠i->(({ z with A:=z.A.set i { z.c i with F:=L } }:Hp).c q)=z.c q:=λq e=>by rw[hc q,if_neg e]
 have J:(({ z with A:=z.A.set i { z.c i with F:=L } }:Hp).c i)={ z.c i with F:=L }:=by rw[hc i,if_pos rfl]
 have I:∀q,q<w.heap.size->role q≠6+i->q≠N:=λq g E e=>by
  obtain⟨e1,l⟩|e1:=R;exact E (by rw[e,e1];exact h.sp.p i P l);omega
 have pf:∀q,q<z.A.length->q≠i->0<pk q->w'.heap[pb q]?=w.heap[pb q]?:=λq g ab v=>A (pb q) (h.rw.pl q g v).2.1.1 (by rw[h.sp.p q g v];omega) (by rw[h.sp.p q g v];omega)
 have t:=h.sb.same o.size (A b h.sb.nb.1 (by rw[h.sp.b];omega) (by rw[h.sp.b];omega)) (A bn h.sb.lo.2.2.1 (by rw[h.sp.n];omega) (by rw[h.sp.n];omega)) (λq g=>A q (h.sb.fr.own.lt q g).2 (by rw[h.sp.f q g];omega) (by rw[h.sp.f q g];omega)) (λq g=>A q (h.sb.kp.lt q g).2 (by rw[h.sp.k q g];omega) (by rw[h.sp.k q g];omega));have cf:∀q,q<z.A.length->cB q≠cB i->w'.heap[cB q]?=w.heap[cB q]?:=λq g e=>o.block (cB q) (h.rw.nc q g).1.1 (λl=>by
  obtain l|⟨l,e3⟩:=l;exact e l;exact(h.rw.pl i P e3).2.2.1.2 q g l.symm)
 have ck:∀q,q<z.A.length->q≠i->∀k,k<8->w'.cell? (aA (cB q) (cO q+k))=w.cell? (aA (cB q) (cO q+k)):=λq g e k V=>by
  by_cases l:cB q=cB i;rw[l];obtain d|d|d:=h.rw.dc q i g P e
  ·exact(d l).elim
  exact X _ (by omega);exact X _ (by omega);exact cOb (cB q) _ (cf q g l)
 have cn:∀q,q<z.A.length->Nf1 (cB q) w':=λq g=>by
  by_cases l:cB q=cB i;rw[l];exact Z;exact uY (h.rw.nc q g).1 (cf q g l) o.size
 have fr:0<z.B.length->w'.heap[br]?=w.heap[br]?:=λE=>A br (h.rw.nr E).1.1 (by rw[h.sp.r E];omega) (by rw[h.sp.r E];omega)
 refine⟨⟨t.bx,t.ha,v▸t.n13,λk V=>t.nd k (by rw[v]at V;exact V),t.fr,t.rg,t.k0,t.kp,t.nb,t.lo⟩,⟨λj D=>?_,λq g=>?_,λq g=>?_,λq g j D=>?_,λq g x=>?_,λE=>⟨uY (h.rw.nr E).1 (fr E) o.size,(h.rw.nr E).2⟩,λq g=>⟨cn q (by rw[v]at g;exact g),(h.rw.nc q (by rw[v]at g;exact g)).2⟩,λq g=>h.rw.d q (by rw[v]at g;exact g),λq M g C Q H O=>?_,λq M g C G=>h.rw.dc q M (by rw[v]at g;exact g) (by rw[v]at C;exact C) G,λq g=>?_⟩,⟨by rw[y b h.sb.nb.1];exact h.sp.b,by rw[y bn h.sb.lo.2.2.1];exact h.sp.n,λE=>by rw[y br (h.rw.nr E).1.1];exact h.sp.r E,λq g=>by rw[v]at g;rw[y (cB q) (h.rw.nc q g).1.1];exact h.sp.c q g,λq g=>by rw[y q (h.sb.fr.own.lt q g).2];exact h.sp.f q g,λq g=>by rw[y q (h.sb.kp.lt q g).2];exact h.sp.k q g,λq g x=>?_⟩,h.pr.of (λq g H=>A q g (by rw[H];omega) (by rw[H];omega)) (λq g H=>by(try dsimp only);rw[y q g];exact H)⟩;exact(h.rw.r j D).of λm _=>cOb br _ (fr (by have:j<z.B.length:=D;omega))
 rw[v]at g;by_cases e:q=i
 ·subst e;rw[J];exact(h.rw.s q g).of λm hm=>X _ (by omega)
 rw[G q e];exact(h.rw.s q g).of λm hm=>ck q g e m (by omega)
 rw[v]at g;by_cases e:q=i
 ·subst e;rw[J];simp only[if_true];exact c7
 rw[G q e];simp only[if_neg e];rw[ck q g e 7 (by omega)];exact h.rw.p7 q g;rw[v]at g;by_cases e:q=i
 ·subst e;rw[J]at D ⊢;simp only[if_true];have:=hp j D;rw[Cl.p_eq { z.c q with F:=L } j D]at this;exact this
 rw[G q e]at D ⊢;simp only[if_neg e];exact(h.rw.p q g j D).of λm _=>cOb (pb q) _ (pf q g e (h.rw.pw g (by omega)))
 rw[v]at g;by_cases e:q=i
 ·subst e;simp only[if_true]at x ⊢;have⟨T,U⟩:=hN x;refine⟨T,U,⟨λe=>?_,λj D e=>?_⟩,aa⟩
  ·exact I br (h.rw.nr r0).1.1 (by rw[h.sp.r r0];omega) e.symm
  rw[v]at D;exact I (cB j) (h.rw.nc j D).1.1 (by rw[h.sp.c j D];omega) e.symm
 simp only[if_neg e]at x ⊢;have⟨T,U,a3,a4⟩:=h.rw.pl q g x;exact⟨T,dV U (pf q g e x) o.size,⟨a3.1,λj D=>a3.2 j (by rw[v]at D;exact D)⟩,a4⟩;rw[v]at g C;by_cases e:q=i
 ·subst e;have e':M≠q:=λe=>Q e.symm
  simp only[if_true,if_neg e']at H O ⊢;exact λu=>I (pb M) (h.rw.pl M C O).2.1.1 (by rw[h.sp.p M C O];omega) u.symm
 by_cases l:M=i
 ·subst l;simp only[if_true,if_neg e]at H O ⊢;exact I (pb q) (h.rw.pl q g H).2.1.1 (by rw[h.sp.p q g H];omega)
 simp only[if_neg e,if_neg l]at H O ⊢;exact h.rw.dp q M g C Q H O;rw[v]at g;by_cases e:q=i
 ·subst e;rw[J];simp only[if_true];exact hL
 rw[G q e];simp only[if_neg e];exact h.rw.kp q g;rw[v]at g;by_cases e:q=i
 ·subst e;simp only[if_true]at x ⊢;obtain⟨e1,l⟩|e1:=R
  ·rw[e1,y (pb q) (h.rw.pl q g l).2.1.1];exact h.sp.p q g l
  rw[if_pos e1]
 simp only[if_neg e]at x ⊢;rw[y (pb q) (h.rw.pl q g x).2.1.1];exact h.sp.p q g x
theorem d0r[p:qd](B g:Nat)(x:Hp)(k:Nat)(op:Int)(a b c:Nat)(n:Int)(w:World)(h:GOk B w g x)(s:Snd x)(m:a<16)(v:World)(l:Ext v w)(i:¬(x.r a).k=2->DoR x a b c n x 2 0 k)(j:(x.r a).k=2->Calls prog 94 #[pP g,yU op a b c n] w λe w'=>a1b B g x a b c n k v e w'):
  Calls prog 94 #[pP g,yU op a b c n] w λe w'=>a1b B g x a b c n k v e w':=by
 by_cases f:(x.r a).k=2;exact j f;exact(b8n B g x op a b c n w h s m f v l).mono λe o d=>⟨x,2,0,d.1,i f,d.2.1,d.2.2⟩
def calK(k:Nat):FuncId:=if k<=8 then 93 else 94
theorem b2j[p:qd](B g:Nat)(x:Hp)(k:Nat)(op:Int)(a b c:Nat)(n:Int)(w:World)(M:(k=5/\op=5)\/(k=6/\op=6)\/(k=7/\op=7)\/(k=8/\op=8)\/(k=10/\op=10)\/(k=11/\op=11)\/(k=12/\op=12)\/(k=16/\op=16)\/(k=17/\op=17))(h:GOk B w g x)(N:qV op a b c n=true)(v:World)(q:Ext v w)
  (O:∀(_:Inhabited uL)(w1:World),GOk B w1 g x->Ext v w1->Calls prog (calK k) #[pP g,yU op a b c n] w1 λe w'=>a1b B g x a b c n k v e w') :
  Calls prog 42 #[pP g,yU op a b c n] w λe w'=>a1b B g x a b c n k v e w':=by
 obtain⟨t,r,K⟩:=GOk.enter h (w0:=doW w op a b c n) ((eAl w _).alloc _);have J:=uU K;have o:=uU r;have m:=uU (λW=>a1i op a b c n W);rw[N]at m;have L:=uU (show v.heap.size<=w.heap.size+1 by have:=q.size;omega);have z:=uU (show Ext v (doW w op a b c n) from(q.alloc _).alloc _);have H:=uU (yZ.new w op a b c n);obtain⟨rfl,rfl⟩|⟨rfl,rfl⟩|⟨rfl,rfl⟩|⟨rfl,rfl⟩|⟨rfl,rfl⟩|⟨rfl,rfl⟩|⟨rfl,rfl⟩|⟨rfl,rfl⟩|⟨rfl,rfl⟩:=M;all_goals
  go_in;go_wp21;refine(m _).mono ?_;rintro e w1 ⟨rfl,j⟩;have s:=uU (z.trans j);have i:=uU (H.ext j);obtain⟨Y,U,T,V,Q,X,P,S⟩:=uH i;have F:=uU (J.ext j);have C:=uU (O t w1 F s);go_wp21;refine C.mono ?_;rintro e R ⟨y,f,d,I,D,E,A⟩;have G:=uH I;subst G;have l:=uU E;have u:=uU A;obtain⟨u0,u1,u2,u3,u4,u5,u6,u7⟩:=l.boxes o;go_wp2;refine bodyPost_ret (v:=tQ f d) (by simp[results,results42,go_sem,u5,u6]) rfl ?_;exact⟨y,f,d,rfl,D,GOk.done o l f d,eY u L f d⟩
structure SPr[qd](C B:Nat)(w:World)(b:Nat)(x:Hp)(i k bn kn cb co bp kp:Nat):Prop where
 ce:b6f C B w b x i bn kn cb co (some ⟨bp,0,none⟩) kp
 pr:qC w bp (k*6) ((x.c i).p k)
 f:∀j,w.frozen? ⟨bp,j,none⟩=false
 lo:B<=bp/\bp<w.heap.size
theorem b8k(W:World)(a o:Nat)(q:Pr)(y:Wd)(h:qC W a o q):qC (cQ W a o y) a o ⟨y,q.val⟩:=by
 obtain⟨f,b,d,c,g,e⟩:=h;have k:=a1o W a o y q.key ⟨f,b,d⟩;exact⟨k.1,k.2.1,k.2.2,(cV _ _ _ _ _ (by omega)).trans c,(cV _ _ _ _ _ (by omega)).trans g,(cV _ _ _ _ _ (by omega)).trans e⟩
theorem b8m(W:World)(a o:Nat)(q:Pr)(y:Wd)(h:qC W a o q):qC (cQ W a (o+3) y) a o ⟨q.key,y⟩:=by
 obtain⟨f,b,d,c,g,e⟩:=h;have k:=a1o W a (o+3) y q.val ⟨c,g,e⟩;exact⟨(cV _ _ _ _ _ (by omega)).trans f,(cV _ _ _ _ _ (by omega)).trans b,(cV _ _ _ _ _ (by omega)).trans d,k.1,k.2.1,k.2.2⟩
def PutS[qd](C B:Nat)(w:World)(b:Nat)(x:Hp)(i k bn bp:Nat):Prop:=
 ∀(o:Nat)(y:Wd)(z:Hp),(o=0/\z=hD x i (keyC (x.c i) k y))\/(o=3/\z=hD x i (valC (x.c i) k y))->∀W W2:World,Ext w W->Ext (cQ W bp (k*6+o) y) W2->
  yL W2 bp (k*6+o) y/\SOq C B W2 b z/\(∃kn,W2.cell? ⟨b,13,none⟩=some (.slice (some ⟨bn,0,none⟩) x.A.length kn))/\
  ∀(v:World)(t:Nat),t<x.A.length->v.heap.size<=B->Ext v W2->(eN z t=true->x.D.length<4000)->Calls prog 227 #[.pointer (some ⟨b,0,none⟩),ndp bn t] W2 λe w'=>e=.returned (.tuple #[])/\Hid (SOq C B w' b (uK z t))/\Ext v w'
theorem SOq.prw[qd](h:SOq C B w b x)(i:Nat)(d:i<x.A.length)(k:Nat)(u:k<(x.c i).F.length):∃bn kn cb co bp kp,SPr C B w b x i k bn kn cb co bp kp/\PutS C B w b x i k bn bp:=by
 have h0:=h;obtain⟨ar,kr,a4,n4,X,a8,U,k8,br,D,H,bn,g,pa,pk,kn,hd,vf,F,vk,K,l,h,v,R⟩:=h;obtain⟨f,N,cb,co,ap,kp,s⟩:=h0.cel i d;have O:0<(x.c i).F.length:=by omega
 obtain⟨Z,Q,_,e4⟩:=h.rw.pl i d (h.rw.pw d O);have G:f=bn:=by
  have:=s.n13.symm.trans h.sb.n13;simp at this;exact this.1
 subst G;have E:cb=D i/\co=H i:=by
  have:=s.m1.symm.trans (h.sb.nd i d).2;simp at this;exact this
 obtain⟨rfl,rfl⟩:=E;have L:ap=some (aA (g i) 0):=by
  have:=s.p7.symm.trans (h.rw.p7 i d);rw[Z]at this;simp at this;exact this.1
 subst L;have sm:∀c:Cl,c.st=(x.c i).st->cJ x (hD x i c):=λc hc=>cJ.set x i c hc rfl
 refine⟨f,N,D i,H i,g i,kp,⟨s,h.rw.p i d k u,Q.2,⟨e4,Q.1⟩⟩,λo y z ho W W2 e n=>?_⟩;have r:=h.ext e;have a:=r.rw.p i d k u;have m:=(r.rw.pl i d (r.rw.pw d O)).2.1.n1;have M:SAt B (cQ W (g i) (k*6+o) y) b z ar kr (.slice a4 n4 X) (.slice a8 U k8) br D H f g pa pk kn hd vf F vk K l/\cJ x z/\z.E=x.E/\z.I=x.I/\z.M=x.M/\z.D=x.D/\z.A.length=x.A.length/\yL (cQ W (g i) (k*6+o) y) (g i) (k*6+o) y:=by
  obtain⟨rfl,rfl⟩|⟨rfl,rfl⟩:=ho;refine⟨r.setp i d k u ⟨y,((x.c i).p k).val⟩ (cE _ _ _ _) (a2k m _ _) (b8k _ _ _ _ _ a) (λj hj=>cV _ _ _ _ _ (by omega)),sm _ rfl,rfl,rfl,rfl,rfl,by simp[hD],a1o _ _ _ _ ((x.c i).p k).key ⟨a.1,a.2.1,a.2.2.1⟩⟩;refine⟨r.setp i d k u ⟨((x.c i).p k).key,y⟩ (cE _ _ _ _) (a2k m _ _) (b8m _ _ _ _ _ a) (λj hj=>cV _ _ _ _ _ (by omega)),sm _ rfl,rfl,rfl,rfl,rfl,by simp[hD],a1o _ _ _ _ ((x.c i).p k).val ⟨a.2.2.2.1,a.2.2.2.2.1,a.2.2.2.2.2⟩⟩
 obtain⟨Y,V,k3,A,P,k6,T,I⟩:=M;have J:=Y.ext n;have S:zH C z F K:=v.alike V k3 A;refine⟨I.ext n,⟨_,_,_,_,_,_,_,_,_,_,_,_,_,_,_,_,_,_,_,_,_,_,J,S,by rw[P];exact R⟩,⟨kn,by have:=J.sb.n13;rw[T]at this;exact this⟩,λvv t ht hv hx hg=>?_⟩;refine(b5p t W2 J (by rw[T];exact ht) (λq=>by rw[k6];exact hg q) vv hv hx).mono ?_;rintro e w' ⟨h1,h2,h3⟩;exact⟨h1,⟨_,_,_,_,_,_,_,_,_,_,_,_,_,_,_,_,_,_,_,_,_,_,h2,S.alike (a5u _ t) (cC _ t).2.2.2.2.2.1 (cC _ t).2.2.2.2.2.2.1,by rw[(cC _ t).1,P];exact R⟩,h3⟩
theorem c7u[qd](h:b2c C B w b x br kr)(d:tH w bd b op a p c n rv)(l:f<16)(g:(x.r f).k≠2):
  Calls prog 225 #[pP bd,pQ br (f*3)] w λe w'=>e=.returned (.tuple #[.pointer none,.iface 156 (.agg #[iv 2])])/\Ext w w':=by
 have i:=uU (a5e h d l g);go_in;go_wp21;refine i.mono ?_;rintro e m ⟨rfl,j⟩;go_wp21;go_ret2;exact⟨rfl,j⟩
theorem b6g[qd](h:b2c C B w b x br kr)(d:tH w bd b op a p c n rv)(s:f<16){ap:Option Addr}(j:b6f C B w b x i bn kn cb co ap kp)(m:(x.r f).k=2)(o:(x.r f).a=(i:Int))(t:i<x.A.length)(K:(x.c i).F.length<=c):
  Calls prog 225 #[pP bd,pQ br (f*3)] w λe w'=>e=.returned (.tuple #[.pointer none,.iface 156 (.agg #[iv 3])])/\Ext w w':=by
 have D:=uU d;have q:=uU (a2f h j d s m o t);have l:=uU j;go_in;go_wp21;refine q.mono ?_;rintro e E ⟨rfl,g⟩;have y:=(l.ext g).m1;have F:=(l.ext g).p7;obtain⟨G,H,z,v,A,u,J⟩:=D.ext g;have I:(c:Int)≥((x.c i).F.length:Int):=by omega
 go_wp21;go_quiet (fail);go_wp21;go_ret2;exact⟨rfl,Ext.drewN g _⟩
theorem c3n[qd](h:b2c C B w b x br kr)(d:tH w bd b op a p c n rv)(G:f<16)(m:SPr C B w b x i c bn kn cb co bp kp)(y:(x.r f).k=2)(z:(x.r f).a=(i:Int))(H:i<x.A.length)(Q:c<(x.c i).F.length)(I:op=5\/op=7):
  Calls prog 225 #[pP bd,pQ br (f*3)] w λe w'=>e=.returned (.tuple #[pQ bp (c*6),.nilIface])/\Ext w w':=by
 have D:=uU d;have A:=uU (a2f h m.ce d G y z H);have t:=uU m.ce;clear m y z;clear h d;go_in;go_wp21;refine A.mono ?_;rintro e s ⟨rfl,l⟩;have q:=(t.ext l).m1;have o:=(t.ext l).p7;obtain⟨P,u,O,L,v,J,N⟩:=D.ext l;have K:(c:Int)<((x.c i).F.length:Int):=by omega
 have M:=i0N c;obtain rfl|rfl:=I;all_goals
  go_wp21;go_quiet (fail);obtain⟨E,g⟩:∃W,W=s.drewN nq:=⟨_,rfl⟩;rw[<-g];have j:Ext s E:=by rw[g];exact Ext.drewN (hO _) nq
  have q:=j.keep q;have o:=j.keep o;have u:=j.keep u;have v:=j.keep v;have F:=uU (l.trans j);clear g;go_wp21;go_quiet (fail);go_wp21;go_ret2;exact⟨rfl,Ext.drewN F _⟩
theorem c3o[qd](h:b2c C B w b x br kr)(d:tH w bd b op a p c n rv)(G:f<16)(m:SPr C B w b x i c bn kn cb co bp kp)(y:(x.r f).k=2)(z:(x.r f).a=(i:Int))(H:i<x.A.length)(Q:c<(x.c i).F.length)(I:op=6\/op=8):
  Calls prog 225 #[pP bd,pQ br (f*3)] w λe w'=>e=.returned (.tuple #[pQ bp (c*6+3),.nilIface])/\Ext w w':=by
 have D:=uU d;have A:=uU (a2f h m.ce d G y z H);have t:=uU m.ce;clear m y z;clear h d;go_in;go_wp21;refine A.mono ?_;rintro e s ⟨rfl,l⟩;have q:=(t.ext l).m1;have o:=(t.ext l).p7;obtain⟨P,u,O,L,v,J,N⟩:=D.ext l;have K:(c:Int)<((x.c i).F.length:Int):=by omega
 have M:=i0N c;obtain rfl|rfl:=I;all_goals
  go_wp21;go_quiet (fail);obtain⟨E,g⟩:∃W,W=s.drewN nq:=⟨_,rfl⟩;rw[<-g];have j:Ext s E:=by rw[g];exact Ext.drewN (hO _) nq
  have q:=j.keep q;have o:=j.keep o;have u:=j.keep u;have v:=j.keep v;have F:=uU (l.trans j);clear g;go_wp21;go_quiet (fail);go_wp21;go_ret2;exact⟨rfl,Ext.drewN F _⟩
theorem hat_box(x:Hp)(w:World)(n:SlW w (.slice ar x.B.length kr) x.B)(l:SlC w (.slice ac x.A.length kc) x.A)(m:SlI w (.slice ag x.D.length kg) x.D):
  HAt (w.alloc (oHp x (.slice ar x.B.length kr) (.slice ac x.A.length kc) (.slice ag x.D.length kg))) w.heap.size x ar kr ac kc ag kg:=by
 have e:=eAl w (oHp x (.slice ar x.B.length kr) (.slice ac x.A.length kc) (.slice ag x.D.length kg));obtain⟨u,t,g,j,R⟩:=n;obtain⟨s,r,f,k,C⟩:=l;obtain⟨q,v,d,h,G⟩:=m;simp only[Value.slice.injEq]at g f d;obtain⟨rfl,_,rfl⟩:=g;obtain⟨rfl,_,rfl⟩:=f;obtain⟨rfl,_,rfl⟩:=d;refine⟨?_,?_,?_,?_,?_,?_,?_,?_,?_,?_,?_,?_,?_,j,k,h,?_,?_,?_⟩;iterate 13 (simp[go_sem])
 exact λi b=>let ⟨c,o,a,p⟩:=R i b;⟨c,o,a,p.ext e⟩
 intro i b;obtain⟨c,o,a,p⟩:=C i b;rw[Hp.c_eq]at p;exact⟨c,o,a,p.ext e⟩;exact λi b=>let ⟨c,o,a,p⟩:=G i b;⟨c,o,a,p.ext e⟩
theorem a0q(x:Hp)(w:World)(Z:SlW w (.slice ar x.B.length kr) x.B)(W:SlC w (.slice ac x.A.length kc) x.A)(X:SlI w (.slice ag x.D.length kg) x.D):
  Calls prog 5 #[x.v (.slice ar x.B.length kr) (.slice ac x.A.length kc) (.slice ag x.D.length kg)] w λe w'=>∃n:Int,e=.returned (iv n)/\qQ x n/\Ext w w':=by
 have h:=hat_box x w Z W X;have L:=eAl w (oHp x (.slice ar x.B.length kr) (.slice ac x.A.length kc) (.slice ag x.D.length kg));have H:=uU (show ∀j,j<0->Rn x j from λj d=>by omega);clear Z W X;go_in;go_wp21;refine(c0r x _ _ h).mono ?_;rintro e s ⟨g,rfl,a,b⟩;have h:=h.ext b;have L:=L.trans b;cases g
 rotate_left
 have H:=uU (a3g H (a.1 rfl));clear a;go_wp21;refine(c0v x _ _ h).mono ?_;rintro e s ⟨g,rfl,a,b⟩;have h:=h.ext b;have L:=L.trans b;cases g
 rotate_left
 have H:=uU (a3g H (a.1 rfl));clear a;have r1:R1 x:=uH H 0 (by omega);have n8:x.A.length<=8000:=by have:=r1.M;have:=r1.A;omega
 have q:=uU (λw' (e:Up s w')=>a8c (c0q x w.heap.size w' (h.ext e.ext) n8 (c4v (H 1 (by omega)))) e);have I:∀w',Up s w'->w'.cell? (aA w.heap.size 0)=some (iv x.M)/\w'.cell? (aA w.heap.size 1)=some (iv x.K):=λw' e=>⟨e.ext.keep h.c0,e.ext.keep h.c1⟩
 focus
  go_upto_region 6 with fail;go_cut [21] from 10 to 20 (λv W=>∃u:Bool,v=.bool u/\Hid ((!u)=true↔R3 x)/\Ext s W)
  case first=>
   cases t:(x.K != (dH x.A:Int)) <;> by_cases u:x.K > x.M
   all_goals
    refine wp_region_quiet (C:=Up s) (by kernel_rfl) (by kernel_rfl) (show Ext _ _ from eDr _) ?_;go_simp
    iterate 12 (first|go_big_quiet_skip|(go_big_quiet_want;go_big_quiet_op;first|go_big_quiet_on|(apply Exists.intro;refine⟨λw' j=>?_,?_⟩;(first|(go_at_call 27;exact(uH q w' j))|(with_reducible rfl)|(go_simp;first|done|(with_reducible rfl)|(refine⟨?_,?_⟩ <;> with_reducible rfl)));go_big_quiet_on)))
    refine wpQuiet_nil ?_;intro R f;go_wp21;go_meet;exact⟨_,rfl,by show _↔_;simp at t;simp[R3,t] <;> omega,f.ext⟩
  obtain⟨g,rfl,a,b⟩:=hcut;have a:=uH a;have h:=h.ext b;have L:=L.trans b;clear I q;cases g
  rotate_left
  focus skip
  rotate_left
  have H:=uU (a3g H (a.1 rfl));clear a;go_wp21;refine(c0w x _ _ h).mono ?_;rintro e s ⟨g,rfl,a,b⟩;have h:=h.ext b;have L:=L.trans b;cases g
  rotate_left
  have H:=uU (a3g H (a.1 rfl));clear a;go_wp21;refine(b9d x _ _ h).mono ?_;rintro e s ⟨g,rfl,a,b⟩;have h:=h.ext b;have L:=L.trans b;cases g
  rotate_left
  have H:=uU (a3g H (a.1 rfl));clear a;go_wp21;refine(c0x x _ _ h (H 0 (by omega)) (H 4 (by omega))).mono ?_;rintro e s ⟨g,rfl,a,b⟩;have h:=h.ext b;have L:=L.trans b;cases g
  rotate_left
  have H:=uU (a3g H (a.1 rfl));clear a;go_wp21;refine(c0y x _ _ h (H 0 (by omega)) (H 3 (by omega)) (H 5 (by omega))).mono ?_;rintro e s ⟨g,rfl,a,b⟩;have h:=h.ext b;have L:=L.trans b;cases g
  rotate_left
  have H:=uU (a3g H (a.1 rfl));clear a;go_wp21;refine(b6u x _ _ h).mono ?_;rintro e s ⟨g,rfl,a,b⟩;have h:=h.ext b;have L:=L.trans b;cases g
  rotate_left
  ·have Y:=uU (c6x (a3g H (a.1 rfl)));go_wp21;go_ret;exact⟨0,rfl,Y,L⟩
 all_goals
  have Y:=uU (b1m (by omega) H (λr=>by simpa using a.2 r));go_wp21;go_ret;exact⟨_,rfl,Y,L⟩
end Go.Proofs.YtolmnenlnpbcfaaGreatDoor
