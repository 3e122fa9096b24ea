import Derived.Test.YtolmnenlnpbcfaaGreatDoorHh
import Derived.Test.YtolmnenlnpbcfaaGreatDoorDd
import Derived.Test.YtolmnenlnpbcfaaGreatDoorAh
import Derived.Test.YtolmnenlnpbcfaaGreatDoorVn
set_option maxRecDepth 100000
set_option maxHeartbeats 4000000
namespace Go.Proofs.YtolmnenlnpbcfaaGreatDoor
open Go.RowKit Tryz
attribute [local go_sem ↓] Go.wp_at_zero Go.wp_at_succ
variable{ag ar ac an:Option Addr}{kg kr kc kn B g br bc:Nat}{w w':World}{x:Hp}{pb pk role:Nat->Nat}{pa:Nat->Option Addr}
theorem a6r(b:Nat)(w:World)(a:w.cell? (aA b 8)=some (.slice ag 0 kg)):
  Calls prog 134 #[pP b] w λe w'=>e=.returned (.slice none 0 0)/\w'=w:=by
 go_in;go_wp2;go_ret;exact⟨rfl,rfl⟩
theorem a6s(x:Hp)(b i:Nat)(w:World)(h:VAt w b x ar kr ac kc ag kg an kn)(t:0<x.D.length)(s:x.D[0]=(i:Int))(d:i<x.A.length)(bc g:Nat)(j:Option Addr)(k:Nat)(u:ac=some (aA bc g))(C:CAt w bc (g+i*8) (x.c i) j k):
  Calls prog 134 #[pP b] w λe w'=>e=.returned (.slice j (x.c i).F.length k)/\∃m,w'=w.drewN m:=by
 obtain⟨y,A,n,o,rfl,f,v,D⟩:=h.N i d;rw[u]at f;cases f;obtain⟨E,z,rfl,a⟩:=h.H.G 0 t;unfold a8k at a;rw[s]at a;simp only[Nat.zero_mul,Nat.add_zero]at a;have B:=h.H.c8;have q:=h.n13;have F:=C.p7;have l:((x.D.length:Int) == 0)=false:=beq_eq_false_iff_ne.2 (by omega);have r:=i0N i;have p:(i:Int)<(x.A.length:Int):=by omega
 go_in;go_wp21;go_quiet (fail);go_wp2;go_ret;exact⟨rfl,_,rfl⟩
theorem b4m(x:Hp)(b:Nat)(w:World)(c:w.cell? (aA b 6)=some (iv x.A.length))(a:w.cell? (aA b 13)=some (.slice an x.A.length kn)):
  Calls prog 135 #[pP b] w λe w'=>e=.returned (.slice none 0 0)/\∃m,w'=w.drewN m:=by
 go_in;go_wp21;go_quiet (fail);go_wp2;go_ret;exact⟨rfl,_,rfl⟩
theorem b4n(x:Hp)(b i:Nat)(w:World)(h:VAt w b x ar kr ac kc ag kg an kn)(r:x.I=(i:Int))(a:i<x.A.length)(bc f:Nat)(g:Option Addr)(j:Nat)(s:ac=some (aA bc f))(C:CAt w bc (f+i*8) (x.c i) g j):
  Calls prog 135 #[pP b] w λe w'=>e=.returned (.slice g (x.c i).F.length j)/\∃m,w'=w.drewN m:=by
 obtain⟨u,y,k,l,rfl,d,t,z⟩:=h.N i a;rw[s]at d;cases d;have p:=h.H.c6;rw[r]at p;have o:=h.n13;have A:=C.p7;have v:((i:Int) == (x.A.length:Int))=false:=beq_eq_false_iff_ne.2 (by omega);have q:=i0N i;have n:(i:Int)<(x.A.length:Int):=by omega
 go_in;go_wp21;go_quiet (fail);go_wp21;go_quiet (fail);go_wp2;go_ret;exact⟨rfl,_,by rw[World.drewN_drewN]⟩
theorem b6x(y:Wd)(b:Nat)(w:World)(c:(y.k == 2)=false):
  Calls prog 180 #[pP b,y.v] w λe w'=>e=.returned (.bool false)/\Ext w w':=by
 go_in;go_wp21;refine(a3n y b _ c).mono ?_;rintro e d ⟨rfl,a⟩;go_wp2;go_ret;exact⟨rfl,kI (eAl w _) a⟩
def hwB(x:Hp)(y:Wd):Bool:=(y.k == 2) && zE (x.c y.a.toNat)
theorem b4o(x:Hp)(y:Wd)(b i:Nat)(w:World)(h:VAt w b x ar kr ac kc ag kg an kn)(z:(y.k == 2)=true)(f:i<x.A.length):
  Calls prog 180 #[pP b,.agg #[iv y.k,iv y.n,iv i]] w λe w'=>e=.returned (.bool (zE (x.c i)))/\Ext w w':=by
 obtain⟨g,j,m,r,rfl,rfl,B,q⟩:=h.N i f;have⟨t,v,p,s,u,C⟩:=h.H.cell i f;cases u;have l:=(hO w).alloc (.cells #[iv y.k,iv y.n,iv i] 86);go_in;go_wp21;refine(a1h y b x.A.length g j kn i _ z (l.keep h.n13) f).mono ?_;rintro e D ⟨rfl,o⟩;have d:=l.trans o;go_wp21;refine(b1p (x.c i) g (j+i*2) m (r+i*8) p s _ (d.keep q) (C.ext d)).mono ?_;rintro e A ⟨rfl,rfl⟩;go_wp2;go_ret;exact⟨rfl,d⟩
theorem a6t(x:Hp)(y:Wd)(b:Nat)(w:World)(h:VAt w b x ar kr ac kc ag kg an kn)(g:uJ y x.A.length):
  Calls prog 180 #[pP b,y.v] w λe w'=>e=.returned (.bool (hwB x y))/\Ext w w':=by
 cases d:(y.k == 2)
 have:hwB x y=false:=by simp[hwB,d]
 rw[this];exact b6x y b w d;have f:0<=y.a/\y.a<x.A.length:=by simp at d;unfold uJ at g;omega
 have e:hwB x y=zE (x.c y.a.toNat):=by simp[hwB,d]
 rw[e];have:=b4o x y b y.a.toNat w h d (by omega);rwa [mg f.1]at this
theorem a9y(x:Hp)(b n cap:Nat)(C:Option Addr)(f:Nat->Pr)(w:World)(h:VAt w b x ar kr ac kc ag kg an kn)
  (lp:n<=35184372088832) (P:∀k,k<n->∃b' o',C=some (aA b' o')/\qC w b' (o'+k*6) (f k)) (O:∀k,k<n->uJ (f k).key x.A.length/\uJ (f k).val x.A.length) :
  Calls prog 139 #[pP b,.slice C n cap] w λe w'=>∃r:Bool,Hid (e=.returned (.bool r))/\(r=true↔∃k,k<n/\(hwB x (f k).key=true\/hwB x (f k).val=true))/\Ext w w':=by
 go_in;go_wp21;go_loopw [9] (λi wr=>∃l:Nat,l<=n/\i=iv l/\(∀j,j<l->¬(hwB x (f j).key=true\/hwB x (f j).val=true))/\Ext w wr) (λi _=>n-(intOf i).toNat)
 case atStart=>exact⟨0,kB _,rfl,λj h=>by omega,hO _⟩
 case round=>
  obtain⟨l,V,rfl,q,c⟩:=hrel;have A:=uU q;by_cases d:l<n
  ·obtain⟨Z,U,rfl,F,M,H,D,K,I⟩:=P l d;have p:=O l d;have e0:=c.keep F;have R:=c.keep M;have e2:=c.keep H;have e3:=c.keep D;have T:=c.keep K;have W:=c.keep I;have E:=i0N l;have L:(l:Int)<(n:Int):=by omega
   have g:=c.alloc (oPr (f l));go_wp21;refine(a6t x (f l).key b _ (h.ext g) p.1).mono ?_;rintro e Q ⟨rfl,m⟩;have s:=g.trans m;have u:=λ(o:Nat) (v:Value) (hc:(wr.alloc (oPr (f l))).cell? (aA wr.heap.size o)=some v)=>m.keep hc
   have u3:=u 3 _ (by simp[go_sem];rfl);have u4:=u 4 _ (by simp[go_sem];rfl);have u5:=u 5 _ (by simp[go_sem];rfl);cases B:hwB x (f l).key
   ·go_wp21;refine(a6t x (f l).val b _ (h.ext s) p.2).mono ?_;rintro e X ⟨rfl,t⟩;have z:=s.trans t;cases y:hwB x (f l).val
    ·have S:∀j,j<l+1->¬(hwB x (f j).key=true\/hwB x (f j).val=true):=λj hj=>by
      by_cases e:j=l;subst e;simp[B,y];exact A j (by omega)
     go_wp2;go_roundw
     case rel=>exact⟨l+1,by omega,by go_num,S,z⟩
     simp[intOf];omega
    have Y:∃k,k<n/\(hwB x (f k).key=true\/hwB x (f k).val=true):=⟨l,d,.inr y⟩;go_wp2;go_ret;exact⟨true,rfl,⟨λ_=>uH Y,λ_=>rfl⟩,z⟩
   go_wp2;go_ret;exact⟨true,rfl,⟨λ_=>(show ∃k,k<n/\(hwB x (f k).key=true\/hwB x (f k).val=true) from⟨l,d,.inl B⟩),λ_=>rfl⟩,s⟩
  go_wp2;go_ret;exact⟨false,rfl,fNo (show ¬∃k,k<n/\(hwB x (f k).key=true\/hwB x (f k).val=true) from λ⟨k,hk,hh⟩=>uH A k (by omega) hh),c⟩
def yW(x:Hp)(p:Nat->Bool):Nat->Nat
 | 0=>0
 | k+1=>yW x p k+(if p k=true then 1+(x.c k).F.length else 0)
theorem c1v{x:Hp}{p:Nat->Bool}(h:∀i,i<x.A.length->(x.c i).F.length<=200)(k:Nat)(a:k<=x.A.length):yW x p k<=201*k:=by
 induction k with
 | zero=>simp[yW]
 | succ k ih=>
  have:=h k (by omega);have:=ih (by omega);simp only[yW];split <;> omega
theorem b7v(x:Hp)(b r:Nat)(p:Nat->Bool)(w:World)(h:HAt w b x ar kr ac kc ag kg)(B:∀i,i<x.A.length->w.cell? (aA r i)=some (.bool (p i)))(A:x.A.length<=8000)(a:∀i,i<x.A.length->(x.c i).F.length<=200):
  Calls prog 97 #[pP b,sS r x.A.length x.A.length] w λe w'=>e=.returned (iv (yW x p x.A.length:Int))/\w'=w:=by
 have O:=h.c4;go_enter func97,ntmps97;go_wp21;go_loop [5,10] (λn i=>∃(k u:Nat),k<=x.A.length/\i=iv k/\n=iv u/\Hid (u=yW x p k)) (λ_ i=>x.A.length-(intOf i).toNat)
 case atStart=>exact⟨0,0,kB _,rfl,rfl,rfl⟩
 case round=>
  obtain⟨k,u,j,rfl,rfl,g⟩:=hrel;have t:u<=201*k:=by have:=uH g;rw[this];exact (λk j=>c1v (p:=p) a k j) k j
  by_cases d:k<x.A.length
  ·have q:=B k d;obtain⟨Q,o,D,J,rfl,N,C,E,K,L,F,I,M,G,P⟩:=h.cell k d;have H:=a k d;have z:(0:Int)<=(k:Int):=by omega
   have s:(k:Int)<(x.A.length:Int):=by omega
   cases f:p k
   ·rw[f]at q;have m:=uU (show u=yW x p (k+1) by have:=uH g;simp only[yW,f];simp;exact this);go_wp2_with (fail);go_round
    case rel=>exact⟨k+1,u,by omega,by go_num,rfl,m⟩
    case measure=>simp[intOf];omega
   rw[f]at q;go_wp2_with (fail);go_round
   case rel=>exact⟨k+1,u+(1+(x.c k).F.length),by omega,by go_num,by go_num,(show u+(1+(x.c k).F.length)=yW x p (k+1) by have:=uH g;simp only[yW,f];simp;omega)⟩
   case measure=>simp[intOf];omega
  have l:k=x.A.length:=by omega
  go_wp2;go_ret;exact⟨by rw[<-(show u=yW x p x.A.length by have:=uH g;rw[l]at this;exact this)];rfl,rfl⟩
def d2f(x:Hp)(r:Nat):Prop:=(qQ x 0/\∃p:Nat->Bool,(∀i,p i=true↔cU x i)/\r=yW x p x.A.length)\/(¬qQ x 0/\r=0)
theorem c5m(x:Hp)(b:Nat)(w:World)(h:HAt w b x ar kr ac kc ag kg)(k:qQ x 0):
  Calls prog 99 #[pP b] w λe w'=>∃r:Nat,Hid (e=.returned (iv (r:Int)))/\d2f x r/\Ext w w':=by
 have a:=uU k;go_in;go_wp21;refine(c1r x b _ h a.all.2.1 a.all.2.2.2 a.n8).mono ?_;rintro e m ⟨v,L,rfl,j,f,c⟩;go_wp21;refine(b7v x b w.heap.size (λi=>decide ((i:Int)∈L)) _ (h.ext c) j.s a.n8 a.p200).mono ?_;rintro e l ⟨rfl,rfl⟩;go_wp2;go_ret;exact⟨_,rfl,.inl ⟨a,_,λi=>by simpa using uH f i,rfl⟩,c⟩
def HRd(w:World)(y:Hp)(ar:Option Addr)(kr:Nat)(ac:Option Addr)(kc:Nat)(ag:Option Addr)(kg:Nat):Prop:=SlW w (.slice ar y.B.length kr) y.B/\SlC w (.slice ac y.A.length kc) y.A/\SlI w (.slice ag y.D.length kg) y.D
theorem HRd.ext{y:Hp}(h:HRd w y ar kr ac kc ag kg)(e:Ext w w'):HRd w' y ar kr ac kc ag kg:=⟨SlW.ext e h.1,SlC.ext e h.2.1,SlI.ext e h.2.2⟩
theorem HRd.zero(w:World):HRd w Hp0 none 0 none 0 none 0:=⟨yN.nil,yN.nil,yN.nil⟩
theorem GAt.low[qd](hz:∀q,(default:uL).z q=none){S:Nat->Prop}{vg:Value}(h:GAt B w g x ar kr ac kc vg br bc pb pa pk role)(o:uQ S w w')(hS:∀q,S q->q<B):GAt B w' g x ar kr ac kc vg br bc pb pa pk role:=
 ⟨h.bx.only o (λs=>by have:=hS _ s;have:=h.lo;omega),uY h.nf (o.block g h.nf.1 (λs=>by have:=hS _ s;have:=h.lo;omega)) o.size,h.lo,h.ha,h.hc,h.rw.only o (λhl s=>by have:=hS _ s;have:=(h.rw.nr hl).2;omega) (λhl s=>by have:=hS _ s;have:=(h.rw.nc hl).2;omega) (λq hq hl s=>by have:=hS _ s;have:=(h.rw.pl q hq hl).2.2.2;omega),h.gr.block (λq hq=>o.block q (h.gr.lt q hq).2 (λs=>by have:=hS _ s;have:=(h.gr.lt q hq).1;omega)),h.sp,h.kl,λq o h=>(by rw[hz q]at h;cases h),λhk=>(h.cc hk).block rfl (o.block bc (h.cc hk).nf.1 (λs=>by have:=hS _ s;have:=(h.cc hk).lo;omega)) o.size,λn=>h.rob n (o.block br (h.rw.nr n).1.1 (λs=>by have:=hS _ s;have:=(h.rw.nr n).2;omega))⟩
theorem GAt.rd[qd](h:GAt B w g x ar kr ac kc (.slice ag x.D.length kg) br bc pb pa pk role)(j:x.B.length<=1048576)(k:x.A.length<=1048576)(f:∀q,q<x.A.length->(x.c q).F.length<=200)(l:x.D.length<=1048576):HRd w x ar kr ac kc ag kg:=by
 refine⟨h.rw.slW kr h.ha j,h.rw.slC kc h.hc k f,⟨ag,kg,rfl,by omega,λi b=>?_⟩⟩;have⟨a,d,e,c,_⟩:=h.gr.at i b;exact⟨a,d,e,by rw[mp];exact c⟩
theorem b1r(x:Hp)(b:Nat)(w:World)(h:VAt w b x ar kr ac kc ag kg an kn)(r1:R1 x)(Q:R2 x)(P:R5 x):
  Calls prog 79 #[pP b] w λe w'=>∃r:Bool,Hid (e=.returned (.bool r))/\(r=true↔R6 x)/\Ext w w':=by
 have R:=h.H.c5;have N:=h.H.c6;have S:=h.H.c7;obtain⟨O,G⟩:=r1.E;obtain⟨B,I⟩:=r1.I;have K:=r1.sub.1;have d:x.E=0\/x.E=1\/x.E=2\/x.E=3\/x.E=4\/x.E=5\/x.E=6:=by omega
 obtain a|a|a|a|a|a|a:=d
 ·have Y:=uU (c6y (x:=x) (kT a));cases q:(x.I == 0);all_goals
   go_in;go_wp2;go_ret;exact⟨_,rfl,by have:=uH Y;rw[q]at this;simpa using this,hO _⟩
 ·have Y:=uU (R6_1 (x:=x) (kT a));go_in;go_wp2;go_ret;exact⟨_,rfl,Y,hO _⟩
 ·cases q:(x.I == 0)
  ·have Y:=uU (show ¬R6 x from λr=>by have:=(r.2.1 a).1;simp at q;omega);go_in;go_wp21;go_quiet (fail);go_wp2;go_ret;exact⟨false,rfl,fNo Y,(hO _).drewN _⟩
  by_cases m:x.D.length=0
  ·have Y:=uU (show decide (x.sub<=0)=true↔R6 x by
    have u:x.I=0:=by simpa using q
    unfold R6;simp[a,m,u];omega)
   have D:=h.H.c8;rw[m]at D;have k:=uU (λn=>a6r b (w.drewN n) (((hO w).drewN n).keep D));go_in;go_wp21;go_quiet ((go_at_call 134;exact Calls.quiet_of_same (k _)));go_wp2;go_ret;exact⟨_,rfl,Y,(hO _).drewN _⟩
  have g:0<x.D.length:=by omega
  have s:=P.2.2 x.D[0] (ki g);obtain⟨i,l⟩:=k9 s.1;have L:x.g0=i:=by simp[Hp.g0,g,l]
  have Y:=uU (show decide (x.sub<=((x.c i).F.length:Int))=true↔R6 x by
   have u:x.I=0:=by simpa using q
   have z:x.D≠[]:=λe=>by simp[e]at m
   unfold R6;rw[L];simp[a,z,u])
  obtain⟨A,o,t,v,y,C⟩:=h.H.cell i (by omega);have k:=uU (λn=>a6s x b i (w.drewN n) (h.ext ((hO w).drewN n)) g l (by omega) A o t v y (C.ext ((hO w).drewN n)));go_in;go_wp21;go_quiet ((go_at_call 134;exact Calls.quiet_of (k _)));go_wp2;go_ret;exact⟨_,rfl,Y,(hO _).drewN _⟩
 ·have Y:=uU (R6_1 (x:=x) (ko (kT a)));go_in;go_wp2;go_ret;exact⟨_,rfl,Y,hO _⟩
 ·have Y:=uU (c6y (x:=x) (ko a));cases q:(x.I == 0);all_goals
   go_in;go_wp2;go_ret;exact⟨_,rfl,by have:=uH Y;rw[q]at this;simpa using this,hO _⟩
 ·obtain⟨i,l⟩:=k9 B;by_cases j:i<x.A.length;focus
   have Y:=uU (show decide (x.sub<=((x.c i).F.length:Int))=true↔R6 x by
    have M:¬(i:Int)=(x.A.length:Int):=by omega
    by_cases p:(x.c i).st=1;unfold R6;simp[a,l,p,M];have J:(x.c i).F.length=0:=by
     obtain c|c|c:=Q.1 i j;exact c.2.1.2.2.2.2.2;exact c.2.1.2.2.2.2.2;exact absurd c.1 p
    unfold R6;simp[a,l,p,J];omega)
   obtain⟨A,o,t,v,y,C⟩:=h.H.cell i j;have k:=uU (λn=>b4n x b i (w.drewN n) (h.ext ((hO w).drewN n)) l j A o t v y (C.ext ((hO w).drewN n)))
  rotate_left
  focus
   have F:x.I=x.A.length:=by omega
   have Y:=uU (show decide (x.sub<=0)=true↔R6 x by
    unfold R6;simp[a,F];omega)
   have E:=N;rw[F]at E;have k:=uU (λn=>b4m x b (w.drewN n) (((hO w).drewN n).keep E) (((hO w).drewN n).keep h.n13))
  all_goals
   go_in;go_wp21;go_quiet ((go_at_call 135;exact Calls.quiet_of (k _)));go_wp2;go_ret;exact⟨_,rfl,Y,(hO _).drewN _⟩
 have Y:=uU (R6_1 (x:=x) (ko (ko a)));go_in;go_wp2;go_ret;exact⟨_,rfl,Y,hO _⟩
theorem b1q(x:Hp)(b:Nat)(y:Wd)(l:Bool)(w:World)(h:VAt w b x ar kr ac kc ag kg an kn):
  Calls prog 127 #[pP b,y.v,.bool l] w λe w'=>e=.returned (.bool (qU x y (!l)))/\Ext w w':=by
 go_in;go_wp21;refine(a9b y b x.A.length an kn _ (Ext.keep (eAl w _) h.n13) h.H.lc).mono ?_;rintro e B ⟨rfl,g⟩;have q:Ext w B:=kI (eAl w _) g;have R:=g.keep (b:=w.heap.size) (o:=0) (v:=iv y.k) (by simp[go_sem]);have V:=g.keep (b:=w.heap.size) (o:=1) (v:=iv y.n) (by simp[go_sem]);have J:=g.keep (b:=w.heap.size) (o:=2) (v:=iv y.a) (by simp[go_sem]);cases s:dQ y x.A.length
 ·have E:=uU (show qU x y (!l)=false by simp[qU,s]);go_wp21;go_ret;exact⟨by rw[uH E];rfl,q⟩
 cases p:(y.k == 2)
 ·have E:=uU (show qU x y (!l)=true by simp[qU,s,p]);go_wp21;refine(a3n y b _ p).mono ?_;rintro e t ⟨rfl,d⟩;go_wp21;go_ret;exact⟨by rw[uH E];rfl,q.trans d⟩
 have P:y.k=2:=by simpa using p
 have L:=a0o.1 s;unfold uJ at L;have O:0<=y.a/\y.a<x.A.length:=by omega
 have r:=uU (show qU x y (!l)=(if (x.c y.a.toNat).st=2 then !l else ((x.c y.a.toNat).st == 1) && !qE x y.a.toNat) by simp[qU,s,P]);obtain⟨i,F⟩:=k9 O.1;rw[F]at r J;rw[mC]at r;have j:i<x.A.length:=by omega
 clear P L O F;have m:=h.ext q;obtain⟨G,M,Y,oc,rfl,rfl,T,D⟩:=m.N i j;obtain⟨U,X,Z,kp,W,C⟩:=m.H.cell i j;cases W;have Q:=uU (λw' (e:Ext B w')=>b4j x b i w' (m.ext e) j G M rfl);have S:=uU (a1h y b x.A.length G M kn i B p m.n13 j);clear h m;go_wp21;refine S.mono ?_;rintro e t ⟨rfl,d⟩;have u:Ext w t:=q.trans d;have u1:=d.keep D;have r0:=d.keep C.p0;have z:=uU (Q t d);clear C T D R V J;cases I:((x.c i).st == 2)
 ·have f:¬(x.c i).st=2:=by simpa using I
  have E:=uU (show qU x y (!l)=(((x.c i).st == 1) && !qE x i) by rw[uH r,if_neg f]);cases K:((x.c i).st == 1)
  ·go_wp21;go_ret;exact⟨by rw[uH E,K];rfl,u⟩
  go_wp2_with (go_at_call 128;refine z.mono ?_;rintro e w3 ⟨rfl,A⟩);go_ret;exact⟨by rw[uH E,K];simp,u.trans A⟩
 have f:(x.c i).st=2:=by simpa using I
 have E:=uU (show qU x y (!l) = !l by rw[uH r,if_pos f]);clear f;go_wp21;go_ret;exact⟨by rw[uH E];rfl,u⟩
theorem b4k(x:Hp)(b k:Nat)(w:World)(h:VAt w b x ar kr ac kc ag kg an kn)(t:k<x.A.length)(F G:Nat)(ha:an=some (aA F G)):
  Calls prog 129 #[pP b,pQ F (G+k*2)] w λe w'=>∃r:Bool,e=.returned (.bool r)/\(r=true↔(∀l,l<(x.c k).F.length->uJ ((x.c k).p l).key x.A.length/\uJ ((x.c k).p l).val x.A.length)/\¬cK (x.c k))/\Ext w w':=by
 obtain⟨ae,V,R,oc,z,rfl,m0,T⟩:=h.N k t;rw[ha]at z;cases z;have⟨aa,ab,W,kp,K,C⟩:=h.H.cell k t;cases K;have p7:=C.p7;have lp:=C.lp;go_in;go_wp21;go_loopw [15] (λi wr=>∃l:Nat,l<=(x.c k).F.length/\i=iv l/\(∀j,j<l->uJ ((x.c k).p j).key x.A.length/\uJ ((x.c k).p j).val x.A.length)/\Ext w wr) (λi _=>(x.c k).F.length-(intOf i).toNat)
 case atStart=>exact⟨0,kB _,rfl,λj h=>by omega,hO _⟩
 case round=>
  obtain⟨l,hl,rfl,s,d⟩:=hrel;have J:=uU s;by_cases g:l<(x.c k).F.length
  ·obtain⟨b2,o2,rfl,X,q1,q2,Q,q4,q5⟩:=C.P l g;have e0:=d.keep X;have z:=d.keep q1;have K:=d.keep q2;have e3:=d.keep Q;have e4:=d.keep q4;have e5:=d.keep q5;have U:=i0N l;have ad:(l:Int)<((x.c k).F.length:Int):=by omega
   have m:=d.alloc (oPr ((x.c k).p l));go_wp21;refine(a9b ((x.c k).p l).key b x.A.length an kn _ (h.ext m).n13 h.H.lc).mono ?_;rintro e w3 ⟨rfl,q⟩;have y:=m.trans q;have u:=λ(o:Nat) (v:Value) (hc:(wr.alloc (oPr ((x.c k).p l))).cell? (aA wr.heap.size o)=some v)=>q.keep hc
   have v3:=u 3 _ (by simp[go_sem];rfl);have v4:=u 4 _ (by simp[go_sem];rfl);have v5:=u 5 _ (by simp[go_sem];rfl);cases B:dQ ((x.c k).p l).key x.A.length
   ·have N:¬((∀l,l<(x.c k).F.length->uJ ((x.c k).p l).key x.A.length/\uJ ((x.c k).p l).val x.A.length)/\¬cK (x.c k)):=λr=>by
     have:=a0o.2 (r.1 l g).1;rw[this]at B;simp at B
    go_wp2;go_ret;first|(exact kT ⟨rfl,N,y⟩)|(exact⟨false,rfl,fNo N,y⟩)
   go_wp21;refine(a9b ((x.c k).p l).val b x.A.length an kn _ (h.ext y).n13 h.H.lc).mono ?_;rintro e w4 ⟨rfl,E⟩;have D:=y.trans E;cases A:dQ ((x.c k).p l).val x.A.length
   ·have N:¬((∀l,l<(x.c k).F.length->uJ ((x.c k).p l).key x.A.length/\uJ ((x.c k).p l).val x.A.length)/\¬cK (x.c k)):=λr=>by
     have:=a0o.2 (r.1 l g).2;rw[this]at A;simp at A
    go_wp2;go_ret;first|(exact kT ⟨rfl,N,D⟩)|(exact⟨false,rfl,fNo N,D⟩)
   have S:∀j,j<l+1->uJ ((x.c k).p j).key x.A.length/\uJ ((x.c k).p j).val x.A.length:=λj hj=>by
    by_cases e:j=l;subst e;exact⟨a0o.1 B,a0o.1 A⟩;exact J j (by omega)
   go_wp2;go_roundw
   case rel=>exact⟨l+1,by omega,by go_num,S,D⟩
   simp[intOf];omega
  have I:=uU (a9a (x.c k) F (G+k*2) R (oc+k*8) W kp wr (d.keep T) (C.ext d));cases L:a0p (x.c k)
  ·have Z:(∀l,l<(x.c k).F.length->uJ ((x.c k).p l).key x.A.length/\uJ ((x.c k).p l).val x.A.length)/\¬cK (x.c k):=⟨(show ∀l,l<(x.c k).F.length->uJ ((x.c k).p l).key x.A.length/\uJ ((x.c k).p l).val x.A.length from λj hj=>uH J j (by omega)),λM=>by rw[<-a3d,L]at M;simp at M⟩;go_wp2_with (go_at_call 136;refine I.mono ?_;rintro e w' ⟨rfl,rfl⟩);go_ret;first|(exact ko ⟨by simp,Z,d⟩)|(exact⟨true,by simp,⟨λ_=>uH Z,λ_=>rfl⟩,d⟩)
  have N:¬((∀l,l<(x.c k).F.length->uJ ((x.c k).p l).key x.A.length/\uJ ((x.c k).p l).val x.A.length)/\¬cK (x.c k)):=λr=>r.2 (a3d.1 L);go_wp2_with (go_at_call 136;refine I.mono ?_;rintro e w' ⟨rfl,rfl⟩);go_ret
  first|(exact kT ⟨by simp,N,d⟩)|(exact⟨false,by simp,fNo N,d⟩)
theorem b6v(x:Hp)(b k:Nat)(w:World)(h:VAt w b x ar kr ac kc ag kg an kn)(A:k<x.A.length)(K L:Nat)(ha:an=some (aA K L)):
  Calls prog 130 #[pP b,pQ K (L+k*2)] w λe w'=>∃r:Bool,e=.returned (.bool r)/\(r=true↔∀l,l<(x.c k).F.length->hE x ((x.c k).p l).key (¬cN x k l)/\hE x ((x.c k).p l).val (¬cN x k l))/\Ext w w':=by
 obtain⟨ad,U,bc,oc,I,rfl,m0,m1⟩:=h.N k A;rw[ha]at I;cases I;have⟨aa,W,ap,kp,Q,C⟩:=h.H.cell k A;cases Q;have p7:=C.p7;have lp:=C.lp;go_in;go_wp21;go_loopw [16] (λi wr=>∃l:Nat,l<=(x.c k).F.length/\i=iv l/\(∀j,j<l->hE x ((x.c k).p j).key (¬cN x k j)/\hE x ((x.c k).p j).val (¬cN x k j))/\Ext w wr) (λi _=>(x.c k).F.length-(intOf i).toNat)
 case atStart=>exact⟨0,kB _,rfl,λj h=>by omega,hO _⟩
 case round=>
  obtain⟨l,hl,rfl,t,d⟩:=hrel;by_cases m:l<(x.c k).F.length
  ·obtain⟨b2,o2,rfl,q0,X,q2,Z,V,q5⟩:=C.P l m;have e0:=d.keep q0;have I:=d.keep X;have Q:=d.keep q2;have e3:=d.keep Z;have e4:=d.keep V;have e5:=d.keep q5;have ab:=i0N l;have ae:(l:Int)<((x.c k).F.length:Int):=by omega
   have q:=d.alloc (oPr ((x.c k).p l));have z:((!dK x k l)=true↔¬cN x k l):=by rw[<-b2t];simp
   have R:=a1j (x:=x) (y:=((x.c k).p l).key) z;have T:=a1j (x:=x) (y:=((x.c k).p l).val) z;go_wp21;have E:=h.ext q;refine(c4y x b K (L+k*2) k l _ E.H.c5 E.H.c6 E.H.c7 (q.keep m0)).mono ?_;rintro e w2 ⟨rfl,s⟩;have M:=q.trans s;have u:=λ(o:Nat) (v:Value) (hc:(wr.alloc (oPr ((x.c k).p l))).cell? (aA wr.heap.size o)=some v)=>s.keep hc
   have u0:=u 0 _ (by simp[go_sem];rfl);have u1:=u 1 _ (by simp[go_sem];rfl);have u2:=u 2 _ (by simp[go_sem];rfl);go_wp21;refine(b1q x b ((x.c k).p l).key (dK x k l) _ (h.ext M)).mono ?_;rintro e w3 ⟨rfl,g⟩;have B:=M.trans g;have v3:=g.keep (u 3 _ (by simp[go_sem];rfl));have v4:=g.keep (u 4 _ (by simp[go_sem];rfl));have v5:=g.keep (u 5 _ (by simp[go_sem];rfl));cases J:qU x ((x.c k).p l).key (!dK x k l)
   ·have N:¬(∀l,l<(x.c k).F.length->hE x ((x.c k).p l).key (¬cN x k l)/\hE x ((x.c k).p l).val (¬cN x k l)):=λr=>by
     have:=R.2 (r l m).1;rw[this]at J;simp at J
    go_wp2;go_ret;first|(exact kT ⟨rfl,N,B⟩)|(exact⟨false,rfl,fNo N,B⟩)
   go_wp21;refine(b1q x b ((x.c k).p l).val (dK x k l) _ (h.ext B)).mono ?_;rintro e w4 ⟨rfl,D⟩;have F:=B.trans D;cases G:qU x ((x.c k).p l).val (!dK x k l)
   ·have N:¬(∀l,l<(x.c k).F.length->hE x ((x.c k).p l).key (¬cN x k l)/\hE x ((x.c k).p l).val (¬cN x k l)):=λr=>by
     have:=T.2 (r l m).2;rw[this]at G;simp at G
    go_wp2;go_ret;first|(exact kT ⟨rfl,N,F⟩)|(exact⟨false,rfl,fNo N,F⟩)
   have S:∀j,j<l+1->hE x ((x.c k).p j).key (¬cN x k j)/\hE x ((x.c k).p j).val (¬cN x k j):=λj hj=>by
    by_cases e:j=l;subst e;exact⟨R.1 J,T.1 G⟩;exact t j (by omega)
   go_wp2;go_roundw
   case rel=>exact⟨l+1,by omega,by go_num,S,F⟩
   simp[intOf];omega
  have Y:∀l,l<(x.c k).F.length->hE x ((x.c k).p l).key (¬cN x k l)/\hE x ((x.c k).p l).val (¬cN x k l):=λj hj=>uH t j (by omega);go_wp2;go_ret
  first|(exact ko ⟨rfl,Y,d⟩)|(exact⟨true,rfl,⟨λ_=>uH Y,λ_=>rfl⟩,d⟩)
theorem b6w(x:Hp)(b:Nat)(w:World)(h:VAt w b x ar kr ac kc ag kg an kn):
  Calls prog 77 #[pP b] w λe w'=>∃r:Bool,e=.returned (.bool r)/\(r=true↔R4 x)/\Ext w w':=by
 have c3:=h.H.c3;have lr:=h.H.lr;have lc:=h.H.lc;go_in;go_wp21;go_loopw [13] (λi wr=>∃k:Nat,k<=x.B.length/\i=iv k/\(∀j (n:j<x.B.length),j<k->hE x x.B[j] False)/\Ext w wr) (λi _=>x.B.length-(intOf i).toNat)
 case atStart=>exact⟨0,kB _,rfl,λj n h=>by omega,hO _⟩
 case round=>
  obtain⟨k,Q,rfl,g,d⟩:=hrel;have HA:=uU g;by_cases a:k<x.B.length
  ·obtain⟨b',o,rfl,p0,p1,p2⟩:=(h.ext d).H.R k a;have I:=i0N k;have D:(k:Int)<(x.B.length:Int):=by omega
   go_wp21;refine(b1q x b x.B[k] true _ (h.ext (d.alloc _))).mono ?_;rintro e X ⟨rfl,G⟩;have K:Ext w X:=(d.alloc _).trans G;cases q:qU x x.B[k] (!true);have N:¬R4 x:=λr=>by
    have:=(a1j (m:=!true) (p:=False) (by simp)).2 (r.1 k a);rw[this]at q;simp at q
   go_wp2;go_ret;first|(exact kT ⟨rfl,N,K⟩)|(exact⟨false,rfl,fNo N,K⟩)
   have S:∀j (n:j<x.B.length),j<k+1->hE x x.B[j] False:=λj n Z=>by
    by_cases e:j=k;subst e;exact(a1j (m:=!true) (p:=False) (by simp)).1 q;exact HA j n (by omega)
   go_wp2;go_roundw
   case rel=>exact⟨k+1,by omega,by go_num,S,K⟩
   simp[intOf];omega
  have T:=uU (show ∀j (n:j<x.B.length),hE x x.B[j] False from λj n=>uH HA j n (by omega));have L:=(h.ext d).n13;go_wp21;go_loopw [27] (λi wr=>∃k:Nat,k<=x.A.length/\i=iv k/\(∀j,j<k->¬(uW x j/\cK (x.c j))/\∀l,l<(x.c j).F.length->a3f x j l ((x.c j).p l))/\Ext w wr) (λi _=>x.A.length-(intOf i).toNat)
  case atStart=>exact⟨0,kB _,rfl,λj h=>by omega,d⟩
  case round=>
   obtain⟨k,Q,rfl,g,d⟩:=hrel;have HA:=uU g;by_cases a:k<x.A.length
   ·have A:=h.ext d;obtain⟨F,J,bc,oc,rfl,rfl,m0,m1⟩:=A.N k a;have L:=A.n13;have I:=i0N k;have D:(k:Int)<(x.A.length:Int):=by omega
    go_wp21;refine(b4j x b k _ A a F J rfl).mono ?_;rintro e w2 ⟨rfl,z⟩;have P:=A.ext z;have M:=d.trans z;cases O:qE x k
    ·have C:=uU (show ¬uW x k from λs=>by rw[<-a3c,O]at s;simp at s);go_wp21;refine(b6v x b k _ P a F J rfl).mono ?_;rintro e U ⟨r,rfl,y,v⟩;have t:=M.trans v;cases r
     ·have N:¬R4 x:=λB=>by
       have:=y.2 (λl u=>((B.2 k a).2 l u).2 C);simp at this
      go_wp2;go_ret;first|(exact kT ⟨rfl,N,t⟩)|(exact⟨false,rfl,fNo N,t⟩)
     have S:∀j,j<k+1->¬(uW x j/\cK (x.c j))/\∀l,l<(x.c j).F.length->a3f x j l ((x.c j).p l):=λj n=>by
      by_cases e:j=k;subst e;exact⟨λs=>uH C s.1,λl u=>⟨λs=>(C s).elim,λ_=>y.1 rfl l u⟩⟩;exact HA j (by omega)
     go_wp2;go_roundw
     case rel=>exact⟨k+1,by omega,by go_num,S,t⟩
     simp[intOf];omega
    have E:=a3c.1 O;go_wp21;refine(b4k x b k _ P a F J rfl).mono ?_;rintro e U ⟨r,rfl,y,v⟩;have t:=M.trans v;cases r
    ·have N:¬R4 x:=λB=>by
      have:=y.2 ⟨λl u=>((B.2 k a).2 l u).1 E,λV=>(B.2 k a).1 ⟨E,V⟩⟩;simp at this
     go_wp2;go_ret;first|(exact kT ⟨rfl,N,t⟩)|(exact⟨false,rfl,fNo N,t⟩)
    have S:∀j,j<k+1->¬(uW x j/\cK (x.c j))/\∀l,l<(x.c j).F.length->a3f x j l ((x.c j).p l):=λj n=>by
     by_cases e:j=k;subst e;exact⟨λs=>(y.1 rfl).2 s.2,λl u=>⟨λ_=>(y.1 rfl).1 l u,λW=>(W E).elim⟩⟩;exact HA j (by omega)
    go_wp2;go_roundw
    case rel=>exact⟨k+1,by omega,by go_num,S,t⟩
    simp[intOf];omega
   have Y:R4 x:=⟨T,λi hi=>uH HA i (by omega)⟩;go_wp2;go_ret;first|(exact ko ⟨rfl,Y,d⟩)|(exact⟨true,rfl,⟨λ_=>uH Y,λ_=>rfl⟩,d⟩)
theorem b4g[qd](hz:∀q,(default:uL).z q=none)(x:Hp)(w:World)(hR:SlW w (.slice ar x.B.length kr) x.B)(hC:SlC w (.slice ac x.A.length kc) x.A)(hG:SlI w (.slice ag x.D.length kg) x.D)(h0:0<x.B.length)(n1:x.B.length<=100)(n2:x.A.length<=8000)(n3:∀q,q<x.A.length->(x.c q).F.length<=200)(n4:x.D.length<=8000):
  Calls prog 20 #[x.v (.slice ar x.B.length kr) (.slice ac x.A.length kc) (.slice ag x.D.length kg)] w λe w'=>∃g,e=.returned (.pointer (some ⟨g,0,none⟩))/\Hid (∃ar kr ac kc vg br bc pb pa pk role,GAt w.heap.size w' g x ar kr ac kc vg br bc pb pa pk role)/\Ext w w':=by
 have⟨w3,hw3⟩:∃W,W=w.alloc (oHp x (.slice ar x.B.length kr) (.slice ac x.A.length kc) (.slice ag x.D.length kg)):=⟨_,rfl⟩;have hs3:w3.heap.size=w.heap.size+1:=by rw[hw3];simp
 have X3:Ext w w3:=by rw[hw3];exact (hO w).alloc (oHp x (.slice ar x.B.length kr) (.slice ac x.A.length kc) (.slice ag x.D.length kg))
 have SR:=uU (SlW.ext X3 hR);have SC:=uU (SlC.ext X3 hC);have SG:=uU (SlI.ext X3 hG);have BH:=uU (show cY w3 w.heap.size x (.slice ar x.B.length kr) (.slice ac x.A.length kc) (.slice ag x.D.length kg) by rw[hw3];exact cY.new w x _ _ _ _);have⟨iw,hiw,hw0,hw1,hw2⟩:=info_parts b1e;have⟨iq,hiq,hq0,hq1,hq2⟩:=info_parts a2r;have⟨ic,hic,hc0,hc1,hc2⟩:=info_parts a7z;have⟨ii,hii,hi0,hi1,hi2⟩:=info_parts a9t;clear hR hC hG;go_in;go_wp21;rw[<-hw3,<-hs3];have hlt3:w.heap.size<w3.heap.size:=by omega
 clear hw3 hs3;go_loopw [18] (λi wr=>∃(k:Nat)(av:Option Addr)(kv:Nat),k<=x.B.length/\i=.int .i64 k/\Hid (wr.ownsRow (w3.heap.size+1) 86 3 (.slice av k kv) k ((x.B.take k).flatMap fW))/\Hid (cY wr w3.heap.size x (.slice av k kv) (.slice ac x.A.length kc) (.slice ag x.D.length kg)/\(∀o,wr.frozen? ⟨w3.heap.size,o,none⟩=false))/\Hid (Ext w3 wr)) (λi _=>x.B.length-(intOf i).toNat)
 case atStart=>exact⟨0,none,0,kB _,rfl,ks _ _ _ _,(show cY (w3.alloc (oHp x (.slice none 0 0) (.slice ac x.A.length kc) (.slice ag x.D.length kg))) w3.heap.size x (.slice none 0 0) (.slice ac x.A.length kc) (.slice ag x.D.length kg)/\(∀o,(w3.alloc (oHp x (.slice none 0 0) (.slice ac x.A.length kc) (.slice ag x.D.length kg))).frozen? ⟨w3.heap.size,o,none⟩=false) from⟨cY.new w3 x _ _ _ _,λo=>by simp[go_sem]⟩),(hO w3).alloc _⟩
 case round=>
  obtain⟨k,av,kv,hk,rfl,hown,hgc,hex⟩:=hrel;by_cases hlt:k<x.B.length
  ·have⟨b',o,har,p0,p1,p2⟩:∃b' o,ar=some ⟨b',o,none⟩/\yL w3 b' (o+k*3) x.B[k]:=by
    have⟨ad,cap,e,_,hx⟩:=uH SR;simp only[Value.slice.injEq]at e;rw[e.1];exact hx k hlt
   subst har;have p0:=(uH hex).keep p0;have p1:=(uH hex).keep p1;have p2:=(uH hex).keep p2;have g3:=(uH hgc).1.2.2.2.1;have hbg:=cLt g3;have hk0:=i0N k;have hk1:(k:Int)<(x.B.length:Int):=by omega
   have ETK:=uU (show x.B.take (k+1)=x.B.take k++[x.B[k]] by rw[kj hlt]);obtain⟨y,ey⟩:=obE (x.B[k]);rw[<-ey]at p0 p1 p2 ETK;clear ey;go_wp2_with (at_builtin;refine wpList_append_lies _ rfl _ _ 23 rfl (w3.heap.size+1) 86 iw (.agg #[iv 0,iv 0,iv 0]) 3 24 underlying23 hiw hw0 hw1 hw2 rfl (by decide) _ k ((x.B.take k).flatMap fW) rfl (((uH hown).alloc _).alloc _) _ 1 1 (fW y) rfl rfl ?c1 ?c2 (by decide) ?c3 ?c4 ?c5 _ rfl ?_)
   case c1=>intro j u hj;obtain _|_|_|j:=j <;> simp[fW]at hj <;> subst hj <;> simp[go_sem]
   case c2=>intro u hu;simp[fW]at hu;obtain e|e|e:=hu <;> subst e <;> rfl
   case c3=>unfold maxLen;omega
   case c4=>omega
   case c5=>simp;omega
   intro gb cap5 w5 hown5 hgrow hat hglt;have xb:=(eAl wr (oWd y)).alloc (oWd y);have BP:=b4b (o:=3) (u:=.slice (some ⟨gb,0,none⟩) (k+1) cap5) (bg:=w3.heap.size) (Nat.lt_succ_self _) ((uH hex).trans xb) (((uH hown).alloc _).alloc _) (hT _) (kF hbg xb.size) hgrow hown5;have eb:w5.heap[w3.heap.size]?=wr.heap[w3.heap.size]?:=(hgrow.block w3.heap.size (kF hbg xb.size) (λe=>by have:=((uH hown).lt _ e.symm).1;omega)).trans (xb.block _ hbg);have g5:=(cOb w3.heap.size 3 eb).trans g3;have f5:=(fOb w3.heap.size 3 eb).trans ((uH hgc).2 3);have HB:=((uH hgc).1.block eb).set3 (.slice (some ⟨gb,0,none⟩) (k+1) cap5);have FZ:=uU (show ∀o,(w5.setCell (aA w3.heap.size 3) (.slice (some ⟨gb,0,none⟩) (k+1) cap5)).frozen? ⟨w3.heap.size,o,none⟩=false from λo=>by rw[kS];exact(mL (a:=⟨w3.heap.size,o,none⟩) eb).trans ((uH hgc).2 o));clear hown5 hgrow hat xb eb;go_wp21;go_roundw
   case rel=>
    refine⟨k+1,some ⟨gb,0,none⟩,cap5,hlt,by go_num,?_,⟨uH HB,uH FZ⟩,(uH BP).2.1⟩;rw[uH ETK,nL];refine uU ?_;simpa using (uH BP).1
   simp[intOf];omega
  have hk2:k=x.B.length:=by omega
  subst hk2;have OW:=uU (show wr.ownsRow (w3.heap.size+1) 86 3 (.slice av x.B.length kv) x.B.length (x.B.flatMap fW) by have:=uH hown;rw[kz]at this;exact this);obtain⟨w6,hw6⟩:∃W,W=wr:=⟨_,rfl⟩;subst hw6;have g4:=(uH hgc).1.2.2.2.2.1;have f4:=(uH hgc).2 4;have hbg:=cLt g4;have b4:=(uH hex).keep (uH BH).2.2.2.2.1;have C0:=uU (show CS x w3 w6 (w6.setCell (aA w3.heap.size 4) (.slice none 0 0)) (.slice av x.B.length kv) (.slice none 0 0) (.slice ag x.D.length kg) 0 [] from
   ⟨ks _ _ _ _,by simp,λz hz=>by simp at hz,λi j hi=>by simp at hi,(uH hgc).1.set4 _,λo=>by rw[kS];exact(uH hgc).2 o,tE w6 w3.heap.size 4 _,(uH hex).setCell (hT _) _,hbg⟩)
  clear hown hgc hex hlt hk;go_wp21;clear g4 f4 b4;go_loopw [33] (λi wr=>∃(k:Nat)(avc:Option Addr)(kvc:Nat)(L:List (Cl×Value)),k<=x.A.length/\i=.int .i64 k/\Hid (CS x w3 w6 wr (.slice av x.B.length kv) (.slice avc k kvc) (.slice ag x.D.length kg) k L)) (λi _=>x.A.length-(intOf i).toNat)
  case atStart=>exact⟨0,none,0,[],kB _,rfl,uH C0⟩
  case round=>
   clear C0;have⟨wn,hwn⟩:∃W,W=wr:=⟨_,rfl⟩;subst hwn;obtain⟨k,avc,kvc,L,hk,rfl,hcs⟩:=hrel;by_cases hlt:k<x.A.length
   ·have⟨bc,oc,hac,hbc3,vp0,p0,p1,p2,p3,p4,p5,p6,p7,hP⟩:∃bc oc,ac=some ⟨bc,oc,none⟩/\bc<w3.heap.size/\c0k w3 bc (oc+k*8) (x.c k):=by
     have⟨ad,cap,e,_,hx⟩:=uH SC;have⟨b2,o2,e2,q⟩:=hx k hlt;rw[Hp.c_eq x k hlt]at q;simp only[Value.slice.injEq]at e;exact⟨b2,o2,e.1.trans e2,let ⟨_,p0,_⟩:=q;uZ p0,q⟩
    subst hac;obtain⟨ap,kp,rfl,_,hPx⟩:=hP;have CP:=uU hPx;have X:=(uH hcs).ex;have p0:=X.keep p0;have p1:=X.keep p1;have p2:=X.keep p2;have p3:=X.keep p3;have p4:=X.keep p4;have p5:=X.keep p5;have p6:=X.keep p6;have p7:=X.keep p7;have hl200:=n3 k hlt;have hk0:=i0N k;have hk1:(k:Int)<(x.A.length:Int):=by omega
    clear hPx X;go_wp21;have hsz2:((wn.alloc (oCl (x.c k) (.slice ap (x.c k).F.length kp))).alloc (oCl (x.c k) (.slice none 0 0))).heap.size=wn.heap.size+2:=by simp
    have HZ2:=uU hsz2;clear p0 p1 p2 p3 p4 p5 p6 p7 hsz2;go_loopw [42] (λi wr=>∃(p:Nat)(avp:Option Addr)(kvp:Nat),p<=(x.c k).F.length/\i=.int .i64 p/\Hid (wr.ownsRow (wn.heap.size+2) 90 6 (.slice avp p kvp) p (((x.c k).F.take p).flatMap fP))/\Hid (CB wn wr (x.c k) ap kp (.slice avp p kvp))/\wn.heap.size+2<=wr.heap.size) (λi _=>(x.c k).F.length-(intOf i).toNat)
    case atStart=>exact⟨0,none,0,kB _,rfl,ks _ _ _ _,(CB.V wn (x.c k) ap kp 70 70),by rw[uH HZ2];exact hT _⟩
    case round=>
     obtain⟨p,avp,kvp,hp,rfl,hown,hcb,hsz⟩:=hrel;by_cases hpt:p<(x.c k).F.length
     ·have⟨bp,op,hap,q0,q1,q2,q3,q4,q5⟩:=uH CP p hpt;subst hap;have XX:=(uH hcs).ex.trans (uH hcb).ex;have q0:=XX.keep q0;have q1:=XX.keep q1;have q2:=XX.keep q2;have q3:=XX.keep q3;have q4:=XX.keep q4;have q5:=XX.keep q5;have ETP:=uU (show(x.c k).F.take (p+1)=(x.c k).F.take p++[(x.c k).F[p]] by rw[kj hpt]);have⟨y,ey⟩:=obE ((x.c k).F[p]);rw[<-ey]at q0 q1 q2 q3 q4 q5 ETP;clear ey XX;have hp0:=i0N p;have hp1:(p:Int)<((x.c k).F.length:Int):=by omega
      have n7:=(uH hcb).n7;have hbn:wn.heap.size+1<wr.heap.size:=uZ n7;go_wp2_with (at_builtin;refine wpList_append_lies _ rfl _ _ 68 rfl (wn.heap.size+2) 90 iq (.agg #[iv 0,iv 0,iv 0,iv 0,iv 0,iv 0]) 6 48 underlying68 hiq hq0 hq1 hq2 rfl (by decide) _ p (((x.c k).F.take p).flatMap fP) rfl (((uH hown).alloc _).alloc _) _ 1 1 (fP y) rfl rfl ?c1 ?c2 (by decide) ?c3 ?c4 ?c5 _ rfl ?_)
      case c1=>intro j u hj;obtain _|_|_|_|_|_|j:=j <;> simp[fP]at hj <;> subst hj <;> simp[go_sem]
      case c2=>intro u hu;simp[fP]at hu;obtain e|e|e|e|e|e:=hu <;> subst e <;> rfl
      case c3=>unfold maxLen;omega
      case c4=>omega
      case c5=>simp;omega
      intro gb cap5 w5 hown5 hgrow hat hglt;have xb:=(eAl wr (oPr y)).alloc (oPr y);have BP:=CB.push ((uH hcb).ext xb) (((uH hown).alloc _).alloc _) (by omega) hgrow hown5;have eb:w5.heap[wn.heap.size+1]?=wr.heap[wn.heap.size+1]?:=(hgrow.block (wn.heap.size+1) (kF hbn xb.size) (λe=>by have:=((uH hown).lt _ e.symm).1;omega)).trans (xb.block _ hbn);have g5:=(cOb (wn.heap.size+1) 7 eb).trans n7;have f5:=(fOb (wn.heap.size+1) 7 eb).trans ((uH hcb).f 7);have hsz9:wn.heap.size+2<=(w5.setCell (aA (wn.heap.size+1) 7) (.slice (some ⟨gb,0,none⟩) (p+1) cap5)).heap.size:=by have h1:=hgrow.size;simp at h1;simp only[World.setCell,Array.size_modify];omega
      clear hown5 hgrow hat xb eb;go_wp21;go_roundw
      case rel=>
       refine⟨p+1,some ⟨gb,0,none⟩,cap5,hpt,by go_num,?_,(uH BP).2,hsz9⟩;rw[uH ETP,nL];refine uU ?_;simpa using (uH BP).1
      simp[intOf];omega
     have hp2:p=(x.c k).F.length:=by omega
     subst hp2;have CS1:=(uH hcs).ext (uH hcb).ex;have c4:=(uH CS1).bx.2.2.2.2.1;have⟨s0,s1,s2,s3,s4,s5,s6⟩:=(uH hcb).n;simp only[Nat.zero_add]at s1 s2 s3 s4 s5 s6;have s7:=(uH hcb).n7;have hbg2:=cLt c4;have HP:=uU (show wr.ownsRow (wn.heap.size+2) 90 6 (x.c k,Value.slice avp (x.c k).F.length kvp).2 (x.c k,Value.slice avp (x.c k).F.length kvp).1.F.length ((x.c k,Value.slice avp (x.c k).F.length kvp).1.F.flatMap fP) by
      have:=uH hown;rw[kz]at this;exact this)
     have h67:w6.heap.size<=wn.heap.size+2:=by have:=(uH hcs).on.size;omega
     have h6r:w6.heap.size<=wr.heap.size:=by omega
     clear hpt hp;go_wp2_with (at_builtin;refine wpList_append_lies _ rfl _ _ 24 rfl w6.heap.size 70 ic (.agg #[iv 0,iv 0,iv 0,iv 0,iv 0,iv 0,iv 0,.slice none 0 0]) 8 80 underlying24 hic hc0 hc1 hc2 rfl (by decide) _ k (L.flatMap fC) rfl ((uH CS1).own.alloc _) _ 1 1 (fC (x.c k,Value.slice avp (x.c k).F.length kvp)) rfl rfl ?c1 ?c2 (by decide) ?c3 ?c4 ?c5 _ rfl ?_)
     case c1=>intro j u hj;obtain _|_|_|_|_|_|_|_|j:=j <;> simp[fC]at hj <;> subst hj <;> simp[go_sem]
     case c2=>intro u hu;simp[fC]at hu;obtain e|e|e|e|e|e|e|e:=hu <;> subst e <;> rfl
     case c3=>unfold maxLen;omega
     case c4=>omega
     case c5=>first|exact h6r|omega|(simp;omega)
     intro gb cap5 w5 hown5 hgrow hat hglt;have xb:=(hO wr).alloc (oCl (x.c k) (.slice avp (x.c k).F.length kvp));have PU:=CS.push (g:=gb) ((uH CS1).ext xb) hlt (show(x.c k,Value.slice avp (x.c k).F.length kvp).1=x.A[k] from(Hp.c_eq x k hlt).symm) hgrow hown5 rfl (by simpa using hat) (uN (uH HP) (λq hq=>xb.block q ((uH HP).lt q hq).2)) h67 (show ∀q,(Value.slice avc k kvc).ownBlock=some q->q<wn.heap.size+2 from λq e=>by have:=((uH hcs).own.lt q e).2;omega) (show ∀y,y∈L->∀q,y.2.ownBlock=some q->q<wn.heap.size+2 from λy hy q e=>by have:=(((uH hcs).F y hy).1.lt q e).2;omega);have eb:w5.heap[w3.heap.size]?=wr.heap[w3.heap.size]?:=(hgrow.block w3.heap.size (kF hbg2 xb.size) (λe=>by have:=((uH CS1).own.lt _ e.symm).1;have:=(uH CS1).lt;omega)).trans (xb.block _ hbg2);have d4:=(cOb w3.heap.size 4 eb).trans c4;have df:=(fOb w3.heap.size 4 eb).trans ((uH CS1).fz 4);clear hown5 hgrow hat xb eb;go_wp21;go_roundw
     case rel=>exact⟨k+1,some ⟨gb,0,none⟩,cap5,_,hlt,by go_num,uH PU⟩
     simp[intOf];omega
   have hk2:k=x.A.length:=by omega
   subst hk2;have CSE:=uH hcs;have g8:=(uH CSE).bx.2.2.2.2.2.2.2.2.1;have f8:=(uH CSE).fz 8;have hbgn:=cLt g8;have b8:=(uH CSE).ex.keep (uH BH).2.2.2.2.2.2.2.2.1;have Q0:cY (wn.setCell (aA w3.heap.size 8) (.slice none 0 0)) w3.heap.size x (.slice av x.B.length kv) (.slice avc x.A.length kvc) (.slice none 0 0)/\Nf1 w3.heap.size (wn.setCell (aA w3.heap.size 8) (.slice none 0 0))/\uQ (λq=>q=w3.heap.size) wn (wn.setCell (aA w3.heap.size 8) (.slice none 0 0)):=⟨(uH CSE).bx.set8 _,Nf1.set ⟨hbgn,(uH CSE).fz⟩ _ _,tE wn w3.heap.size 8 _⟩;clear hcs hk hlt;go_wp21;clear g8 f8 b8;go_loopw [64] (λi wr=>∃(k:Nat)(avg:Option Addr)(kvg:Nat),k<=x.D.length/\i=.int .i64 k/\Hid (wr.ownsRow wn.heap.size 3 1 (.slice avg k kvg) k ((x.D.take k).map iv))/\Hid (cY wr w3.heap.size x (.slice av x.B.length kv) (.slice avc x.A.length kvc) (.slice avg k kvg)/\Nf1 w3.heap.size wr/\uQ (λq=>q=w3.heap.size) wn wr)) (λi _=>x.D.length-(intOf i).toNat)
   case atStart=>exact⟨0,none,0,kB _,rfl,ks _ _ _ _,uH Q0⟩
   case round=>
    clear Q0;obtain⟨k,avg,kvg,hk,rfl,hown,hbx⟩:=hrel;have XR:Ext w3 wr:=(uH hbx).2.2.ext (uH CSE).ex (λq hq e=>by omega);by_cases hlt:k<x.D.length
    ·have⟨bg,og,hag,p0⟩:∃bg og,ag=some ⟨bg,og,none⟩/\a8k w3 bg (og+k*1) x.D[k]:=by
      have⟨ad,cap,e,_,hx⟩:=uH SG;simp only[Value.slice.injEq]at e;rw[e.1];exact hx k hlt
     subst hag;have p0:=XR.keep p0;rw[mp]at p0;have g8:=(uH hbx).1.2.2.2.2.2.2.2.2.1;have hbg2:=cLt g8;have hwn:=(uH hbx).2.2.size;have hk0:=i0N k;have hk1:(k:Int)<(x.D.length:Int):=by omega
     have ETK:=uU (show x.D.take (k+1)=x.D.take k++[x.D[k]] by rw[kj hlt]);have⟨y,ey⟩:=obE (x.D[k]);rw[<-ey]at p0 ETK;clear ey;go_wp2_with (at_builtin;refine wpList_append_lies _ rfl _ _ 25 rfl wn.heap.size 3 ii (iv 0) 1 8 underlying25 hii hi0 hi1 hi2 rfl (by decide) _ k ((x.D.take k).map iv) rfl ((uH hown).alloc _) _ 1 1 [iv y] rfl rfl ?c1 ?c2 (by decide) ?c3 ?c4 ?c5 _ rfl ?_)
     case c1=>intro j u hj;obtain _|j:=j <;> simp at hj;subst hj;simp[go_sem]
     case c2=>intro u hu;simp at hu;subst hu;rfl
     case c3=>unfold maxLen;omega
     case c4=>omega
     case c5=>simp;omega
     intro gb cap5 w5 hown5 hgrow hat hglt;have xb:=(hO wr).alloc (.cells #[iv y] 3);have eb:w5.heap[w3.heap.size]?=wr.heap[w3.heap.size]?:=(hgrow.block w3.heap.size (kF hbg2 xb.size) (λe=>by have:=((uH hown).lt _ e.symm).1;omega)).trans (xb.block _ hbg2);have g5:=(cOb w3.heap.size 8 eb).trans g8;have f5:=(fOb w3.heap.size 8 eb).trans ((uH hbx).2.1.2 8);have OW5:=uU (uN (w':=w5.setCell (aA w3.heap.size 8) (.slice (some ⟨gb,0,none⟩) (k+1) cap5)) hown5 (λq hq=>kP _ _ _ _ (λe=>by have h1:=(hown5.lt q hq).1;have e:q=w3.heap.size:=e;omega)));have HB:=uU (show cY (w5.setCell (aA w3.heap.size 8) (.slice (some ⟨gb,0,none⟩) (k+1) cap5)) w3.heap.size x (.slice av x.B.length kv) (.slice avc x.A.length kvc) (.slice (some ⟨gb,0,none⟩) (k+1) cap5)/\Nf1 w3.heap.size (w5.setCell (aA w3.heap.size 8) (.slice (some ⟨gb,0,none⟩) (k+1) cap5))/\uQ (λq=>q=w3.heap.size) wn (w5.setCell (aA w3.heap.size 8) (.slice (some ⟨gb,0,none⟩) (k+1) cap5)) from
      ⟨((uH hbx).1.block eb).set8 _,(uY (uH hbx).2.1 eb (kA xb.size hgrow.size)).set _ _,by
       have on:=(uH hbx).2.2;refine uQ.setCell (S:=λq=>q=w3.heap.size) ?_ (p:=(aA w3.heap.size 8)) rfl _;refine⟨hgrow.os.trans on.os,hgrow.tape.trans on.tape,hgrow.output.trans on.output,kA on.size (kA xb.size hgrow.size),λq hq hne=>?_⟩;have hq2:q<wr.heap.size:=kF hq on.size;exact((hgrow.block q (kF hq2 xb.size) (λe=>by have:=((uH hown).lt q e.symm).1;omega)).trans (xb.block q hq2)).trans (on.block q hq hne)⟩)
     clear hown5 hgrow hat xb eb;go_wp21;go_roundw
     case rel=>
      refine⟨k+1,some ⟨gb,0,none⟩,cap5,hlt,by go_num,?_,uH HB⟩;rw[uH ETK,mf];refine uU ?_;simpa using uH OW5
     simp[intOf];omega
    have hk2:k=x.D.length:=by omega
    subst hk2;have FIN:∃ar kr ac kc vg br bc pb pa pk role,GAt w.heap.size wr w3.heap.size x ar kr ac kc vg br bc pb pa pk role:=by
     have⟨br,bc,pb,pa,pk,role,h⟩:=GAt.V hz (B:=w.heap.size) (uH CSE) (show wn.ownsRow (w3.heap.size+1) 86 3 (.slice av x.B.length kv) x.B.length (x.B.flatMap fW) from uN (uH OW) (λq hq=>(uH CSE).on.block q ((uH OW).lt q hq).2 (by have:=((uH OW).lt q hq).1;omega))) (λq e=>((uH OW).lt q e).2) h0 (by omega) (uH hbx).2.2 (uH hbx).1 (uH hbx).2.1 (by have:=uH hown;rw[kz]at this;exact this);exact⟨_,_,_,_,_,br,bc,pb,pa,pk,role,h⟩
    clear hown hbx;go_wp21;go_ret;exact⟨_,rfl,uH FIN,X3.trans XR⟩
theorem qQ.r16(h:qQ x 0):0<x.B.length/\x.B.length<=100:=by have:=h.all.1.B;omega
end Go.Proofs.YtolmnenlnpbcfaaGreatDoor
