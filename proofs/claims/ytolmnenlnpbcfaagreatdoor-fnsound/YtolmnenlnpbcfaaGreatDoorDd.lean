import Derived.Test.YtolmnenlnpbcfaaGreatDoorLsB
import Derived.Test.YtolmnenlnpbcfaaGreatDoorAd
import Derived.Test.YtolmnenlnpbcfaaGreatDoorSpecH
import Derived.Test.YtolmnenlnpbcfaaGreatDoorDc
set_option maxRecDepth 100000
set_option maxHeartbeats 8000000
namespace Go.Proofs.YtolmnenlnpbcfaaGreatDoor
open Go.RowKit Tryz
attribute [local go_sem ↓] Go.wp_at_zero Go.wp_at_succ
variable{n lo hi:Int}{x:Hp}
theorem a0f(h:cH n lo hi=true):lo<=n/\n<=hi:=by simpa[cH]using h
theorem a8q(h:cH n lo hi=false):¬(lo<=n/\n<=hi):=by grind[cH]
theorem a0r(n b a:Int)(r:Bool)(h:cH n b a=r)(w:World):Calls prog 45 #[iv n,iv b,iv a] w λe w'=>e=.returned (.bool r)/\w'=w:=by
 rw[<-h];exact a8w n b a w
theorem a9b(y:Wd)(b n:Nat)(h:Option Addr)(i:Nat)(w:World)(g:w.cell? (aA b 13)=some (.slice h n i))(l:n<=35184372088832):
  Calls prog 177 #[pP b,y.v] w λe w'=>e=.returned (.bool (dQ y n))/\Ext w w':=by
 have j:=cLt g;cases d:(y.k == 0)
 ·cases f:(y.k == 1)
  ·cases c:(y.k == 2)
   ·have E:=uU (show dQ y n=false by simp at d f c;simp[dQ,d,f,c]);go_in;go_wp2;go_ret;exact⟨by rw[uH E];rfl,(hO w).alloc _⟩
   cases q:(y.n == 0)
   ·have E:=uU (show dQ y n=false by simp at c;simp[dQ,c,q]);go_in;go_wp21;go_quiet (fail);go_wp2;go_ret;exact⟨by rw[uH E];rfl,(eAl w _).drewN _⟩
   cases t:cH y.a 0 ((n:Int)-1)
   focus
    have E:dQ y n=false:=by
     have:=a8q t;simp at c q;simp[dQ,c,q];omega
    go_in;go_wp21;go_quiet ((go_at_call 45;refine Calls.quiet_of_same (a0r _ _ _ false ?_ _);assumption))
   rotate_left
   focus
    have E:dQ y n=true:=by
     have:=a0f t;simp at c q;simp[dQ,c,q];omega
    go_in;go_wp21;go_quiet ((go_at_call 45;refine Calls.quiet_of_same (a0r _ _ _ true ?_ _);assumption))
   all_goals
    go_wp2;go_ret;exact⟨by rw[uH E];rfl,(eAl w _).drewN _⟩
  have E:=uU (show dQ y n=(y.a == 0) by simp at f;simp[dQ,f]);go_in;go_wp2;go_ret;exact⟨by rw[uH E];simp,(hO w).alloc _⟩
 cases q:(y.n == 0)
 all_goals
  go_in;go_wp2;go_ret;exact⟨by rw[(show dQ y n=(y.n == 0 && y.a == 0) by simp at d;simp[dQ,d])];simp[q],(hO w).alloc _⟩
theorem a3n(y:Wd)(b:Nat)(w:World)(c:(y.k == 2)=false):
  Calls prog 178 #[pP b,y.v] w λe w'=>e=.returned (.pointer none)/\Ext w w':=by
 have a:(y.k != 2)=true:=by simpa using c
 go_in;go_wp2;go_ret;exact⟨rfl,(hO w).alloc _⟩
theorem a1h(y:Wd)(b n c d l i:Nat)(w:World)(j:(y.k == 2)=true)(a:w.cell? (aA b 13)=some (sO c d n l))(o:i<n):
  Calls prog 178 #[pP b,.agg #[iv y.k,iv y.n,iv i]] w λe w'=>e=.returned (pQ c (d+i*2))/\Ext w w':=by
 have m:=cLt a;have f:(y.k != 2)=false:=by simpa using j
 have g:=i0N i;have h:(i:Int)<(n:Int):=by omega
 go_in;go_wp21;go_quiet (fail);go_wp2;go_ret;exact⟨rfl,(eAl w _).drewN _⟩
def a8r(c:Cl):Bool:=(c.kind == 0) && (c.T == 0) && (c.U == 0) && (c.born == 0) && (c.J == 0) && ((c.F.length:Int) == 0)
theorem a8d{c:Cl}:a8r c=true↔a5g c:=by grind[Hp.c,a8r,a5g]
theorem c0z(c:Cl)(a q bc r:Nat)(b:Option Addr)(d:Nat)(w:World)(y:w.cell? (aA a (q+1))=some (pQ bc r))(h:CAt w bc r c b d):
  Calls prog 122 #[pQ a q] w λe w'=>e=.returned (.bool (a8r c))/\w'=w:=by
 obtain⟨x,p,u,i,k,o,t,v,f,P⟩:=h;unfold a8r;cases g:(c.kind == 0);rotate_left;cases j:(c.T == 0);rotate_left;cases l:(c.U == 0);rotate_left;cases m:(c.born == 0);rotate_left;cases n:(c.J == 0);rotate_left;cases s:((c.F.length:Int) == 0);all_goals
  go_in;go_wp2;go_ret;exact⟨rfl,rfl⟩
theorem bare_is(c:Cl)(a q bc r:Nat)(b:Option Addr)(d:Nat)(s:Bool)(g:a8r c=s)(w:World)(f:w.cell? (aA a (q+1))=some (pQ bc r))(h:CAt w bc r c b d):
  Calls prog 122 #[pQ a q] w λe w'=>e=.returned (.bool s)/\w'=w:=by grind[Hp.c,a8r,HAt.cell,c0z]
theorem a4u(h:lo<=n/\n<=hi):cH n lo hi=true:=by grind[cH]
theorem d1v:Region.lexB .any (third Tryz.f123.body)=true:=b7s _ _ (by kernel_rfl) (by kernel_rfl)
theorem d1w(x:Hp)(c:Cl)(b f q bc r:Nat)(g:Option Addr)(i:Nat)(w:World)(E:w.cell? (aA b 2)=some (iv x.born))(F:w.cell? (aA f (q+1))=some (pQ bc r))(h:CAt w bc r c g i):
  Calls prog 123 #[pP b,pQ f q] w λe w'=>e=.returned (.bool (cH c.kind 0 255 && (cH c.T 0 3 && (cH c.U 0 3 && (cH c.born 1 x.born && (cH c.J 0 2 && ((c.to == 0) && decide ((c.F.length:Int)<=200))))))))/\Ext w w':=by
 obtain⟨B,l,n,v,y,m,u,A,o,P⟩:=h;cases p:cH c.kind 0 255;rotate_left;cases C:cH c.T 0 3;rotate_left;cases s:cH c.U 0 3;rotate_left;cases k:cH c.born 1 x.born;rotate_left;cases z:cH c.J 0 2;rotate_left;cases t:(c.to == 0);rotate_left;cases D:decide ((c.F.length:Int)<=200);all_goals
  go_in;go_wp21;try simp only[List.append]
  refine wp_region_quiet_lit (by kernel_rfl) d1v ?_;repeat (go_big_quiet_step ((go_at_call 45;first|(refine Calls.quiet_of_same (a0r _ _ _ true ?_ _);assumption)|(refine Calls.quiet_of_same (a0r _ _ _ false ?_ _);assumption))))
  refine wpQuiet_nil ?_;intro _ d;obtain⟨j,a⟩:=d;subst a;go_wp2;go_ret;exact⟨rfl,Ext.drewN (hO w) _⟩
theorem b9h(x:Hp)(c:Cl)(b i q bc r:Nat)(j:Option Addr)(k:Nat)(w:World)(n:w.cell? (aA b 2)=some (iv x.born))(o:w.cell? (aA i (q+1))=some (pQ bc r))(h:CAt w bc r c j k):
  Calls prog 123 #[pP b,pQ i q] w λe w'=>∃r:Bool,Hid (e=.returned (.bool r))/\(r=true↔a2q x c)/\Ext w w':=by
 refine(d1w x c b i q bc r j k w n o h).mono λ_ _ ⟨m,l⟩=>⟨_,m,?_,l⟩
 simp only[Bool.and_eq_true,decide_eq_true_eq,beq_iff_eq];exact⟨λ⟨a,b,c,d,e,f,g⟩=>⟨a0f a,a0f b,a0f c,a0f d,a0f e,f,by omega⟩,λ⟨a,b,c,d,e,f,g⟩=>⟨a4u a,a4u b,a4u c,a4u d,a4u e,f,by omega⟩⟩
theorem c8j(w:World)(base b c:Nat)(v:Value)(L:List Int)(h:eU w base b c v L)(f:L.length=0):
  Calls prog 176 #[pQ b c] w λe w'=>e=.returned (.tuple #[iv 0,.bool false])/\w'=w:=by
 obtain⟨ad,a,rfl⟩:=h.empty f;go_in;go_wp21;refine(a5h _ b c ad a h.hd).mono ?_;rintro e g ⟨rfl,rfl⟩;go_wp2;go_ret2;exact⟨rfl,rfl⟩
theorem eU.cut{w:World}{base bq oq g n cap:Nat}{L:List Int}(h:eU w base bq oq (sS g (n+1) cap) L):
  eU (w.setCell (aA bq oq) (sS g n cap)) base bq oq (sS g n cap) (L.take n)/\
  QFr bq oq (sS g (n+1) cap) (sS g n cap) w (w.setCell (aA bq oq) (sS g n cap)):=by
 have c:g≠bq:=λe=>h.apart (by rw[<-e];rfl)
 have⟨f,l⟩:=h.len;have a:(L.take n).length=n:=by simp;omega
 have b:w.ownsRow base 3 1 (sS g n cap) n ((L.take n).map iv):=by
  refine ownsRow_pop (last:=(L.drop n).map iv) (by simp;omega) ?_;have:=h.own;rw[<-f]at this;rw[<-mf,List.take_append_drop];exact this
 refine⟨⟨kM _ _ _ h.hd,by rw[kS];exact h.hf,?_,λe=>c (by simpa[Value.ownBlock]using e)⟩,⟨rfl,rfl,rfl,by simp[World.setCell],λk _ i _=>kP _ _ _ _ (i:k≠bq),λo j=>uC _ (.inr (λe=>j e.symm)),λo=>by rw[kS],.inl rfl⟩⟩;rw[a];refine uN b (λk d=>kP _ _ _ _ ?_);simp[Value.ownBlock]at d;show k≠bq;omega
theorem b1s(w:World)(base b c:Nat)(v:Value)(L:List Int)(h:eU w base b c v L)(x:0<L.length)(N:Ho L)(S:L.length<=1000000000):
  Calls prog 176 #[pQ b c] w λe w'=>e=.returned (.tuple #[iv (it L 0),.bool true])/\∃v' L',eU w' base b c v' L'/\Ho L'/\(it L 0::L').Perm L/\QFr b c v v' w w':=by
 obtain⟨g,a,rfl,P⟩:=h.form x;have⟨n,i⟩:∃n,L.length=n+1:=⟨L.length-1,by omega⟩;rw[i]at h ⊢;have B:=h.len.2;have D:=h.hd;have⟨o,f⟩:∃z,it L 0=z:=⟨_,rfl⟩;have A:=h.cell 0 x;rw[f]at A ⊢;have p:n<=1000000000:=by omega
 have r:b8y L=(swp L 0 n).take n:=by unfold b8y;rw[i];simp
 have R:=i0N n;have Q:(n:Int)<=(a:Int):=by omega
 go_in;go_wp21;refine(a2s _ b c g 0 (n+1) a o (by omega) D A).mono ?_;rintro e J ⟨rfl,rfl⟩;go_wp21;refine(c1b _ base b c g (n+1) a 0 n 0 (n:Int) L rfl rfl h (by omega) (by omega)).mono ?_;rintro e O ⟨rfl,d,F⟩;have M:=d.hd;have G:=d.hf;go_wp21;have m:=d.cut;rw[<-r]at m;refine(sink_ls _ base b c g n a (b8y L) m.1 (a6g.V N) p).mono ?_;rintro e y ⟨rfl,j,q,s,H,C⟩;have t:=uU (show eU y base b c (sS g n a) j/\Ho j/\(o::j).Perm L/\QFr b c (sS g (n+1) a) (sS g n a) J y from
  ⟨q,s,by have:=(c8c L x);rw[f]at this;exact(H.cons o).trans this,(F.trans m.2).trans C⟩)
 go_wp2;go_ret2;exact⟨rfl,_,j,t⟩
theorem b4q(w:World)(base i j:Nat)(v:Value)(L:List Int)(h:eU w base i j v L)(Z:Ho L)(hm:L.length<=1000000000):
  Calls prog 125 #[pQ i j] w λe w'=>∃r:Bool,Hid (e=.returned (.bool r))/\(r=true↔L.Nodup)/\∃v',QFr i j v v' w w':=by
 have s:=uU Z;go_in;go_wp21;go_loopg [3] (L.length+1) (λX T wr=>∃(d:Bool)(q:Value)(M:List Int),T=.bool d/\M.length+1<=X/\M.length<=L.length/\eU wr base i j q M/\Ho M/\Hid ((d=true/\M.Nodup)↔L.Nodup)/\QFr i j v q w wr)
 case atStart=>exact⟨true,v,L,rfl,hT _,hT _,h,s,by show _↔_;simp,QFr.refl _ _ _ _⟩
 case round=>
  obtain⟨d,q,M,rfl,P,V,A,R,k,Q⟩:=hrel;have s:=uU R;by_cases N:M.length=0
  ·have E:d=true↔L.Nodup:=by
    have:=uH k;rw[nY.1 N]at this;simpa using this
   go_wp21;refine(c8j _ base i j q M A N).mono ?_;rintro e Y ⟨rfl,rfl⟩;go_wp2;go_ret;exact⟨d,rfl,E,q,Q⟩
  go_wp21;refine(b1s _ base i j q M A (by omega) s (by omega)).mono ?_;rintro e Y ⟨rfl,v2,b,c,x,H,U⟩;have K:b.length+1=M.length:=by have:=H.length_eq;simpa using this
  have D:=Q.trans U;by_cases J:b.length=0
  ·obtain⟨ad,a,rfl⟩:=c.empty J;have l:=c.hd;have S:(d=true/\b.Nodup)↔L.Nodup:=by
    have n:=uH k;rw[b4d (uH H) (uH s) rfl (uH x) (.inl (nY.1 J))]at n;exact n
   go_wp21;refine(a5h _ i j ad a l).mono ?_;rintro e G ⟨rfl,rfl⟩;go_wp21;go_roundg (b.length+1)
   case rel=>exact⟨d,_,b,rfl,hT _,by omega,c,x,S,D⟩
   case measure=>omega
  obtain⟨O,a,rfl,W⟩:=c.form (by omega);have l:=c.hd;have⟨y0,o⟩:∃z,it b 0=z:=⟨_,rfl⟩;have⟨y,m⟩:∃z,it M 0=z:=⟨_,rfl⟩;have F:=c.cell 0 (by omega);rw[o]at F;rw[m];cases t:(y0 == y)
  ·have S:(d=true/\b.Nodup)↔L.Nodup:=by
    have n:=uH k;have B:¬y0=y:=by simpa using t
    rw[b4d (uH H) (uH s) rfl (uH x) (.inr (by rw[o,m];exact B))]at n;exact n
   go_wp21;refine(a2s _ i j O 0 b.length a y0 (by omega) l F).mono ?_;rintro e G ⟨rfl,rfl⟩;go_wp21;go_roundg (b.length+1)
   case rel=>exact⟨d,_,b,rfl,hT _,by omega,c,x,S,D⟩
   case measure=>omega
  have S:(false=true/\b.Nodup)↔L.Nodup:=by
   have B:y0=y:=by simpa using t
   have:=c0n H (by omega) (by rw[o,m];exact B);constructor;intro f;simp at f;intro f;exact(this (k.2 f).2).elim
  go_wp21;refine(a2s _ i j O 0 b.length a y0 (by omega) l F).mono ?_;rintro e G ⟨rfl,rfl⟩;go_wp21;go_roundg (b.length+1)
  case rel=>exact⟨false,_,b,rfl,hT _,by omega,c,x,S,D⟩
  case measure=>omega
theorem c6y(h:x.E=0\/x.E=4):(((x.I == 0) && (x.sub == 0))=true↔R6 x):=by grind[R6]
theorem R6_1(h:x.E=1\/x.E=3\/x.E=6):((x.sub == 0)=true↔R6 x):=by grind[R6]
theorem c0x(x:Hp)(b:Nat)(w:World){ar:Option Addr}{kr:Nat}{ac:Option Addr}{kc:Nat}{ag:Option Addr}{kg:Nat}(h:HAt w b x ar kr ac kc ag kg)(r1:R1 x)(Z:R5 x):
  Calls prog 30 #[pP b] w λe w'=>∃r:Bool,e=.returned (.bool r)/\(r=true↔R6 x)/\Ext w w':=by
 have c4:=h.c4;have c5:=h.c5;have D:=h.c6;have c7:=h.c7;have c8:=h.c8;have lg:=h.lg;obtain⟨X,K⟩:=r1.E;obtain⟨A,L⟩:=r1.I;have d:x.E=0\/x.E=1\/x.E=2\/x.E=3\/x.E=4\/x.E=5\/x.E=6:=by omega
 obtain a|a|a|a|a|a|a:=d
 ·have Y:=uU (c6y (x:=x) (kT a));cases q:(x.I == 0);all_goals
   go_in;go_wp2;go_ret;exact⟨_,rfl,by have:=uH Y;rw[q]at this;simpa using this,hO _⟩
 ·have Y:=uU (R6_1 (x:=x) (kT a));go_in;go_wp2;go_ret;exact⟨_,rfl,Y,hO _⟩
 ·cases q:(x.I == 0)
  ·have Y:=uU (show ¬R6 x from λr=>by have:=(r.2.1 a).1;simp at q;omega);have R:(x.I != 0)=true:=by simpa using q
   go_in;go_wp2;go_ret;exact⟨false,rfl,fNo Y,hO _⟩
  have R:(x.I != 0)=false:=by simpa using q
  by_cases B:x.D.length=0
  ·have Y:=uU (show(x.sub == 0)=true↔R6 x by
    have l:x.I=0:=by simpa using q
    unfold R6;simp[a,B,l])
   go_in;go_wp2;go_ret;exact⟨_,rfl,Y,hO _⟩
  have g:0<x.D.length:=by omega
  have p:=Z.2.2 x.D[0] (ki g);obtain⟨i,j⟩:=k9 p.1;have Q:x.g0=i:=by simp[Hp.g0,g,j]
  have Y:=uU (show decide (x.sub<=((x.c i).F.length:Int))=true↔R6 x by
   have l:x.I=0:=by simpa using q
   have z:x.D≠[]:=λe=>by simp[e]at B
   unfold R6;rw[Q];simp[a,z,l])
  obtain⟨bg,og,rfl,m⟩:=h.G 0 g;unfold a8k at m;rw[j]at m;simp only[Nat.zero_mul,Nat.add_zero]at m;obtain⟨W,o,F,N,rfl,U,E,H,O,S,I,M,T,J,P⟩:=h.cell i (by omega);have V:((x.D.length:Int) == 0)=false:=beq_eq_false_iff_ne.2 (by omega);have t:=i0N i;have s:(i:Int)<(x.A.length:Int):=by omega
  go_in;go_wp21;go_quiet (fail);go_wp2;go_ret;exact⟨_,rfl,Y,(hO _).drewN _⟩
 ·have Y:=uU (R6_1 (x:=x) (ko (kT a)));go_in;go_wp2;go_ret;exact⟨_,rfl,Y,hO _⟩
 ·have Y:=uU (c6y (x:=x) (ko a));cases q:(x.I == 0);all_goals
   go_in;go_wp2;go_ret;exact⟨_,rfl,by have:=uH Y;rw[q]at this;simpa using this,hO _⟩
 ·obtain⟨i,j⟩:=k9 A;cases q:(x.I == (x.A.length:Int))
  ·have u:i<x.A.length:=by simp at q;omega
   have l:((i:Int) == (x.A.length:Int))=false:=by simp;omega
   have y:=uU (λn=>a8y x b i (w.drewN n) (h.ext ((hO w).drewN n)) (by omega) (by omega));rw[mC]at y;obtain⟨W,o,F,N,rfl,U,E,H,O,S,I,M,T,J,P⟩:=h.cell i u;rw[j]at D;have t:=i0N i;have s:(i:Int)<(x.A.length:Int):=by omega
   cases C:a6m x i
   ·have Y:=uU (show(x.sub == 0)=true↔R6 x by
     have k:¬(x.c i).st=1:=by simpa[a6m]using C
     unfold R6;simp[a,j,k])
    go_in;go_wp21;go_quiet ((go_at_call 66;exact Calls.quiet_of_same (y _)));go_wp2;go_ret;exact⟨_,rfl,Y,(hO _).drewN _⟩
   have Y:=uU (show decide (x.sub<=((x.c i).F.length:Int))=true↔R6 x by
    have k:(x.c i).st=1:=by simpa[a6m]using C
    have v:¬(i:Int)=(x.A.length:Int):=by omega
    unfold R6;simp[a,j,k,v])
   go_in;go_wp21;go_quiet ((go_at_call 66;exact Calls.quiet_of_same (y _)));go_wp21;go_quiet (fail);go_wp2;go_ret;exact⟨_,rfl,Y,((hO _).drewN _).drewN _⟩
  have Y:=uU (show(x.sub == 0)=true↔R6 x by
    have k:x.I=x.A.length:=by simpa using q
    unfold R6;simp[a,k])
  have v:x.I=x.A.length:=by simpa using q
  rw[v]at D;go_in;go_wp21;go_quiet (fail);go_wp2;go_ret;exact⟨_,rfl,Y,(hO _).drewN _⟩
 have Y:=uU (R6_1 (x:=x) (ko (ko a)));go_in;go_wp2;go_ret;exact⟨_,rfl,Y,hO _⟩
theorem a6a{op a b c:Int}(h:qV op a b c n=true):(1<=op/\op<=24)/\(0<=a/\a<=a7f op)/\(0<=b/\b<=kE op)/\(0<=c/\c<=kW op):=by grind[qV,a7f,kE,kW]
theorem b7i(n:Int)(w:World):
  Calls prog 86 #[iv n,.nilIface] w λe w'=>e=.returned (tQ 0 n)/\Ext w w':=by
 go_in;go_wp21;refine(as_none _ _).mono ?_;rintro e a ⟨rfl,rfl⟩;go_wp21;refine bodyPost_ret (v:=tQ 0 n) (by simp[results,results86,go_sem]) rfl ⟨rfl,?_⟩;repeat (first|exact hO _|refine mD ?_ _|refine mQ ?_ (by first|exact hT _|(show w.heap.size<=w.heap.size+1;omega)) _)
theorem c4h(n c:Int)(w:World)(p:w.cell? (aA 0 0)=some (rty 123)):
  Calls prog 86 #[iv n,.iface 156 (.agg #[iv c])] w λe w'=>e=.returned (tQ c 0)/\Ext w w':=by
 have g:Ext w ((w.alloc (.cells #[iv 0,iv 0] 35)).alloc (.cells #[iv 0] 156)):=(eAl w _).alloc _;have d:((w.alloc (.cells #[iv 0,iv 0] 35)).alloc (.cells #[iv 0] 156)).cell? (aA w.heap.size 0)=some (iv 0):=by simp[go_sem]
 have h:((w.alloc (.cells #[iv 0,iv 0] 35)).alloc (.cells #[iv 0] 156)).cell? (aA w.heap.size 1)=some (iv 0):=by simp[go_sem]
 have f:∀o,((w.alloc (.cells #[iv 0,iv 0] 35)).alloc (.cells #[iv 0] 156)).frozen? (aA w.heap.size o)=false:=λo=>by simp[go_sem]
 go_in;go_wp21;refine(as_hit c (w.heap.size+1) (iv 0) ((w.alloc (.cells #[iv 0,iv 0] 35)).alloc (.cells #[iv 0] 156)) (g.keep p) (by simp[go_sem]) (by simp[go_sem])).mono ?_;rintro e l ⟨rfl,s,a⟩;have m:=a.keep (b:=w.heap.size) (by omega) d;have j:=a.keep (b:=w.heap.size) (by omega) h;have r:=(a.frozen (b:=w.heap.size) (o:=0) (uZ d) (by omega)).trans (f 0);have t:=(a.frozen (b:=w.heap.size) (o:=1) (uZ d) (by omega)).trans (f 1);have k:Ext w l:=a.ext g (λq u e=>by omega);go_wp21;refine bodyPost_ret (v:=tQ c 0) (by simp[results,results86,go_sem,m,j]) rfl ⟨rfl,?_⟩;repeat (first|exact k|refine mQ ?_ (hT _) _)
end Go.Proofs.YtolmnenlnpbcfaaGreatDoor
