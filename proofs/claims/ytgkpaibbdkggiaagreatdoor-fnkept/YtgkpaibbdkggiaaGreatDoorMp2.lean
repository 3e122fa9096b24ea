import Derived.Test.YtgkpaibbdkggiaaGreatDoorL2c
import Derived.Deep.DeepCutAuto
import Derived.Lib.AppendZerosOnto
import Derived.Lib.Walk
set_option maxRecDepth 100000
set_option maxHeartbeats 4000000
namespace Go.Proofs.YtgkpaibbdkggiaaGreatDoor
open Go.RowKit Tryz
attribute [local go_sem ↓] Go.wp_at_zero Go.wp_at_succ
variable{P:Program}{w w':World}{bn r on kr kc kg:Nat}{Q:List Nat}{x:Hp}{mt t e et:TypeId}{ar ac ag:Option Addr}
structure uL where
 z:Nat->Option Obj
abbrev qr:=Inhabited uL
def Prt[qr](w:World)(role:Nat->Nat):Prop:=∀q o,(default:uL).z q=some o->role q=1/\w.heap[q]?=some o
theorem Prt.of[qr]{role role':Nat->Nat}(h:Prt w role)(e:∀q,q<w.heap.size->role q=1->w'.heap[q]?=w.heap[q]?)(r:∀q,q<w.heap.size->role q=1->role' q=1):Prt w' role':=by grind[Prt,Ext.trans,uZ.trans]
theorem Hp.c_set(x:Hp)(i:Nat)(c:Cl)(a:i<x.A.length)(q:Nat):({ x with A:=x.A.set i c }:Hp).c q=if q=i then c else x.c q:=by grind[Hp.c,uZ.A,yQ.set]
def mkB(x:Hp):Bool:=x.E == 1 || x.E == 2
def whB(c:Cl):Bool:=c.st == 1 && c.J == 0
def eE(x:Hp)(i:Nat):Bool:=mkB x && whB (x.c i)
def yV(c:Cl):Cl:={ c with J:=1 }
def uK(x:Hp)(i:Nat):Hp:=if eE x i=true then { x with A:=x.A.set i (yV (x.c i)),D:=x.D++[(i:Int)] } else x
theorem qU.all(h:qU x 0):R1 x/\R2 x/\R3 x/\R4 x:=by grind[qU,R2,R3,R4]
theorem qU.n8(h:qU x 0):x.A.length<=8000:=by have:=h.all.1.M;have:=h.all.1.A;omega
theorem qU.p200(h:qU x 0)(i:Nat)(a:i<x.A.length):(x.c i).F.length<=200:=by
 obtain c|c|c:=h.all.2.1.1 i a;have:=c.2.1.2.2.2.2.2;omega;have:=c.2.1.2.2.2.2.2;omega;exact c.2.2.2.2.2.2.2
def b4b(c d:Cl):Prop:=c.st=d.st/\c.born=d.born/\c.to=d.to
theorem c0c(x:Hp)(b:Nat)(w:World)(h:HAt w b x ar kr ac kc ag kg):
  Calls prog 115 #[pP b] w λe w'=>∃r:Bool,e=.returned (.bool r)/\(r=true↔b7b x)/\Ext w w':=by
 have c4:=h.c4;have lc:=h.lc;go_in;go_wp21;go_loopw [12] (λi wr=>∃k:Nat,k<=x.A.length/\i=iv k/\(∀j,j<k->(x.c j).st≠0->∀l,l<j->¬b4b (x.c l) (x.c j))/\Ext w wr) (λi _=>x.A.length-(intOf i).toNat)
 case atStart=>exact⟨0,kB _,rfl,λj h=>by omega,hO _⟩
 case round=>
  obtain⟨k,hk,rfl,g,p⟩:=hrel;have HA:=uU g;by_cases s:k<x.A.length
  ·obtain⟨b',o,I,H,rfl,p0,p1,p2,p3,p4,p5,p6,p7,lp,P⟩:=(h.ext p).cell k s;have af:=cLt p0;have ad:=i0N k;have O:(k:Int)<(x.A.length:Int):=by omega
   have m:=p.alloc (oCl (x.c k) (.slice I (x.c k).F.length H));have t:((x.c k).st≠0->∀l,l<k->¬b4b (x.c l) (x.c k))->Hid (∀j,j<k+1->(x.c j).st≠0->∀l,l<j->¬b4b (x.c l) (x.c j)):=λA j C=>by
    by_cases e:j=k;subst e;exact A;exact HA j (by omega)
   have J:=uU t;cases K:((x.c k).st == 0)
   ·have E:(x.c k).st≠0:=by simpa using K
    have V:=uU E;go_wp21;obtain⟨u,F⟩:∃W:World,W=wr:=⟨_,rfl⟩;subst F;go_loopw [5] (λi q=>∃l:Nat,l<=k/\i=iv l/\(∀j,j<l->¬b4b (x.c j) (x.c k))/\Ext w q/\Ext (u.alloc (oCl (x.c k) (.slice I (x.c k).F.length H))) q) (λi _=>k-(intOf i).toNat)
    case atStart=>exact⟨0,kB _,rfl,λj h=>by omega,m,hO _⟩
    case round=>
     obtain⟨l,L,rfl,g,a,d⟩:=hrel;have y:=uU g;have Z:=d.keep (b:=u.heap.size) (o:=0) (v:=iv (x.c k).st) (by simp[go_sem]);have f4:=d.keep (b:=u.heap.size) (o:=4) (v:=iv (x.c k).born) (by simp[go_sem]);have f6:=d.keep (b:=u.heap.size) (o:=6) (v:=iv (x.c k).to) (by simp[go_sem]);have zz:=cLt Z;by_cases D:l<k
     ·obtain⟨b2,o2,Q,ab,e2,q0,q1,q2,q3,q4,q5,q6,q7,M,P2⟩:=(h.ext a).cell l (by omega);cases e2;have d4:=(h.ext a).c4;have U:=i0N l;have ae:(l:Int)<(x.A.length:Int):=by omega
      have X:(l:Int)<(k:Int):=by omega
      cases z:((x.c l).st == (x.c k).st)
      ·have S:=uU (show ∀j,j<l+1->¬b4b (x.c j) (x.c k) from λj C=>by
        by_cases e:j=l;subst e;intro n;have:=n.1;simp at z;exact z this;exact y j (by omega))
       go_wp2;go_roundw
       case rel=>exact⟨l+1,by omega,by go_num,S,a.alloc _,d.alloc _⟩
       simp[intOf];omega
      cases G:((x.c l).born == (x.c k).born)
      ·have S:=uU (show ∀j,j<l+1->¬b4b (x.c j) (x.c k) from λj C=>by
        by_cases e:j=l;subst e;intro n;have:=n.2.1;simp at G;exact G this;exact y j (by omega))
       go_wp2;go_roundw
       case rel=>exact⟨l+1,by omega,by go_num,S,a.alloc _,d.alloc _⟩
       simp[intOf];omega
      cases B:((x.c l).to == (x.c k).to)
      ·have S:=uU (show ∀j,j<l+1->¬b4b (x.c j) (x.c k) from λj C=>by
        by_cases e:j=l;subst e;intro n;have:=n.2.2;simp at B;exact B this;exact y j (by omega))
       go_wp2;go_roundw
       case rel=>exact⟨l+1,by omega,by go_num,S,a.alloc _,d.alloc _⟩
       simp[intOf];omega
      have N:=uU (show ¬b7b x from λr=>r k s V l D ⟨by simpa using z,by simpa using G,by simpa using B⟩);go_wp2;go_ret;exact⟨false,rfl,fNo N,a.alloc _⟩
     have S:=uH J (λ_ T aa=>uH y T (by omega));go_wp2;go_roundw
     case rel=>exact⟨k+1,by omega,by go_num,S,a⟩
     simp[intOf];omega
   have S:=uH J (λA=>absurd (by simpa using K) A);go_wp2;go_roundw
   case rel=>exact⟨k+1,by omega,by go_num,S,m⟩
   simp[intOf];omega
  have Y:=uU (show b7b x from λi hi n l L R=>uH HA i (by omega) n l L R);go_wp2;go_ret;exact⟨true,rfl,⟨λ_=>uH Y,λ_=>rfl⟩,p⟩
theorem c4b(g:List Int)(k l:Nat)(h:l<g.length):(g.take (l+1)).count (k:Int)=(g.take l).count (k:Int)+if (g[l] == (k:Int))=true then 1 else 0:=by
 rw[kx h,List.count_append,List.count_singleton]
theorem b8p(x:Hp)(b:Nat)(w:World)(h:HAt w b x ar kr ac kc ag kg):
  Calls prog 62 #[.pointer (some ⟨b,0,none⟩)] w λe w'=>∃r:Bool,e=.returned (.bool r)/\(r=true↔R5 x)/\Ext w w':=by
 have c4:=h.c4;have c5:=h.c5;have c8:=h.c8;have lc:=h.lc;have lg:=h.lg;go_enter func62,ntmps62;go_upto_region 1 with fail;go_cut [3] from 11 to 22 (λv W=>∃u:Bool,v=.bool u/\Hid (u=true↔uD x)/\w=W)
 case first=>cases p:(x.E == 1) <;> cases q:(x.E == 2) <;> (go_wp21;go_meet;exact⟨_,rfl,by show _↔_;simp at p q;simp[uD,p,q],rfl⟩)
 case rest=>
 obtain⟨m,rfl,MK,rfl⟩:=hcut;go_upto_region 2 with fail;go_cut [32] from 23 to 31 (λv W=>∃u:Bool,v=.bool u/\Hid (u=false↔(¬uD x->x.D.length=0))/\w=W)
 case first=>cases m <;> by_cases q:(x.D.length:Int) > 0 <;> (go_wp21;go_meet;exact⟨_,rfl,by show _↔_;rw[<-uH MK];simp <;> omega,rfl⟩)
 case rest=>
 obtain⟨u,rfl,G0,rfl⟩:=hcut;cases u;rotate_left
 ·have N:=uU (show ¬R5 x from λr=>by cases G0.2 r.1);go_wp2;go_ret;first|exact .inl ⟨rfl,N,hO _⟩|exact⟨false,rfl,fNo N,hO _⟩
 go_wp21;go_loopw [38] (λi wr=>∃k:Nat,k<=x.A.length/\i=.int .i64 k/\Hid (∀j,j<k->a0n x j)/\Ext w wr) (λi _=>x.A.length-(intOf i).toNat)
 case atStart=>exact⟨0,kB _,rfl,λj h=>by omega,hO _⟩
 case round=>
 obtain⟨k,hk,rfl,HA,A⟩:=hrel;by_cases t:k<x.A.length
 ·obtain⟨b',o,F,C,rfl,p0,p1,p2,p3,p4,p5,p6,p7,lp,P⟩:=(h.ext A).cell k t;have e8:=(h.ext A).c8;have al:=cLt p0;have D:=cLt e8;have aj:=i0N k;have ae:(k:Int)<(x.A.length:Int):=by omega
  obtain⟨V,hV⟩:=obE (wr.alloc (oCl (x.c k) (.slice F (x.c k).F.length C)));have L:=uU (show Ext wr V by rw[hV];exact(hO wr).alloc _);have v5:V.cell? ⟨wr.heap.size,5,none⟩=some (.int .i64 (x.c k).J):=by rw[hV];simp[go_sem]
  have HV:=uU hV;have ST:=uU (show a0n x k->Hid (∀j,j<k+1->a0n x j) from λn j hj=>by
   by_cases e:j=k;subst e;exact n;exact HA j (by omega))
  clear P;go_wp21;rw[<-hV];clear hV p0 p1 p2 p3 p4 p5 p6 p7;go_loopw [6,48] (λnv i z=>∃l n:Nat,l<=x.D.length/\i=.int .i64 l/\nv=.int .i64 n/\n<=l/\Hid (n=(x.D.take l).count (k:Int))/\Ext V z) (λ_ i _=>x.D.length-(intOf i).toNat)
  case atStart=>exact⟨0,0,kB _,rfl,rfl,by omega,by show _=_;simp,hO _⟩
  case round=>
  obtain⟨l,n,hl,rfl,rfl,hn,p,B⟩:=hrel;have a:=uU (A.trans (L.trans B));by_cases s:l<x.D.length
  ·obtain⟨bg,og,rfl,F⟩:=(h.ext a).G l s;unfold a8e at F;simp only[Nat.mul_one]at F;have K:=i0N l;have Y:(l:Int)<(x.D.length:Int):=by omega
   have I:=uU (c4b x.D k l s);cases q:(x.D[l] == (k:Int))
   ·go_wp2;go_roundw
    case rel=>exact⟨l+1,n,by omega,by go_num,rfl,by omega,by show _=_;rw[uH I,q];simpa using uH p,B⟩
    simp[intOf];omega
   go_wp2;go_roundw
   case rel=>exact⟨l+1,n+1,by omega,by go_num,by go_num,by omega,by show _=_;rw[uH I,q,<-uH p];simp,B⟩
   simp[intOf];omega
  have J:=uU (show n=cnt x.D k by have:=uH p;rw[nx (by omega)]at this;exact this);have f5:=B.keep v5;have d5:=(h.ext a).c5;have d6:=(h.ext a).c6;obtain⟨U,hU⟩:=obE wr;subst hU;go_upto_region 14 with fail;go_cut [73] from 58 to 72 (λv W=>∃u:Bool,v=.bool u/\Hid (u=false↔((x.c k).J=1->cnt x.D k=1)/\((x.c k).J≠1->cnt x.D k=0))/\U=W)
  case first=>
   cases M:((x.c k).J == 1)
   all_goals
    have O:((x.c k).J != 1)=_:=congrArg not M;cases T:((n:Int) != 1) <;> by_cases Z:(n:Int) > 0 <;> (go_wp21;go_meet;exact⟨_,rfl,by show _↔_;rw[<-uH J];simp at M T;simp[M] <;> omega,rfl⟩)
  case rest=>
  obtain⟨u,rfl,X,rfl⟩:=hcut;cases u;rotate_left
  ·have N:=uU (show ¬R5 x from λr=>by have c:=r.2.1 k t;cases X.2 ⟨c.1,c.2.1⟩);go_wp2;go_ret;exact⟨false,rfl,fNo N,a⟩
  go_upto_region 16 with fail
  go_cut [95] from 74 to 94 (λv W=>∃u:Bool,v=.bool u/\Hid (u=false↔((x.c k).J=2->uD x\/(x.E=3/\x.I<=k)))/\U=W)
  case first=>
   cases M:((x.c k).J == 2) <;> cases m <;> cases T:(x.E != 3) <;> by_cases Z:(k:Int)<x.I <;> (go_wp21;go_meet;exact⟨_,rfl,by show _↔_;rw[<-uH MK];simp at M T;simp[M,T] <;> omega,rfl⟩)
  case rest=>
  obtain⟨u,rfl,Y,rfl⟩:=hcut;cases u
  ·have S:=uU (ST (have c:=X.1 rfl;⟨c.1,c.2,Y.1 rfl⟩));go_wp2;go_roundw
   case rel=>exact⟨k+1,by omega,by go_num,S,a⟩
   simp[intOf];omega
  have N:=uU (show ¬R5 x from λr=>by cases Y.2 (r.2.1 k t).2.2);go_wp2;go_ret;first|exact .inl ⟨rfl,N,a⟩|exact⟨false,rfl,fNo N,a⟩
 have A1:=uU (show ∀j,j<x.A.length->a0n x j from λj hj=>uH HA j (by omega));have e8:=(h.ext A).c8;go_wp21;go_loopw [102] (λi z=>∃l:Nat,l<=x.D.length/\i=.int .i64 l/\Hid (∀j (hj:j<x.D.length),j<l->0<=x.D[j]/\x.D[j]<x.A.length)/\Ext w z) (λi _=>x.D.length-(intOf i).toNat)
 case atStart=>exact⟨0,kB _,rfl,λj A h=>by omega,A⟩
 case round=>
 obtain⟨l,hl,rfl,HB,a⟩:=hrel;by_cases s:l<x.D.length
 ·obtain⟨bg,og,rfl,F⟩:=(h.ext a).G l s;unfold a8e at F;simp only[Nat.mul_one]at F;have d4:=(h.ext a).c4;have K:=i0N l;have Y:(l:Int)<(x.D.length:Int):=by omega
  by_cases M:0<=x.D[l]/\x.D[l]<x.A.length
  ·have M1:¬x.D[l]<0:=by omega
   have M2:¬x.D[l]≥(x.A.length:Int):=by omega
   have S:=uU (show ∀j (hj:j<x.D.length),j<l+1->0<=x.D[j]/\x.D[j]<x.A.length from λj hj ab=>by
    by_cases e:j=l;subst e;exact M;exact HB j hj (by omega))
   go_wp2;go_roundw
   case rel=>exact⟨l+1,by omega,by go_num,S,a⟩
   simp[intOf];omega
  have N:=uU (show ¬R5 x from λr=>M (r.2.2 x.D[l] (k7 s)));by_cases M1:x.D[l]<0;rotate_left;have M2:x.D[l]≥(x.A.length:Int):=by omega
  all_goals
   go_wp2;go_ret;first|exact .inl ⟨rfl,N,a⟩|exact⟨false,rfl,fNo N,a⟩
 have Y:=uU (show R5 x from⟨G0.1 (by simp),A1,λg hg=>by
  obtain⟨j,A,rfl⟩:=mQ hg;exact HB j A (by omega)⟩)
 go_wp2;go_ret;exact⟨true,rfl,⟨λ_=>uH Y,λ_=>rfl⟩,a⟩
def tU(p:Nat->Bool)(f:Nat->Int)(k:Nat):List Int:=((List.range k).filter p).map f
theorem a3t(p:Nat->Bool)(f:Nat->Int)(k:Nat)(h:p k=true):tU p f (k+1)=tU p f k++[f k]:=by
 simp[tU,List.range_succ,List.filter_append,h]
theorem a2p(p:Nat->Bool)(f:Nat->Int)(k:Nat)(h:p k=false):tU p f (k+1)=tU p f k:=by
 simp[tU,List.range_succ,List.filter_append,h]
theorem a1j(p:Nat->Bool)(f:Nat->Int)(k:Nat)(z:Int):z∈tU p f k↔∃i,i<k/\p i=true/\f i=z:=by
 simp[tU,and_assoc]
theorem a2q(p:Nat->Bool)(f:Nat->Int)(k:Nat):(tU p f k).length<=k:=by grind[Cl.p,tU]
theorem a5j(p:Nat->Bool)(f:Nat->Int)(k:Nat):(tU p f k).Nodup↔∀i j,i<j->j<k->p i=true->p j=true->f i≠f j:=by
 unfold tU List.Nodup;rw[qG,List.pairwise_filter,List.pairwise_iff_getElem];constructor;grind[Cl.p,tU];grind[Cl.p,tU]
def a6s(i:Nat):Int:=(i:Int)
theorem a9u(p:Nat->Bool)(k:Nat):(tU p a6s k).Nodup:=by grind[Cl.p,tU,a6s,a5j]
def a5k(x:Hp)(s:Int)(i:Nat):Bool:=(x.c i).st == s
def c4d(x:Hp)(i:Nat):Int:=(x.c i).born
def toOf(x:Hp)(i:Nat):Int:=(x.c i).to
def a6t(x:Hp)(k:Nat):List Int:=tU (a5k x 1) (c4d x) k
def a4h(x:Hp)(k:Nat):List Int:=tU (a5k x 2) (toOf x) k
def a6u(x:Hp)(k:Nat):List Int:=tU (a5k x 0) a6s k
theorem c7m(x:Hp)(h:∀i,i<x.A.length->cQ x i):b7b x↔(a6t x x.A.length).Nodup/\(a4h x x.A.length).Nodup:=by
 unfold a6t a4h;rw[a5j,a5j];constructor;grind[a5k,c4d,cQ,a2m,toOf,qD,a5d,b7b,a6t,a4h];intro⟨hb,ht⟩ i hi hs k hk ⟨e1,e2,e3⟩;have a:=h i hi;unfold cQ at a;obtain a|a|a:=a
 ·exact hs a.1
 exact ht k i hk hi (by simp[a5k];omega) (by simp[a5k];omega) e3;exact hb k i hk hi (by simp[a5k];omega) (by simp[a5k];omega) e2
theorem c0k{A B:List Int}(c:A.Nodup)(h:∀z,z∈A->z∈B)(g:B.length<=A.length):A.Perm B:=by
 induction A generalizing B with
 | nil=>cases B with
  | nil=>exact nE _
  | cons _ _=>simp at g
 | cons a A ih=>
  rw[List.nodup_cons]at c;have d:a∈B:=h a mP;have b:(B.erase a).length=B.length-1:=qk d;exact((ih (B:=B.erase a) c.2 (λz f=>by
   have:z≠a:=λe=>c.1 (e ▸ f)
   exact(List.mem_erase_of_ne this).2 (h z (mm _ f))) (by rw[b];simp at g;omega)).cons a).trans (List.perm_cons_erase d).symm
def a6v(x:Hp)(i:Nat):Bool:=(x.c i).J == 1
def a5z(x:Hp)(k:Nat):List Int:=tU (a6v x) a6s k
def a3u(x:Hp)(i:Nat):Prop:=uD x\/(x.E=3/\x.I<=i)
def R5b(x:Hp):Prop:=
 (∀i,i<x.A.length->(x.c i).J=2->a3u x i)/\(¬uD x->(a5z x x.A.length).length=0)/\x.D.length=(a5z x x.A.length).length/\
 (∀g,g∈x.D->(0<=g/\g<x.A.length)/\(x.c g.toNat).J=1)/\x.D.Nodup
theorem a8v(x:Hp):R5 x↔R5b x:=by
 constructor;intro⟨h1,h2,h3⟩;have o:∀g,g∈x.D->(0<=g/\g<x.A.length)/\(x.c g.toNat).J=1:=λg k=>by
  have a:=h3 g k;refine⟨a,?_⟩;by_cases e:(x.c g.toNat).J=1;exact e;have:=(h2 g.toNat (by omega)).2.1 e;unfold cnt at this;rw[qh a.1]at this;have:=nW.2 k;omega
 have j:x.D.Perm (a5z x x.A.length):=by
  rw[List.perm_iff_count];intro z;by_cases h:z∈x.D;have a:=o z h;have m:=(h2 z.toNat (by omega)).1 a.2;unfold cnt at m;rw[qh a.1.1]at m;rw[m];have d:z∈a5z x x.A.length:=(a1j _ _ _ _).2 ⟨z.toNat,by omega,by simp[a6v,a.2],by unfold a6s;omega⟩;have:=(a9u (a6v x) x.A.length);rw[List.nodup_iff_count]at this;have l:=this z;have f:=nW.2 d;unfold a5z at f ⊢;omega;rw[nV.2 h];symm;rw[nV];intro d;have⟨i,b,p,e⟩:=(a1j _ _ _ _).1 d;have:=(h2 i b).1 (by simpa[a6v]using p);have:=nW.1 (by unfold cnt at this;omega:0<List.count (i:Int) x.D);unfold a6s at e;rw[e]at this;exact h this
 refine⟨λi b q=>(h2 i b).2.2 q,λn=>j.length_eq▸h1 n,j.length_eq,o,?_⟩;rw[j.nodup_iff];exact a9u _ _;intro⟨h1,h2,h3,l,f⟩;have j:x.D.Perm (a5z x x.A.length):=c0k f (λz h=>by
  have a:=l z h;exact(a1j _ _ _ _).2 ⟨z.toNat,by omega,by simp[a6v,a.2],by unfold a6s;omega⟩) (by omega)
 refine⟨λn=>h3▸h2 n,λi b=>⟨λe=>?_,λe=>?_,λe=>h1 i b e⟩,λg k=>(l g k).1⟩;have d:(i:Int)∈x.D:=j.mem_iff.2 ((a1j _ _ _ _).2 ⟨i,b,by simp[a6v,e],rfl⟩);have s:=nW.2 d;rw[List.nodup_iff_count]at f;have:=f (i:Int);unfold cnt;omega;grind[cnt,R5,R5b]
def zL(x:Hp)(y:Wd):Wd:=if y.k=2/\(x.c y.a.toNat).st=2 then ⟨2,0,(x.c y.a.toNat).to⟩ else y
abbrev tD(c n:Int):Value:=.agg #[iv c,iv n]
theorem a1v(g:Nat):∀(vs:List Value)(o j:Nat)(w:World),(j<o\/o+vs.length<=j)->(w.setCells g o vs).cell? (aA g j)=w.cell? (aA g j)
 | [],_,_,_,_=>rfl
 | v::r,o,j,w,h=>by
  show((w.setCell (aA g o) v).setCells g (o+1) r).cell? (aA g j)=_;simp only[List.length_cons]at h;rw[a1v g r (o+1) j _ (by omega)];exact uC _ (.inr (by omega))
theorem a4p(g:Nat):∀(vs:List Value)(o k:Nat)(w:World),(∀m,m<vs.length->∃u,w.cell? (aA g (o+m))=some u)->k<vs.length->(w.setCells g o vs).cell? (aA g (o+k))=vs[k]?
 | [],_,_,_,_,hk=>by simp at hk
 | v::r,o,0,w,hm,_=>by
  show((w.setCell (aA g o) v).setCells g (o+1) r).cell? (aA g (o+0))=_;rw[a1v g r (o+1) (o+0) _ (by omega)];have⟨u,hu⟩:=hm 0 (by simp);exact kM _ _ _ hu
 | v::r,o,k+1,w,hm,hk=>by
  show((w.setCell (aA g o) v).setCells g (o+1) r).cell? (aA g (o+(k+1)))=_;have:=a4p g r (o+1) k (w.setCell (aA g o) v) (λm hm'=>by
   have⟨u,hu⟩:=hm (m+1) (by simp;omega);refine⟨u,?_⟩;rw[uC _ (.inr (by omega)),show o+1+m=o+(m+1) by omega];exact hu) (by simpa using hk)
  rw[show o+1+k=o+(k+1) by omega]at this;rw[this];rfl
theorem a9c(L:List Pr):(L.flatMap fP).length=L.length*6:=by
 induction L with
 | nil=>rfl
 | cons a l ih=>simp only[List.flatMap_cons,List.length_append,ih,List.length_cons];simp[fP];omega
theorem fP_at{w:World}{b:Nat}:∀{L:List Pr} {o:Nat},(∀k (hk:k<L.length),qY w b (o+k*6) L[k])->∀j u,(L.flatMap fP)[j]?=some u->w.cell? (aA b (o+j))=some u
 | [],_,_,j,u,hu=>by simp at hu
 | p::l,o,h,j,u,hu=>by
  rw[nI]at hu;by_cases hj:j<6;have h0:=h 0 (by simp);have⟨h0,h1,h2,h3,h4,h5⟩:=h0;simp only[Nat.zero_mul,Nat.add_zero,List.getElem_cons_zero]at h0 h1 h2 h3 h4 h5;rw[ms (by simp[fP];exact hj)]at hu;match j,hj with
  | 0,_=>simp[fP]at hu;rw[<-hu];exact h0
  | 1,_=>simp[fP]at hu;rw[<-hu];exact h1
  | 2,_=>simp[fP]at hu;rw[<-hu];exact h2
  | 3,_=>simp[fP]at hu;rw[<-hu];exact h3
  | 4,_=>simp[fP]at hu;rw[<-hu];exact h4
  | 5,_=>simp[fP]at hu;rw[<-hu];exact h5
  have hl:(fP p).length=6:=rfl;rw[nZ (by rw[hl];omega),hl]at hu;have:=fP_at (w:=w) (b:=b) (L:=l) (o:=o+6) (λk hk=>by
   have:=h (k+1) (by simp;omega);rw[show o+(k+1)*6=o+6+k*6 by omega]at this;simpa using this) (j-6) u hu
  rw[show o+6+(j-6)=o+j by omega]at this;exact this
theorem d3t{w:World}{p:Addr}{v:Value}(h:w.cell? p=some v):w.setCell p v=w:=by
 have a:(w.setCell p v).heap=w.heap:=by
  unfold World.cell? at h;unfold World.setCell;apply Array.ext_getElem?;intro i;rw[Array.getElem?_modify];by_cases e:p.block=i;subst e;rw[if_pos rfl];cases g:w.heap[p.block]? with
  | none=>rfl
  | some o=>
   rw[g]at h;cases o with
   | cells c t f=>
    simp only at h;by_cases b:p.spot.isSome=true;simp[b]at h;simp only[b]at h;simp only[Option.map_some,b];congr 1;have d:c.setIfInBounds p.off v=c:=by grind
    simp[d]
   | _=>simp at h
  rw[if_neg e]
 unfold World.setCell at a ⊢;simp only at a;rw[a]
theorem b7x:(prog.info? 107).map (λi=>(i.zero,i.size,i.bytes))=some (some (.agg #[iv 0,.pointer none]),2,16):=by kernel_rfl
theorem c9k(base:Option Addr)(l n:Nat)(w:World)(a:n=0):
  Calls prog 51 #[.slice base l l,iv n] w λe w'=>e=.returned (.slice base l l)/\w'=w:=by
 subst a;go_in;go_wp2;go_ret;exact⟨rfl,rfl⟩
def d3u(w:World)(l n:Nat)(cs:List Value)(e:Ending)(w':World):Prop:=∃k m,e=.returned (.slice (some ⟨w.heap.size,0,none⟩) l k)/\l+n<=k/\m.size=(k-l)*2/\w'=w.drew.alloc (.cells (cs.toArray++m) 107)
theorem d3v(b l n:Nat)(cs:List Value)(w:World)(A:l+n<=8000)(x:0<n)(m:cs.length=l*2)(k:∀j v,cs[j]?=some v->w.cell? (aA b j)=some v):
  Calls prog 51 #[sS b l l,iv n] w λe w'=>d3u w l n cs e w':=by
 have⟨s,p,r,o,f⟩:∃i,prog.info? 107=some i/\i.zero=some (.agg #[iv 0,.pointer none])/\i.size=2/\i.bytes=16:=by
  have:=b7x;cases h:prog.info? 107 with
  | none=>rw[h]at this;simp at this
  | some i=>rw[h]at this;simp at this;exact⟨i,rfl,this.1,this.2.1,this.2.2⟩
 have a:(Builtin.firstCells s.size l (sS b l l)).run prog w.drew=.ok cs.toArray w.drew:=run_firstCells_some w.drew s.size l (aA b 0) l l cs (by rw[m,o]) (λj v u=>by
  have:((aA b 0):Addr).add j=(aA b j):=by unfold Addr.add;split <;> simp_all
  rw[this];exact k j v u)
 have d:∀q,(Builtin.append_ #[92,3] q #[sS b l l,iv (n:Int)]).run prog w=.ok (sS w.heap.size (l+n) (grownCap w (l+n) l 107)) (w.drew.alloc (.cells (cs.toArray++Builtin.zeroCells (Value.agg #[iv 0,.pointer none]).cells n++Builtin.zeroCells (Value.agg #[iv 0,.pointer none]).cells (grownCap w (l+n) l 107-(l+n))) 107)):=λq=>
  Go.Lib.run_append_grow_zeros w 92 3 q 107 s _ .i64 .i64 underlying92 underlying3 p r (some (aA b 0)) l l cs a n x (by omega) (by omega) (by omega) (by rw[f];omega) (growslice_fits (by omega) (by rw[f];omega))
 have c:l+n<=grownCap w (l+n) l 107:=grownCap_ge w _ _ _;have⟨G,t⟩:=obE (grownCap w (l+n) l 107);rw[<-t]at d c;have y:¬((n:Int)<0):=by omega
 have z:wrap64 ((n:Int)-0)=n:=by unfold wrap64;omega
 clear a t k m;go_in;go_wp2_with (at_builtin;refine Go.Lib.wpList_append_run _ rfl _ _ _ _ rfl _ _ rfl rfl _ _ (d _) ?_);go_ret;exact⟨G,Builtin.zeroCells (Value.agg #[iv 0,.pointer none]).cells n++Builtin.zeroCells (Value.agg #[iv 0,.pointer none]).cells (G-(l+n)),rfl,c,by have:=uH c;simp only[Array.size_append,Go.size_zeroCells];show n*2+(G-(l+n))*2=_;omega,rfl⟩
abbrev ptr(bn p:Nat):Value:=.pointer (some ⟨bn,p,none⟩)
theorem a9k(w:World)(a p q:Nat):(sameAddr (aA a p) (aA a q)).run P w=.ok (p == q) w:=by
 have:(((aA a p):Addr) == (aA a q))=(p == q):=by grind
 simp[sameAddr,this]
theorem b3o(w:World)(d:Nat)(t e:TypeId)(i:TypeInfo)(c:P.underlying t=some (.pointer e))(b:P.info? e=some i)(f:i.size≠0)(a p q:Nat):
  (Op.equalIn (d+1) t (ptr a p) (ptr a q)).run P w=.ok (p == q) w:=by
 simp[Op.equalIn,run_underlying c,sizeOf,typeInfo,b,f,a9k]
theorem a2w(w:World)(t e:TypeId)(i:TypeInfo)(c:P.underlying t=some (.pointer e))(b:P.info? e=some i)(d:i.size≠0)(a p q:Nat):
  (Op.equal t (ptr a p) (ptr a q)).run P w=.ok (p == q) w:=b3o w 9999 t e i c b d a p q
def b3t(bn:Nat)(Q:List Nat)(l:List MapEntry):Prop:=l.map (·.key)=Q.map (ptr bn)/\∀e,e∈l->e.val=.agg #[]
theorem c2h{P:Program}(w:World)(t e:TypeId)(i:TypeInfo)(ht:P.underlying t=some (.pointer e))(hi:P.info? e=some i)(hs:i.size≠0)(bn p:Nat):
  ∀(l:List MapEntry)(Q:List Nat)(k:Nat),b3t bn Q l->∃r,(Instr.findAsking t (ptr bn p) l k).run P w=.ok r w/\((p∈Q/\∃j,r=some (j,.agg #[]))\/(¬p∈Q/\r=none))
 | [],Q,k,h=>by
  have:Q=[]:=by simpa using h.1.symm
  subst this;exact⟨none,by simp[Instr.findAsking],.inr ⟨by simp,rfl⟩⟩
 | x::l,Q,k,h=>by
  cases Q with
  | nil=>have:=h.1;simp at this
  | cons q Q=>
   have h1:=h.1;simp only[List.map_cons,List.cons.injEq]at h1;by_cases e:p=q;subst e;refine⟨some (k,.agg #[]),?_,.inl ⟨mP,k,rfl⟩⟩;simp[Instr.findAsking,h1.1,a2w w t _ i ht hi hs,h.2 x List.mem_cons_self];have⟨r,hr,ho⟩:=c2h w t _ i ht hi hs bn p l Q (k+1) ⟨h1.2,λy hy=>h.2 y (mm _ hy)⟩;refine⟨r,?_,?_⟩
   ·simp[Instr.findAsking,h1.1,a2w w t _ i ht hi hs,e,hr]
   obtain⟨m,j⟩|⟨m,j⟩:=ho
   ·exact .inl ⟨mm _ m,j⟩
   exact .inr ⟨by simp[e,m],j⟩
theorem a4n(e:TypeId)(k:Value)(l:List MapEntry):Instr.findNow (.pointer e) k l 0=(if l=[] then some none else none):=by
 cases l with
 | nil=>rfl
 | cons x l=>simp[Instr.findNow,Instr.sameNow]
theorem b3d(w:World)(t e:TypeId)(i:TypeInfo)(b:P.underlying t=some (.pointer e))(g:P.info? e=some i)(k:i.size≠0)(a p:Nat)(l:List MapEntry)(Q:List Nat)(h:b3t a Q l):
  ∃r,(Instr.findKey t (ptr a p) l).run P w=.ok r w/\((p∈Q/\∃j,r=some (j,.agg #[]))\/(¬p∈Q/\r=none)):=by
 have⟨r,f,d⟩:=c2h w t e i b g k a p l Q 0 h;by_cases c:l=[];subst c;have:Q=[]:=by simpa using h.1.symm
 subst this;exact⟨none,by simp[Instr.findKey,run_underlying b,a4n],.inr ⟨by simp,rfl⟩⟩;refine⟨r,?_,d⟩;simp[Instr.findKey,run_underlying b,a4n,c,f]
theorem b6x(w:World)(d:Nat)(t e:TypeId)(b:P.underlying t=some (.pointer e))(a:Bool)(v:Option Addr):(Instr.checkKey a (d+1) t (.pointer v)).run P w=.ok () w:=by
 simp[Instr.checkKey,run_underlying b]
theorem a1c(w:World)(t e:TypeId)(b:P.underlying t=some (.pointer e))(a:Bool)(v:Option Addr):(Instr.checkKey a 10000 t (.pointer v)).run P w=.ok () w:=b6x w 9999 t e b a v
structure tV(w:World)(r bn:Nat)(Q:List Nat):Prop where
 mk' ::
 m:∃es clock,w.heap[r]?=some (.map es clock)/\b3t bn Q es.toList
theorem tV.block(h:tV w r bn Q)(e:w'.heap[r]?=w.heap[r]?):tV w' r bn Q:=by
 have⟨d,c,b,a⟩:=h.m;exact⟨d,c,e.trans b,a⟩
theorem tV.lookup(h:tV w r bn Q){i:TypeInfo}(g:P.underlying mt=some (.map t et))(a:P.underlying t=some (.pointer e))(o:P.info? e=some i)(s:i.size≠0)(q:∀w,(zeroValue et).run P w=.ok (.agg #[]) w)(p:Nat):
  (Instr.lookup mt (.map (some r)) (ptr bn p) true).run P w=.ok (.tuple #[.agg #[],.bool (decide (p∈Q))]) w:=by
 have⟨n,c,d,k⟩:=h.m;have⟨f,b,l⟩:=b3d w t e i a o s bn p n.toList Q k;obtain⟨m,j,rfl⟩|⟨m,rfl⟩:=l;simp[Instr.lookup,run_underlying g,MapKept.run_getObj_map d,a1c w t e a,b,m];simp[Instr.lookup,run_underlying g,MapKept.run_getObj_map d,a1c w t e a,b,m,q]
theorem tV.update(h:tV w r bn Q){i:TypeInfo}(v:P.underlying mt=some (.map t et))(l:P.underlying t=some (.pointer e))(u:P.info? e=some i)(z:i.size≠0)(p:Nat)(x:¬p∈Q):
  ∃w',(Instr.mapUpdate mt (.map (some r)) (ptr bn p) (.agg #[])).run P w=.ok () w'/\tV w' r bn (Q++[p])/\w'.os=w.os/\w'.tape=w.tape/\w'.output=w.output/\w'.heap.size=w.heap.size/\(∀k:Nat,k≠r->w'.heap[k]?=w.heap[k]?):=by
 have⟨j,c,b,d⟩:=h.m;have⟨f,n,s⟩:=b3d w t e i l u z bn p j.toList Q d;obtain⟨m,_⟩|⟨_,rfl⟩:=s;exact(x m).elim;have g:r<w.heap.size:=by
  obtain q|q:=ky r w.heap.size;exact q;rw[mp q]at b;cases b
 refine⟨{ w with heap:=w.heap.setIfInBounds r (.map (j.push { key:=ptr bn p,val:=.agg #[],born:=c }) (c+1)) },?_,⟨j.push { key:=ptr bn p,val:=.agg #[],born:=c },c+1,?_,?_⟩,rfl,rfl,rfl,by simp,λk o=>?_⟩;simp[Instr.mapUpdate,run_underlying v,MapKept.run_getObj_map b,a1c w t e l,n,MapKept.run_setObj_map _ b];show(w.heap.setIfInBounds r _)[r]?=_;rw[nC,if_pos rfl,if_pos g];refine⟨?_,λy a=>?_⟩
 ·simp[d.1]
 simp at a;obtain a|a:=a
 ·exact d.2 y (by simpa using a)
 rw[a];show(w.heap.setIfInBounds r _)[k]?=_;rw[nC,if_neg (λe=>o e.symm)]
def a2a(bn on:Nat)(f:Nat->Value)(Q:List Nat)(l:List MapEntry):Prop:=l.map (λe=>(e.key,e.val))=Q.map (λk=>(ptr bn (on+k*2),f k))
theorem findF{P:Program}(w:World)(t e:TypeId)(i:TypeInfo)(ht:P.underlying t=some (.pointer e))(hi:P.info? e=some i)(hs:i.size≠0)(bn on:Nat)(f:Nat->Value)(k:Nat):
  ∀(l:List MapEntry)(Q:List Nat)(m:Nat),a2a bn on f Q l->∃r,(Instr.findAsking t (ptr bn (on+k*2)) l m).run P w=.ok r w/\((∃j,r=some (m+j,f k)/\Q[j]?=some k)\/(¬k∈Q/\r=none))
 | [],Q,m,h=>by
  have:Q=[]:=by simpa[a2a]using h.symm
  subst this;exact⟨none,by simp[Instr.findAsking],.inr ⟨by simp,rfl⟩⟩
 | x::l,Q,m,h=>by
  cases Q with
  | nil=>simp[a2a]at h
  | cons q Q=>
   simp only[a2a,List.map_cons,List.cons.injEq,Prod.mk.injEq]at h;have⟨⟨h1,h2⟩,h3⟩:=h;by_cases e:k=q;subst e;refine⟨some (m,f k),?_,.inl ⟨0,rfl,rfl⟩⟩;simp[Instr.findAsking,h1,a2w w t _ i ht hi hs,h2];have⟨r,hr,ho⟩:=findF w t _ i ht hi hs bn on f k l Q (m+1) h3;have ne:¬(k*2=q*2):=by omega
   refine⟨r,?_,?_⟩;simp[Instr.findAsking,h1,a2w w t _ i ht hi hs,ne,hr];obtain⟨j,hj,hq⟩|⟨n,hj⟩:=ho
   ·exact .inl ⟨j+1,by rw[hj];congr 2;omega,by simpa using hq⟩
   exact .inr ⟨by simp[e,n],hj⟩
theorem c2k(w:World)(t e:TypeId)(i:TypeInfo)(b:P.underlying t=some (.pointer e))(n:P.info? e=some i)(o:i.size≠0)(a c:Nat)(f:Nat->Value)(k:Nat)(l:List MapEntry)(Q:List Nat)(h:a2a a c f Q l):
  ∃r,(Instr.findKey t (ptr a (c+k*2)) l).run P w=.ok r w/\((∃j,r=some (j,f k)/\Q[j]?=some k)\/(¬k∈Q/\r=none)):=by
 have⟨r,m,g⟩:=findF w t e i b n o a c f k l Q 0 h;by_cases d:l=[];subst d;have:Q=[]:=by simpa[a2a]using h.symm
 subst this;exact⟨none,by simp[Instr.findKey,run_underlying b,a4n],.inr ⟨by simp,rfl⟩⟩;refine⟨r,?_,by simpa using g⟩;simp[Instr.findKey,run_underlying b,a4n,d,m]
structure b2h(w:World)(r bn on:Nat)(f:Nat->Value):Prop where
 mk' ::
 m:∃es clock Q,w.heap[r]?=some (.map es clock)/\a2a bn on f Q es.toList/\Q.Nodup/\∀k,¬k∈Q->f k=.slice none 0 0
theorem b2h.block{f:Nat->Value}(h:b2h w r bn on f)(e:w'.heap[r]?=w.heap[r]?):b2h w' r bn on f:=by
 have⟨d,c,Q,b,a⟩:=h.m;exact⟨d,c,Q,e.trans b,a⟩
theorem b2h.lt{f:Nat->Value}(h:b2h w r bn on f):r<w.heap.size:=by
 have⟨b,c,Q,a,_⟩:=h.m;obtain q|q:=ky r w.heap.size;exact q;rw[mp q]at a;cases a
theorem b2h.lookup{f:Nat->Value}(h:b2h w r bn on f){i:TypeInfo}(l:P.underlying mt=some (.map t et))(a:P.underlying t=some (.pointer e))(u:P.info? e=some i)(x:i.size≠0)(v:∀w,(zeroValue et).run P w=.ok (.slice none 0 0) w)(k:Nat):
  (Instr.lookup mt (.map (some r)) (ptr bn (on+k*2)) false).run P w=.ok (f k) w:=by
 have⟨s,c,Q,d,o,y,p⟩:=h.m;have⟨g,b,q⟩:=c2k w t e i a u x bn on f k s.toList Q o;obtain⟨j,rfl,hj⟩|⟨n,rfl⟩:=q;simp[Instr.lookup,run_underlying l,MapKept.run_getObj_map d,a1c w t e a,b];simp[Instr.lookup,run_underlying l,MapKept.run_getObj_map d,a1c w t e a,b,v,p k n]
theorem a2a.at{f:Nat->Value}{l:List MapEntry}(h:a2a bn on f Q l)(i:Nat):(l[i]?).map (λe=>(e.key,e.val))=(Q[i]?).map (λk=>(ptr bn (on+k*2),f k)):=by
 rw[<-nO,<-nO,h]
theorem b2h.update{P:Program}{w:World}{r bn on:Nat}{f:Nat->Value}(h:b2h w r bn on f){mt t e et:TypeId}{i:TypeInfo}(L:P.underlying mt=some (.map t et))(H:P.underlying t=some (.pointer e))(S:P.info? e=some i)(T:i.size≠0)(k:Nat)(v:Value):
  ∃w',(Instr.mapUpdate mt (.map (some r)) (ptr bn (on+k*2)) v).run P w=.ok () w'/\b2h w' r bn on (λq=>if q=k then v else f q)/\w'.os=w.os/\w'.tape=w.tape/\w'.output=w.output/\w'.heap.size=w.heap.size/\(∀q:Nat,q≠r->w'.heap[q]?=w.heap[q]?):=by
 have x:=h.lt;have⟨s,c,Q,D,C,G,K⟩:=h.m;have⟨g,I,N⟩:=c2k w t e i H S T bn on f k s.toList Q C;obtain⟨j,rfl,hj⟩|⟨n,rfl⟩:=N;focus
  have d:=C.at j;rw[hj]at d;have⟨A,u⟩:∃A,s.toList[j]?=some A:=by
   cases q:s.toList[j]? with
   | none=>rw[q]at d;simp at d
   | some A=>exact⟨A,rfl⟩
  have y:s[j]?=some A:=by simpa using u
  rw[u]at d;simp only[Option.map_some,Option.some.injEq,Prod.mk.injEq]at d;refine⟨{ w with heap:=w.heap.setIfInBounds r (.map (s.modify j λe=>{ e with key:=ptr bn (on+k*2),val:=v }) c) },?_,⟨s.modify j λe=>{ e with key:=ptr bn (on+k*2),val:=v },c,Q,?_,?_,G,λq o=>?_⟩,rfl,rfl,rfl,by simp,λq o=>?_⟩;simp[Instr.mapUpdate,run_underlying L,MapKept.run_getObj_map D,a1c w t e H,I,MapKept.run_setObj_map _ D,y,d.1,Instr.keyThatStays,Instr.sameBits];show(w.heap.setIfInBounds r _)[r]?=_;rw[nC,if_pos rfl,if_pos x];unfold a2a;apply List.ext_getElem?;intro m;rw[nO,nO,Array.toList_modify,List.getElem?_modify];have p:=C.at m;by_cases B:j=m
  ·subst B;rw[hj,u];simp
  cases F:Q[m]? with
  | none=>rw[F]at p;simp at p;simp[B,p]
  | some q=>
   rw[F]at p;have M:q≠k:=λe=>by
    subst e;have:=(List.getElem?_inj (i:=j) (j:=m) (l:=Q) (by
     obtain z|z:=ky j Q.length;exact z;rw[na z]at hj;cases hj) G).1 (by rw[hj,F])
    exact B this
   simp only[B,if_false,M,Option.map_some];simpa using p
  rw[if_neg (λe=>by subst e;exact o (qi hj))];exact K q o
 rotate_left
 focus
  refine⟨{ w with heap:=w.heap.setIfInBounds r (.map (s.push { key:=ptr bn (on+k*2),val:=v,born:=c }) (c+1)) },?_,⟨s.push { key:=ptr bn (on+k*2),val:=v,born:=c },c+1,Q++[k],?_,?_,?_,λq o=>?_⟩,rfl,rfl,rfl,by simp,λq o=>?_⟩;simp[Instr.mapUpdate,run_underlying L,MapKept.run_getObj_map D,a1c w t e H,I,MapKept.run_setObj_map _ D];show(w.heap.setIfInBounds r _)[r]?=_;rw[nC,if_pos rfl,if_pos x];unfold a2a;have R:Q.map (λq=>(ptr bn (on+q*2),if q=k then v else f q))=Q.map (λq=>(ptr bn (on+q*2),f q)):=List.map_congr_left (λq o=>by rw[if_neg (λz=>n (z ▸ o):¬q=k)]);have E:s.toList.map (λe=>(e.key,e.val))=Q.map (λk=>(ptr bn (on+k*2),f k)):=C;simp[R,E];rw[ny];exact⟨G,by simp,λa O b J=>by simp at J;rw[J];intro e;exact n (e ▸ O)⟩;simp only[List.mem_append,List.mem_singleton,not_or]at o;rw[if_neg o.2];exact K q o.1
 all_goals
  ·show(w.heap.setIfInBounds r _)[q]?=_;rw[nC,if_neg (λe=>o e.symm)]
