import Derived.Test.YtddkhnclmeikfaaGreatRw
import Derived.Test.YtddkhnclmeikfaaGreatIn
import Derived.Test.YtddkhnclmeikfaaGreatImpB
import Derived.Deep.RegionLaw
import Derived.Deep.RegionWith
set_option maxRecDepth 100000
set_option maxHeartbeats 8000000
namespace Go.Proofs.YtddkhnclmeikfaaGreat
open Go.RowKit Tryz
attribute [local go_sem ↓] Go.wp_at_zero Go.wp_at_succ
variable{ar ac ag an:Option Addr}{kr kc b kg kn:Nat}{x:Hp}{w w':World}{n lo hi:Int}{y:Wd}
theorem Ext.drewN{a:World}(h:Ext a w)(n:Nat):Ext a (w.drewN n):=below_drewN h n
theorem a0u(n b a:Int)(r:Bool)(h:eL n b a=r)(w:World):Calls prog 60 #[iv n,iv b,iv a] w λe w'=>e=.returned (.bool r)/\w'=w:=by grind [eL,a5c]
theorem c9w{P:Program}{f:FuncId}{args:Array Value}{k n:Nat}{v:Value}(h:Calls P f args (w.drewN (k+n)) λe w'=>e=.returned v/\w'=w.drewN (k+n)):
  Calls P f args (w.drewN (k+n)) λe w''=>e=.returned v/\∃m,w''=w.drewN (k+m):=h.mono λ_ _ ⟨a,b⟩=>⟨a,n,b⟩
theorem a2v(h:eL n lo hi=true):lo<=n/\n<=hi:=by simpa [eL] using h
theorem a3j(h:eL n lo hi=false):¬(lo<=n/\n<=hi):=by grind [eL]
theorem a0e(h:cQ n lo hi=true):lo<=n/\n<=hi:=by simpa [cQ] using h
theorem a4w(h:cQ n lo hi=false):¬(lo<=n/\n<=hi):=by grind [cQ]
theorem a0h(n b a:Int)(r:Bool)(h:cQ n b a=r)(w:World):Calls prog 78 #[iv n,iv b,iv a] w λe w'=>e=.returned (.bool r)/\w'=w:=by
 rw[<-h];exact c3m n b a w
theorem a9j(y:Wd)(b n:Nat)(h:Option Addr)(i:Nat)(w:World)(g:w.cell? (aA b 13)=some (.slice h n i))(l:n<=35184372088832):
  Calls prog 229 #[pP b,y.v] w λe w'=>e=.returned (.bool (dY y n))/\Ext w w':=by
 have j:b<w.heap.size:=uL g;cases d:(y.k == 0)
 ·cases f:(y.k == 1)
  ·cases c:(y.k == 2)
   ·have E:=uU (show dY y n=false by simp at d f c;simp [dY,d,f,c]);go_enter func229,ntmps229;go_wp2;go_ret;exact⟨by rw[uH E];rfl,(Ext.refl w).alloc _⟩
   ·cases q:(y.n == 0)
    ·have E:=uU (show dY y n=false by simp at c;simp [dY,c,q]);go_enter func229,ntmps229;go_wp2_with fail;go_quiet (fail);go_wp2;go_ret;exact⟨by rw[uH E];rfl,((Ext.refl w).alloc _).drewN _⟩
    ·cases t:cQ y.a 0 ((n:Int)-1)
     ·have E:=uU (show dY y n=false by
       have:=a4w t;simp at c q;simp [dY,c,q];omega)
      go_enter func229,ntmps229;go_wp2_with fail;go_quiet ((go_at_call 78;refine Calls.quiet_of_same (a0h _ _ _ false ?_ _);assumption));go_wp2;go_ret;exact⟨by rw[uH E];rfl,((Ext.refl w).alloc _).drewN _⟩
     ·have E:=uU (show dY y n=true by
       have:=a0e t;simp at c q;simp [dY,c,q];omega)
      go_enter func229,ntmps229;go_wp2_with fail;go_quiet ((go_at_call 78;refine Calls.quiet_of_same (a0h _ _ _ true ?_ _);assumption));go_wp2;go_ret;exact⟨by rw[uH E];rfl,((Ext.refl w).alloc _).drewN _⟩
  ·have E:=uU (show dY y n=(y.a == 0) by simp at f;simp [dY,f]);go_enter func229,ntmps229;go_wp2;go_ret;exact⟨by rw[uH E];simp,(Ext.refl w).alloc _⟩
 ·have E:=uU (show dY y n=(y.n == 0 && y.a == 0) by simp at d;simp [dY,d]);cases q:(y.n == 0)
  all_goals
   go_enter func229,ntmps229;go_wp2;go_ret;exact⟨by rw[uH E];simp [q],(Ext.refl w).alloc _⟩
theorem a8i(y:Wd)(b:Nat)(w:World)(c:(y.k == 2)=false):
  Calls prog 199 #[pP b,y.v] w λe w'=>e=.returned (.pointer none)/\Ext w w':=by
 have a:(y.k != 2)=true:=by simpa using c
 go_enter func199,ntmps199;go_wp2;go_ret;exact⟨rfl,(Ext.refl w).alloc _⟩
theorem a3b(y:Wd)(b n c d l i:Nat)(w:World)(j:(y.k == 2)=true)(a:w.cell? (aA b 13)=some (sO c d n l))(o:i<n):
  Calls prog 199 #[pP b,.agg #[iv y.k,iv y.n,iv i]] w λe w'=>e=.returned (pQ c (d+i*2))/\Ext w w':=by
 have m:b<w.heap.size:=uL a;have f:(y.k != 2)=false:=by simpa using j
 have g:(0:Int)<=(i:Int):=by omega
 have h:(i:Int)<(n:Int):=by omega
 go_enter func199,ntmps199;go_wp2_with fail;go_quiet (fail);go_wp2;go_ret;exact⟨rfl,((Ext.refl w).alloc _).drewN _⟩
def b0g(c:Cl):Bool:=(c.kind == 0) && (c.T == 0) && (c.U == 0) && (c.born == 0) && (c.J == 0) && ((c.F.length:Int) == 0)
theorem a8j{c:Cl}:b0g c=true↔yV c:=by grind [Hp.c,b0g,yV]
theorem c0u(c:Cl)(a q bc r:Nat)(b:Option Addr)(d:Nat)(w:World)(y:w.cell? (aA a (q+1))=some (pQ bc r))(h:CAt w bc r c b d):
  Calls prog 172 #[pQ a q] w λe w'=>e=.returned (.bool (b0g c))/\w'=w:=by
 obtain⟨x,p,u,i,k,o,t,v,f,P⟩:=h;unfold b0g;cases g:(c.kind == 0);rotate_left;cases j:(c.T == 0);rotate_left;cases l:(c.U == 0);rotate_left;cases m:(c.born == 0);rotate_left;cases n:(c.J == 0);rotate_left;cases s:((c.F.length:Int) == 0)
 all_goals
  go_enter func172,ntmps172
  go_wp2
  go_ret;exact⟨rfl,rfl⟩
theorem bare_is(c:Cl)(a q bc r:Nat)(b:Option Addr)(d:Nat)(s:Bool)(g:b0g c=s)(w:World)(f:w.cell? (aA a (q+1))=some (pQ bc r))(h:CAt w bc r c b d):
  Calls prog 172 #[pQ a q] w λe w'=>e=.returned (.bool s)/\w'=w:=by grind [Hp.c,b0g,HAt.cell,c0u]
theorem a5h(h:lo<=n/\n<=hi):cQ n lo hi=true:=by grind [cQ]
theorem d0f:Region.lexB .any (third Tryz.f173.body)=true:=b7m _ _ (by kernel_rfl) (by kernel_rfl)
theorem d0g(x:Hp)(c:Cl)(b f q bc r:Nat)(g:Option Addr)(i:Nat)(w:World)(E:w.cell? (aA b 2)=some (iv x.born))(F:w.cell? (aA f (q+1))=some (pQ bc r))(h:CAt w bc r c g i):
  Calls prog 173 #[pP b,pQ f q] w λe w'=>e=.returned (.bool (cQ c.kind 0 255 && (cQ c.T 0 3 && (cQ c.U 0 3 && (cQ c.born 1 x.born && (cQ c.J 0 2 && ((c.to == 0) && decide ((c.F.length:Int)<=200))))))))/\Ext w w':=by
 obtain⟨B,l,n,v,y,m,u,A,o,P⟩:=h;cases p:cQ c.kind 0 255;rotate_left;cases C:cQ c.T 0 3;rotate_left;cases s:cQ c.U 0 3;rotate_left;cases k:cQ c.born 1 x.born;rotate_left;cases z:cQ c.J 0 2;rotate_left;cases t:(c.to == 0);rotate_left;cases D:decide ((c.F.length:Int)<=200)
 all_goals
  go_enter func173,ntmps173;go_wp2_with fail
  try simp only [List.append]
  refine wp_region_quiet_lit (by kernel_rfl) d0f ?_
  repeat (go_big_quiet_step ((go_at_call 78;first | (refine Calls.quiet_of_same (a0h _ _ _ true ?_ _);assumption) | (refine Calls.quiet_of_same (a0h _ _ _ false ?_ _);assumption))))
  refine wpQuiet_nil ?_;intro _ d;obtain⟨j,a⟩:=d;subst a;go_wp2;go_ret;exact⟨rfl,Ext.drewN (Ext.refl w) _⟩
theorem b8r(x:Hp)(c:Cl)(b i q bc r:Nat)(j:Option Addr)(k:Nat)(w:World)(n:w.cell? (aA b 2)=some (iv x.born))(o:w.cell? (aA i (q+1))=some (pQ bc r))(h:CAt w bc r c j k):
  Calls prog 173 #[pP b,pQ i q] w λe w'=>∃r:Bool,Hid (e=.returned (.bool r))/\(r=true↔a2t x c)/\Ext w w':=by
 refine(d0g x c b i q bc r j k w n o h).mono λ_ _ ⟨m,l⟩=>⟨_,m,?_,l⟩
 simp only [Bool.and_eq_true,decide_eq_true_eq,beq_iff_eq];exact⟨λ⟨a,b,c,d,e,f,g⟩=>⟨a0e a,a0e b,a0e c,a0e d,a0e e,f,by omega⟩,λ⟨a,b,c,d,e,f,g⟩=>⟨a5h a,a5h b,a5h c,a5h d,a5h e,f,by omega⟩⟩
theorem d0y(y:Wd)(b:Nat)(w:World)(a:(y.k == 2)=false):
  Calls prog 138 #[pP b,y.v] w λe w'=>e=.returned y.v/\Ext w w':=by
 go_enter func138,ntmps138;go_wp2_with fail;go_quiet (fail);go_wp2;refine bodyPost_ret (v:=y.v) (by simp [results,results138,go_sem]) rfl ⟨rfl,?_⟩
 repeat (first | exact Ext.refl _ | refine Ext.drewN ?_ _ | refine Ext.alloc ?_ _ | refine Ext.setCell ?_ (by show w.heap.size<=w.heap.size+1;omega) _)
theorem c7r(b bc n f i:Nat)(a:Int)(w:World)(d:w.cell? (aA b 4)=some (sS bc n f))(g:w.cell? (aA bc (i*8))=some (iv a))(l:i<n)(m:(a == 2)=false):
  Calls prog 138 #[pP b,.agg #[iv 2,iv 0,iv i]] w λe w'=>e=.returned (.agg #[iv 2,iv 0,iv i])/\Ext w w':=by
 have h:b<w.heap.size:=uL d;have c:bc<w.heap.size:=uL g;have j:(0:Int)<=(i:Int):=by omega
 have k:(i:Int)<(n:Int):=by omega
 go_enter func138,ntmps138;go_wp2_with fail;go_quiet (fail);go_wp2;refine bodyPost_ret (v:=.agg #[iv 2,iv 0,iv i]) (by simp [results,results138,go_sem]) rfl ⟨rfl,?_⟩
 repeat (first | exact Ext.refl _ | refine Ext.drewN ?_ _ | refine Ext.alloc ?_ _ | refine Ext.setCell ?_ (by show w.heap.size<=w.heap.size+1;omega) _)
theorem c4k(b bc n g i:Nat)(c a:Int)(w:World)(f:w.cell? (aA b 4)=some (sS bc n g))(h:w.cell? (aA bc (i*8))=some (iv c))(p:w.cell? (aA bc (i*8+6))=some (iv a))(m:i<n)(o:(c == 2)=true):
  Calls prog 138 #[pP b,.agg #[iv 2,iv 0,iv i]] w λe w'=>e=.returned (.agg #[iv 2,iv 0,iv a])/\Ext w w':=by
 have j:b<w.heap.size:=uL f;have d:bc<w.heap.size:=uL h;have k:(0:Int)<=(i:Int):=by omega
 have l:(i:Int)<(n:Int):=by omega
 go_enter func138,ntmps138;go_wp2_with fail;go_quiet (fail);go_wp2_with fail
 go_region
 all_goals
  go_wp2;refine bodyPost_ret (v:=.agg #[iv 2,iv 0,iv a]) (by simp [results,results138,go_sem]) rfl ⟨rfl,?_⟩
  repeat (first | exact Ext.refl _ | refine Ext.drewN ?_ _ | refine Ext.drew ?_ | refine Ext.alloc ?_ _ | refine Ext.setCell ?_ (by show w.heap.size<=w.heap.size+1;omega) _)
theorem a5m[Inhabited uQ]{B:Nat}{g:Nat}{vg:Value}{br bc:Nat}{pb:Nat->Nat}{pa:Nat->Option Addr}{pk:Nat->Nat}{role:Nat->Nat}(y:Wd)(w:World)(h:GAt B w g x ar kr ac kc vg br bc pb pa pk role)(o:uW y x.A.length):
  Calls prog 138 #[pP g,y.v] w λe w'=>e=.returned (eZ x y).v/\Ext w w':=by
 cases q:(y.k == 2)
 ·have e:eZ x y=y:=by
   unfold eZ;rw[if_neg];intro h;simp [h.1] at q
  rw[e];exact d0y y g w q
 ·have j:y.k=2:=by simpa using q
  obtain⟨k,n,a⟩:=y;simp only at j;subst j;unfold uW at o;simp only at o;obtain⟨i,rfl⟩:∃i:Nat,a=(i:Int):=⟨a.toNat,by omega⟩;obtain rfl:n=0:=by omega
  have d:i<x.A.length:=by omega
  have p:0<x.A.length:=by omega
  have f:=h.bx.2.2.2.2.1;rw[h.hc p] at f;obtain⟨m,_,_,_,_,_,r⟩:=h.rw.s i d;have l:((i:Int)).toNat=i:=by omega
  cases b:((x.c i).st == 2)
  ·have e:eZ x ⟨2,0,i⟩=⟨2,0,i⟩:=by
    unfold eZ;rw[if_neg];intro h;simp only [l] at h;simp [h.2] at b
   rw[e];exact c7r g bc _ kc i _ w f m d b
  ·have e:eZ x ⟨2,0,i⟩=⟨2,0,(x.c i).to⟩:=by
    unfold eZ;simp only [l];rw[if_pos ⟨trivial,by simpa using b⟩]
   rw[e];exact c4k g bc _ kc i _ _ w f m r d b
structure VAt(w:World)(b:Nat)(x:Hp)(ar:Option Addr)(kr:Nat)(ac:Option Addr)(kc:Nat)(ag:Option Addr)(kg:Nat)(an:Option Addr)(kn:Nat):Prop where
 H:HAt w b x ar kr ac kc ag kg
 n13:w.cell? ⟨b,13,none⟩=some (.slice an x.A.length kn)
 N:∀i,i<x.A.length->∃bn on bc oc,an=some ⟨bn,on,none⟩/\ac=some ⟨bc,oc,none⟩/\w.cell? ⟨bn,on+i*2,none⟩=some (iv i)/\w.cell? ⟨bn,on+i*2+1,none⟩=some (.pointer (some ⟨bc,oc+i*8,none⟩))
theorem VAt.ext(h:VAt w b x ar kr ac kc ag kg an kn)(e:Ext w w'):VAt w' b x ar kr ac kc ag kg an kn:=
 ⟨h.H.ext e,e.keep h.n13,λi c=>let ⟨bn,on,bc,oc,a,a',p,q⟩:=h.N i c;⟨bn,on,bc,oc,a,a',e.keep p,e.keep q⟩⟩
theorem b1r(c:Cl)(a q bc r:Nat)(b:Option Addr)(d:Nat)(w:World)(h:w.cell? (aA a (q+1))=some (pQ bc r))(g:w.cell? (aA bc (r+7))=some (.slice b c.F.length d))(f:c.F.length<=35184372088832):
  Calls prog 119 #[pQ a q] w λe w'=>e=.returned (iv (1+(c.F.length:Int)))/\w'=w:=by
 go_enter func119,ntmps119
 go_wp2
 go_ret;exact⟨rfl,rfl⟩
theorem b8q(x:Hp)(b:Nat)(w:World)(h:VAt w b x ar kr ac kc ag kg an kn)(hn:x.A.length<=8000)(J:∀i,i<x.A.length->(x.c i).F.length<=200):
  Calls prog 109 #[pP b] w λe w'=>∃r:Bool,e=.returned (.bool r)/\(r=true↔R3 x)/\Ext w w':=by
 have v:=h.n13;have c0:=h.H.c0;have R:=h.H.c1;go_enter func109,ntmps109;go_wp2_with fail
 go_loop [3,10] (λn i=>∃(k:Nat) (u:Nat),k<=x.A.length/\i=iv k/\n=iv u/\Hid (u=units (x.A.take k))/\u<=201*k) (λ_ i=>x.A.length-(intOf i).toNat)
 case atStart=>exact⟨0,0,Nat.zero_le _,rfl,rfl,by show _=_;simp [units],by omega⟩
 case round=>
  obtain⟨k,u,K,rfl,rfl,m,G⟩:=hrel;by_cases a:k<x.A.length
  ·obtain⟨b',o,t,C,rfl,Z,M,O,V,X,Q,T,I,A,P⟩:=h.H.cell k a;obtain⟨B,F,L,S,rfl,j,U,y⟩:=h.N k a;cases j;have D:=J k a;have E:(0:Int)<=(k:Int):=by omega
   have s:(k:Int)<(x.A.length:Int):=by omega
   have d:=a5u x.A k a;rw[Hp.c_eq] at d;cases q:((x.c k).st == 1)
   ·have g:¬(x.c k).st=1:=by simpa using q
    have H:Hid (u=units (x.A.take (k+1))):=by have:=uH m;show _=_;rw[d,hV,if_neg g];omega
    go_wp2_with fail
    go_round
    case rel=>exact⟨k+1,u,by omega,by go_num,rfl,H,by omega⟩
    case measure=>simp [intOf];omega
   ·have g:(x.c k).st=1:=by simpa using q
    have H:Hid (u+(1+(x.c k).F.length)=units (x.A.take (k+1))):=by have:=uH m;show _=_;rw[d,hV,if_pos g];omega
    go_wp2_with fail;refine(b1r (x.c k) B (F+k*2) _ _ t C _ y I A).mono ?_;rintro e w1 ⟨rfl,rfl⟩;go_wp2_with fail
    go_round
    case rel=>exact⟨k+1,u+(1+(x.c k).F.length),by omega,by go_num,by go_num,H,by omega⟩
    case measure=>simp [intOf];omega
  ·have l:k=x.A.length:=by omega
   have H:=uU (show u=units x.A by have:=uH m;rw[l,List.take_length] at this;exact this);cases p:(x.K == (u:Int))
   ·have N:=uU (show ¬R3 x from λr=>by have:=uH H;have:=r.1;simp at p;omega);go_wp2;go_ret
    first | (exact Or.inl ⟨rfl,N,Ext.refl _⟩) | (exact⟨false,rfl,⟨λf=>by simp at f,λr=>(N r).elim⟩,Ext.refl _⟩)
   ·by_cases W:(u:Int)<=x.M
    ·have Y:=uU (show R3 x by
      have z:=uH H;have j:x.K=(u:Int):=by simpa using p
      exact⟨by rw[j,z],by omega⟩)
     go_wp2;go_ret
     first | (exact Or.inr ⟨rfl,Y,Ext.refl _⟩) | (exact⟨true,rfl,⟨λ_=>uH Y,λ_=>rfl⟩,Ext.refl _⟩)
    ·have N:=uU (show ¬R3 x from λr=>by
      have j:x.K=(u:Int):=by simpa using p
      have:=r.2;omega)
     go_wp2;go_ret
     first | (exact Or.inl ⟨by simp,N,Ext.refl _⟩) | (exact⟨false,by simp,⟨λf=>by simp at f,λr=>(N r).elim⟩,Ext.refl _⟩)
theorem b3s(x:Hp)(b:Nat)(w:World)(h:VAt w b x ar kr ac kc ag kg an kn):
  Calls prog 114 #[pP b] w λe w'=>∃r:Bool,e=.returned (.bool r)/\(r=true↔R8 x)/\Ext w w':=by
 have u:=h.n13;have T:=h.H.c5;have lc:=h.H.lc;cases n:(x.E == 6)
 ·have Y:=uU (show R8 x from λi v t=>by simp [t.1] at n);have p:(x.E != 6)=true:=by simpa using n
  go_enter func114,ntmps114;go_wp2;go_ret
  first | (exact Or.inr ⟨rfl,Y,Ext.refl _⟩) | (exact⟨true,rfl,⟨λ_=>uH Y,λ_=>rfl⟩,Ext.refl _⟩)
 ·have p:(x.E != 6)=false:=by simpa using n
  have B:=uU (show x.E=6 by simpa using n);go_enter func114,ntmps114;go_wp2_with fail;go_loopw [16] (λi wr=>∃(k:Nat),k<=x.A.length/\i=iv k/\(∀j,j<k->¬(x.E=6/\x.I<=j/\(x.c j).st=2))/\Ext w wr) (λi _=>x.A.length-(intOf i).toNat)
  case atStart=>exact⟨0,Nat.zero_le _,rfl,λj D=>by omega,Ext.refl _⟩
  case round=>
   obtain⟨k,F,rfl,l,a⟩:=hrel;have HA:=uU l;by_cases g:k<x.A.length
   ·have m:=h.ext a;obtain⟨b',o,J,W,rfl,p0,I,K,X,Z,L,U,p7,O,P⟩:=m.H.cell k g;obtain⟨Q,on,G,R,rfl,A,V,M⟩:=m.N k g;cases A;have d6:=m.H.c6;have C:=m.n13;have z:(0:Int)<=(k:Int):=by omega
    have s:(k:Int)<(x.A.length:Int):=by omega
    have d:¬(x.E=6/\x.I<=k/\(x.c k).st=2)->Hid (∀j,j<k+1->¬(x.E=6/\x.I<=j/\(x.c j).st=2)):=λE j D=>by
     by_cases e:j=k
     ·subst e;exact E
     ·exact HA j (by omega)
    cases q:((x.c k).st == 2)
    ·have S:=d (by simp at q;omega);go_wp2_with fail;go_quiet (fail);go_wp2;go_roundw
     case rel=>exact⟨k+1,by omega,by go_num,S,Ext.drewN a _⟩
     case measure=>simp [intOf];omega
    ·by_cases y:x.I<=(k:Int)
     ·have N:=uU (show ¬R8 x from λr=>r k g ⟨B,y,by simpa using q⟩);go_wp2_with fail;go_quiet (fail);go_wp2;go_ret
      first | (exact Or.inl ⟨rfl,N,Ext.drewN a _⟩) | (exact⟨false,rfl,⟨λf=>by simp at f,λr=>(N r).elim⟩,Ext.drewN a _⟩)
     ·have S:=d (by omega);go_wp2_with fail;go_quiet (fail);go_wp2;go_roundw
      case rel=>exact⟨k+1,by omega,by go_num,S,Ext.drewN a _⟩
      case measure=>simp [intOf];omega
   ·have Y:=uU (show R8 x from λi v=>uH HA i (by omega));go_wp2;go_ret
    first | (exact Or.inr ⟨rfl,Y,a⟩) | (exact⟨true,rfl,⟨λ_=>uH Y,λ_=>rfl⟩,a⟩)
def a2d(x:Hp)(y:Wd):Bool:=(y.k == 2) && ((x.c y.a.toNat).J == 0)
theorem a0c:a2d x y=true↔hY x y:=by simp [a2d,hY]
theorem a1g(x:Hp)(b:Nat)(y:Wd)(w:World)(h:HAt w b x ar kr ac kc ag kg)(s:y.k=2->0<=y.a/\y.a<x.A.length):
  Calls prog 209 #[pP b,y.v] w λe w'=>e=.returned (.bool (a2d x y))/\Ext w w':=by
 cases q:(y.k == 2)
 ·have E:=uU (show a2d x y=false by simp [a2d,q]);go_enter func209,ntmps209;go_wp2_with fail;go_quiet (fail);go_wp2;go_ret;exact⟨by rw[uH E];rfl,((Ext.refl w).alloc _).drewN _⟩
 ·have d:y.k=2:=by simpa using q
  obtain⟨r,F⟩:=s d;obtain⟨i,g⟩:=Int.eq_ofNat_of_zero_le r;have E:=uU (show a2d x y=((x.c i).J == 0) by simp [a2d,d,g]);obtain⟨n,o,rfl,z,G,u,A,B,D,f,_⟩:=h.C i (by omega);have m:=h.c4;have t:b<w.heap.size:=uL m;have p:n<w.heap.size:=uL f;have l:(0:Int)<=(i:Int):=by omega
  have j:(i:Int)<(x.A.length:Int):=by omega
  go_enter func209,ntmps209;go_wp2_with fail;go_quiet (fail);go_wp2;go_ret;exact⟨by rw[uH E];rfl,((Ext.refl w).alloc _).drewN _⟩
def eV(x:Hp)(y:Wd)(m:Bool):Bool:=dY y x.A.length && (!(y.k == 2) || (if (x.c y.a.toNat).st=2 then m else ((x.c y.a.toNat).st == 1) && !a0p x y.a.toNat))
theorem a1q{m:Bool}{p:Prop}(a:m=true↔p):eV x y m=true↔hU x y p:=by grind [Cl.p,eV,hU,a0n,Hp.c,a0p,uE,a2h]
theorem a7a(x:Hp)(b:Nat)(y:Wd)(m:Bool)(w:World)(h:HAt w b x ar kr ac kc ag kg):
  Calls prog 205 #[pP b,y.v,.bool m] w λe w'=>e=.returned (.bool (eV x y m))/\Ext w w':=by
 have O:=h.c4;have R:b<w.heap.size:=uL O;have N:b<w.heap.size+1:=by omega
 go_enter func205,ntmps205;go_wp2_with fail
 go_region_held3 (λw'=>w'.cell? (aA w.heap.size 0)=some (iv y.k)/\w'.cell? (aA w.heap.size 1)=some (iv y.n)/\w'.cell? (aA w.heap.size 2)=some (iv y.a)/\w'.cell? (aA b 4)=some (.slice ac x.A.length kc)) (first | (simp [*];done) | go_keep)
    (first | (go_at_call 207;refine(a1w y x.A.length _).mono ?_;rintro e j ⟨rfl,l⟩;have s:=(uK l).1;simp only [World.size_drew,World.size_alloc] at s))
 rename_i t;have p:Ext w j:=Ext.trans (((Ext.refl w).alloc _).drew) l
 cases r:dY y x.A.length
 ·have E:=uU (show eV x y m=false by simp [eV,r]);go_wp2;go_ret;exact⟨by rw[uH E];rfl,p⟩
 cases C:(y.k == 2)
 ·have E:=uU (show eV x y m=true by simp [eV,r,C]);go_wp2;go_ret;exact⟨by rw[uH E];rfl,p⟩
 have Q:y.k=2:=by simpa using C
 have M:=a0n.1 r;unfold uW at M;have A:0<=y.a/\y.a<x.A.length:=by omega
 have q:=uU (show eV x y m=(if (x.c y.a.toNat).st=2 then m else ((x.c y.a.toNat).st == 1) && !a0p x y.a.toNat) by simp [eV,r,Q]);have z:=h.ext p;have F:=uU (λw' (e:Ext j w')=>b0a x b y.a w' (z.ext e) A.1 A.2);obtain⟨i,J⟩:=Int.eq_ofNat_of_zero_le A.1;rw[J] at F q;rw[Int.toNat_natCast] at q;obtain⟨d,o,D,I,rfl,p0,S,T,X,Y,U,W,Z,V,P⟩:=z.cell i (by omega);have d4:=z.c4;have L:(0:Int)<=(i:Int):=by omega
 have K:(i:Int)<(x.A.length:Int):=by omega
 go_wp2_with fail
 go_region_held3 (λw'=>w'.cell? (aA w.heap.size 2)=some (iv i)/\w'.cell? (aA b 4)=some (sO d o x.A.length kc)/\w'.cell? (aA d (o+i*8))=some (iv (x.c i).st)/\w'.cell? (aA d (o+i*8+1))=some (iv (x.c i).kind)/\w'.cell? (aA d (o+i*8+2))=some (iv (x.c i).T)/\w'.cell? (aA d (o+i*8+3))=some (iv (x.c i).U)/\w'.cell? (aA d (o+i*8+4))=some (iv (x.c i).born)/\w'.cell? (aA d (o+i*8+5))=some (iv (x.c i).J)/\w'.cell? (aA d (o+i*8+6))=some (iv (x.c i).to)/\w'.cell? (aA d (o+i*8+7))=some (.slice D (x.c i).F.length I)) (first | (simp [*];done) | go_keep) (fail);have u:∀f:Obj,Ext w (j.alloc f).drew:=λf=>(p.alloc f).drew
 have y2:∀f:Obj,Ext j (j.alloc f).drew:=λf=>((Ext.refl j).alloc f).drew
 cases G:((x.c i).st == 2)
 ·have g:¬(x.c i).st=2:=by simpa using G
  have E:=uU (show eV x y m=(((x.c i).st == 1) && !a0p x i) by rw[uH q,if_neg g]);cases H:((x.c i).st == 1)
  ·go_wp2;go_ret;exact⟨by rw[uH E,H];rfl,u _⟩
  ·have B:=uU (F _ (y2 (.cells #[iv (x.c i).st,iv (x.c i).kind,iv (x.c i).T,iv (x.c i).U,iv (x.c i).born,iv (x.c i).J,iv (x.c i).to,.slice D (x.c i).F.length I] 62)));go_wp2_with (go_at_call 206;refine B.mono ?_;rintro e w' ⟨rfl,rfl⟩);go_ret;exact⟨by rw[uH E,H];simp,u _⟩
 ·have g:(x.c i).st=2:=by simpa using G
  have E:=uU (show eV x y m=m by rw[uH q,if_pos g]);go_wp2;go_ret;exact⟨by rw[uH E];rfl,u _⟩
structure HNt(w:World)(b:Nat)(x:Hp)(ar:Option Addr)(kr:Nat)(ac:Nat->Option Addr):Prop where
 c3:w.cell? ⟨b,3,none⟩=some (.slice ar x.B.length kr)
 lr:x.B.length<=35184372088832
 R:∀i (hi:i<x.B.length),∃b' o,ar=some ⟨b',o,none⟩/\yU w b' (o+i*3) x.B[i]
 C:∀i,i<x.A.length->∃b' o,ac i=some ⟨b',o,none⟩/\ClAt w b' o (x.c i)
theorem HNt.ext{ac:Nat->Option Addr}(h:HNt w b x ar kr ac)(e:Ext w w'):HNt w' b x ar kr ac:=
 ⟨e.keep h.c3,h.lr,λi c=>let ⟨b',o,a,p⟩:=h.R i c;⟨b',o,a,p.ext e⟩,λi c=>let ⟨b',o,a,p⟩:=h.C i c;⟨b',o,a,p.ext e⟩⟩
theorem HNt.cell{ac:Nat->Option Addr}(h:HNt w b x ar kr ac)(i:Nat)(v:i<x.A.length):
  ∃b' o ap kp,ac i=some (aA b' o)/\CAt w b' o (x.c i) ap kp:=by
 obtain⟨b',o,e,y,u,d,g,p,r,f,m,t,ap,kp,rfl,j,P⟩:=h.C i v;exact⟨b',o,ap,kp,e,u,d,g,p,r,f,m,t,j,λk a=>by obtain⟨n,l,s,q⟩:=P k a;rw[Cl.p_eq _ _ a] at q;exact⟨n,l,s,q⟩⟩
structure VNt(w:World)(b:Nat)(x:Hp)(ar:Option Addr)(kr:Nat)(ac:Nat->Option Addr)(an:Option Addr)(kn:Nat):Prop where
 H:HNt w b x ar kr ac
 n13:w.cell? ⟨b,13,none⟩=some (.slice an x.A.length kn)
 N:∀i,i<x.A.length->∃bn on bc oc,an=some ⟨bn,on,none⟩/\ac i=some ⟨bc,oc,none⟩/\w.cell? ⟨bn,on+i*2,none⟩=some (iv i)/\w.cell? ⟨bn,on+i*2+1,none⟩=some (.pointer (some ⟨bc,oc,none⟩))
theorem VNt.ext{ac:Nat->Option Addr}(h:VNt w b x ar kr ac an kn)(e:Ext w w'):VNt w' b x ar kr ac an kn:=
 ⟨h.H.ext e,e.keep h.n13,λi c=>let ⟨bn,on,bc,oc,a,a',p,q⟩:=h.N i c;⟨bn,on,bc,oc,a,a',e.keep p,e.keep q⟩⟩
structure FwAt(w:World)(b:Nat)(x:Hp)(ac:Nat->Option Addr)(an:Option Addr)(kn:Nat):Prop where
 n13:w.cell? ⟨b,13,none⟩=some (.slice an x.A.length kn)
 N:∀i,i<x.A.length->∃bn on bc oc,an=some ⟨bn,on,none⟩/\ac i=some ⟨bc,oc,none⟩/\w.cell? ⟨bn,on+i*2+1,none⟩=some (.pointer (some ⟨bc,oc,none⟩))/\w.cell? ⟨bc,oc,none⟩=some (iv (x.c i).st)/\w.cell? ⟨bc,oc+6,none⟩=some (iv (x.c i).to)
theorem VNt.f{ac:Nat->Option Addr}(h:VNt w b x ar kr ac an kn):FwAt w b x ac an kn:=
 ⟨h.n13,λi c=>by
  obtain⟨g,l,k,j,a,d,p,q⟩:=h.N i c;obtain⟨r,n,o,m,e,C⟩:=h.H.cell i c;rw[d] at e;cases e;exact⟨g,l,k,j,a,d,q,C.p0,C.p6⟩⟩
def acs(ac:Option Addr)(i:Nat):Option Addr:=ac.map λa=>⟨a.block,a.off+i*8,a.spot⟩
theorem VAt.vn(h:VAt w b x ar kr ac kc ag kg an kn):VNt w b x ar kr (acs ac) an kn:=
 ⟨⟨h.H.c3,h.H.lr,h.H.R,λi a=>by
  obtain⟨f,o,e,p⟩:=h.H.C i a;subst e;exact⟨f,o+i*8,rfl,p⟩⟩,h.n13,λi a=>by
  obtain⟨d,l,j,g,c,k,p,q⟩:=h.N i a;subst k;exact⟨d,l,j,g+i*8,c,rfl,p,q⟩⟩
end Go.Proofs.YtddkhnclmeikfaaGreat
