import Derived.Test.YtddkhnclmeikfaaGreatVn
import Derived.Test.YtddkhnclmeikfaaGreatSr
import Derived.Test.YtddkhnclmeikfaaGreatSpecH4
import Derived.Test.YtddkhnclmeikfaaGreatRby
import Derived.Laws.EntriesVeiled
set_option maxRecDepth 100000
set_option maxHeartbeats 8000000
namespace Go.Proofs.YtddkhnclmeikfaaGreat
open Go.RowKit Tryz
attribute [local go_sem ↓] Go.wp_at_zero Go.wp_at_succ
variable{w w':World}{kr kc kg B br bc g:Nat}{ar ac ag:Option Addr}{x:Hp}{pb pk role:Nat->Nat}{pa:Nat->Option Addr}
def Up(w w':World):Prop:=Ext w w'
theorem Up.ext(h:Up w w'):Ext w w':=h
theorem a5x{P:Program}{f:FuncId}{args:Array Value}{v:Value}(h:Calls P f args w' λe w''=>e=.returned v/\Ext w' w'')(c:Up w w'):Calls P f args w' λe w''=>e=.returned v/\Up w w'':=
 h.mono λ_ _ ⟨b,a⟩=>⟨b,Ext.trans c a⟩
theorem c0n(x:Hp)(b:Nat)(w:World)(h:HAt w b x ar kr ac kc ag kg):
  Calls prog 129 #[pP b] w λe w'=>∃r:Bool,e=.returned (.bool r)/\(r=true↔R4 x)/\Ext w w':=by
 have c3:=h.c3;have lr:=h.lr;have lc:=h.lc;go_enter func129,ntmps129;go_wp2_with fail;go_loopw [16] (λi wr=>∃k:Nat,k<=x.B.length/\i=iv k/\(∀j (H:j<x.B.length),j<k->hU x x.B[j] False)/\Ext w wr) (λi _=>x.B.length-(intOf i).toNat)
 case atStart=>exact⟨0,Nat.zero_le _,rfl,λj H h=>by omega,Ext.refl _⟩
 case round=>
  obtain⟨k,hk,rfl,s,t⟩:=hrel;have HA:=uU s;by_cases u:k<x.B.length
  ·obtain⟨b',o,rfl,p0,p1,p2⟩:=(h.ext t).R k u;have ah:(0:Int)<=(k:Int):=by omega
   have aa:(k:Int)<(x.B.length:Int):=by omega
   go_wp2_with fail;refine(a7a x b x.B[k] false _ (h.ext (t.alloc _))).mono ?_;rintro e I ⟨rfl,g⟩;have x1:Ext w I:=(t.alloc _).trans g;cases q:eV x x.B[k] false
   ·have N:=uU (show ¬R4 x from λr=>by
     have:=(a1q (m:=false) (p:=False) (by simp)).2 (r.1 k u);rw[this] at q;simp at q)
    go_wp2;go_ret;exact⟨false,rfl,⟨λf=>by simp at f,λr=>(N r).elim⟩,x1⟩
   ·have S:=uU (show ∀j (H:j<x.B.length),j<k+1->hU x x.B[j] False from λj H an=>by
     by_cases e:j=k
     ·subst e;exact(a1q (m:=false) (p:=False) (by simp)).1 q
     ·exact HA j H (by omega))
    go_wp2;go_roundw
    case rel=>exact⟨k+1,by omega,by go_num,S,x1⟩
    case measure=>simp [intOf];omega
  ·have A1:=uU (show ∀j (H:j<x.B.length),hU x x.B[j] False from λj H=>uH HA j H (by omega));have c4:=(h.ext t).c4;go_wp2_with fail;go_loopw [30] (λi wr=>∃k:Nat,k<=x.A.length/\i=iv k/\(∀j,j<k->¬(uE x j/\hQ (x.c j))/\∀l,l<(x.c j).F.length->a2u x j l ((x.c j).p l))/\Ext w wr) (λi _=>x.A.length-(intOf i).toNat)
   case atStart=>exact⟨0,Nat.zero_le _,rfl,λj h=>by omega,t⟩
   case round=>
    obtain⟨k,hk,rfl,s,t⟩:=hrel;have HA:=uU s;by_cases u:k<x.A.length
    ·obtain⟨b',o,ap,kp,rfl,C⟩:=(h.ext t).cell k u;obtain⟨p0,p1,p2,p3,p4,p5,p6,p7,lp,P⟩:=C;have HP:=uU P;have ah:(0:Int)<=(k:Int):=by omega
     have aa:(k:Int)<(x.A.length:Int):=by omega
     go_wp2_with fail;have F:=b0a x b k _ (h.ext (t.alloc (.cells #[iv (x.c k).st,iv (x.c k).kind,iv (x.c k).T,iv (x.c k).U,iv (x.c k).born,iv (x.c k).J,iv (x.c k).to,.slice ap (x.c k).F.length kp] 62))) (by omega) (by omega);rw[Int.toNat_natCast] at F;refine F.mono ?_;rintro e I ⟨rfl,rfl⟩;have A:=t.alloc (.cells #[iv (x.c k).st,iv (x.c k).kind,iv (x.c k).T,iv (x.c k).U,iv (x.c k).born,iv (x.c k).J,iv (x.c k).to,.slice ap (x.c k).F.length kp] 62);cases qd:a0p x k
     ·go_wp2_with fail;go_loopw [52] (λi G=>∃l:Nat,l<=(x.c k).F.length/\i=iv l/\(∀j,j<l->a2u x k j ((x.c k).p j))/\Ext w G/\Ext wr G) (λi _=>(x.c k).F.length-(intOf i).toNat)
      case atStart=>exact⟨0,Nat.zero_le _,rfl,λj h=>by omega,A,(Ext.refl wr).alloc _⟩
      case round=>
       obtain⟨l,hl,rfl,s,z,d⟩:=hrel;have W:=uU s;by_cases v:l<(x.c k).F.length
       ·obtain⟨b2,o2,rfl,q0,q1,q2,q3,q4,q5⟩:=uH HP l v;have e0:=d.keep q0;have e1:=d.keep q1;have e2:=d.keep q2;have e3:=d.keep q3;have e4:=d.keep q4;have e5:=d.keep q5;have ad:(0:Int)<=(l:Int):=by omega
        have ai:(l:Int)<((x.c k).F.length:Int):=by omega
        have M:¬uE x k:=λF=>by rw[<-a2h,qd] at F;simp at F
        have hm:=b2y (x:=x) (i:=k) (k:=l);have V:((!eU x k l)=true↔¬cH x k l):=by rw[<-hm];simp
        have K1:=uU (a1q (x:=x) (y:=((x.c k).p l).key) V);have K2:=uU (a1q (x:=x) (y:=((x.c k).p l).val) V);have ND:=uU M;go_wp2_with fail;refine(b8i x b k l _ (h.ext (z.alloc _))).mono ?_;rintro e w2 ⟨rfl,rfl⟩;have E:=z.alloc (.cells #[iv ((x.c k).p l).key.k,iv ((x.c k).p l).key.n,iv ((x.c k).p l).key.a,iv ((x.c k).p l).val.k,iv ((x.c k).p l).val.n,iv ((x.c k).p l).val.a] 154);have Q:=d.alloc (.cells #[iv ((x.c k).p l).key.k,iv ((x.c k).p l).key.n,iv ((x.c k).p l).key.a,iv ((x.c k).p l).val.k,iv ((x.c k).p l).val.n,iv ((x.c k).p l).val.a] 154);go_wp2_with fail;refine(a7a x b ((x.c k).p l).key (!eU x k l) _ (h.ext E)).mono ?_;rintro e w3 ⟨rfl,T⟩;have al:=(uK T).1;have Z:Ext w w3:=E.trans T;have y3:=Ext.trans Q T;cases O:eV x ((x.c k).p l).key (!eU x k l)
        ·have N:=uU (show ¬R4 x from λr=>by
          have:=K1.2 (((r.2 k u).2 l v).2 ND).1;rw[this] at O;simp at O)
         go_wp2;go_ret;exact⟨false,rfl,⟨λf=>by simp at f,λr=>(N r).elim⟩,Z⟩
        ·go_wp2_with fail;refine(a7a x b ((x.c k).p l).val (!eU x k l) _ (h.ext Z)).mono ?_;rintro e w4 ⟨rfl,J⟩;cases K:eV x ((x.c k).p l).val (!eU x k l)
         ·have N:=uU (show ¬R4 x from λr=>by
           have:=K2.2 (((r.2 k u).2 l v).2 ND).2;rw[this] at K;simp at K)
          go_wp2;go_ret;exact⟨false,rfl,⟨λf=>by simp at f,λr=>(N r).elim⟩,Z.trans J⟩
         ·have S:=uU (show ∀j,j<l+1->a2u x k j ((x.c k).p j) from λj H=>by
           by_cases e:j=l
           ·subst e;exact⟨λF=>(ND F).elim,λ_=>⟨K1.1 O,K2.1 K⟩⟩
           ·exact W j (by omega))
          go_wp2;go_roundw
          case rel=>exact⟨l+1,by omega,by go_num,S,Z.trans J,Ext.trans y3 J⟩
          case measure=>simp [intOf];omega
       ·have S:=uU (show ∀j,j<k+1->¬(uE x j/\hQ (x.c j))/\∀l,l<(x.c j).F.length->a2u x j l ((x.c j).p l) from λj H=>by
         by_cases e:j=k
         ·subst e;exact⟨λF=>by rw[<-a2h,qd] at F;simp at F,λl' ae=>uH W l' (by omega)⟩
         ·exact HA j (by omega))
        go_wp2;go_roundw
        case rel=>exact⟨k+1,by omega,by go_num,S,z⟩
        case measure=>simp [intOf];omega
     ·have HD:=uU (a2h.1 qd);by_cases X:hQ (x.c k)
      ·have N:=uU (show ¬R4 x from λr=>(r.2 k u).1 ⟨HD,X⟩);cases U:((x.c k).U == 1)
       ·have aj:((x.c k).U == 2)=true:=by unfold hQ at X;simp at U ⊢;omega
        go_wp2;go_ret;exact⟨false,rfl,⟨λf=>by simp at f,λr=>(N r).elim⟩,A⟩
       ·go_wp2;go_ret;exact⟨false,rfl,⟨λf=>by simp at f,λr=>(N r).elim⟩,A⟩
      ·have U:((x.c k).U == 1)=false:=by unfold hQ at X;simp;omega
       have aj:((x.c k).U == 2)=false:=by unfold hQ at X;simp;omega
       have QS:=uU X;go_wp2_with fail;go_loopw [52] (λi G=>∃l:Nat,l<=(x.c k).F.length/\i=iv l/\(∀j,j<l->a2u x k j ((x.c k).p j))/\Ext w G/\Ext wr G) (λi _=>(x.c k).F.length-(intOf i).toNat)
       case atStart=>exact⟨0,Nat.zero_le _,rfl,λj h=>by omega,A,(Ext.refl wr).alloc _⟩
       case round=>
        obtain⟨l,hl,rfl,s,z,d⟩:=hrel;have W:=uU s;by_cases v:l<(x.c k).F.length
        ·obtain⟨b2,o2,rfl,q0,q1,q2,q3,q4,q5⟩:=uH HP l v;have e0:=d.keep q0;have e1:=d.keep q1;have e2:=d.keep q2;have e3:=d.keep q3;have e4:=d.keep q4;have e5:=d.keep q5;have d4:=(h.ext z).c4;have ak:b<wr.heap.size:=uL d4;have ad:(0:Int)<=(l:Int):=by omega
         have ai:(l:Int)<((x.c k).F.length:Int):=by omega
         have E:=z.alloc (.cells #[iv ((x.c k).p l).key.k,iv ((x.c k).p l).key.n,iv ((x.c k).p l).key.a,iv ((x.c k).p l).val.k,iv ((x.c k).p l).val.n,iv ((x.c k).p l).val.a] 154);have Q:=d.alloc (.cells #[iv ((x.c k).p l).key.k,iv ((x.c k).p l).key.n,iv ((x.c k).p l).key.a,iv ((x.c k).p l).val.k,iv ((x.c k).p l).val.n,iv ((x.c k).p l).val.a] 154);go_wp2_with fail;have am:b<wr.heap.size+1:=by omega
         cases O:dY ((x.c k).p l).key x.A.length
         ·have N:=uU (show ¬R4 x from λr=>by
           have:=a0n.2 (((r.2 k u).2 l v).1 HD).1;rw[this] at O;simp at O)
          have F0:∀w',Up (wr.alloc (.cells #[iv ((x.c k).p l).key.k,iv ((x.c k).p l).key.n,iv ((x.c k).p l).key.a,iv ((x.c k).p l).val.k,iv ((x.c k).p l).val.n,iv ((x.c k).p l).val.a] 154)) w'->w'.cell? (aA wr.heap.size 0)=some (iv ((x.c k).p l).key.k)/\w'.cell? (aA wr.heap.size 1)=some (iv ((x.c k).p l).key.n)/\w'.cell? (aA wr.heap.size 2)=some (iv ((x.c k).p l).key.a)/\w'.cell? (aA b 4)=some (sO b' o x.A.length kc):=λw' D=>⟨D.ext.keep (by simp [go_sem]),D.ext.keep (by simp [go_sem]),D.ext.keep (by simp [go_sem]),D.ext.keep ((Ext.alloc (Ext.refl _) _).keep d4)⟩
          refine wp_region_quiet (C:=Up (wr.alloc (.cells #[iv ((x.c k).p l).key.k,iv ((x.c k).p l).key.n,iv ((x.c k).p l).key.a,iv ((x.c k).p l).val.k,iv ((x.c k).p l).val.n,iv ((x.c k).p l).val.a] 154))) (by kernel_rfl) (by kernel_rfl) (show Ext _ _ from(Ext.refl _).drew) ?_
          go_simp
          iterate 20 (first | go_big_quiet_skip | (go_big_quiet_want;go_big_quiet_op;first | go_big_quiet_on | (apply Exists.intro;refine⟨λw' D=>?_,?_⟩;(first | (go_at_call 207;exact a5x (a1w ((x.c k).p l).key x.A.length _) D) | (with_reducible rfl) | (go_simp;first | done | (with_reducible rfl) | (refine⟨?_,?_⟩ <;> with_reducible rfl)));go_big_quiet_on)))
          refine wpQuiet_nil ?_;intro I g;have g:=g.ext;go_wp2;go_ret;exact⟨false,rfl,⟨λf=>by simp at f,λr=>(N r).elim⟩,E.trans g⟩
         ·cases K:dY ((x.c k).p l).val x.A.length
          ·have N:=uU (show ¬R4 x from λr=>by
            have:=a0n.2 (((r.2 k u).2 l v).1 HD).2;rw[this] at K;simp at K)
           go_region_held3 (λw'=>w'.cell? (aA wr.heap.size 0)=some (iv ((x.c k).p l).key.k)/\w'.cell? (aA wr.heap.size 1)=some (iv ((x.c k).p l).key.n)/\w'.cell? (aA wr.heap.size 2)=some (iv ((x.c k).p l).key.a)/\w'.cell? (aA wr.heap.size 3)=some (iv ((x.c k).p l).val.k)/\w'.cell? (aA wr.heap.size 4)=some (iv ((x.c k).p l).val.n)/\w'.cell? (aA wr.heap.size 5)=some (iv ((x.c k).p l).val.a)/\w'.cell? (aA b 4)=some (sO b' o x.A.length kc)) (first | (simp [*];done) | go_keep)
            (first | (go_at_call_of 207 (((x.c k).p l).key.k);refine(a1w ((x.c k).p l).key x.A.length _).mono ?_;rintro e I ⟨rfl,g⟩;have L:=(uK g).1;have z1:wr.heap.size<I.heap.size:=(by have:=g.size;simp at this;omega);have ab:b<I.heap.size:=(by omega);simp only [World.size_drew,World.size_alloc] at L) | (go_at_call_of 207 (((x.c k).p l).val.k);refine(a1w ((x.c k).p l).val x.A.length _).mono ?_;rintro e w2 ⟨rfl,B⟩;have af:=(uK B).1))
           go_wp2;go_ret;exact⟨false,rfl,⟨λf=>by simp at f,λr=>(N r).elim⟩,(E.trans (Ext.trans ((Ext.refl _).drew) g)).trans B⟩
          ·have S:=uU (show ∀j,j<l+1->a2u x k j ((x.c k).p j) from λj H=>by
            by_cases e:j=l
            ·subst e;exact⟨λ_=>⟨a0n.1 O,a0n.1 K⟩,λnd=>(nd HD).elim⟩
            ·exact W j (by omega))
           go_region_held3 (λw'=>w'.cell? (aA wr.heap.size 0)=some (iv ((x.c k).p l).key.k)/\w'.cell? (aA wr.heap.size 1)=some (iv ((x.c k).p l).key.n)/\w'.cell? (aA wr.heap.size 2)=some (iv ((x.c k).p l).key.a)/\w'.cell? (aA wr.heap.size 3)=some (iv ((x.c k).p l).val.k)/\w'.cell? (aA wr.heap.size 4)=some (iv ((x.c k).p l).val.n)/\w'.cell? (aA wr.heap.size 5)=some (iv ((x.c k).p l).val.a)/\w'.cell? (aA b 4)=some (sO b' o x.A.length kc)) (first | (simp [*];done) | go_keep)
            (first | (go_at_call_of 207 (((x.c k).p l).key.k);refine(a1w ((x.c k).p l).key x.A.length _).mono ?_;rintro e I ⟨rfl,g⟩;have L:=(uK g).1;have z1:wr.heap.size<I.heap.size:=(by have:=g.size;simp at this;omega);have ab:b<I.heap.size:=(by omega);simp only [World.size_drew,World.size_alloc] at L) | (go_at_call_of 207 (((x.c k).p l).val.k);refine(a1w ((x.c k).p l).val x.A.length _).mono ?_;rintro e w2 ⟨rfl,B⟩;have af:=(uK B).1))
           go_wp2;go_roundw
           case rel=>exact⟨l+1,by omega,by go_num,S,(E.trans (Ext.trans ((Ext.refl _).drew) g)).trans B,(Ext.trans Q (Ext.trans ((Ext.refl _).drew) g)).trans B⟩
           case measure=>simp [intOf];omega
        ·have S:=uU (show ∀j,j<k+1->¬(uE x j/\hQ (x.c j))/\∀l,l<(x.c j).F.length->a2u x j l ((x.c j).p l) from λj H=>by
          by_cases e:j=k
          ·subst e;exact⟨λF=>uH QS F.2,λl' ae=>uH W l' (by omega)⟩
          ·exact HA j (by omega))
         go_wp2;go_roundw
         case rel=>exact⟨k+1,by omega,by go_num,S,z⟩
         case measure=>simp [intOf];omega
    ·have Y:=uU (show R4 x from⟨A1,λi hi=>uH HA i (by omega)⟩);go_wp2;go_ret;exact⟨true,rfl,⟨λ_=>uH Y,λ_=>rfl⟩,t⟩
def HRd(w:World)(y:Hp)(ar:Option Addr)(kr:Nat)(ac:Option Addr)(kc:Nat)(ag:Option Addr)(kg:Nat):Prop:=SlW w (.slice ar y.B.length kr) y.B/\SlC w (.slice ac y.A.length kc) y.A/\SlI w (.slice ag y.D.length kg) y.D
theorem HRd.ext{y:Hp}(h:HRd w y ar kr ac kc ag kg)(e:Ext w w'):HRd w' y ar kr ac kc ag kg:=⟨SlW.ext e h.1,SlC.ext e h.2.1,SlI.ext e h.2.2⟩
theorem HRd.zero(w:World):HRd w Hp0 none 0 none 0 none 0:=⟨tJ.nil,tJ.nil,tJ.nil⟩
theorem c3t(x:Hp)(i:Nat):(uD x i).B=x.B/\(uD x i).A.length=x.A.length/\(uD x i).D.length<=x.D.length+1:=by grind [uD]
theorem c3u(x:Hp)(i:Nat)(a:i<x.A.length)(q:Nat):((uD x i).c q).F=(x.c q).F:=by grind [uD,Hp.c,Hp.c_set,tQ]
theorem GAt.low[Inhabited uQ](hz:∀q,(default:uQ).z q=none){S:Nat->Prop}{vg:Value}(h:GAt B w g x ar kr ac kc vg br bc pb pa pk role)(o:uX S w w')(hS:∀q,S q->q<B):GAt B w' g x ar kr ac kc vg br bc pb pa pk role:=
 ⟨h.bx.only o (λs=>by have:=hS _ s;have:=h.lo;omega),uJ h.nf (o.block g h.nf.1 (λs=>by have:=hS _ s;have:=h.lo;omega)) o.size,h.lo,h.ha,h.hc,h.rw.only o (λhl s=>by have:=hS _ s;have:=(h.rw.nr hl).2;omega) (λhl s=>by have:=hS _ s;have:=(h.rw.nc hl).2;omega) (λq hq hl s=>by have:=hS _ s;have:=(h.rw.pl q hq hl).2.2.2;omega),h.gr.block (λq hq=>o.block q (h.gr.lt q hq).2 (λs=>by have:=hS _ s;have:=(h.gr.lt q hq).1;omega)),h.sp,h.kl,λq o h=>(by rw[hz q] at h;cases h),λhk=>(h.cc hk).block rfl (o.block bc (h.cc hk).nf.1 (λs=>by have:=hS _ s;have:=(h.cc hk).lo;omega)) o.size⟩
theorem GAt.rd[Inhabited uQ](h:GAt B w g x ar kr ac kc (.slice ag x.D.length kg) br bc pb pa pk role)(j:x.B.length<=1048576)(k:x.A.length<=1048576)(f:∀q,q<x.A.length->(x.c q).F.length<=200)(l:x.D.length<=1048576):HRd w x ar kr ac kc ag kg:=by
 refine⟨h.rw.slW kr h.ha j,h.rw.slC kc h.hc k f,⟨ag,kg,rfl,by omega,λi b=>?_⟩⟩;obtain⟨a,d,e,c,_⟩:=h.gr.at i b;exact⟨a,d,e,by rw[Nat.mul_one];exact c⟩
def a7d(c:Cl):Bool:=(c.kind == 0) && (c.T == 0) && (c.U == 0) && (c.born == 0) && (c.J == 0) && ((c.F.length:Int) == 0)
theorem a8g{c:Cl}:a7d c=true↔yV c:=by simp [a7d,yV,and_assoc]
theorem c0m(x:Hp)(b:Nat)(w:World)(h:HAt w b x ar kr ac kc ag kg):
  Calls prog 127 #[pP b] w λe w'=>∃r:Bool,e=.returned (.bool r)/\(r=true↔R2 x)/\Ext w w':=by
 have c4:=h.c4;have lc:=h.lc;go_enter func127,ntmps127;go_wp2_with fail;go_loopw [12] (λi wr=>∃k:Nat,k<=x.A.length/\i=iv k/\(∀j,j<k->hJ x j)/\Ext w wr) (λi _=>x.A.length-(intOf i).toNat)
 case atStart=>exact⟨0,Nat.zero_le _,rfl,λj h=>by omega,Ext.refl _⟩
 case round=>
  obtain⟨k,hk,rfl,m,p⟩:=hrel;have HA:=uU m;clear m;by_cases A:k<x.A.length
  ·have D:=h.ext p;obtain⟨b',o,ap,U,rfl,p0,p1,p2,p3,p4,p5,p6,p7,lp,P⟩:=D.cell k A;clear P;have H:=D.c2;have e5:=D.c5;have aj:b'<wr.heap.size:=uL p0;have hb:b<wr.heap.size:=uL e5;have ah:(0:Int)<=(k:Int):=by omega
   have ab:(k:Int)<(x.A.length:Int):=by omega
   have a:=p.alloc (.cells #[iv (x.c k).st,iv (x.c k).kind,iv (x.c k).T,iv (x.c k).U,iv (x.c k).born,iv (x.c k).J,iv (x.c k).to,.slice ap (x.c k).F.length U] 62)
   have N:=uU (show hJ x k->∀j,j<k+1->hJ x j from λJ j L=>by
    by_cases e:j=k
    ·subst e;exact J
    ·exact HA j (by omega))
   have n:=uU (show ¬hJ x k->¬R2 x from λJ r=>J (r.1 k A))
   go_upto_region 4 with fail
   go_cut [5] from 17 to 45 (λv wx=>v=.bool (a7d (x.c k))/\wx=wr.alloc (.cells #[iv (x.c k).st,iv (x.c k).kind,iv (x.c k).T,iv (x.c k).U,iv (x.c k).born,iv (x.c k).J,iv (x.c k).to,.slice ap (x.c k).F.length U] 62))
   case first=>
    cases z0:((x.c k).kind == 0)
    ·go_wp2_with fail;go_meet;exact⟨by simp [a7d,z0],rfl⟩
    ·skip
     cases z1:((x.c k).T == 0)
     ·go_wp2_with fail;go_meet;exact⟨by simp [a7d,z1],rfl⟩
     ·skip
      cases X:((x.c k).U == 0)
      ·go_wp2_with fail;go_meet;exact⟨by simp [a7d,X],rfl⟩
      ·skip
       cases Z:((x.c k).born == 0)
       ·go_wp2_with fail;go_meet;exact⟨by simp [a7d,Z],rfl⟩
       ·skip
        cases z4:((x.c k).J == 0)
        ·go_wp2_with fail;go_meet;exact⟨by simp [a7d,z4],rfl⟩
        ·skip
         go_wp2_with fail;go_meet;exact⟨by simp [a7d,z0,z1,X,Z,z4],rfl⟩
   case rest=>
    obtain⟨rfl,rfl⟩:=hcut;cases q:((x.c k).st == 0)
    ·cases s:((x.c k).st == 2)
     ·cases G:((x.c k).st == 1)
      ·have d:=uU (n (λc=>by simp at q G s;unfold hJ at c;rcases c with c | c | c <;> simp [c.1] at q G s));go_wp2_with fail;go_ret
       first | (exact Or.inl ⟨rfl,d,a⟩) | (exact⟨false,rfl,⟨λf=>by simp at f,λr=>(d r).elim⟩,a⟩)
      ·have y:=uU (show a2t x (x.c k)->hJ x k from λu=>Or.inr (Or.inr ⟨by simpa using G,u⟩))
       have g:=uU (show ¬a2t x (x.c k)->¬hJ x k from λu c=>by
        simp at q G s;rcases c with c | c | c
        ·exact q c.1
        ·exact s c.1
        ·exact u c.2)
       cases v0:eL (x.c k).kind 0 255
       ·have d:=uU (n (g (λu=>a3j v0 u.1)));go_wp2_with fail;go_quiet ((go_at_call 60;first | (refine Calls.quiet_of_same (a0u _ _ _ true ?_ _);assumption) | (refine Calls.quiet_of_same (a0u _ _ _ false ?_ _);assumption)));go_wp2_with fail;go_ret
        first | (exact Or.inl ⟨rfl,d,Ext.drewN a _⟩) | (exact⟨false,rfl,⟨λf=>by simp at f,λr=>(d r).elim⟩,Ext.drewN a _⟩)
       ·skip
        cases W:eL (x.c k).T 0 3
        ·have d:=uU (n (g (λu=>a3j W u.2.1)));go_wp2_with fail;go_quiet ((go_at_call 60;first | (refine Calls.quiet_of_same (a0u _ _ _ true ?_ _);assumption) | (refine Calls.quiet_of_same (a0u _ _ _ false ?_ _);assumption)));go_wp2_with fail;go_ret
         first | (exact Or.inl ⟨rfl,d,Ext.drewN a _⟩) | (exact⟨false,rfl,⟨λf=>by simp at f,λr=>(d r).elim⟩,Ext.drewN a _⟩)
        ·skip
         cases V:eL (x.c k).U 0 3
         ·have d:=uU (n (g (λu=>a3j V u.2.2.1)));go_wp2_with fail;go_quiet ((go_at_call 60;first | (refine Calls.quiet_of_same (a0u _ _ _ true ?_ _);assumption) | (refine Calls.quiet_of_same (a0u _ _ _ false ?_ _);assumption)));go_wp2_with fail;go_ret
          first | (exact Or.inl ⟨rfl,d,Ext.drewN a _⟩) | (exact⟨false,rfl,⟨λf=>by simp at f,λr=>(d r).elim⟩,Ext.drewN a _⟩)
         ·skip
          cases v3:eL (x.c k).born 1 x.born
          ·have d:=uU (n (g (λu=>a3j v3 u.2.2.2.1)));go_wp2_with fail;go_quiet ((go_at_call 60;first | (refine Calls.quiet_of_same (a0u _ _ _ true ?_ _);assumption) | (refine Calls.quiet_of_same (a0u _ _ _ false ?_ _);assumption)));go_wp2_with fail;go_ret
           first | (exact Or.inl ⟨rfl,d,Ext.drewN a _⟩) | (exact⟨false,rfl,⟨λf=>by simp at f,λr=>(d r).elim⟩,Ext.drewN a _⟩)
          ·skip
           cases T:eL (x.c k).J 0 2
           ·have d:=uU (n (g (λu=>a3j T u.2.2.2.2.1)));go_wp2_with fail;go_quiet ((go_at_call 60;first | (refine Calls.quiet_of_same (a0u _ _ _ true ?_ _);assumption) | (refine Calls.quiet_of_same (a0u _ _ _ false ?_ _);assumption)));go_wp2_with fail;go_ret
            first | (exact Or.inl ⟨rfl,d,Ext.drewN a _⟩) | (exact⟨false,rfl,⟨λf=>by simp at f,λr=>(d r).elim⟩,Ext.drewN a _⟩)
           ·skip
            cases Q:((x.c k).to != 0);rotate_left
            ·have d:=uU (n (g (λu=>by simp at Q;exact Q u.2.2.2.2.2.1)));go_wp2_with fail;go_quiet ((go_at_call 60;first | (refine Calls.quiet_of_same (a0u _ _ _ true ?_ _);assumption) | (refine Calls.quiet_of_same (a0u _ _ _ false ?_ _);assumption)));go_wp2_with fail;go_ret
             first | (exact Or.inl ⟨rfl,d,Ext.drewN a _⟩) | (exact⟨false,rfl,⟨λf=>by simp at f,λr=>(d r).elim⟩,Ext.drewN a _⟩)
            ·skip
             by_cases v6:200<(x.c k).F.length
             ·have d:=uU (n (g (λu=>by have:=u.2.2.2.2.2.2;omega)));go_wp2_with fail;go_quiet ((go_at_call 60;first | (refine Calls.quiet_of_same (a0u _ _ _ true ?_ _);assumption) | (refine Calls.quiet_of_same (a0u _ _ _ false ?_ _);assumption)));go_wp2_with fail;go_ret
              first | (exact Or.inl ⟨rfl,d,Ext.drewN a _⟩) | (exact⟨false,rfl,⟨λf=>by simp at f,λr=>(d r).elim⟩,Ext.drewN a _⟩)
             ·skip
              have S:=uU (N (y ⟨a2v v0,a2v W,a2v V,a2v v3,a2v T,by simpa using Q,by omega⟩));go_wp2_with fail;go_quiet ((go_at_call 60;first | (refine Calls.quiet_of_same (a0u _ _ _ true ?_ _);assumption) | (refine Calls.quiet_of_same (a0u _ _ _ false ?_ _);assumption)));go_wp2_with fail;go_roundw
              case rel=>exact⟨k+1,by omega,by go_num,S,Ext.drewN a _⟩
              case measure=>simp [intOf];omega
     ·have y:=uU (show eH x k (x.c k)->hJ x k from λu=>Or.inr (Or.inl ⟨by simpa using s,u⟩))
      have g:=uU (show ¬eH x k (x.c k)->¬hJ x k from λu c=>by
       simp at q s;rcases c with c | c | c
       ·exact q c.1
       ·exact u c.2
       ·omega)
      cases z:a7d (x.c k)
      ·have d:=uU (n (g (λu=>by have:=a8g.2 u.1;rw[z] at this;simp at this)));go_wp2_with fail;go_ret
       first | (exact Or.inl ⟨rfl,d,a⟩) | (exact⟨false,rfl,⟨λf=>by simp at f,λr=>(d r).elim⟩,a⟩)
      ·by_cases m1:x.E<4
       ·have d:=uU (n (g (λu=>by have:=u.2.1;omega)));go_wp2_with fail;go_ret
        first | (exact Or.inl ⟨rfl,d,a⟩) | (exact⟨false,rfl,⟨λf=>by simp at f,λr=>(d r).elim⟩,a⟩)
       ·by_cases m2:(x.c k).to<0
        ·have d:=uU (n (g (λu=>by have:=u.2.2.1;omega)));go_wp2_with fail;go_ret
         first | (exact Or.inl ⟨rfl,d,a⟩) | (exact⟨false,rfl,⟨λf=>by simp at f,λr=>(d r).elim⟩,a⟩)
        ·by_cases m3:(k:Int)<=(x.c k).to
         ·have d:=uU (n (g (λu=>by have:=u.2.2.2.1;omega)));go_wp2_with fail;go_ret
          first | (exact Or.inl ⟨rfl,d,a⟩) | (exact⟨false,rfl,⟨λf=>by simp at f,λr=>(d r).elim⟩,a⟩)
         ·obtain⟨t,I⟩:=Int.eq_ofNat_of_zero_le (show 0<=(x.c k).to by omega);have hu:=uU (a9g x b (x.c k).to _ (h.ext a) (by omega) (by omega));cases K:a8z x (x.c k).to.toNat
          ·have d:=uU (n (g (λu=>by have:=b7k.2 u.2.2.2.2.1;rw[this] at K;simp at K)));clear I;go_wp2_with (go_at_call 203;refine hu.mono ?_;rintro e w' ⟨rfl,rfl⟩);go_ret
           first | (exact Or.inl ⟨rfl,d,a⟩) | (exact⟨false,rfl,⟨λf=>by simp at f,λr=>(d r).elim⟩,a⟩)
          ·have F:=uU I;have Y:=uU (show(x.E=4->∀j:Nat,(j:Int)<(x.c k).to->(x.c j).st≠0)->∀j,j<k+1->hJ x j from λhx=>uH N (y ⟨a8g.1 z,by omega,by omega,by omega,b7k.1 K,hx⟩));have B:=uU (λl (hl:l<t)=>D.cell l (by omega));have g4:=D.c4;clear I;go_wp2_with (go_at_call 203;refine hu.mono ?_;rintro e w' ⟨rfl,rfl⟩)
           go_loop [6] (λi=>∃l:Nat,l<=t/\i=iv l/\(x.E=4->∀j,j<l->(x.c j).st≠0)) (λi=>t-(intOf i).toNat)
           case atStart=>exact⟨0,Nat.zero_le _,rfl,λ_ j h=>by omega⟩
           case round=>
            obtain⟨l,hl,rfl,m⟩:=hrel;have HB:=uU m;clear m;by_cases M:l<t
            ·have C:(l:Int)<(x.c k).to:=by have:=uH F;omega
             cases R:(x.E == 4)
             ·have S:=uU (Y (λe=>by simp [e] at R));go_wp2_with fail;go_roundw
              case rel=>exact⟨k+1,by omega,by go_num,S,a⟩
              case measure=>simp [intOf];omega
             ·obtain⟨b2,o2,ad,af,H,r0,r1,r2,r3,r4,r5,r6,r7,aa,P2⟩:=B l M;cases H;clear P2 r1 r2 r3 r4 r5 r6 r7;have ae:(0:Int)<=(l:Int):=by omega
              have ai:(l:Int)<(x.A.length:Int):=by have:=uH F;omega
              cases m6:((x.c l).st == 0)
              ·have S:=uU (show x.E=4->∀j,j<l+1->(x.c j).st≠0 from λe j L=>by
                by_cases H:j=l
                ·subst H;simpa using m6
                ·exact HB e j (by omega))
               go_wp2_with fail
               go_round
               case rel=>exact⟨l+1,by omega,by go_num,S⟩
               case measure=>simp [intOf];omega
              ·have d:=uU (n (g (λu=>u.2.2.2.2.2 (by simpa using R) l C (by simpa using m6))));go_wp2_with fail;go_ret
               first | (exact Or.inl ⟨rfl,d,a⟩) | (exact⟨false,rfl,⟨λf=>by simp at f,λr=>(d r).elim⟩,a⟩)
            ·have C:¬(l:Int)<(x.c k).to:=by have:=uH F;omega
             have S:=uU (Y (λe j L=>uH HB e j (by have:=uH F;omega)));go_wp2_with fail;go_roundw
             case rel=>exact⟨k+1,by omega,by go_num,S,a⟩
             case measure=>simp [intOf];omega
    ·have y:=uU (show yV (x.c k)/\(x.c k).to=0->hJ x k from λu=>Or.inl ⟨by simpa using q,u⟩)
     have g:=uU (show ¬(yV (x.c k)/\(x.c k).to=0)->¬hJ x k from λu c=>by
      simp at q;rcases c with c | c | c
      ·exact u c.2
      ·omega
      ·omega)
     cases z:a7d (x.c k)
     ·have d:=uU (n (g (λu=>by have:=a8g.2 u.1;rw[z] at this;simp at this)));go_wp2_with fail;go_ret
      first | (exact Or.inl ⟨rfl,d,a⟩) | (exact⟨false,rfl,⟨λf=>by simp at f,λr=>(d r).elim⟩,a⟩)
     ·cases E:((x.c k).to == 0)
      ·have O:((x.c k).to != 0)=true:=by simpa using E
       have d:=uU (n (g (λu=>by simp [u.2] at E)));go_wp2_with fail;go_ret
       first | (exact Or.inl ⟨rfl,d,a⟩) | (exact⟨false,rfl,⟨λf=>by simp at f,λr=>(d r).elim⟩,a⟩)
      ·have O:((x.c k).to != 0)=false:=by simpa using E
       have S:=uU (N (y ⟨a8g.1 z,by simpa using E⟩));go_wp2_with fail;go_roundw
       case rel=>exact⟨k+1,by omega,by go_num,S,a⟩
       case measure=>simp [intOf];omega
  ·have A1:=uU (show ∀j,j<x.A.length->hJ x j from λj L=>uH HA j (by omega));go_wp2_with fail;refine(c0k x b _ (h.ext p)).mono ?_;rintro e w1 ⟨r,rfl,hr,hq⟩;have HR:=uU hr;clear hr;go_wp2_with fail;go_ret;exact⟨r,rfl,⟨λf=>⟨A1,HR.1 f⟩,λf=>HR.2 f.2⟩,p.trans hq⟩
theorem a9y.grow{C U V:Nat}{bg:Nat}(h:a9y B U w x br kr bc kc bg kg pb pa pk)(i:U<=V)(f:C<=B):a9y C V w x br kr bc kc bg kg pb pa pk:=
 ⟨h.r,h.s,h.p,h.g,h.p7,λq m j=>let ⟨a,b,c,d,e⟩:=h.pl q m j;⟨a,b,c,Nat.le_trans f d,Nat.lt_of_lt_of_le e i⟩,h.nr,h.nc,h.ng,h.d,h.dp,⟨⟨Nat.le_trans f h.b.1.1,Nat.lt_of_lt_of_le h.b.1.2 i⟩,⟨Nat.le_trans f h.b.2.1.1,Nat.lt_of_lt_of_le h.b.2.1.2 i⟩,⟨Nat.le_trans f h.b.2.2.1,Nat.lt_of_lt_of_le h.b.2.2.2 i⟩⟩,h.l,h.k⟩
def HA(B U:Nat)(w:World)(y:Hp)(ar:Option Addr)(kr:Nat)(ac:Option Addr)(kc:Nat)(ag:Option Addr)(kg:Nat):Prop:=(y=Hp0/\ar=none/\kr=0/\ac=none/\kc=0/\ag=none/\kg=0)\/∃br bc bg pb pa pk,ar=some ⟨br,0,none⟩/\ac=some ⟨bc,0,none⟩/\ag=some ⟨bg,0,none⟩/\a9y B U w y br kr bc kc bg kg pb pa pk
theorem HA.zero(B U:Nat)(w:World):HA B U w Hp0 none 0 none 0 none 0:=.inl ⟨rfl,rfl,rfl,rfl,rfl,rfl,rfl⟩
theorem dX.r16(h:dX x 0):0<x.B.length/\x.B.length<=100:=by have:=h.all.1.B;omega
end Go.Proofs.YtddkhnclmeikfaaGreat
