import Derived.Test.YtddkhnclmeikfaaGreatShelf
import Derived.Test.YtddkhnclmeikfaaGreatLt
import Derived.Test.YtddkhnclmeikfaaGreatImpJ
import Derived.Test.YtddkhnclmeikfaaGreatEc0
import Derived.Test.YtddkhnclmeikfaaGreatPq
import Derived.Test.YtddkhnclmeikfaaGreatPw
import Derived.Test.YtddkhnclmeikfaaGreatTd
import Derived.Shelf.SlSortCmp.NoneTotal
set_option maxRecDepth 100000
set_option maxHeartbeats 8000000
namespace Go.Proofs.YtddkhnclmeikfaaGreat
open Go.RowKit Go.Proofs.Tryz
attribute [local go_sem ↓] Go.wp_at_zero Go.wp_at_succ
variable{w w' w2:World}{x:Hp}{bn n B on kr kn k base r bv b i j bm kc br hd l kg bw r1 B0 r2 cap gb:Nat}{Mt St O Mt' St' K M2 S2 M3 S3 M Ls M1 S1 M' S':List Nat}{ar ac ag an g:Option Addr}{v vf v4 v8 vk v':Value}{pb cB cO pk role:Nat->Nat}{F:List Int}{y:Wd}{Q S:Nat->Prop}{pa:Nat->Option Addr}{t mt e et:TypeId}{P:Program}{ob:Obj}
theorem a7k(x:Hp)(b n cap:Nat)(a:Option Addr)(f:Nat->Pr)(s:Bool)(l:s=true↔∃k,k<n/\(hwB x (f k).key=true\/hwB x (f k).val=true))(w:World)(h:VAt w b x ar kr ac kc ag kg an kn)
  (i:n<=35184372088832) (P:∀k,k<n->∃b' o',a=some (aA b' o')/\qN w b' (o'+k*6) (f k)) (j:∀k,k<n->uW (f k).key x.A.length/\uW (f k).val x.A.length) :
  Calls prog 185 #[pP b,.slice a n cap] w λe w'=>e=.returned (.bool s)/\Ext w w':=
 (a3r x b n cap a f w h i P j).mono λe w' ⟨r,c,g,d⟩=>by
  have:r=s:=by rw[Bool.eq_iff_iff];exact g.trans l.symm
  rw[<-this];exact⟨c,d⟩
theorem b7c(x:Hp)(b:Nat)(w:World)(h:VAt w b x ar kr ac kc ag kg an kn)(ah:a2p w x ac)(r1:R1 x)(r2:R2 x)(r4:R4 x)(r5:R5 x)(r6:R6 x):
  Calls prog 113 #[pP b] w λe w'=>∃r:Bool,Hid (e=.returned (.bool r))/\(r=true↔R7 x)/\Ext w w':=by
 have c5:=h.H.c5;have ay:=h.n13;have HV:=uU h;have ad:=uU ah;have lc:=h.H.lc;have aj:0<=x.sub:=r1.sub.1;have Q2:=uU r2;have Q4:=uU r4;have Q5:=uU r5;have Q6:=uU r6;cases tm:a2a x
 ·have Y:=uU (show R7 x from λm=>by rw[<-a2n,tm] at m;simp at m);go_enter func113,ntmps113;go_wp2_with fail;refine(a9k x b false tm _ c5).mono ?_;rintro e w1 ⟨rfl,rfl⟩;go_wp2;go_ret;exact⟨true,rfl,⟨λ_=>uH Y,λ_=>rfl⟩,Ext.refl _⟩
 have Z:=uU (a2n.1 tm);have z:=uU (R7_iff Q2 Q4 Q5 Q6 Z);go_enter func113,ntmps113;go_wp2_with fail;refine(a9k x b true tm _ c5).mono ?_;rintro e w1 ⟨rfl,rfl⟩;go_wp2_with fail;go_loopw [13] (λi wr=>∃(k:Nat),k<=x.A.length/\i=iv k/\Hid (∀i,i<k->¬(a0w (x.c i)=true/\qV (x.c i)=true/\(x.E=2\/(i:Int)<x.I))/\((x.c i).J=2->¬∃k,k<(x.c i).F.length/\(hwB x ((x.c i).p k).key=true\/hwB x ((x.c i).p k).val=true)))/\Ext w1 wr) (λi _=>x.A.length-(intOf i).toNat)
 case atStart=>exact⟨0,Nat.zero_le _,rfl,λj hj=>by omega,Ext.refl _⟩
 case round=>
  obtain⟨k,J,rfl,HA,a⟩:=hrel;by_cases v:k<x.A.length
  ·have T:=HV.ext a;obtain⟨F,I,bc,oc,rfl,rfl,m0,O⟩:=T.N k v;obtain⟨aw,au,y,o,e2,C⟩:=T.H.cell k v;cases e2;have ba:=T.n13;have d:=uU T;have M:=uU C;have af:=uU C.P;have p5:=C.p5;have p7:=C.p7;have lp:=C.lp;have bd:(0:Int)<=(k:Int):=by omega
   have aq:(k:Int)<(x.A.length:Int):=by omega
   have V:=uU (λl (hl:l<(x.c k).F.length)=>(a9m Q4 Z k l v hl).1)
   have ST:=uU (show ¬(a0w (x.c k)=true/\qV (x.c k)=true/\(x.E=2\/(k:Int)<x.I))->((x.c k).J=2->¬∃l,l<(x.c k).F.length/\(hwB x ((x.c k).p l).key=true\/hwB x ((x.c k).p l).val=true))->∀i,i<k+1->¬(a0w (x.c i)=true/\qV (x.c i)=true/\(x.E=2\/(i:Int)<x.I))/\((x.c i).J=2->¬∃k,k<(x.c i).F.length/\(hwB x ((x.c i).p k).key=true\/hwB x ((x.c i).p k).val=true)) from λh1 h2 j hj=>by
    by_cases e:j=k
    ·rw[e];exact⟨h1,h2⟩
    ·exact HA j (by omega))
   cases W:a0w (x.c k)
   ·have L:=uU (show ¬(a0w (x.c k)=true/\qV (x.c k)=true/\(x.E=2\/(k:Int)<x.I)) from λq=>by rw[W] at q;simp at q);go_wp2_with fail;refine(a3a (x.c k) F (I+k*2) _ _ y o _ O M).mono ?_;rintro e w2 ⟨rfl,rfl⟩;rw[W];cases B:((x.c k).J == 2)
    ·have D:=uU (ST L (λe=>by rw[e] at B;simp at B));go_wp2;go_roundw
     case rel=>exact⟨k+1,by omega,by go_num,D,a⟩
     case measure=>simp [intOf];omega
    ·go_wp2_with fail;refine(a3r x b (x.c k).F.length o y (x.c k).p _ (HV.ext a) lp af V).mono ?_;rintro e w6 ⟨r,rfl,R,A⟩;have Q:=Ext.trans a A;cases r
     ·have D:=uU (ST L (λ_ q=>by have:=R.2 q;simp at this));go_wp2;go_roundw
      case rel=>exact⟨k+1,by omega,by go_num,D,Q⟩
      case measure=>simp [intOf];omega
     ·have N:=uU (show ¬R7 x from λK=>((z.1 K).1 k v).2 (by simpa using B) (R.1 rfl));go_wp2;go_ret;exact⟨false,rfl,⟨λf=>by simp at f,λr=>(N r).elim⟩,Q⟩
   ·cases tw:qV (x.c k)
    ·have L:=uU (show ¬(a0w (x.c k)=true/\qV (x.c k)=true/\(x.E=2\/(k:Int)<x.I)) from λq=>by rw[tw] at q;simp at q);go_wp2_with fail;refine(a3a (x.c k) F (I+k*2) _ _ y o _ O M).mono ?_;rintro e w2 ⟨rfl,rfl⟩;rw[W];go_wp2_with fail;refine(a5g (x.c k) F (I+k*2) _ _ y o _ O M).mono ?_;rintro e w3 ⟨rfl,rfl⟩;rw[tw];cases B:((x.c k).J == 2)
     ·have D:=uU (ST L (λe=>by rw[e] at B;simp at B));go_wp2;go_roundw
      case rel=>exact⟨k+1,by omega,by go_num,D,a⟩
      case measure=>simp [intOf];omega
     ·go_wp2_with fail;refine(a3r x b (x.c k).F.length o y (x.c k).p _ (HV.ext a) lp af V).mono ?_;rintro e w6 ⟨r,rfl,R,A⟩;have Q:=Ext.trans a A;cases r
      ·have D:=uU (ST L (λ_ q=>by have:=R.2 q;simp at this));go_wp2;go_roundw
       case rel=>exact⟨k+1,by omega,by go_num,D,Q⟩
       case measure=>simp [intOf];omega
      ·have N:=uU (show ¬R7 x from λK=>((z.1 K).1 k v).2 (by simpa using B) (R.1 rfl));go_wp2;go_ret;exact⟨false,rfl,⟨λf=>by simp at f,λr=>(N r).elim⟩,Q⟩
    ·cases tr:((x.E == 2) || decide ((k:Int)<x.I))
     ·have L:=uU (show ¬(a0w (x.c k)=true/\qV (x.c k)=true/\(x.E=2\/(k:Int)<x.I)) from λq=>by
       have:=q.2.2;simp at tr;omega)
      go_wp2_with fail;refine(a3a (x.c k) F (I+k*2) _ _ y o _ O M).mono ?_;rintro e w2 ⟨rfl,rfl⟩;rw[W];go_wp2_with fail;refine(a5g (x.c k) F (I+k*2) _ _ y o _ O M).mono ?_;rintro e w3 ⟨rfl,rfl⟩;rw[tw];go_wp2_with fail;refine(b0e x b F (I+k*2) k _ d.H.c5 d.H.c6 m0).mono ?_;rintro e w4 ⟨rfl,u⟩;rw[tr];have x4:=a.trans u;have ak:=uU ((M.ext u).P);have az:=u.keep O;have bb:=u.keep p5;have ax:=u.keep p7;cases B:((x.c k).J == 2)
      ·have D:=uU (ST L (λe=>by rw[e] at B;simp at B));go_wp2;go_roundw
       case rel=>exact⟨k+1,by omega,by go_num,D,x4⟩
       case measure=>simp [intOf];omega
      ·go_wp2_with fail;refine(a3r x b (x.c k).F.length o y (x.c k).p _ (HV.ext x4) lp ak V).mono ?_;rintro e w6 ⟨r,rfl,R,A⟩;have Q:=Ext.trans x4 A;cases r
       ·have D:=uU (ST L (λ_ q=>by have:=R.2 q;simp at this));go_wp2;go_roundw
        case rel=>exact⟨k+1,by omega,by go_num,D,Q⟩
        case measure=>simp [intOf];omega
       ·have N:=uU (show ¬R7 x from λK=>((z.1 K).1 k v).2 (by simpa using B) (R.1 rfl));go_wp2;go_ret;exact⟨false,rfl,⟨λf=>by simp at f,λr=>(N r).elim⟩,Q⟩
     ·have N:=uU (show ¬R7 x from λK=>((z.1 K).1 k v).1 ⟨W,tw,by simpa using tr⟩);go_wp2_with fail;refine(a3a (x.c k) F (I+k*2) _ _ y o _ O M).mono ?_;rintro e w2 ⟨rfl,rfl⟩;rw[W];go_wp2_with fail;refine(a5g (x.c k) F (I+k*2) _ _ y o _ O M).mono ?_;rintro e w3 ⟨rfl,rfl⟩;rw[tw];go_wp2_with fail;refine(b0e x b F (I+k*2) k _ d.H.c5 d.H.c6 m0).mono ?_;rintro e w4 ⟨rfl,u⟩;rw[tr];have x4:=a.trans u;go_wp2;go_ret;exact⟨false,rfl,⟨λf=>by simp at f,λr=>(N r).elim⟩,x4⟩
  ·have A1:=uU (show R7b x from λi hi=>uH HA i (by omega));have T:=HV.ext a;have d7:=T.H.c7;have d:=uU T;obtain⟨s,hs⟩:∃s:Nat,x.sub=(s:Int):=⟨x.sub.toNat,by omega⟩;rw[hs] at d7;have HS:=uU hs;have F0:∀w',Up wr w'->w'.cell? (aA b 7)=some (iv (s:Int)):=λw' e=>e.ext.keep d7
   by_cases X:x.D.length=0
   ·have d8:=d.H.c8;rw[X] at d8
    have ai:s=0:=by
     have S:=uH Q6;have n:=uH Z;have:=uH HS;unfold uY at n;rcases n with n | n
     ·have:=S.2.2.2 (.inl n);omega
     ·have:=(S.2.1 n).2.1 X;omega
    subst ai;have Y:=uU (show R7 x from z.2 ⟨A1,λ_ g=>(g X).elim⟩);have HG:=uU (λw' (e:Up wr w')=>a5x ((a7h b w' (e.ext.keep d8)).mono λ_ _ ⟨he,U⟩=>⟨he,U ▸ Ext.refl w'⟩) e);have HW:=uU (λw' (e:Up wr w')=>a5x (a7k x b 0 0 none (λ_=>Pr0) false (by simp) w' (d.ext e.ext) (by omega) (λk J=>by omega) (λk J=>by omega)) e);go_wp2_with fail;refine wp_region_quiet (C:=Up wr) (by kernel_rfl) (by kernel_rfl) (show Ext _ _ from(Ext.refl _).drew) ?_
    go_simp
    iterate 12 (first | go_big_quiet_skip | (go_big_quiet_want;go_big_quiet_op;first | go_big_quiet_on | (apply Exists.intro;refine⟨λw' t=>?_,?_⟩;(first | (go_at_call 182;exact(uH HG w' t)) | (go_at_call 185;exact(uH HW w' t)) | (with_reducible rfl) | (go_simp;first | done | (with_reducible rfl) | (refine⟨?_,?_⟩ <;> with_reducible rfl)));go_big_quiet_on)))
    refine wpQuiet_nil ?_;intro w3 E;have x3:=a.trans E.ext;go_wp2;go_ret;exact⟨true,rfl,⟨λ_=>uH Y,λ_=>rfl⟩,x3⟩
   ·obtain⟨g1,g2,g3⟩:=g0_ok Q5 X;obtain⟨bc,oc,y,o,e2,C⟩:=d.H.cell x.g0 g1;have aa:0<x.D.length:=by omega
    have am:x.D[0]=(x.g0:Int):=by rw[<-g2];simp [aa]
    have av:s<=(x.c x.g0).F.length:=by
     have S:=uH Q6;have n:=uH Z;have:=uH HS;unfold uY at n;rcases n with n | n
     ·have:=S.2.2.2 (.inl n);omega
     ·have:=(S.2.1 n).2.2 X;omega
    have ao:s<=o:=by
     have hc:=(a2p.ext ad HV.H a) x.g0 g1 bc oc y (x.c x.g0).F.length o e2 C.p7;omega
    have i0:(0:Int)<=(s:Int):=by omega
    have i1:(s:Int)<=(o:Int):=by omega
    have ab:s<=35184372088832:=by have:=C.lp;omega
    have HG:=uU (λw' (e:Up wr w')=>a5x ((a7i x b x.g0 w' (d.ext e.ext) aa am g1 bc oc y o e2 (C.ext e.ext)).mono λ_ _ ⟨he,m,U⟩=>⟨he,U ▸ (Ext.refl w').drewN m⟩) e);have V:=uU (λl (hl:l<s)=>(a9m Q4 Z x.g0 l g1 (by omega)).1);have CC:=uU C
    have al:=uU (show x.E=2\/s=0 by
     have S:=uH Q6;have n:=uH Z;have:=uH HS;unfold uY at n;rcases n with n | n
     ·have:=S.2.2.2 (.inl n);omega
     ·exact .inl n)
    have ae:=uU (show R7c x↔¬∃k,k<s/\(hwB x ((x.c x.g0).p k).key=true\/hwB x ((x.c x.g0).p k).val=true) by
     have e1:x.sub.toNat=s:=by have:=uH HS;omega
     constructor
     ·rintro h ⟨k,J,U⟩;rcases uH al with p | p
      ·exact h p X k (by rw[e1];exact J) U
      ·omega
     ·intro h _ _ k J U;exact h ⟨k,by rw[e1] at J;exact J,U⟩)
    by_cases G:∃k,k<s/\(hwB x ((x.c x.g0).p k).key=true\/hwB x ((x.c x.g0).p k).val=true)
    ·have N:=uU (show ¬R7 x from λK=>ae.1 (z.1 K).2 G);have HW:=uU (λw' (e:Up wr w')=>a5x (a7k x b s o y (x.c x.g0).p true ⟨λ_=>G,λ_=>rfl⟩ w' (d.ext e.ext) ab (λk J=>(CC.ext e.ext).P k (by omega)) V) e);go_wp2_with fail;refine wp_region_quiet (C:=Up wr) (by kernel_rfl) (by kernel_rfl) (show Ext _ _ from(Ext.refl _).drew) ?_
     go_simp
     iterate 12 (first | go_big_quiet_skip | (go_big_quiet_want;go_big_quiet_op;first | go_big_quiet_on | (apply Exists.intro;refine⟨λw' t=>?_,?_⟩;(first | (go_at_call 182;exact(uH HG w' t)) | (go_at_call 185;exact(uH HW w' t)) | (with_reducible rfl) | (go_simp;first | done | (with_reducible rfl) | (refine⟨?_,?_⟩ <;> with_reducible rfl)));go_big_quiet_on)))
     refine wpQuiet_nil ?_;intro w3 E;have x3:=a.trans E.ext;go_wp2;go_ret;exact⟨false,rfl,⟨λf=>by simp at f,λr=>(N r).elim⟩,x3⟩
    ·have Y:=uU (show R7 x from z.2 ⟨A1,ae.2 G⟩);have HW:=uU (λw' (e:Up wr w')=>a5x (a7k x b s o y (x.c x.g0).p false ⟨λf=>by simp at f,λq=>(G q).elim⟩ w' (d.ext e.ext) ab (λk J=>(CC.ext e.ext).P k (by omega)) V) e);go_wp2_with fail;refine wp_region_quiet (C:=Up wr) (by kernel_rfl) (by kernel_rfl) (show Ext _ _ from(Ext.refl _).drew) ?_
     go_simp
     iterate 12 (first | go_big_quiet_skip | (go_big_quiet_want;go_big_quiet_op;first | go_big_quiet_on | (apply Exists.intro;refine⟨λw' t=>?_,?_⟩;(first | (go_at_call 182;exact(uH HG w' t)) | (go_at_call 185;exact(uH HW w' t)) | (with_reducible rfl) | (go_simp;first | done | (with_reducible rfl) | (refine⟨?_,?_⟩ <;> with_reducible rfl)));go_big_quiet_on)))
     refine wpQuiet_nil ?_;intro w3 E;have x3:=a.trans E.ext;go_wp2;go_ret;exact⟨true,rfl,⟨λ_=>uH Y,λ_=>rfl⟩,x3⟩
def Rn(x:Hp):Nat->Prop
 | 0=>R1 x
 | 1=>R2 x
 | 2=>R3 x
 | 3=>R4 x
 | 4=>R5 x
 | 5=>R6 x
 | 6=>R7 x
 | _=>R8 x
theorem b7o{x:Hp}{k:Nat}(l:k<8)(h:∀j,j<k->Rn x j)(b:¬Rn x k):dX x ((k:Int)+1):=by
 unfold dX;have a:=h 0;have c:=h 1;have d:=h 2;have e:=h 3;have f:=h 4;have g:=h 5;have i:=h 6;simp only [Rn] at a c d e f g i
 match k,l with
 | 0,_=>exact .inl ⟨b,rfl⟩
 | 1,_=>exact .inr (.inl ⟨a (by omega),b,rfl⟩)
 | 2,_=>exact .inr (.inr (.inl ⟨a (by omega),c (by omega),b,rfl⟩))
 | 3,_=>exact .inr (.inr (.inr (.inl ⟨a (by omega),c (by omega),d (by omega),b,rfl⟩)))
 | 4,_=>exact .inr (.inr (.inr (.inr (.inl ⟨a (by omega),c (by omega),d (by omega),e (by omega),b,rfl⟩))))
 | 5,_=>exact .inr (.inr (.inr (.inr (.inr (.inl ⟨a (by omega),c (by omega),d (by omega),e (by omega),f (by omega),b,rfl⟩)))))
 | 6,_=>exact .inr (.inr (.inr (.inr (.inr (.inr (.inl ⟨a (by omega),c (by omega),d (by omega),e (by omega),f (by omega),g (by omega),b,rfl⟩))))))
 | 7,_=>exact .inr (.inr (.inr (.inr (.inr (.inr (.inr (.inl ⟨a (by omega),c (by omega),d (by omega),e (by omega),f (by omega),g (by omega),i (by omega),b,rfl⟩)))))))
theorem okis_ok(h:∀j,j<8->Rn x j):dX x 0:=by
 unfold dX;exact .inr (.inr (.inr (.inr (.inr (.inr (.inr (.inr ⟨h 0 (by omega),h 1 (by omega),h 2 (by omega),h 3 (by omega),h 4 (by omega),h 5 (by omega),h 6 (by omega),h 7 (by omega),rfl⟩)))))))
theorem rn_step(h:∀j,j<k->Rn x j)(a:Rn x k):∀j,j<k+1->Rn x j:=by grind [Rn]
theorem d0r(b:R2 x)(i:Nat)(a:i<x.A.length):(x.c i).F.length<=200:=by
 rcases b.1 i a with c | c | c
 ·have:=c.2.1.2.2.2.2.2;omega
 ·have:=c.2.1.2.2.2.2.2;omega
 ·exact c.2.2.2.2.2.2.2
theorem b7p(b:Nat):(∀w,(Instr.index 165 (.agg #[.func (.func 106) #[pP b] #[],.func (.func 108) #[pP b] #[],.func (.func 109) #[pP b] #[],.func (.func 110) #[pP b] #[],.func (.func 111) #[pP b] #[],.func (.func 112) #[pP b] #[],.func (.func 113) #[pP b] #[],.func (.func 114) #[pP b] #[]]) (iv 0)).run prog w=.ok (.func (.func 106) #[pP b] #[]) w)/\(∀w,(Instr.index 165 (.agg #[.func (.func 106) #[pP b] #[],.func (.func 108) #[pP b] #[],.func (.func 109) #[pP b] #[],.func (.func 110) #[pP b] #[],.func (.func 111) #[pP b] #[],.func (.func 112) #[pP b] #[],.func (.func 113) #[pP b] #[],.func (.func 114) #[pP b] #[]]) (iv 1)).run prog w=.ok (.func (.func 108) #[pP b] #[]) w)/\(∀w,(Instr.index 165 (.agg #[.func (.func 106) #[pP b] #[],.func (.func 108) #[pP b] #[],.func (.func 109) #[pP b] #[],.func (.func 110) #[pP b] #[],.func (.func 111) #[pP b] #[],.func (.func 112) #[pP b] #[],.func (.func 113) #[pP b] #[],.func (.func 114) #[pP b] #[]]) (iv 2)).run prog w=.ok (.func (.func 109) #[pP b] #[]) w)/\(∀w,(Instr.index 165 (.agg #[.func (.func 106) #[pP b] #[],.func (.func 108) #[pP b] #[],.func (.func 109) #[pP b] #[],.func (.func 110) #[pP b] #[],.func (.func 111) #[pP b] #[],.func (.func 112) #[pP b] #[],.func (.func 113) #[pP b] #[],.func (.func 114) #[pP b] #[]]) (iv 3)).run prog w=.ok (.func (.func 110) #[pP b] #[]) w)/\(∀w,(Instr.index 165 (.agg #[.func (.func 106) #[pP b] #[],.func (.func 108) #[pP b] #[],.func (.func 109) #[pP b] #[],.func (.func 110) #[pP b] #[],.func (.func 111) #[pP b] #[],.func (.func 112) #[pP b] #[],.func (.func 113) #[pP b] #[],.func (.func 114) #[pP b] #[]]) (iv 4)).run prog w=.ok (.func (.func 111) #[pP b] #[]) w)/\(∀w,(Instr.index 165 (.agg #[.func (.func 106) #[pP b] #[],.func (.func 108) #[pP b] #[],.func (.func 109) #[pP b] #[],.func (.func 110) #[pP b] #[],.func (.func 111) #[pP b] #[],.func (.func 112) #[pP b] #[],.func (.func 113) #[pP b] #[],.func (.func 114) #[pP b] #[]]) (iv 5)).run prog w=.ok (.func (.func 112) #[pP b] #[]) w)/\(∀w,(Instr.index 165 (.agg #[.func (.func 106) #[pP b] #[],.func (.func 108) #[pP b] #[],.func (.func 109) #[pP b] #[],.func (.func 110) #[pP b] #[],.func (.func 111) #[pP b] #[],.func (.func 112) #[pP b] #[],.func (.func 113) #[pP b] #[],.func (.func 114) #[pP b] #[]]) (iv 6)).run prog w=.ok (.func (.func 113) #[pP b] #[]) w)/\(∀w,(Instr.index 165 (.agg #[.func (.func 106) #[pP b] #[],.func (.func 108) #[pP b] #[],.func (.func 109) #[pP b] #[],.func (.func 110) #[pP b] #[],.func (.func 111) #[pP b] #[],.func (.func 112) #[pP b] #[],.func (.func 113) #[pP b] #[],.func (.func 114) #[pP b] #[]]) (iv 7)).run prog w=.ok (.func (.func 114) #[pP b] #[]) w):=
 ⟨λ_=>by kernel_rfl,λ_=>by kernel_rfl,λ_=>by kernel_rfl,λ_=>by kernel_rfl,λ_=>by kernel_rfl,λ_=>by kernel_rfl,λ_=>by kernel_rfl,λ_=>by kernel_rfl⟩
theorem c7h(x:Hp)(b:Nat)(w:World)(h:HAt w b x ar kr ac kc ag kg)(c:¬R1 x):
  Calls prog 68 #[pP b] w λe w'=>∃n:Int,Hid (e=.returned (iv n))/\dX x n/\Ext w w':=by
 obtain⟨p,_⟩:=b7p b;have g:=uU h;go_enter func68,ntmps68;go_wp2_with fail;go_loopw [24] (λi wr=>i=iv 0/\Ext w wr) (λ_ _=>0)
 case atStart=>exact⟨rfl,(Ext.refl w).alloc _⟩
 case round=>
  obtain⟨rfl,a⟩:=hrel;go_wp2_with fail;refine(a4g x b _ (g.ext a)).mono ?_;rintro e m ⟨r,rfl,l,d⟩;have f:=a.trans d;cases r
  ·have Y:=uU (b7o (x:=x) (k:=0) (by omega) (λj o=>by omega) c);go_wp2;go_ret;exact⟨1,rfl,Y,f⟩
  ·exact(c (l.1 rfl)).elim
theorem c4b(x:Hp)(b:Nat)(w:World)(h:VAt w b x ar kr ac kc ag kg an kn)(t:FAt w b x base vf F)(g:a2p w x ac)(r1:R1 x):
  Calls prog 68 #[pP b] w λe w'=>∃n:Int,Hid (e=.returned (iv n))/\dX x n/\Ext w w':=by
 obtain⟨G,y,B,z,D,I,E,A⟩:=b7p b;have d:x.A.length<=8000:=by have:=r1.M;have:=r1.A;omega
 have m:x.D.length<=8000:=by have:=r1.D;omega
 have HV:=uU h;have l:=uU t;have f:=uU g;go_enter func68,ntmps68;go_wp2_with fail;go_loopw [24] (λi wr=>∃k:Nat,k<=8/\i=iv k/\Hid (∀j,j<k->Rn x j)/\Ext w wr) (λi _=>8-(intOf i).toNat)
 case atStart=>exact⟨0,by omega,rfl,λj C=>by omega,(Ext.refl w).alloc _⟩
 case round=>
  obtain⟨k,u,rfl,HA,a⟩:=hrel;have c:=uU (HV.ext a);obtain rfl | rfl | rfl | rfl | rfl | rfl | rfl | rfl | rfl:k=0\/k=1\/k=2\/k=3\/k=4\/k=5\/k=6\/k=7\/k=8:=by omega
  all_goals go_wp2_with fail
  refine(a4g x b _ c.H).mono ?_;rotate_left;refine(b7b x b _ c (l.ext a) d).mono ?_;rotate_left;refine(b8q x b _ c d (d0r (HA 1 (by omega)))).mono ?_;rotate_left;refine(b6x x b _ c).mono ?_;rotate_left;refine(b4z x b _ c m d).mono ?_;rotate_left;refine(b1t x b _ c (HA 0 (by omega)) (HA 1 (by omega)) (HA 4 (by omega))).mono ?_;rotate_left;refine(b7c x b _ c (a2p.ext f HV.H a) (HA 0 (by omega)) (HA 1 (by omega)) (HA 3 (by omega)) (HA 4 (by omega)) (HA 5 (by omega))).mono ?_;rotate_left;refine(b3s x b _ c).mono ?_;rotate_left
  ·have Y:=uU (okis_ok (x:=x) HA);go_ret;exact⟨0,rfl,Y,a⟩
  all_goals
   rintro e v ⟨r,rfl,p,s⟩;have o:=a.trans s;cases r
   ·have Y:=uU (b7o (x:=x) (by omega) HA (λq=>by have:=p.2 q;simp at this));go_wp2;go_ret;exact⟨_,rfl,Y,o⟩
   ·have S:=uU (rn_step HA (p.1 rfl));go_wp2;go_roundw
    case rel=>exact⟨_,by omega,by go_num,S,o⟩
    case measure=>simp [intOf]
theorem a2p.extS(h:a2p w x ac)(j:SlC w (.slice ac x.A.length kc) x.A)(e:Ext w w'):a2p w' x ac:=λi a n m ad l c b d=>by
 obtain⟨q,k,f,_,p,_,_,_,_,_,_,_,g,o⟩:=SlC.nth j i a;rw[b] at f;cases f;have:=e.keep g;rw[this] at d;cases d;exact h i a _ _ _ _ _ b g
theorem a3w(x:Hp)(w:World)(H:SlW w (.slice ar x.B.length kr) x.B)(p:SlC w (.slice ac x.A.length kc) x.A)(G:SlI w (.slice ag x.D.length kg) x.D)(g:a2p w x ac):
  Calls prog 65 #[x.v (.slice ar x.B.length kr) (.slice ac x.A.length kc) (.slice ag x.D.length kg)] w λe w'=>Ext w w'/\Hid ((¬dX x 0/\e=.returned (.tuple #[.pointer none,.bool false]))\/(dX x 0/\∃b an kn,e=.returned (.tuple #[pP b,.bool true])/\VAt w' b x ar kr ac kc ag kg an kn/\Hid (∃bn on,an=some (aA bn on)))):=by
 have f:=(Ext.refl w).alloc (.cells #[iv x.M,iv x.K,iv x.born,.slice ar x.B.length kr,.slice ac x.A.length kc,iv x.E,iv x.I,iv x.sub,.slice ag x.D.length kg,iv x.per,iv x.V,iv x.Q,iv x.S] 34);have s:=uU (SlW.ext f H);have m:=uU (SlC.ext f p);have u:=uU (SlI.ext f G);have q:=uU (g.extS p f);go_enter func65,ntmps65;go_wp2_with fail;refine(d0q x _ s m u).mono ?_;rintro e I ⟨b,rfl,k,j⟩;have l:=f.trans k;rcases uH j with⟨hn,hh⟩ | ⟨hr,an,kn,base,vf,F,hv,hf,han⟩
 ·have z:=uU hh;go_wp2_with fail;refine(c7h x b _ z hn).mono ?_;rintro e A ⟨n,rfl,c,a⟩;have i:=l.trans a;have d:=uU c;cases t:(n == 0)
  ·have o:(n != 0)=true:=by simpa using t
   have N:=uU (show ¬dX x 0 from λh=>by have:=dX.uniq h d;simp at t;omega);go_wp2;go_ret2;exact⟨i,.inl ⟨N,rfl⟩⟩
  ·exfalso;have E:dX x 0:=by have:=uH d;simp at t;rw[t] at this;exact this
   have B:dX x 1:=.inl ⟨hn,rfl⟩;have:=dX.uniq E B;omega
 ·have HV:=uU hv;have y:=uU hf;have r:=uU (q.extS m k);have C:=uU hr;go_wp2_with fail;refine(c4b x b _ HV y r C).mono ?_;rintro e A ⟨n,rfl,c,a⟩;have i:=l.trans a;have d:=uU c;have D:=uU (HV.ext a);cases t:(n == 0)
  ·have o:(n != 0)=true:=by simpa using t
   have N:=uU (show ¬dX x 0 from λh=>by have:=dX.uniq h d;simp at t;omega);go_wp2;go_ret2;exact⟨i,.inl ⟨N,rfl⟩⟩
  ·have o:(n != 0)=false:=by simpa using t
   have Y:=uU (show dX x 0 by have:=uH d;simp at t;rw[t] at this;exact this);go_wp2;go_ret2;exact⟨i,.inr ⟨Y,b,an,kn,rfl,D,han⟩⟩
theorem a7m(y:Wd)(b:Nat)(w:World)(c:(y.k == 2)=false):
  Calls prog 123 #[pP b,y.v] w λe w'=>e=.returned (.pointer none)/\Ext w w':=by
 go_enter func123,ntmps123;go_wp2_with fail;refine(a8i y b _ c).mono ?_;rintro e d ⟨rfl,a⟩;go_wp2;go_ret;exact⟨rfl,Ext.trans ((Ext.refl w).alloc _) a⟩
def eN(x:Hp)(i:Nat):Nat:=if ((x.c i).st == 2)=true then (x.c i).to.toNat else i
theorem c1d(x:Hp)(y:Wd)(b i:Nat)(w:World){ac:Nat->Option Addr}(h:FwAt w b x ac an kn)(E:R2 x)(D:(y.k == 2)=true)(f:i<x.A.length)(j l:Nat)(K:an=some (aA j l)):
  Calls prog 123 #[pP b,.agg #[iv y.k,iv y.n,iv i]] w λe w'=>e=.returned (pQ j (l+eN x i*2))/\Ext w w':=by
 subst K;have g:=(Ext.refl w).alloc (.cells #[iv y.k,iv y.n,iv i] 152);cases v:((x.c i).st == 2)
 ·have L:=uU (show eN x i=i by simp only [eN,v];simp);obtain⟨z,p,F,G,q,_,o,u,_⟩:=h.N i f;cases q;have a:=h.n13;go_enter func123,ntmps123;go_wp2_with fail;refine(a3b y b x.A.length j l kn i _ D (g.keep a) f).mono ?_;rintro e J ⟨rfl,m⟩;have d:=g.trans m;have s:=d.keep o;have r:=d.keep u;go_wp2;go_ret;exact⟨by rw[uH L];rfl,d⟩
 ·have M:(x.c i).st=2:=by simpa using v
  obtain⟨t,B⟩:∃t:Nat,(x.c i).to=(t:Int):=⟨(x.c i).to.toNat,by
   have:=E.1 i f;unfold hJ eH at this;omega⟩
  have I:t<i:=by
   have:=E.1 i f;unfold hJ eH at this;omega
  have L:=uU (show eN x i=t by simp only [eN,v];simp [B]);obtain⟨z,p,F,G,q,_,o,u,A⟩:=h.N i f;cases q;rw[B] at A;have a:=h.n13;have P:(0:Int)<=(t:Int):=by omega
  have O:(t:Int)<(x.A.length:Int):=by omega
  go_enter func123,ntmps123;go_wp2_with fail;refine(a3b y b x.A.length j l kn i _ D (g.keep a) f).mono ?_;rintro e J ⟨rfl,m⟩;have d:=g.trans m;have s:=d.keep o;have r:=d.keep u;have H:=d.keep A;have C:=d.keep a;go_wp2_with fail;go_quiet (fail);go_wp2;go_ret;exact⟨by rw[uH L];rfl,d.drewN _⟩
theorem d2a(b:R2 x)(i:Nat)(a:i<x.A.length):eN x i<x.A.length:=by
 unfold eN
 split
 ·rename_i h;have d:(x.c i).st=2:=by simpa using h
  have:=b.1 i a;unfold hJ eH at this;omega
 ·exact a
theorem b1c[Inhabited uQ](h:SAt B w b x ar kr v4 v8 br cB cO bn pb pa pk kn hd vf F vk K role)(u:R2 x)(i:Nat)(f:i<x.A.length):
  Calls prog 123 #[pP b,.agg #[iv 2,iv 0,iv i]] w λe w'=>e=.returned (ndp bn (eN x i))/\Ext w w':=by
 have g:=(Ext.refl w).alloc (.cells #[iv 2,iv 0,iv i] 152);have d:=h.sb.n13;obtain⟨C,n⟩:=h.sb.nd i f;obtain⟨r,_,_,_,_,_,o⟩:=h.rw.s i f;have q:=uU (λW (e:Ext w W)=>a3b ⟨2,0,(i:Int)⟩ b x.A.length bn 0 kn i W (by simp) (e.keep d) f);cases m:((x.c i).st == 2)
 ·have L:=uU (show eN x i=i by simp only [eN,m];simp);go_enter func123,ntmps123;go_wp2_with fail;refine(q _ g).mono ?_;rintro e z ⟨rfl,j⟩;rw[Nat.zero_add];have a:=g.trans j;have l:=a.keep n;have k:=a.keep r;go_wp2;go_ret;exact⟨by rw[uH L];rfl,a⟩
 ·have D:(x.c i).st=2:=by simpa using m
  obtain⟨t,p⟩:∃t:Nat,(x.c i).to=(t:Int):=⟨(x.c i).to.toNat,by
   have:=u.1 i f;unfold hJ eH at this;omega⟩
  have y:t<i:=by
   have:=u.1 i f;unfold hJ eH at this;omega
  have L:=uU (show eN x i=t by simp only [eN,m];simp [p]);rw[p] at o;have G:(0:Int)<=(t:Int):=by omega
  have E:(t:Int)<(x.A.length:Int):=by omega
  go_enter func123,ntmps123;go_wp2_with fail;refine(q _ g).mono ?_;rintro e z ⟨rfl,j⟩;rw[Nat.zero_add];have a:=g.trans j;have l:=a.keep n;have k:=a.keep r;have v:=a.keep o;have A:=a.keep d;go_wp2_with fail;go_quiet (fail);go_wp2;go_ret;exact⟨by rw[uH L];rfl,a.drewN _⟩
theorem b8b(a o:Nat)(b:Int)(w:World)(c:w.cell? (aA a o)=some (iv b)):
  Calls prog 319 #[pQ a o] w λe w'=>e=.returned (.agg #[iv 2,iv 0,iv b])/\Ext w w':=by
 have d:a<w.heap.size:=uL c;go_enter func319,ntmps319;go_wp2;refine bodyPost_ret (v:=.agg #[iv 2,iv 0,iv b]) (by simp [results,results319,go_sem]) rfl ⟨rfl,?_⟩
 repeat (first | refine Ext.setCell ?_ (Nat.le_refl _) _ | exact(Ext.refl w).alloc _)
theorem d2b(y:Wd)(b:Nat)(w:World)(p:(y.k == 2)=false):
  Calls prog 324 #[pP b,y.v] w λe w'=>e=.returned y.v/\Ext w w':=by
 have m:=((Ext.refl w).alloc (.cells #[iv y.k,iv y.n,iv y.a] 152)).alloc (.cells #[iv 0,iv 0,iv 0] 152);go_enter func324,ntmps324;go_wp2_with fail;refine(a7m y b _ p).mono ?_;rintro e g ⟨rfl,c⟩;have l:=m.trans c;have q:w.heap.size+1<g.heap.size:=by have:=c.size;simp at this;omega
 have f:=(uK c).1;have i:=(uK c).2;have d:=c.keep (b:=w.heap.size+1) (o:=0) (v:=iv 0) (by simp [go_sem]);have h:=c.keep (b:=w.heap.size+1) (o:=1) (v:=iv 0) (by simp [go_sem]);have j:=c.keep (b:=w.heap.size+1) (o:=2) (v:=iv 0) (by simp [go_sem]);go_wp2;refine bodyPost_ret (v:=y.v) (by simp [results,results324,go_sem,d,h,j]) rfl ⟨rfl,?_⟩
 repeat (first | refine Ext.setCell ?_ (by show w.heap.size<=w.heap.size+1;omega) _ | exact l)
theorem sres_at[Inhabited uQ](h:SAt B w b x ar kr v4 v8 br cB cO bn pb pa pk kn hd vf F vk K role)(j:R2 x)(i:Nat)(g:i<x.A.length):
  Calls prog 324 #[pP b,.agg #[iv 2,iv 0,iv i]] w λe w'=>e=.returned (.agg #[iv 2,iv 0,iv (eN x i)])/\Ext w w':=by
 have f:=((Ext.refl w).alloc (.cells #[iv 2,iv 0,iv i] 152)).alloc (.cells #[iv 0,iv 0,iv 0] 152);have HV:=uU h;have s:=uU (h.sb.nd (eN x i) (d2a j i g)).1;go_enter func324,ntmps324;go_wp2_with fail;refine(b1c (HV.ext f) j i g).mono ?_;rintro e u ⟨rfl,a⟩;have d:=f.trans a;have q:=uU a;go_wp2_with fail;refine(b8b bn (eN x i*2) (eN x i) _ (d.keep s)).mono ?_;rintro e t ⟨rfl,c⟩;have m:=d.trans c;have a:=q.trans c
 have l:=(uK a).1;have p:=(uK a).2;have k:=a.keep (b:=w.heap.size+1) (o:=0) (v:=iv 0) (by simp [go_sem]);have n:=a.keep (b:=w.heap.size+1) (o:=1) (v:=iv 0) (by simp [go_sem]);have r:=a.keep (b:=w.heap.size+1) (o:=2) (v:=iv 0) (by simp [go_sem]);go_wp2;refine bodyPost_ret (v:=.agg #[iv 2,iv 0,iv (eN x i)]) (by simp [results,results324,go_sem,k,n,r]) rfl ⟨rfl,?_⟩
 repeat (first | refine Ext.setCell ?_ (by show w.heap.size<=w.heap.size+1;omega) _ | exact m)
theorem c2n[Inhabited uQ](h:SAt B w b x ar kr v4 v8 br cB cO bn pb pa pk kn hd vf F vk K role)(j:R2 x)(y:Wd)(l:uW y x.A.length):
  Calls prog 324 #[pP b,y.v] w λe w'=>e=.returned (eZ x y).v/\Ext w w':=by
 cases q:(y.k == 2)
 ·have e:eZ x y=y:=by
   unfold eZ;rw[if_neg];intro h;simp [h.1] at q
  rw[e];exact d2b y b w q
 ·have g:y.k=2:=by simpa using q
  obtain⟨k,n,a⟩:=y;simp only at g;subst g;unfold uW at l;simp only at l;obtain⟨i,rfl⟩:∃i:Nat,a=(i:Int):=⟨a.toNat,by omega⟩;obtain rfl:n=0:=by omega
  have f:i<x.A.length:=by omega
  have o:((i:Int)).toNat=i:=by omega
  have e:eZ x ⟨2,0,i⟩=⟨2,0,eN x i⟩:=by
   unfold eZ eN;simp only [o];by_cases d:(x.c i).st=2
   ·have p:0<=(x.c i).to:=by
     have:=j.1 i f;unfold hJ eH at this;omega
    have m:(((x.c i).to.toNat:Nat):Int)=(x.c i).to:=by omega
    rw[if_pos ⟨trivial,d⟩,if_pos (by simpa using d),m]
   ·rw[if_neg (λh=>d h.2),if_neg (by simpa using d)]
  rw[e];exact sres_at h j i f
def fptr(bn:Nat)(y:Wd):Value:=if (y.k == 2)=true then ndp bn y.a.toNat else .pointer none
theorem a8b[Inhabited uQ](h:SAt B w b x ar kr v4 v8 br cB cO bn pb pa pk kn hd vf F vk K role)(l:R2 x)(y:Wd)(j:dQ x y)(d:uW y x.A.length):
  Calls prog 123 #[pP b,y.v] w λe w'=>e=.returned (fptr bn y)/\Ext w w':=by
 unfold fptr;cases q:(y.k == 2)
 ·rw[if_neg (by simp)];exact a7m y b w q
 ·rw[if_pos rfl];have c:y.k=2:=by simpa using q
  have g:=j c;obtain⟨k,n,a⟩:=y;simp only at c g;subst c;unfold uW at d;simp only at d;obtain⟨i,rfl⟩:∃i:Nat,a=(i:Int):=⟨a.toNat,by omega⟩;obtain rfl:n=0:=by omega
  have f:((i:Int)).toNat=i:=by omega
  simp only [f] at g ⊢;have L:eN x i=i:=by unfold eN;rw[if_neg (by rw[g.2];simp)]
  have:=b1c h l i g.1;rw[L] at this;exact this
theorem c5f(b:Nat)(w:World):Calls prog 82 #[pP b,.pointer none] w λe w'=>e=.returned (.tuple #[])/\w'=w:=by
 go_enter func82,ntmps82;go_wp2_with fail
 try simp only [Exit.inBlock,Exit.then]
 refine bodyPost_ret (results_none rfl _ _ _) rfl ?_;exact⟨rfl,rfl⟩
theorem a9w[Inhabited uQ](h:SAt B w b x ar kr v4 v8 br cB cO bn pb pa pk kn hd vf F vk K role)(y:Wd)(s:dQ x y)(t:∀i,i<x.A.length->eQ x i=true->x.D.length<4000)(a:World)(u:a.heap.size<=B)(c:Ext a w):
  Calls prog 82 #[pP b,fptr bn y] w λe w'=>e=.returned (.tuple #[])/\Hid (SAt B w' b (shadeW x y) ar kr v4 v8 br cB cO bn pb pa pk kn hd vf F vk K role)/\Ext a w'/\Hid (∀q,q<w.heap.size->q≠b->(∀j,j<x.A.length->q≠cB j)->w'.heap[q]?=w.heap[q]?):=by
 unfold fptr shadeW;cases q:(y.k == 2)
 ·rw[if_neg (by simp),if_neg (by simp)];refine(c5f b w).mono ?_;rintro e w' ⟨rfl,rfl⟩;exact⟨rfl,h,c,λ_ _ _ _=>rfl⟩
 ·rw[if_pos rfl,if_pos rfl];have d:y.k=2:=by simpa using q
  have g:=(s d).1;refine(b2p y.a.toNat w h g (t _ g) a u c).mono ?_;rintro e w' ⟨r,l,f,n⟩;exact⟨r,l,f,λq p m o=>uH n q p m (o _ g)⟩
theorem d2o[Inhabited uQ]{B:Nat}{w:World}{b:Nat}{x:Hp}{ar:Option Addr}{kr:Nat}{v4 v8:Value}{br bn:Nat}{cB cO:Nat->Nat}{pb:Nat->Nat}{pa:Nat->Option Addr}{pk:Nat->Nat}{kn hd:Nat}{vf:Value}{F:List Int}{vk:Value}{K:List Nat}{role:Nat->Nat}(h:SAt B w b x ar kr v4 v8 br cB cO bn pb pa pk kn hd vf F vk K role)(s:Snd x)(X:x.E=2)(hg:x.D=[])(a:World)(Y:a.heap.size<=B)(hx:Ext a w):
  Calls prog 330 #[.agg #[pP b]] w λe w'=>e=.returned (zV (cX x).E b)/\Hid (SAt B w' b (cX x) ar kr v4 v8 br cB cO bn pb pa pk kn hd vf F vk K role)/\Ext a w':=by
 have S:=uU (show cX x=if (eE x).D=[] then cZ (eE x) 3 0 else eE x by unfold cX;rw[hg]);have H:=uU (c6b s X);have HP:=uU X;have u:=(Ext.refl w).alloc (.cells #[pP b] 234);have r0:0<x.B.length:=by have:=s.r1.B;omega
 have ac:x.B.length<=16:=by have:=s.r1.B;omega
 have U:=h.sb.bx.2.2.2.1;rw[h.sb.ha r0] at U;have ad:b<w.heap.size:=h.sb.nb.1;have HS:=uU (h.ext u);have XS:=uU (hx.trans u);have d3:=u.keep U;have L:=uU (show ∀j,j<x.A.length->w.heap.size≠cB j from λj hl e=>by have:=(h.rw.nc j hl).1.1;omega);have M0:=uU (show(w.alloc (.cells #[pP b] 234)).cell? (aA w.heap.size 0)=some (pP b) by simp [go_sem]);go_enter func330,ntmps330;go_wp2_with fail;go_loopw [13] (λi wr=>∃j:Nat,j<=x.B.length/\i=iv j/\Hid (SAt B wr b (lkH x j) ar kr v4 v8 br cB cO bn pb pa pk kn hd vf F vk K role)/\Hid (Ext a wr)/\Hid (wr.cell? (aA w.heap.size 0)=some (pP b))) (λi _=>x.B.length-(intOf i).toNat)
 case atStart=>exact⟨0,Nat.zero_le _,rfl,HS,XS,M0⟩
 case round=>
  obtain⟨j,hj,rfl,l,o,D⟩:=hrel;by_cases c:j<x.B.length
  ·have E:(lkH x j).B=x.B:=(H j).B;obtain⟨e0,e1,e2⟩:=l.rw.r j (by rw[E];exact c);have Q:(lkH x j).B[j]'(by rw[E];exact c)=x.B[j]:=by simp [E]
   rw[Q] at e0 e1 e2
   have z:=uU (show Snd (lkH x j)/\dQ (lkH x j) x.B[j]/\uW x.B[j] (lkH x j).A.length by
    have N:=(H j).s;refine⟨N,?_,?_⟩
    ·have:=N.good_reg j (by rw[E];exact c);rw[Q] at this;exact this
    ·have:=(N.r4.1 j (by rw[E];exact c)).1;rw[Q] at this;exact this)
   have NX:=uU (c1w x j c);have aa:(0:Int)<=(j:Int):=by omega
   have ab:(j:Int)<(x.B.length:Int):=by omega
   have u:=(Ext.refl wr).alloc (.cells #[iv x.B[j].k,iv x.B[j].n,iv x.B[j].a] 152);have V:=uU (l.ext u);have X2:=uU (o.trans u);have s0:=u.keep D;have I:=uU (show ∀j,j<x.A.length->w.heap.size≠cB j from uH L);go_wp2_with fail;go_region_with (first | (have _:=LA;go_at_call 82;refine(a9w C x.B[j] z.2.1 (λq hq=>(a4b z.1.ok).2 q hq) a Y v).mono ?_;rintro e J ⟨rfl,p,P,fr⟩;rw[<-uH NX] at p;have H4:=uU p;have X4:=uU P;have FR:=uU (show ∀q,q<y.heap.size->q≠b->(∀j,j<x.A.length->q≠cB j)->J.heap[q]?=y.heap[q]? from λq h1 h2 h3=>uH fr q h1 h2 (λm p=>h3 m (by rw[(uH H j).len] at p;exact p)))) | (go_at_call 123;refine(a8b (V.ext (Ext.refl _).drew) z.1.r2 x.B[j] z.2.1 z.2.2).mono ?_;rintro e y ⟨rfl,f⟩;have LA:=True.intro;have t:=Ext.trans (Ext.refl _).drew f;have C:=uU (V.ext t);have v:=uU (X2.trans t);have W:=t.keep s0;have M:w.heap.size<y.heap.size:=uL W))
   all_goals
    have Z:=uU (show J.cell? (aA w.heap.size 0)=some (pP b) from(World.cell?_of_block (a:=(aA w.heap.size 0)) (FR w.heap.size M (by omega) I)).trans W);go_wp2;go_roundw
    case rel=>exact⟨j+1,by omega,by go_num,H4,X4,Z⟩
    case measure=>simp [intOf];omega
  ·have je:j=x.B.length:=by omega
   subst je;rw[b9i] at l;have R:=uH D
   have T:=uU (show Snd (eE x)/\(eE x).E=2 by
    have:=uH H x.B.length;rw[b9i] at this;exact⟨this.s,this.E.trans HP⟩)
   cases d:(eE x).D with
   | nil=>
    have A:=uU (show cX x=cZ (eE x) (2+1) 0 by rw[uH S,if_pos d];rfl);have O:=uU (show RAt wr b bn hd [] by have:=l.sb.rg;rw[d] at this;exact this);go_wp2_with fail;refine(b3n b bn hd _ O).mono ?_;rintro e y ⟨rfl,f⟩;have k0:=f.keep R;have C:=uU (l.ext f);have v:=uU (o.trans f);go_wp2_with fail;refine(a7z C 2 T.2 rfl rfl (by omega) a Y v).mono ?_;rintro e J ⟨rfl,p,P⟩;go_wp2;go_ret;exact⟨by rw[uH A];rfl,by rw[uH A];exact uH p,P⟩
   | cons g G=>
    have A:=uU (show cX x=eE x by rw[uH S,if_neg (by rw[d];simp)]);have EP:=uU (show(cX x).E=2 by rw[uH A];exact T.2);have O:=uU (show RAt wr b bn hd (g::G) by have:=l.sb.rg;rw[d] at this;exact this);go_wp2_with fail;refine(a8a b bn hd g G _ O).mono ?_;rintro e y ⟨rfl,f⟩;have k0:=f.keep R;have C:=uU (l.ext f);have v:=uU (o.trans f);go_wp2;go_ret;exact⟨by rw[uH EP];rfl,by rw[uH A];exact uH C,v⟩
theorem c8t[Inhabited uQ](h:SAt B w b x ar kr v4 v8 br cB cO bn pb pa pk kn hd vf F vk K role)(s:Snd x)(p:x.E=2)(g:x.D=[])(a:World)(r:a.heap.size<=B)(q:Ext a w):
  Calls prog 329 #[.agg #[pP b]] w λe w'=>e=.returned (zV (cX x).E b)/\Hid (SAt B w' b (cX x) ar kr v4 v8 br cB cO bn pb pa pk kn hd vf F vk K role)/\Ext a w':=by
 have d:=(Ext.refl w).alloc (.cells #[pP b] 234);have i:=uU (show RAt w b bn hd [] by have:=h.sb.rg;rw[g] at this;exact this);have j:=uU (b3n b bn hd _ (i.block (d.block b h.sb.nb.1)));have m:=uU (λW (e:Ext w W)=>d2o (h.ext e) s p g a r (q.trans e));have c:=uU d;go_enter func329,ntmps329;go_wp2_with fail;refine j.mono ?_;rintro e l ⟨rfl,f⟩;have u:l.cell? (aA w.heap.size 0)=some (pP b):=f.keep (by simp [go_sem]);have n:=uU (c.trans f);go_wp2_with fail;refine(m _ n).mono ?_;rintro e t ⟨rfl,k,o⟩;go_wp2;go_ret;exact⟨rfl,k,o⟩
def yK(x:Hp)(y:Wd)(Mt Mt' St St':List Nat):Prop:=(y.k≠2/\Mt'=Mt/\St'=St)\/(y.k=2/\((tgt x y∈Mt/\Mt'=Mt/\St'=St)\/(¬tgt x y∈Mt/\Mt'=Mt++[tgt x y]/\St'=St++[tgt x y])))
theorem yK.sub(h:yK x y Mt Mt' St St'):(∀i,i∈Mt->i∈Mt')/\(∀i,i∈St->i∈St'):=by grind [yK,Add.sub,VNt.f]
theorem yK.has(h:yK x y Mt Mt' St St')(a:y.k=2):tgt x y∈Mt':=by grind [yK,Add.has,tgt]
theorem yK.new(h:yK x y Mt Mt' St St')(a:i∈Mt'):i∈Mt\/(y.k=2/\i=tgt x y/\i∈St'):=by grind [yK,Add.new,tgt,VNt.f]
theorem yK.weigh(h:yK x y Mt Mt' St St'):2*Mt.length+St'.length<=2*Mt'.length+St.length/\Mt.length<=Mt'.length:=by grind [yK,VNt.f]
theorem lead_eq(x:Hp)(i:Nat):eN x i=zH x i:=rfl
theorem a4h(x:Hp)(y:Wd)(b:Nat)(w:World){ac:Nat->Option Addr}(g j:Nat)(h:FwAt w b x ac (some (aA g j)) kn)(o:R2 x)(n:a0y x y):
  Calls prog 123 #[pP b,y.v] w λe w'=>∃t,Hid (e=.returned t)/\((y.k≠2/\t=.pointer none)\/(y.k=2/\t=ptr g (j+tgt x y*2)))/\Ext w w':=by
 cases c:(y.k == 2)
 ·exact(a7m y b w c).mono λ_ _ ⟨d,f⟩=>⟨_,d,.inl ⟨by simpa using c,rfl⟩,f⟩
 ·have m:y.k=2:=by simpa using c
  obtain⟨_,p,q,_,_⟩:=n m;obtain⟨i,l⟩:∃i:Nat,y.a=(i:Int):=⟨y.a.toNat,by omega⟩;have:=c1d x y b i w h o c (by omega) g j rfl;rw[<-l] at this;exact this.mono λ_ _ ⟨d,f⟩=>⟨_,d,.inr ⟨m,by unfold tgt;rw[l,lead_eq];simp⟩,f⟩
theorem a8m(x:Hp)(y:Wd)(base bw j r1 a c:Nat)(t v:Value)(b d:List Nat)(w:World)(h:dV w base bw j r1 a c x.A.length v b d)(p:a0y x y)(q:(y.k≠2/\t=.pointer none)\/(y.k=2/\t=ptr a (c+tgt x y*2)))(r:base<=w.heap.size)(i:x.A.length<=8000):
  Calls prog 121 #[pP bw,t] w λe w'=>e=.returned (.tuple #[])/\∃v' Mt' St',dV w' base bw j r1 a c x.A.length v' Mt' St'/\Hid (yK x y b Mt' d St')/\KFr bw r1 v v' w w':=by
 rcases q with⟨k,rfl⟩ | ⟨k,rfl⟩
 ·exact(c1a bw w).mono λ_ _ ⟨g,f⟩=>by subst f;exact⟨g,v,b,d,h,.inl ⟨k,rfl,rfl⟩,KFr.of_ext (Ext.refl _)⟩
 ·exact(b0k base bw j r1 a c x.A.length (tgt x y) v b d w h (p k).2.2.2.2.1 r i).mono λ_ _ ⟨g,v',m,n,f,o,l⟩=>⟨g,v',m,n,f,.inr ⟨k,o⟩,l⟩
def a4q(x:Hp)(Mt:List Nat):Prop:=∀i,i∈Mt->uZ x i
def a6r(x:Hp)(k:Nat)(Mt:List Nat):Prop:=∀j (h:j<x.B.length),j<k->x.B[j].k=2->tgt x x.B[j]∈Mt
theorem a4q.add(h:a4q x Mt)(a:yK x y Mt Mt' St St')(b:y.k=2->uZ x (tgt x y)):a4q x Mt':=by grind [a4q,Sn.add,dV.add,yK,uZ,tgt,Add.new,yK.new]
theorem dV.V(w:World)(b d e n:Nat)(t:TypeId):dV (((w.alloc (.map #[] 0)).alloc (.map #[] 0)).alloc (.cells #[pP b,.map (some w.heap.size),.slice none 0 0,.map (some (w.heap.size+1))] t)) w.heap.size (w.heap.size+2) b w.heap.size d e n (.slice none 0 0) [] []:=by
 have c:(((w.alloc (.map #[] 0)).alloc (.map #[] 0)).alloc (.cells #[pP b,.map (some w.heap.size),.slice none 0 0,.map (some (w.heap.size+1))] t)).heap[w.heap.size]?=some (.map #[] 0):=by
  rw[Below.heap_alloc _ _ _ (by simp;omega),Below.heap_alloc _ _ _ (by simp)];exact heap_alloc_new w _
 refine⟨by simp [go_sem],by simp [go_sem],by simp [go_sem],by simp [go_sem],⟨#[],0,c,by simp [b4b]⟩,World.ownsRow_nil _ _ _ _,by simp [Value.ownBlock],by simp [Value.ownBlock],by omega,by omega,Nat.le_refl _,λi a=>a,List.nodup_nil,List.nodup_nil,λi a=>by cases a⟩
theorem d0s(x:Hp)(b:Nat)(w:World){ac:Nat->Option Addr}(l m:Nat)(h:VNt w b x ar kr ac (some (aA l m)) kn)(X:R2 x)(Y:R4 x)(D:x.A.length<=8000):
  Calls prog 120 #[pP b] w λe w'=>e=.returned (pP (w.heap.size+2))/\∃v Mt St,dV w' w.heap.size (w.heap.size+2) b w.heap.size l m x.A.length v Mt St/\Hid (a4q x Mt/\a6r x x.B.length Mt/\∀i,i∈Mt->i∈St)/\Ext w w':=by
 have Q:=h.H.c3;have lr:=h.H.lr;have HV:=uU h;have K:=uU X;have N:=uU Y;have U:∀(t:TypeId) (w:World),(Instr.makeMap t none).run prog w=.ok (.map (some w.heap.size)) (w.alloc (.map #[] 0)):=λ_ _=>rfl
 have c4:=((((Ext.refl w).alloc (.map #[] 0)).alloc (.map #[] 0)).alloc (.cells #[pP b,.map (some w.heap.size),.slice none 0 0,.map (some (w.heap.size+1))] 172)).keep Q;have S0:=uU (dV.V w b l m x.A.length 172);go_enter func120,ntmps120;go_wp2_with fail;go_loopw [17] (λi wr=>∃(k:Nat) (v:Value) (Mt St:List Nat),k<=x.B.length/\i=iv k/\dV wr w.heap.size (w.heap.size+2) b w.heap.size l m x.A.length v Mt St/\Hid (a4q x Mt/\a6r x k Mt/\∀i,i∈Mt->i∈St)/\Ext w wr) (λi _=>x.B.length-(intOf i).toNat)
 case atStart=>exact⟨0,_,[],[],Nat.zero_le _,rfl,S0,⟨(λi p=>by cases p),(λj _ I=>by omega),λi p=>p⟩,(((Ext.refl w).alloc _).alloc _).alloc _⟩
 case round=>
  obtain⟨k,v,Mt,St,Z,rfl,P,c,d⟩:=hrel;have B:=uU P;by_cases g:k<x.B.length
  ·have O:=HV.ext d;obtain⟨b',o,rfl,p0,p1,p2⟩:=O.H.R k g;have T:(0:Int)<=(k:Int):=by omega
   have L:(k:Int)<(x.B.length:Int):=by omega
   have G:=(Ext.refl wr).alloc (.cells #[iv x.B[k].k,iv x.B[k].n,iv x.B[k].a] 152);have E:=uU (a2b K N k g);go_wp2_with fail;refine(a4h x x.B[k] b _ l m (HV.ext (d.trans G)).f K E).mono ?_;rintro e w2 ⟨t,rfl,S,M⟩;have u:=G.trans M;have W:=uU S;go_wp2_with fail;refine(a8m x x.B[k] w.heap.size (w.heap.size+2) b w.heap.size l m t v Mt St _ (B.ext u) E W (d.trans u).size D).mono ?_;rintro e F ⟨rfl,J,s,C,A,r,z⟩
   have R:=uU (show dV F w.heap.size (w.heap.size+2) b w.heap.size l m x.A.length J s C/\(a4q x s/\a6r x (k+1) s/\∀i,i∈s->i∈C)/\Ext w F from
    ⟨A,⟨c.1.add r (λe=>uZ.reg k g e),λj I V e=>by
     by_cases q:j=k
     ·subst q;exact r.has e
     ·exact r.sub.1 _ (c.2.1 j I (by omega) e),λi p=>by
     rcases r.new p with q | ⟨_,_,q⟩
     ·exact r.sub.2 i (c.2.2 i q)
     ·exact q⟩,(B.ext u).kext z (d.trans u)⟩)
   go_wp2;go_roundw
   case rel=>exact⟨k+1,J,s,C,by omega,by go_num,R.1,R.2.1,R.2.2⟩
   case measure=>simp [intOf];omega
  ·have y:k=x.B.length:=by omega
   subst y;go_wp2;go_ret;exact⟨rfl,v,Mt,St,B,c,d⟩
def b5d(w:World)(g:Option Addr)(bw r1:Nat)(v:Value)(bn on:Nat)(Ls:List Nat):Prop:=∀k (h:k<Ls.length),∃gb go,g=some ⟨gb,go,none⟩/\w.cell? ⟨gb,go+k,none⟩=some (ptr bn (on+Ls[k]*2))/\gb≠bw/\gb≠r1/\v.ownBlock≠some gb
theorem b5d.step(h:b5d w g bw r1 v bn on Ls)(f:KFr bw r1 v v' w w'):b5d w' g bw r1 v' bn on Ls:=λk m=>by
 obtain⟨b,l,a,c,j,i,d⟩:=h k m;have n:b<w.heap.size:=uL c;refine⟨b,l,a,(World.cell?_of_block (a:=(aA b (l+k))) (f.block b n j i d)).trans c,j,i,λe=>?_⟩;rcases f.own with q | ⟨y,q,o⟩
 ·rw[q] at e;exact d e
 ·rw[q] at e;cases e;omega
def a6s(x:Hp)(w w':World)(g:Option Addr)(bn on:Nat)(Ls:List Nat):Prop:=(∀k (h:k<Ls.length),∃gb go,g=some ⟨gb,go,none⟩/\w'.cell? ⟨gb,go+k,none⟩=some (ptr bn (on+Ls[k]*2))/\w.heap.size<=gb)/\Ls.length<=8000/\(∀i,i∈Ls↔i<x.A.length/\hQ (x.c i))
theorem a6s.at(h:a6s x w w' g bn on Ls)(k:dV w base bw bv r1 bn on x.A.length v Mt St):b5d w' g bw r1 v bn on Ls:=λi f=>by
 obtain⟨b,j,a,c,d⟩:=h.1 i f;have:=k.rlt;exact⟨b,j,a,c,by omega,by omega,λe=>by have:=(k.s.lt b e).2;omega⟩
theorem b0m(base bw f r1 a b n:Nat)(v:Value)(c d:List Nat)(w:World)(h:dV w base bw f r1 a b n v c d)(k:n<=8000):
  Calls prog 122 #[pP bw] w λe w'=>∃t v' St',Hid (e=.returned t)/\dV w' base bw f r1 a b n v' c St'/\Hid ((t=.pointer none/\d=[]/\St'=[])\/∃j,t=ptr a (b+j*2)/\d=St'++[j])/\KFr bw r1 v v' w w':=by
 rcases d.eq_nil_or_concat with q | ⟨S,j,q⟩
 ·subst q;exact(c7f base bw f r1 a b n v c w h).mono λ_ _ ⟨i,g⟩=>by subst g;exact⟨_,v,[],i,h,.inl ⟨rfl,rfl,rfl⟩,KFr.of_ext (Ext.refl _)⟩
 ·rw[List.concat_eq_append] at q;subst q;exact(c7g base bw f r1 a b n j v c S w h k).mono λ_ _ ⟨i,v',g,l⟩=>⟨_,v',S,i,g,.inr ⟨j,rfl,rfl⟩,l⟩
def LastN(x:Hp)(Mt:List Nat):Prop:=∀i,i<x.A.length->hQ (x.c i)->i∈Mt
def a3c(x:Hp)(Mt:List Nat)(i l:Nat):Prop:=∀p,p<(x.c i).F.length->p<l->(((x.c i).p p).key.k=2->tgt x ((x.c i).p p).key∈Mt)/\(((x.c i).p p).val.k=2->tgt x ((x.c i).p p).val∈Mt)
def b8z(x:Hp)(Mt:List Nat)(i:Nat):Prop:=a3c x Mt i (x.c i).F.length
theorem a3c.sub(h:a3c x Mt i l)(s:∀i,i∈Mt->i∈Mt'):a3c x Mt' i l:=by grind [a3c,Add.sub,yK.sub,Cl.p]
structure a8w(x:Hp)(Mt St:List Nat)(cur:Option Nat):Prop where
 only:a4q x Mt
 B:a6r x x.B.length Mt
 U:LastN x Mt
 part:∀i,i∈Mt->i∈St\/cur=some i\/b8z x Mt i
theorem a8w.done(h:a8w x Mt [] none)(i:Nat):i∈Mt↔uZ x i:=by
 constructor
 ·exact h.only i
 ·intro r
  have f:∀j,j∈Mt->b8z x Mt j:=λj l=>by
   rcases h.part j l with q | q | q
   ·cases q
   ·cases q
   ·exact q
  exact r (λi=>i∈Mt) (λk a e=>h.B k a a e) (λi g _ c=>h.U i g c) (λj p d b a=>(f j d p b b).1 a) (λj p d b a=>(f j d p b b).2 a)
theorem a8w.add{cur:Option Nat}(h:a8w x Mt St cur)(a:yK x y Mt Mt' St St')(g:y.k=2->uZ x (tgt x y)):a8w x Mt' St' cur:=
 ⟨h.only.add a g,λj d c e=>a.sub.1 _ (h.B j d c e),λi b f=>a.sub.1 _ (h.U i b f),λi b=>by
  rcases a.new b with q | ⟨_,_,q⟩
  ·rcases h.part i q with r | r | r
   ·exact .inl (a.sub.2 i r)
   ·exact .inr (.inl r)
   ·exact .inr (.inr (r.sub a.sub.1))
  ·exact .inl q⟩
theorem a8w.shut(h:a8w x Mt St (some j))(c:b8z x Mt j):a8w x Mt St none:=
 ⟨h.only,h.B,h.U,λi a=>by
  rcases h.part i a with r | r | r
  ·exact .inl r
  ·cases r;exact .inr (.inr c)
  ·exact .inr (.inr r)⟩
theorem a8w.take(h:a8w x Mt (St++[j]) none):a8w x Mt St (some j):=
 ⟨h.only,h.B,h.U,λi a=>by
  rcases h.part i a with r | r | r
  ·grind [a6s.at]
  ·cases r
  ·exact .inr (.inr r)⟩
def pv(bn on:Nat)(o:Option Nat):Value:=match o with | none=>.pointer none | some i=>ptr bn (on+i*2)
theorem pv_none:pv bn on none=.pointer none:=rfl
theorem pv_some:pv bn on (some i)=ptr bn (on+i*2):=rfl
def wo(x:Hp)(y:Wd):Option Nat:=if y.k=2 then some (tgt x y) else none
structure zE(Q:Nat->Prop)(Mt Mt' St St':List Nat):Prop where
 m:∀i,i∈Mt->i∈Mt'
 s:∀i,i∈St->i∈St'
 n:∀i,i∈Mt'->i∈Mt\/(Q i/\i∈St')
 w:2*Mt.length+St'.length<=2*Mt'.length+St.length
 l:Mt.length<=Mt'.length
theorem zE.refl:zE Q Mt Mt St St:=⟨λ_ h=>h,λ_ h=>h,λ_ h=>.inl h,Nat.le_refl _,Nat.le_refl _⟩
theorem zE.trans(h:zE Q M1 M2 S1 S2)(k:zE Q M2 M3 S2 S3):zE Q M1 M3 S1 S3:=
 ⟨λi a=>k.m i (h.m i a),λi a=>k.s i (h.s i a),λi a=>by
  rcases k.n i a with q | q
  ·rcases h.n i q with r | ⟨r,s⟩
   ·exact .inl r
   ·exact .inr ⟨r,k.s i s⟩
  ·exact .inr q,by have:=h.w;have:=k.w;omega,Nat.le_trans h.l k.l⟩
theorem zE.mono{Q':Nat->Prop}(h:zE Q M1 M2 S1 S2)(b:∀i,Q i->Q' i):zE Q' M1 M2 S1 S2:=
 ⟨h.m,h.s,λi a=>by
  rcases h.n i a with q | ⟨q,r⟩
  ·exact .inl q
  ·exact .inr ⟨b i q,r⟩,h.w,h.l⟩
theorem b1y(a:(i∈Mt/\Mt'=Mt/\St'=St)\/(¬i∈Mt/\Mt'=Mt++[i]/\St'=St++[i])):zE (λq=>q=i) Mt Mt' St St'/\i∈Mt':=by
 rcases a with⟨m,rfl,rfl⟩ | ⟨m,rfl,rfl⟩
 ·exact⟨zE.refl,m⟩
 ·refine⟨⟨λj b=>List.mem_append_left _ b,λj b=>List.mem_append_left _ b,λj b=>?_,by simp;omega,by simp⟩,by simp⟩;rcases List.mem_append.1 b with q | q
  ·exact .inl q
  ·grind [a1i.at,a6s.at]
theorem b0n(base bw l r1 a c n:Nat)(o:Option Nat)(v:Value)(b d:List Nat)(w:World)(h:dV w base bw l r1 a c n v b d)(u:∀i,o=some i->i<n)(t:base<=w.heap.size)(k:n<=8000):
  Calls prog 121 #[pP bw,pv a c o] w λe w'=>e=.returned (.tuple #[])/\∃v' Mt' St',dV w' base bw l r1 a c n v' Mt' St'/\Hid (zE (λi=>o=some i) b Mt' d St'/\∀i,o=some i->i∈Mt')/\KFr bw r1 v v' w w':=by
 cases o with
 | none=>exact(c1a bw w).mono λ_ _ ⟨g,f⟩=>by subst f;exact⟨g,v,b,d,h,⟨zE.refl,λi e=>by cases e⟩,KFr.of_ext (Ext.refl _)⟩
 | some i=>exact(b0k base bw l r1 a c n i v b d w h (u i rfl) t k).mono λ_ _ ⟨g,v',r,s,f,m,p⟩=>⟨g,v',r,s,f,⟨(b1y m).1.mono (λq e=>by rw[e]),λj e=>by cases e;exact(b1y m).2⟩,p⟩
theorem a4i(x:Hp)(y:Wd)(b:Nat)(w:World){ac:Nat->Option Addr}(a c:Nat)(h:VNt w b x ar kr ac (some (aA a c)) kn)(l:R2 x)(j:a0y x y):
  Calls prog 123 #[pP b,y.v] w λe w'=>Hid (e=.returned (pv a c (wo x y)))/\Ext w w':=
 (a4h x y b w a c h.f l j).mono λ_ _ ⟨t,d,g,i⟩=>⟨by
  rcases g with⟨k,e⟩ | ⟨k,e⟩
  ·rw[uH d,e,wo,if_neg k];rfl
  ·rw[uH d,e,wo,if_pos k];rfl,i⟩
theorem b0o(a:a0y x y)(i:Nat)(h:wo x y=some i):i<x.A.length/\y.k=2/\i=tgt x y:=by
 unfold wo at h
 split at h
 ·rename_i k;cases h;exact⟨(a k).2.2.2.2.1,k,rfl⟩
 ·cases h
structure zY(w:World)(base bw r1 r2 bn on:Nat)(v:Value)(f:Nat->Value)(g:Nat->List (Option Nat)):Prop where
 c3:w.cell? ⟨bw,3,none⟩=some (Value.map (some r2))
 m:b1x w r2 bn on f
 row:∀k,w.ownsRow base 126 1 (f k) (g k).length ((g k).map (pv bn on))
 dis:∀k k' b,k≠k'->(f k).ownBlock=some b->(f k').ownBlock≠some b
 av:∀k b,(f k).ownBlock=some b->v.ownBlock≠some b
 a1:∀k,(f k).ownBlock≠some bw
 a2:∀k,(f k).ownBlock≠some r1
 a3:∀k,(f k).ownBlock≠some r2
 n1:r2≠bw
 n2:r2≠r1
 n3:v.ownBlock≠some r2
 b2:base<=r2
theorem zY.ext{f:Nat->Value}{g:Nat->List (Option Nat)}(h:zY w base bw r1 r2 bn on v f g)(e:Ext w w'):zY w' base bw r1 r2 bn on v f g:=
 ⟨e.keep h.c3,h.m.block (e.block r2 h.m.lt),λk=>uN (h.row k) (λb a=>e.block b ((h.row k).lt b a).2),h.dis,h.av,h.a1,h.a2,h.a3,h.n1,h.n2,h.n3,h.b2⟩
theorem zY.step{f:Nat->Value}{g:Nat->List (Option Nat)}(h:zY w base bw r1 r2 bn on v f g)(k:KFr bw r1 v v' w w'):zY w' base bw r1 r2 bn on v' f g:=by
 refine⟨k.keep 3 _ (by omega) h.c3,h.m.block (k.block r2 h.m.lt h.n1 h.n2 h.n3),λq=>uN (h.row q) (λb a=>k.block b ((h.row q).lt b a).2 (λe=>h.a1 q (e ▸ a)) (λe=>h.a2 q (e ▸ a)) (h.av q b a)),h.dis,λq b a e=>?_,h.a1,h.a2,h.a3,h.n1,h.n2,λe=>?_,h.b2⟩
 ·rcases k.own with o | ⟨y,o,c⟩
  ·rw[o] at e;exact h.av q b a e
  ·rw[o] at e;cases e;have:=((h.row q).lt b a).2;omega
 ·rcases k.own with o | ⟨y,o,c⟩
  ·rw[o] at e;exact h.n3 e
  ·rw[o] at e;cases e;have:=h.m.lt;omega
theorem b0p{xs:List Value}(h:w.ownsRow base t 1 v n xs):∃ad cap,v=.slice ad n cap/\(0<n->∃gb,ad=some (aA gb 0)):=by
 rcases h.2 with⟨h0,h1⟩ | ⟨g,cap,cur,h0,_⟩
 ·grind
 ·grind
theorem zY.wait{W w3:World}{f:Nat->Value}{g:Nat->List (Option Nat)}{o:Option Nat}(c:dV w base bw bv r1 bn on n v Mt St)(h:zY w base bw r1 r2 bn on v f g)(x:W.heap=(w.alloc ob).heap)(J:W.os=w.os)(I:W.tape=w.tape)(L:W.output=w.output)
  (r:w2.ownsRow base 126 1 (sS gb ((g k).length+1) cap) ((g k).length+1) ((g k).map (pv bn on)++[pv bn on o])) (u:W.grownBy w2 (f k).ownBlock) (N:(f k).ownBlock=some gb\/gb=W.heap.size)
  (V:b1x w3 r2 bn on (λq=>if q=k then sS gb ((g k).length+1) cap else f q)) (M:w3.os=w2.os) (X:w3.tape=w2.tape) (K:w3.output=w2.output) (Y:w3.heap.size=w2.heap.size) (t:∀q:Nat,q≠r2->w3.heap[q]?=w2.heap[q]?) :
  dV w3 base bw bv r1 bn on n v Mt St/\zY w3 base bw r1 r2 bn on v (λq=>if q=k then sS gb ((g k).length+1) cap else f q) (λq=>if q=k then g k++[o] else g q)/\(∀a:World,a.heap.size=base->Ext a w->Ext a w3):=by
 have Q:=c.rlt;have R:W.heap.size=w.heap.size+1:=by rw[x];simp
 have T:w.heap.size+1<=w2.heap.size:=by have:=u.size;omega
 have E:∀b:Nat,b<w.heap.size->(f k).ownBlock≠some b->w2.heap[b]?=w.heap[b]?:=λb i F=>(u.block b (by omega) (λe=>F e.symm)).trans (by rw[x];exact Below.heap_alloc w ob b i)
 have d:∀b:Nat,b<w.heap.size->(f k).ownBlock≠some b->b≠r2->w3.heap[b]?=w.heap[b]?:=λb i F U=>(t b U).trans (E b i F)
 have j:gb≠bw/\gb≠r1/\gb≠r2/\v.ownBlock≠some gb/\(∀q,q≠k->(f q).ownBlock≠some gb):=by
  rcases N with e | e
  ·exact⟨λq=>h.a1 k (q ▸ e),λq=>h.a2 k (q ▸ e),λq=>h.a3 k (q ▸ e),h.av k gb e,λq B=>h.dis k q gb (λz=>B z.symm) e⟩
  ·have:=h.m.lt;exact⟨by omega,by omega,by omega,λq=>by have:=(c.s.lt _ q).2;omega,λq _ z=>by have:=((h.row q).lt _ z).2;omega⟩
 have l:∀q b,(if q=k then (sS gb ((g k).length+1) cap:Value) else f q).ownBlock=some b->(q=k/\b=gb)\/(q≠k/\(f q).ownBlock=some b):=λq b e=>by
  by_cases z:q=k
  ·rw[if_pos z] at e;simp [Value.ownBlock] at e;exact .inl ⟨z,e.symm⟩
  ·rw[if_neg z] at e;exact .inr ⟨z,e⟩
 have p:w3.heap[bw]?=w.heap[bw]?:=d bw Q.1 (h.a1 k) (λe=>h.n1 e.symm);have D:∀A G,w.cell? (aA bw A)=some G->w3.cell? (aA bw A)=some G:=λA G S=>(World.cell?_of_block (a:=(aA bw A)) p).trans S
 refine⟨⟨D 0 _ c.c0,D 1 _ c.c1,D 2 _ c.c2,(World.frozen?_of_block (a:=(aA bw 2)) p).trans c.f2,c.m.block (d r1 Q.2 (h.a2 k) (λe=>h.n2 e.symm)),uN c.s (λb i=>d b (c.s.lt b i).2 (λe=>h.av k b e i) (λe=>h.n3 (e ▸ i))),c.a1,c.a2,c.a3,c.b1,c.b2,c.sub,c.nd,c.nds,c.rg⟩,⟨D 3 _ h.c3,V,λq=>?_,λq C b B e=>?_,λq b e=>?_,λq e=>?_,λq e=>?_,λq e=>?_,h.n1,h.n2,h.n3,h.b2⟩,λa Z P=>?_⟩
 ·by_cases z:q=k
  ·subst z;simp only [if_true,List.length_append,List.length_singleton,List.map_append,List.map_cons,List.map_nil];exact uN r (λb i=>t b (λe=>by simp [Value.ownBlock] at i;omega))
  ·simp only [z,if_false];exact uN (h.row q) (λb i=>d b ((h.row q).lt b i).2 (h.dis q k b z i) (λe=>h.a3 q (e ▸ i)))
 ·intro O;rcases l q b e with⟨z,y⟩ | ⟨z,y⟩
  ·rcases l C b O with⟨z',y'⟩ | ⟨z',y'⟩
   ·exact B (z.trans z'.symm)
   ·rw[y] at y';exact j.2.2.2.2 C z' y'
  ·rcases l C b O with⟨z',y'⟩ | ⟨z',y'⟩
   ·rw[y'] at y;exact j.2.2.2.2 q z y
   ·exact h.dis q C b B y y'
 ·rcases l q b e with⟨z,y⟩ | ⟨z,y⟩
  ·rw[y];exact j.2.2.2.1
  ·exact h.av q b y
 ·rcases l q bw e with⟨z,y⟩ | ⟨z,y⟩
  ·exact j.1 y.symm
  ·exact h.a1 q y
 ·rcases l q r1 e with⟨z,y⟩ | ⟨z,y⟩
  ·exact j.2.1 y.symm
  ·exact h.a2 q y
 ·rcases l q r2 e with⟨z,y⟩ | ⟨z,y⟩
  ·exact j.2.2.1 y.symm
  ·exact h.a3 q y
 ·refine Below.trans P ⟨(M.trans u.os).trans J,(X.trans u.tape).trans I,(K.trans u.output).trans L,by omega,λb i=>?_⟩;have H:b<w.heap.size:=Nat.lt_of_lt_of_le i P.size;exact d b H (λe=>by have:=((h.row k).lt b e).1;omega) (λe=>by have:=h.b2;omega)
def Bes(o1 o2:Option Nat)(Mt Mt' St St':List Nat)(g g':Nat->List (Option Nat)):Prop:=
 ((o1=none\/∃k,o1=some k/\k∈Mt)/\zE (λi=>o2=some i) Mt Mt' St St'/\(∀i,o2=some i->i∈Mt')/\g'=g)\/(∃k,o1=some k/\¬k∈Mt/\Mt'=Mt/\St'=St/\g'=λq=>if q=k then g k++[o2] else g q)
theorem b8d:∃et,prog.underlying 170=some (.map 126 et)/\∀w,(zeroValue et).run prog w=.ok (.slice none 0 0) w:=⟨_,underlying170,λ_=>by kernel_rfl⟩
theorem c2w(a:World)(bw m r1 r c d n:Nat)(j:Option Nat)(v:Value)(f:Nat->Value)(g:Nat->List (Option Nat))(o k:List Nat)(w:World)(h:dV w a.heap.size bw m r1 c d n v o k)(B:zY w a.heap.size bw r1 r c d v f g)(A:∀i,j=some i->i<n)(s:Ext a w)(l:n<=8000):
  Calls prog 202 #[pP bw,.pointer none,pv c d j] w λe w'=>e=.returned (.tuple #[])/\∃v' Mt' St',dV w' a.heap.size bw m r1 c d n v' Mt' St'/\zY w' a.heap.size bw r1 r c d v' f g/\Hid (zE (λi=>j=some i) o Mt' k St'/\(∀i,j=some i->i∈Mt'))/\Hid (Ext a w'):=by
 have q:=uU h;have z:=uU B;go_enter func202,ntmps202;go_wp2_with fail;refine(b0n a.heap.size bw m r1 c d n j v o k _ q A s.size l).mono ?_;rintro e C ⟨rfl,v',t,y,x,u,p⟩;have b:=uU (And.intro x (And.intro (z.step p) (And.intro u (q.kext p s))));go_wp2_with fail
 try simp only [Exit.inBlock,Exit.then]
 refine bodyPost_ret (results_none rfl _ _ _) rfl ?_;exact⟨rfl,v',t,y,b.1,b.2.1,b.2.2.1,b.2.2.2⟩
theorem c9i(a:World)(bw s r1 x d b n k:Nat)(j:Option Nat)(v:Value)(f:Nat->Value)(g:Nat->List (Option Nat))(l q:List Nat)(w:World)(h:dV w a.heap.size bw s r1 d b n v l q)(G:zY w a.heap.size bw r1 x d b v f g)(F:∀i,j=some i->i<n)(H:Ext a w)(r:n<=8000)(D:k∈l):
  Calls prog 202 #[pP bw,ptr d (b+k*2),pv d b j] w λe w'=>e=.returned (.tuple #[])/\∃v' Mt' St',dV w' a.heap.size bw s r1 d b n v' Mt' St'/\zY w' a.heap.size bw r1 x d b v' f g/\Hid (zE (λi=>j=some i) l Mt' q St'/\(∀i,j=some i->i∈Mt'))/\Hid (Ext a w'):=by
 have p:=uU h;have C:=uU G;have J:=h.c1;go_enter func202,ntmps202;go_wp2_with fail;refine(b4c r1 d (b+k*2) _ _ p.m).mono ?_;rintro e K ⟨rfl,o⟩;have E:decide (b+k*2∈l.map (λi=>b+i*2))=true:=decide_eq_true (a6c.2 D);rw[E];have u:=H.trans o;go_wp2_with fail;refine(b0n a.heap.size bw s r1 d b n j v l q _ (p.ext o) F u.size r).mono ?_;rintro e I ⟨rfl,v',A,B,z,y,t⟩;have c:=uU (And.intro z (And.intro ((C.ext o).step t) (And.intro y ((p.ext o).kext t u))));go_wp2_with fail
 try simp only [Exit.inBlock,Exit.then]
 refine bodyPost_ret (results_none rfl _ _ _) rfl ?_;exact⟨rfl,v',A,B,c.1,c.2.1,c.2.2.1,c.2.2.2⟩
theorem pv_ptr(b a:Nat)(o:Option Nat):∃q,pv b a o=.pointer q:=by cases o with | none=>exact⟨_,rfl⟩ | some i=>exact⟨_,rfl⟩
theorem c5m(a:World)(bw bv r1 C l c n k:Nat)(O:Option Nat)(v:Value)(f:Nat->Value)(g:Nat->List (Option Nat))(Q St:List Nat)(w:World)(h:dV w a.heap.size bw bv r1 l c n v Q St)(P:zY w a.heap.size bw r1 C l c v f g)(hx:Ext a w)(hg:(g k).length<=10000000)(hm:¬k∈Q):
  Calls prog 202 #[pP bw,ptr l (c+k*2),pv l c O] w λe w'=>e=.returned (.tuple #[])/\∃f',dV w' a.heap.size bw bv r1 l c n v Q St/\zY w' a.heap.size bw r1 C l c v f' (λq=>if q=k then g k++[O] else g q)/\Hid (Ext a w'):=by
 obtain⟨et,B,hz⟩:=b8d;obtain⟨i1,t,_,x,_⟩:=info_parts a2j;obtain⟨i0,V,aa,Z,T⟩:=info_parts a8k;have HW:=uU h;have HT:=uU P;have c1:=h.c1;have c3:=P.c3;have HU:=uU B;have HN:=uU t;have HZ:=uU x;have K:=uU (λw' (e:Ext w w')=>(P.ext e).m.lookup B a2o t (by rw[x];omega) hz k);clear h P B hz t x;obtain⟨fk,d⟩:∃u,u=f k:=⟨_,rfl⟩;obtain⟨S,A⟩:=pv_ptr l c O;rw[A];have PQ:=uU A;clear A;go_enter func202,ntmps202;go_wp2_with fail;refine(b4c r1 l (c+k*2) _ _ HW.m).mono ?_;rintro e p ⟨rfl,r⟩;have E:decide (c+k*2∈Q.map (λi=>c+i*2))=false:=decide_eq_false (λq=>hm (a6c.1 q));rw[E];clear E;have x1:=hx.trans r;have d3:=r.keep c3;have lk:=uH K p.drew r.drew;have Y:=λob=>uH K (p.alloc ob).drew (r.alloc ob).drew
 have X:=λob=>uH K (p.drew.alloc ob) (r.drew.alloc ob)
 rw[<-d] at lk;simp only [<-d] at Y X;have M:=uU (HW.ext r);have y:=uU (HT.ext r);have U:=uU (show p.ownsRow a.heap.size 126 1 fk (g k).length ((g k).map (pv l c)) by rw[d];exact y.row k);have L:=uU d;have ab:=x1.size;have ad:bw<p.heap.size:=M.rlt.1;clear d r K c3;go_wp2_with fail
 go_region_law (refine step_append_lies _ rfl _ _ 130 rfl a.heap.size 126 i0 (.pointer none) 1 8 underlying130 V aa Z T rfl (by decide) fk (g k).length ((g k).map (pv l c)) (by first | rfl | simp [Act.eval,Act.put]) (by first | exact U.alloc _ | exact own_drew (U.alloc _) | exact(own_drew U).alloc _) _ 1 1 [.pointer S] (by first | rfl | simp [Act.eval,Act.put];rfl) rfl (by
   intro j u N
   match j,N with
   | 0,N=>simp at N;subst N;simp [Addr.add]) (by intro u B;simp at B;subst B;rfl) (by decide) (by unfold maxLen;omega) (by omega) (by simp;omega) _ rfl ?_;intro gb R w2 s b F ac;have m2:b1x w2 C l c f:=y.m.block ((b.block C (by have:=y.m.lt;simp;omega) (λe=>y.a3 k (by rw[<-uH L];exact e.symm))).trans (Below.heap_alloc p _ C y.m.lt));have e3:w2.cell? (aA bw 3)=some (Value.map (some C)):=(World.cell?_of_block (w:=p) (a:=(aA bw 3)) ((b.block bw (by have:=M.rlt;simp;omega) (λe=>y.a1 k (by rw[<-uH L];exact e.symm))).trans (Below.heap_alloc p _ bw M.rlt.1))).trans d3;obtain⟨w3,ae,m3,D,I,G,J,H⟩:=m2.update HU a2o HN (by rw[uH HZ];omega) k (sS gb ((g k).length+1) R);have z:=uU (zY.wait (o:=O) (W:=(p.alloc (.cells #[.pointer S] 126)).drew) (ob:=.cells #[.pointer S] 126) M y rfl rfl rfl rfl (by rw[uH PQ];exact s) (by rw[<-uH L];exact b) (by rw[<-uH L];simpa using F) m3 D I G J H);clear s b F m2 m3 D I G J H)
 all_goals
  go_wp2_with fail
  go_end0
  exact⟨rfl,_,z.1,z.2.1,z.2.2 a rfl x1⟩
theorem b6q(a:World)(bw t r1 r b c n:Nat)(A m:Option Nat)(v:Value)(f:Nat->Value)(g:Nat->List (Option Nat))(j l:List Nat)(w:World)(h:dV w a.heap.size bw t r1 b c n v j l)(B:zY w a.heap.size bw r1 r b c v f g)(D:∀i,m=some i->i<n)(C:Ext a w)(s:n<=8000)(E:∀k,(g k).length<=10000000):
  Calls prog 202 #[pP bw,pv b c A,pv b c m] w λe w'=>e=.returned (.tuple #[])/\∃v' Mt' St' f' g',dV w' a.heap.size bw t r1 b c n v' Mt' St'/\zY w' a.heap.size bw r1 r b c v' f' g'/\Hid (Bes A m j Mt' l St' g g')/\Hid (Ext a w'):=by
 cases A with
 | none=>exact(c2w a bw t r1 r b c n m v f g j l w h B D C s).mono λ_ _ ⟨q,v',x,z,o,p,d,y⟩=>⟨q,v',x,z,f,g,o,p,.inl ⟨.inl rfl,d.1,d.2,rfl⟩,y⟩
 | some k=>
  by_cases u:k∈j
  ·exact(c9i a bw t r1 r b c n k m v f g j l w h B D C s u).mono λ_ _ ⟨q,v',x,z,o,p,d,y⟩=>⟨q,v',x,z,f,g,o,p,.inl ⟨.inr ⟨k,rfl,u⟩,d.1,d.2,rfl⟩,y⟩
  ·exact(c5m a bw t r1 r b c n k m v f g j l w h B C (E k) u).mono λ_ _ ⟨q,f',o,p,d⟩=>⟨q,v,j,l,f',_,o,p,.inr ⟨k,rfl,u,rfl,rfl,rfl⟩,d⟩
theorem c2x(a:World)(bw A r1 D c d n k:Nat)(v:Value)(f:Nat->Value)(g:Nat->List (Option Nat))(t s:List Nat)(w:World)(h:dV w a.heap.size bw A r1 c d n v t s)(E:zY w a.heap.size bw r1 D c d v f g)(ho:∀i,some i∈g k->i<n)(hx:Ext a w)(Q:n<=8000)(hg:(g k).length<=10000000):
  Calls prog 124 #[pP bw,ptr c (d+k*2)] w λe w'=>e=.returned (.tuple #[])/\∃v' Mt' St',dV w' a.heap.size bw A r1 c d n v' Mt' St'/\zY w' a.heap.size bw r1 D c d v' f g/\Hid (zE (λi=>some i∈g k) t Mt' s St'/\∀i,some i∈g k->i∈Mt')/\Hid (Ext a w'):=by
 obtain⟨et,hu,Z⟩:=b8d;obtain⟨i1,I,_,J,_⟩:=info_parts a2j;have z:=uU h;have C:=uU E;have c3:=E.c3;have lk:=E.m.lookup hu a2o I (by rw[J];omega) Z k;obtain⟨ad,W,T,P⟩:=b0p (E.row k);have FK:=uU T;rw[T] at lk;go_enter func124,ntmps124;go_wp2_with fail;go_loopw [13] (λi wr=>∃(l:Nat) (v':Value) (M S:List Nat),l<=(g k).length/\i=iv l/\dV wr a.heap.size bw A r1 c d n v' M S/\zY wr a.heap.size bw r1 D c d v' f g/\Hid (zE (λi=>some i∈g k) t M s S/\∀j i,j<l->(g k)[j]?=some (some i)->i∈M)/\Ext a wr) (λi _=>(g k).length-(intOf i).toNat)
 case atStart=>exact⟨0,v,t,s,Nat.zero_le _,rfl,z,C,⟨zE.refl,λj i O=>by omega⟩,hx⟩
 case round=>
  obtain⟨l,v',M,S,hl,rfl,hw,x,b,r⟩:=hrel;have z:=uU hw;have C:=uU x;by_cases H:l<(g k).length
  ·obtain⟨V,rfl⟩:=P (by omega);obtain⟨o,y⟩:∃o,(g k)[l]?=some o:=⟨_,List.getElem?_eq_getElem H⟩
   have cl:wr.cell? (aA V l)=some (pv c d o):=by
    have U:=x.row k;rw[uH FK] at U;have:=World.ownsRow.cellAt U l (by omega);rw[this,List.getElem?_map,y];rfl
   have aa:(0:Int)<=(l:Int):=by omega
   have X:(l:Int)<((g k).length:Int):=by omega
   have G:=uU y;go_wp2_with fail;refine(b0n a.heap.size bw A r1 c d n o v' M S _ z (λi e=>ho i (by subst e;exact List.mem_of_getElem? G)) r.size Q).mono ?_;rintro e F ⟨rfl,N,B,L,K,p,u⟩
   have R:=uU (show dV F a.heap.size bw A r1 c d n N B L/\zY F a.heap.size bw r1 D c d N f g/\(zE (λi=>some i∈g k) t B s L/\∀j i,j<l+1->(g k)[j]?=some (some i)->i∈B)/\Ext a F from
    ⟨K,C.step u,⟨b.1.trans (p.1.mono (λi e=>by subst e;exact List.mem_of_getElem? G)),λj i O e=>by
     by_cases q:j=l
     ·subst q;rw[uH G] at e;cases e;exact p.2 i rfl
     ·exact p.1.m i (b.2 j i (by omega) e)⟩,z.kext u r⟩)
   go_wp2;go_roundw
   case rel=>exact⟨l+1,N,B,L,by omega,by go_num,R.1,R.2.1,R.2.2.1,R.2.2.2⟩
   case measure=>simp [intOf];omega
  ·have ab:l=(g k).length:=by omega
   have R:=uU (show zE (λi=>some i∈g k) t M s S/\∀i,some i∈g k->i∈M from⟨b.1,λi Y=>by
    obtain⟨j,O,e⟩:=List.getElem_of_mem Y;exact b.2 j i (by omega) (by rw[List.getElem?_eq_getElem O,e])⟩)
   go_wp2_with fail
   go_end0
   exact⟨rfl,v',M,S,z,C,R,r⟩
structure a3q(w:World)(r bn on:Nat)(O:List Nat):Prop where
 mk' ::
 m:∃es clock,w.heap[r]?=some (.map es clock)/\a1i bn on (λk=>iv (O.idxOf k:Nat)) O es.toList
theorem a3q.block(h:a3q w r bn on O)(e:w'.heap[r]?=w.heap[r]?):a3q w' r bn on O:=by
 obtain⟨d,c,b,a⟩:=h.m;exact⟨d,c,e.trans b,a⟩
theorem a3q.lt(h:a3q w r bn on O):r<w.heap.size:=by
 obtain⟨b,c,a,_⟩:=h.m;rcases Nat.lt_or_ge r w.heap.size with q | q
 ·exact q
 ·grind [a1i.at,a6s.at]
theorem a3q.lookup(h:a3q w r bn on O){i:TypeInfo}(f:P.underlying mt=some (.map t et))(a:P.underlying t=some (.pointer e))(q:P.info? e=some i)(v:i.size≠0)(s:∀w,(zeroValue et).run P w=.ok (iv 0) w)(k:Nat):
  ∃u,(Instr.lookup mt (.map (some r)) (ptr bn (on+k*2)) true).run P w=.ok (.tuple #[u,.bool (decide (k∈O))]) w:=by
 obtain⟨p,c,d,l⟩:=h.m;obtain⟨g,b,o⟩:=a7n w t e i a q v bn on _ k p.toList O l;rcases o with⟨j,rfl,hj⟩ | ⟨n,rfl⟩
 ·exact⟨iv (O.idxOf k:Nat),by simp [Instr.lookup,run_underlying f,MapKept.run_getObj_map d,a0f w t e a,b,List.mem_of_getElem? hj]⟩
 ·exact⟨iv 0,by simp [Instr.lookup,run_underlying f,MapKept.run_getObj_map d,a0f w t e a,b,s,n]⟩
theorem a3q.get(h:a3q w r bn on O){i:TypeInfo}(s:P.underlying mt=some (.map t et))(a:P.underlying t=some (.pointer e))(p:P.info? e=some i)(u:i.size≠0)(k:Nat)(q:k∈O):
  (Instr.lookup mt (.map (some r)) (ptr bn (on+k*2)) false).run P w=.ok (iv (O.idxOf k:Nat)) w:=by
 obtain⟨o,c,l,b⟩:=h.m;obtain⟨g,d,f⟩:=a7n w t e i a p u bn on _ k o.toList O b;rcases f with⟨j,rfl,hj⟩ | ⟨n,rfl⟩
 ·simp [Instr.lookup,run_underlying s,MapKept.run_getObj_map l,a0f w t e a,d]
 ·exact(n q).elim
theorem a3q.push(h:a3q w r bn on O){i:TypeInfo}(A:P.underlying mt=some (.map t et))(s:P.underlying t=some (.pointer e))(z:P.info? e=some i)(B:i.size≠0)(k:Nat)(p:¬k∈O):
  ∃w',(Instr.mapUpdate mt (.map (some r)) (ptr bn (on+k*2)) (iv (O.length:Nat))).run P w=.ok () w'/\a3q w' r bn on (O++[k])/\w'.os=w.os/\w'.tape=w.tape/\w'.output=w.output/\w'.heap.size=w.heap.size/\(∀q:Nat,q≠r->w'.heap[q]?=w.heap[q]?):=by
 have f:=h.lt;obtain⟨a,c,o,l⟩:=h.m;obtain⟨g,v,x⟩:=a7n w t e i s z B bn on _ k a.toList O l;rcases x with⟨j,rfl,hj⟩ | ⟨n,rfl⟩
 ·exact(p (List.mem_of_getElem? hj)).elim
 ·refine⟨{ w with heap:=w.heap.setIfInBounds r (.map (a.push { key:=ptr bn (on+k*2),val:=iv (O.length:Nat),born:=c }) (c+1)) },?_,⟨a.push { key:=ptr bn (on+k*2),val:=iv (O.length:Nat),born:=c },c+1,?_,?_⟩,rfl,rfl,rfl,by simp,λq d=>?_⟩
  ·simp [Instr.mapUpdate,run_underlying A,MapKept.run_getObj_map o,a0f w t e s,v,MapKept.run_setObj_map _ o]
  ·show(w.heap.setIfInBounds r _)[r]?=_;rw[Array.getElem?_setIfInBounds,if_pos rfl,if_pos f]
  ·unfold a1i;have y:O.map (λq=>(ptr bn (on+q*2),(iv ((O++[k]).idxOf q:Nat):Value)))=O.map (λq=>(ptr bn (on+q*2),iv (O.idxOf q:Nat))):=List.map_congr_left (λq d=>by rw[List.idxOf_append,if_pos d]);have b:a.toList.map (λe=>(e.key,e.val))=O.map (λk=>(ptr bn (on+k*2),iv (O.idxOf k:Nat))):=l;have u:(O++[k]).idxOf k=O.length:=by rw[List.idxOf_append,if_neg p];simp
   rw[Array.toList_push,List.map_append,List.map_append,y,b];simp [u]
  ·show(w.heap.setIfInBounds r _)[q]?=_;rw[Array.getElem?_setIfInBounds,if_neg (λe=>d e.symm)]
structure tN(w:World)(base bm bv r bn on n:Nat)(v:Value)(O:List Nat):Prop where
 c0:w.cell? ⟨bm,0,none⟩=some (.pointer (some ⟨bv,0,none⟩))
 c1:w.cell? ⟨bm,1,none⟩=some (Value.map (some r))
 c2:w.cell? ⟨bm,2,none⟩=some v
 f2:w.frozen? ⟨bm,2,none⟩=false
 m:a3q w r bn on O
 s:w.ownsRow base 126 1 v O.length (O.map (λi=>ptr bn (on+i*2)))
 a1:v.ownBlock≠some bm
 a2:v.ownBlock≠some r
 a3:bm≠r
 b1:base<=bm
 b2:base<=r
 nd:O.Nodup
 rg:∀i,i∈O->i<n
theorem tN.rlt(h:tN w base bm bv r bn on n v O):bm<w.heap.size/\r<w.heap.size:=⟨uL h.c0,h.m.lt⟩
theorem tN.ext(h:tN w base bm bv r bn on n v O)(e:Ext w w'):tN w' base bm bv r bn on n v O:=
 ⟨e.keep h.c0,e.keep h.c1,e.keep h.c2,by rw[e.frozen (p:=(aA bm 2)) h.rlt.1];exact h.f2,h.m.block (e.block r h.rlt.2),uN h.s (λk a=>e.block k (h.s.lt k a).2),h.a1,h.a2,h.a3,h.b1,h.b2,h.nd,h.rg⟩
theorem tN.kext{a:World}(h:tN w a.heap.size bm bv r bn on n v O)(q:KFr bm r v v' w w')(e:Ext a w):Ext a w':=
 Below.trans e ⟨q.os,q.tape,q.output,q.size,λk b=>q.block k (Nat.lt_of_lt_of_le b e.size) (by have:=h.b1;omega) (by have:=h.b2;omega) (λf=>by have:=(h.s.lt k f).1;omega)⟩
theorem tN.len(h:tN w base bm bv r bn on n v O):O.length<=n:=a6b h.nd h.rg
theorem tN.form(h:tN w base bm bv r bn on n v O):∃ad cap,v=.slice ad O.length cap/\(0<O.length->∃gb,ad=some (aA gb 0)):=b0p h.s
theorem tN.cell(h:tN w base bm bv r bn on n (sS gb l cap) O)(i:Nat)(b:i<O.length):w.cell? (aA gb i)=some (ptr bn (on+O[i]*2)):=by
 have a:l=O.length:=by
  rcases h.s.2 with⟨e,_⟩ | ⟨g,cap,cur,e,_⟩
  ·cases e
  ·cases e;rfl
 subst a;have:=World.ownsRow.cellAt h.s i (by omega);rw[this,List.getElem?_map,List.getElem?_eq_getElem b];rfl
theorem tN.add{w1:World}{g:Nat}(h:tN w base bm bv r bn on n v O)(U:i<n)(Q:¬i∈O)
  (E:a3q w1 r bn on (O++[i])) (F:w1.os=w.os) (R:w1.tape=w.tape) (D:w1.output=w.output) (S:w1.heap.size=w.heap.size) (p:∀k:Nat,k≠r->w1.heap[k]?=w.heap[k]?)
  (s:w2.ownsRow base 126 1 (sS g (O.length+1) cap) (O.length+1) (O.map (λi=>ptr bn (on+i*2))++[ptr bn (on+i*2)])) (t:(w1.alloc ob).grownBy w2 v.ownBlock) (x:v.ownBlock=some g\/g=w1.heap.size+1) :
  tN (w2.setCell (aA bm 2) (sS g (O.length+1) cap)) base bm bv r bn on n (sS g (O.length+1) cap) (O++[i])/\
  KFr bm r v (sS g (O.length+1) cap) w (w2.setCell (aA bm 2) (sS g (O.length+1) cap))/\w2.cell? (aA bm 2)=some v/\w2.frozen? (aA bm 2)=false:=by
 have T:=h.rlt;have J:w1.heap.size+1<=w2.heap.size:=by have:=t.size;simpa using this
 have c:∀k:Nat,k<w1.heap.size->v.ownBlock≠some k->w2.heap[k]?=w1.heap[k]?:=λk y I=>(t.block k (by simp;omega) (λe=>I e.symm)).trans (Below.heap_alloc w1 ob k y)
 have l:w2.heap[bm]?=w.heap[bm]?:=(c bm (by omega) h.a1).trans (p bm h.a3)
 have m:g≠bm/\g≠r:=by
  rcases x with e | e
  ·exact⟨λq=>h.a1 (q ▸ e),λq=>h.a2 (q ▸ e)⟩
  ·omega
 have A:∀z C,w.cell? (aA bm z)=some C->w2.cell? (aA bm z)=some C:=λz C B=>(World.cell?_of_block (a:=(aA bm z)) l).trans B
 have f:=A 2 _ h.c2;have d:w2.frozen? (aA bm 2)=false:=(World.frozen?_of_block (a:=(aA bm 2)) l).trans h.f2;refine⟨⟨?_,?_,World.cell?_setCell_same _ _ _ f,by rw[World.frozen?_setCell];exact d,?_,?_,λe=>m.1 (by simpa [Value.ownBlock] using e),λe=>m.2 (by simpa [Value.ownBlock] using e),h.a3,h.b1,h.b2,?_,?_⟩,⟨?_,?_,?_,?_,λk y M L N=>?_,?_,λo u H B=>(uC _ (.inr (λe=>H e.symm))).trans (A o u B)⟩,f,d⟩
 ·rw[uC _ (.inr (by omega))];exact A 0 _ h.c0
 ·rw[uC _ (.inr (by omega))];exact A 1 _ h.c1
 ·refine a3q.block (w:=w1) E ?_;rw[Below.heap_setCell _ _ _ _ (show r≠bm from λe=>h.a3 e.symm)];exact c r (by omega) h.a2
 ·refine uN (by simpa using s) (λk y=>Below.heap_setCell _ _ _ _ ?_);simp [Value.ownBlock] at y;show k≠bm;omega
 ·rw[List.nodup_append];exact⟨h.nd,by simp,λa K b G=>by simp at G;rw[G];intro e;exact Q (e ▸ K)⟩
 ·intro j P;rcases List.mem_append.1 P with q | q
  ·exact h.rg j q
  ·simp at q;omega
 ·exact(t.os.trans rfl).trans F
 ·exact(t.tape.trans rfl).trans R
 ·exact(t.output.trans rfl).trans D
 ·have:(w2.setCell (aA bm 2) (sS g (O.length+1) cap)).heap.size=w2.heap.size:=by simp [World.setCell]
  omega
 ·rw[Below.heap_setCell _ _ _ _ (show k≠bm from M),c k (by omega) N];exact p k L
 ·rcases x with e | e
  ·exact .inl e.symm
  ·exact .inr ⟨g,rfl,by omega⟩
theorem b5e:∃et,prog.underlying 158=some (.map 126 et)/\∀w,(zeroValue et).run prog w=.ok (iv 0) w:=⟨_,underlying158,λ_=>by kernel_rfl⟩
theorem c7i(a:Nat)(w:World):
  Calls prog 170 #[pP a,.pointer none] w λe w'=>e=.returned (.tuple #[])/\w'=w:=by
 go_enter func170,ntmps170;go_wp2_with fail
 try simp only [Exit.inBlock,Exit.then]
 refine bodyPost_ret (results_none rfl _ _ _) rfl ?_;exact⟨rfl,rfl⟩
theorem b5f(base p bv r z A n i:Nat)(v:Value)(O:List Nat)(w:World)(h:tN w base p bv r z A n v O)(hi:i<n)(hb:base<=w.heap.size)(ae:n<=8000):
  Calls prog 170 #[pP p,ptr z (A+i*2)] w λe w'=>e=.returned (.tuple #[])/\∃v',tN w' base p bv r z A n v' (ad O (some i))/\KFr p r v v' w w':=by
 obtain⟨et,t,T⟩:=b5e;obtain⟨i1,f,_,l,_⟩:=info_parts a2j;obtain⟨i0,K,N,M,I⟩:=info_parts a8k;have Y:=h.len;have S:=h.c1;have J:=h.c2;obtain⟨uu,V⟩:=h.m.lookup t a2o f (by rw[l];omega) T i;have x:=uU h;have HU:=uU t;have HN:=uU f;have HZ:=uU l;obtain⟨W,P,hv,_⟩:=h.form;subst hv;clear h t T f l;by_cases q:i∈O
 ·have E:decide (i∈O)=true:=decide_eq_true q;rw[E] at V;have D:ad O (some i)=O:=by unfold ad;simp only [if_pos q]
  rw[D];clear E D;go_enter func170,ntmps170;go_wp2_with fail
  try simp only [Exit.inBlock,Exit.then]
  refine bodyPost_ret (results_none rfl _ _ _) rfl ?_;exact⟨rfl,_,x,KFr.of_ext (Ext.refl _)⟩
 ·have E:decide (i∈O)=false:=decide_eq_false q;rw[E] at V;have D:ad O (some i)=O++[i]:=by unfold ad;simp only [if_neg q]
  rw[D];clear E D;obtain⟨L,ab,R,B,X,G,o,c⟩:=a3q.push (w:=w.drew) (x.m.block rfl) HU a2o HN (by rw[uH HZ];omega) i q;have dU:L.cell? (aA p 2)=some (.slice W O.length P):=(World.cell?_of_block (w:=w) (a:=(aA p 2)) (c p x.a3)).trans J;have OW:=uU (show L.ownsRow base 126 1 (.slice W O.length P) O.length (O.map (λi=>ptr z (A+i*2))) from uN x.s (λk hk=>c k (λe=>x.a2 (e ▸ hk))));have y:=uU (And.intro R (And.intro B (And.intro X (And.intro G (And.intro o c)))));have ac:base<=L.heap.size:=by rw[o];exact hb
  clear R B X G o c;go_enter func170,ntmps170;go_wp2_with fail
  go_region
  go_wp2_with (at_builtin;refine wpList_append_lies _ rfl _ _ 130 rfl base 126 i0 (.pointer none) 1 8 underlying130 K N M I rfl (by decide) _ O.length (O.map (λi=>ptr z (A+i*2))) rfl (OW.alloc _) _ 1 1 [ptr z (A+i*2)] rfl rfl ?S ?J (by decide) ?c3 ?c4 ?c5 _ rfl ?_)
  case S=>
   intro j u H
   match j,H with
   | 0,H=>simp at H;subst H;simp [Addr.add]
  case J=>intro u t;simp at t;subst t;rfl
  case c3=>unfold maxLen;omega
  case c4=>omega
  case c5=>simp;omega
  intro g aa w2 d b C Q;obtain⟨Z,U,q3,q4⟩:=tN.add x hi q y.1 y.2.1 y.2.2.1 y.2.2.2.1 y.2.2.2.2.1 y.2.2.2.2.2 d b (by simpa using C);have F:=uU (And.intro Z U);clear Z U d b C dU;go_wp2_with fail
  go_end0
  exact⟨rfl,_,F.1,F.2⟩
theorem b1z(base a f r b c n:Nat)(o:Option Nat)(v:Value)(O:List Nat)(w:World)(h:tN w base a f r b c n v O)(k:∀i,o=some i->i<n)(l:base<=w.heap.size)(d:n<=8000):
  Calls prog 170 #[pP a,pv b c o] w λe w'=>e=.returned (.tuple #[])/\∃v',tN w' base a f r b c n v' (ad O o)/\KFr a r v v' w w':=by
 cases o with
 | none=>exact(c7i a w).mono λ_ _ ⟨j,g⟩=>by subst g;exact⟨j,v,h,KFr.of_ext (Ext.refl _)⟩
 | some i=>exact b5f base a f r b c n i v O w h (k i rfl) l d
def Pend(Mt St:List Nat)(pre:Option Nat)(k:Nat):Prop:=¬k∈Mt\/k∈St\/pre=some k
def tW(x:Hp)(Mt St:List Nat)(g:Nat->List (Option Nat))(pre:Option Nat)(i l:Nat):Prop:=∀p,p<(x.c i).F.length->p<l->(SK (x.c i)->((x.c i).p p).key.k=2->tgt x ((x.c i).p p).key∈Mt)/\
 (SV (x.c i)->((x.c i).p p).val.k=2->(((x.c i).p p).key.k≠2->tgt x ((x.c i).p p).val∈Mt)/\(((x.c i).p p).key.k=2->tgt x ((x.c i).p p).val∈Mt\/(some (tgt x ((x.c i).p p).val)∈g (tgt x ((x.c i).p p).key)/\Pend Mt St pre (tgt x ((x.c i).p p).key))))
structure tV(x:Hp)(Mt St:List Nat)(g:Nat->List (Option Nat))(pre cur:Option Nat):Prop where
 only:∀i,i∈Mt->dE x i
 B:a6r x x.B.length Mt
 due:∀i,i<x.A.length->(x.c i).U=2->i∈Mt
 wh:∀k i,some i∈g k->dE x k->dE x i
 wl:∀k i,some i∈g k->i<x.A.length
 part:∀i,i∈Mt->i∈St\/cur=some i\/tW x Mt St g pre i (x.c i).F.length
theorem Pend.grow{pre:Option Nat}(h:Pend Mt St pre k)(G:zE Q Mt Mt' St St'):Pend Mt' St' pre k:=by
 rcases h with q | q | q
 ·by_cases e:k∈Mt'
  ·rcases G.n k e with r | ⟨_,r⟩
   ·exact(q r).elim
   ·exact .inr (.inl r)
  ·exact .inl e
 ·exact .inr (.inl (G.s k q))
 ·exact .inr (.inr q)
theorem tW.grow{g:Nat->List (Option Nat)}{pre:Option Nat}(h:tW x Mt St g pre i l)(G:zE Q Mt Mt' St St'):tW x Mt' St' g pre i l:=λp e d=>
 ⟨λa b=>G.m _ ((h p e d).1 a b),λa b=>⟨λc=>G.m _ (((h p e d).2 a b).1 c),λc=>by
  rcases ((h p e d).2 a b).2 c with q | ⟨q,r⟩
  ·exact .inl (G.m _ q)
  ·exact .inr ⟨q,r.grow G⟩⟩⟩
theorem tW.more{g g':Nat->List (Option Nat)}{pre:Option Nat}(h:tW x Mt St g pre i l)(a:∀k o,o∈g k->o∈g' k):tW x Mt St g' pre i l:=by grind [tW,Add.pre,Cl.p,Hp.c]
theorem tV.grow{g:Nat->List (Option Nat)}{pre cur:Option Nat}(h:tV x Mt St g pre cur)(G:zE Q Mt Mt' St St')(d:∀i,Q i->dE x i):tV x Mt' St' g pre cur:=
 ⟨λi a=>by
  rcases G.n i a with q | ⟨q,_⟩
  ·exact h.only i q
  ·exact d i q,λj c b e=>G.m _ (h.B j c b e),λi a e=>G.m _ (h.due i a e),h.wh,h.wl,λi a=>by
  rcases G.n i a with q | ⟨_,q⟩
  ·rcases h.part i q with r | r | r
   ·exact .inl (G.s i r)
   ·exact .inr (.inl r)
   ·exact .inr (.inr (r.grow G))
  ·exact .inl q⟩
theorem c6n{g:Nat->List (Option Nat)}{o:Option Nat}{q:Nat}{z:Option Nat}(h:z∈(λq=>if q=k then g k++[o] else g q) q):z∈g q\/(q=k/\z=o):=by
 by_cases e:q=k
 ·subst e;simp only [if_true,List.mem_append,List.mem_singleton] at h;rcases h with r | r
  ·exact .inl r
  ·exact .inr ⟨rfl,r⟩
 ·simp only [e,if_false] at h;exact .inl h
theorem c2y{g:Nat->List (Option Nat)}{o:Option Nat}(q:Nat)(z:Option Nat)(h:z∈g q):z∈(λq=>if q=k then g k++[o] else g q) q:=by
 by_cases e:q=k
 ·subst e;simp only [if_true];exact List.mem_append_left _ h
 ·simp only [e,if_false];exact h
theorem tV.wait{g:Nat->List (Option Nat)}{pre cur:Option Nat}(h:tV x Mt St g pre cur)(k:Nat)(o:Option Nat)(d:∀i,o=some i->dE x k->dE x i)(c:∀i,o=some i->i<x.A.length):tV x Mt St (λq=>if q=k then g k++[o] else g q) pre cur:=
 ⟨h.only,h.B,h.due,λq i a b=>by
  rcases c6n a with r | ⟨rfl,r⟩
  ·exact h.wh q i r b
  ·exact d i r.symm b,λq i a=>by
  rcases c6n a with r | ⟨rfl,r⟩
  ·exact h.wl q i r
  ·exact c i r.symm,λi a=>by
  rcases h.part i a with r | r | r
  ·exact .inl r
  ·exact .inr (.inl r)
  ·exact .inr (.inr (r.more c2y))⟩
theorem tV.shut{g:Nat->List (Option Nat)}(h:tV x Mt St g none (some j))(c:tW x Mt St g none j (x.c j).F.length):tV x Mt St g none none:=
 ⟨h.only,h.B,h.due,h.wh,h.wl,λi a=>by
  rcases h.part i a with r | r | r
  ·exact .inl r
  ·cases r;exact .inr (.inr c)
  ·exact .inr (.inr r)⟩
theorem tV.take{g:Nat->List (Option Nat)}(h:tV x Mt (St++[j]) g none none):tV x Mt St g (some j) (some j):=
 ⟨h.only,h.B,h.due,h.wh,h.wl,λi f=>by
  rcases h.part i f with r | r | r
  ·grind [a1i.at,a6s.at]
  ·cases r
  ·refine .inr (.inr λp e d=>⟨(r p e d).1,λa b=>⟨((r p e d).2 a b).1,λc=>?_⟩⟩);rcases ((r p e d).2 a b).2 c with q | ⟨q,s⟩
   ·exact .inl q
   ·refine .inr ⟨q,?_⟩;rcases s with s | s | s
    ·exact .inl s
    ·rcases List.mem_append.1 s with t | t
     ·exact .inr (.inl t)
     ·simp at t;exact .inr (.inr (by rw[t]))
    ·cases s⟩
theorem tV.freed{g:Nat->List (Option Nat)}(h:tV x Mt St g (some j) (some j))(f:∀i,some i∈g j->i∈Mt):tV x Mt St g none (some j):=
 ⟨h.only,h.B,h.due,h.wh,h.wl,λi k=>by
  rcases h.part i k with r | r | r
  ·exact .inl r
  ·grind
  ·refine .inr (.inr λp e d=>⟨(r p e d).1,λa b=>⟨((r p e d).2 a b).1,λc=>?_⟩⟩);rcases ((r p e d).2 a b).2 c with q | ⟨q,s⟩
   ·exact .inl q
   ·rcases s with s | s | s
    ·exact .inr ⟨q,.inl s⟩
    ·exact .inr ⟨q,.inr (.inl s)⟩
    ·cases s;exact .inl (f _ q)⟩
theorem tV.done{g:Nat->List (Option Nat)}(h:tV x Mt [] g none none)(i:Nat):i∈Mt↔dE x i:=by
 constructor
 ·exact h.only i
 ·intro r
  have m:∀j,j∈Mt->tW x Mt [] g none j (x.c j).F.length:=λj n=>by
   rcases h.part j n with q | q | q
   ·cases q
   ·cases q
   ·exact q
  refine r (λi=>i∈Mt) (λk a f=>h.B k a a f) h.due (λj p d b l a=>(m j d p b b).1 l a) (λj p d b l o a=>?_);have c:=(m j d p b b).2 l a;by_cases e:((x.c j).p p).key.k=2
  ·rcases c.2 e with q | ⟨_,s⟩
   ·exact q
   ·rcases s with s | s | s
    ·exact(s (o e)).elim
    ·cases s
    ·cases s
  ·exact c.1 e
theorem a8v{S:List Nat}{g g':Nat->List (Option Nat)}{Q2:Nat->Prop}(C:tW x M S g none j l)(s:zE Q M M2 S S2)(t:SK (x.c j)->((x.c j).p l).key.k=2->tgt x ((x.c j).p l).key∈M2)
  (V:(¬SV (x.c j)/\M3=M2/\S3=S2/\g'=g)\/Bes (wo x ((x.c j).p l).key) (wo x ((x.c j).p l).val) M2 M3 S2 S3 g g') (f:zE Q2 M2 M3 S2 S3):tW x M3 S3 g' none j (l+1):=by
 have i:∀k o,o∈g k->o∈g' k:=by
  rcases V with⟨_,_,_,e⟩ | ⟨_,_,_,e⟩ | ⟨k,_,_,_,_,e⟩
  ·subst e;exact λ_ _ h=>h
  ·subst e;exact λ_ _ h=>h
  ·subst e;exact c2y
 intro p r u;by_cases e:p=l
 ·subst e;refine⟨λa b=>f.m _ (t a b),λa b=>?_⟩;have d:wo x ((x.c j).p p).val=some (tgt x ((x.c j).p p).val):=by unfold wo;rw[if_pos b]
  rcases V with⟨n,_⟩ | ⟨_,_,m,_⟩ | ⟨k,ek,nk,em,_,eg⟩
  ·exact(n a).elim
  ·exact⟨λ_=>m _ d,λ_=>.inl (m _ d)⟩
  ·unfold wo at ek
   split at ek
   ·rename_i q;cases ek;refine⟨λn=>(n q).elim,λ_=>.inr ⟨?_,.inl (by rw[em];exact nk)⟩⟩;rw[eg,d];simp
   ·cases ek
 ·exact(((C.grow s).grow f).more i) p r (by omega)
theorem Bes.grow{o1 o2:Option Nat}{S:List Nat}{g g':Nat->List (Option Nat)}(h:Bes o1 o2 M M' S S' g g'):zE (λi=>o2=some i/\(o1=none\/∃k,o1=some k/\k∈M)) M M' S S':=by
 rcases h with⟨a,b,_,_⟩ | ⟨k,_,_,rfl,rfl,_⟩
 ·grind [Bes]
 ·exact zE.refl
theorem Bes.len{o1 o2:Option Nat}{S:List Nat}{g g':Nat->List (Option Nat)}(h:Bes o1 o2 M M' S S' g g')(k:Nat):(g' k).length<=(g k).length+1:=by grind [Bes]
theorem tV.beside{g g':Nat->List (Option Nat)}(h:tV x M2 S2 g none (some j))(t:dE x j)(u:l<(x.c j).F.length)(v:SV (x.c j))(q:a0y x ((x.c j).p l).val)
  (B:Bes (wo x ((x.c j).p l).key) (wo x ((x.c j).p l).val) M2 M3 S2 S3 g g'):tV x M3 S3 g' none (some j):=by
 have n:∀i,wo x ((x.c j).p l).val=some i->(((x.c j).p l).key.k=2->dE x (tgt x ((x.c j).p l).key))->dE x i:=λi e s=>by
  obtain⟨_,k,rfl⟩:=b0o q i e;exact dE.val j l t u v s k
 rcases B with⟨a,b,_,e⟩ | ⟨k,ek,_,rfl,rfl,e⟩
 ·rw[e];refine h.grow b (λi d=>n i d (λf=>?_));have o:wo x ((x.c j).p l).key=some (tgt x ((x.c j).p l).key):=by unfold wo;rw[if_pos f]
  rcases a with a | ⟨k,a,m⟩
  ·rw[o] at a;cases a
  ·rw[o] at a;cases a;exact h.only _ m
 ·rw[e];refine h.wait k _ (λi d r=>n i d (λf=>?_)) (λi d=>(b0o q i d).1);unfold wo at ek;rw[if_pos f] at ek;cases ek;exact r
def nw(x:Hp)(O:List Nat)(y:Wd):Wd:=if y.k=2 then ⟨2,0,((O.idxOf (tgt x y):Nat):Int)⟩ else y
def np(x:Hp)(O:List Nat)(p:Pr):Pr:=⟨nw x O p.key,nw x O p.val⟩
theorem b2a(x:Hp)(y:Wd)(b base E r l p:Nat)(v:Value)(O:List Nat)(w:World){ac:Nat->Option Addr}(L:VNt w b x ar kr ac (some (aA l p)) kn)(j:R2 x)(h:tN w base E b r l p x.A.length v O)(M:a0y x y)(Z:y.k=2->tgt x y∈O):
  Calls prog 104 #[pP E,y.v] w λe w'=>e=.returned (nw x O y).v/\Ext w w':=by
 obtain⟨z,A⟩:∃z,z=nw x O y:=⟨_,rfl⟩;rw[<-A];have J:=uU A;clear A;obtain⟨et,D,G⟩:=b5e;obtain⟨i1,d,_,g,_⟩:=info_parts a2j;have K:=((Ext.refl w).alloc (.cells #[iv y.k,iv y.n,iv y.a] 152)).alloc (.cells #[iv 0,iv 0,iv 0] 152);have Y:=h.c0;have T:E<w.heap.size:=uL Y;have HV:=uU L;have W:=uU h;have X:=uU j;have N:=uU M;clear L h j M;go_enter func104,ntmps104;go_wp2_with fail;go_cut [5] (λQ V=>Q=pv l p (wo x y)/\Hid (Ext ((w.alloc (.cells #[iv y.k,iv y.n,iv y.a] 152)).alloc (.cells #[iv 0,iv 0,iv 0] 152)) V))
 case first=>
  go_region_with (go_at_call 123;refine(a4i x y b _ l p (HV.ext K.drew) X N).mono ?_;rintro e w2 ⟨rfl,B⟩)
  all_goals
   go_wp2_with fail;go_meet;exact⟨rfl,Ext.trans ((Ext.refl _).drew) B⟩
 case rest=>
  obtain⟨rfl,c⟩:=hcut;have c:=uH c;have u:=K.trans c;have z1:w.heap.size+1<wc.heap.size:=by have:=c.size;simp at this;omega
  have S:=(uK c).1;have P:=(uK c).2;have F:=c.keep (b:=w.heap.size+1) (o:=0) (v:=iv 0) (by simp [go_sem]);have H:=c.keep (b:=w.heap.size+1) (o:=1) (v:=iv 0) (by simp [go_sem]);have j:=c.keep (b:=w.heap.size+1) (o:=2) (v:=iv 0) (by simp [go_sem]);have v0:=c.keep (b:=w.heap.size) (o:=0) (v:=iv y.k) (by simp [go_sem]);have v1:=c.keep (b:=w.heap.size) (o:=1) (v:=iv y.n) (by simp [go_sem]);have v2:=c.keep (b:=w.heap.size) (o:=2) (v:=iv y.a) (by simp [go_sem]);clear c;by_cases f:y.k=2
  ·have i:wo x y=some (tgt x y):=by unfold wo;rw[if_pos f]
   have C:z=⟨2,0,((O.idxOf (tgt x y):Nat):Int)⟩:=by rw[uH J];unfold nw;rw[if_pos f]
   subst C;rw[i,pv_some];have t:=W.ext u;have c1:=t.c1;have I:=t.m.get D a2o d (by rw[g];omega) (tgt x y) (Z f);obtain⟨q,c⟩:∃q,q=tgt x y:=⟨_,rfl⟩;rw[<-c] at I;rw[<-c];obtain⟨m,s⟩:∃m,m=O.idxOf q:=⟨_,rfl⟩;rw[<-s] at I;have R:=uU s;have U:=uU c;clear i t c s D G d g f;go_wp2_with fail;refine bodyPost_ret (v:=.agg #[iv 2,iv 0,iv (m:Nat)]) (by simp [results,results104,go_sem,F,H,j]) rfl ⟨by rw[uH R,uH U],?_⟩
   repeat (first | refine Ext.setCell ?_ (by show w.heap.size<=w.heap.size+1;omega) _ | exact u)
  ·have i:wo x y=none:=by unfold wo;rw[if_neg f]
   have C:z=y:=by rw[uH J];unfold nw;rw[if_neg f]
   subst C;rw[i,pv_none];clear i D G d g f;go_wp2_with fail;refine bodyPost_ret (v:=z.v) (by simp [results,results104,go_sem,F,H,j]) rfl ⟨rfl,?_⟩
   repeat (first | refine Ext.setCell ?_ (by show w.heap.size<=w.heap.size+1;omega) _ | exact u)
structure Nd where
 kind:Int
 T:Int
 U:Int
 rank:Int
 F:List Pr
structure a6d(w:World)(B n k:Nat)(f:Nat->Wd):Prop where
 s:∀q,q<k->yU w B (0+q*3) (f q)
 o:∀q,q<n*3->qC w B q
 n:Nf1 B w
theorem a6d.ext{f:Nat->Wd}(h:a6d w B n k f)(e:Ext w w'):a6d w' B n k f:=⟨λq a=>(h.s q a).ext e,λq a=>(h.o q a).ext e,h.n.ext e⟩
theorem qC.only{o:Nat}(h:qC w b o)(k:uX S w w')(c:¬S b):qC w' b o:=by
 obtain⟨⟨v,a⟩,d⟩:=h;exact⟨⟨v,k.keep c a⟩,by rw[k.frozen (uL a) c];exact d⟩
theorem Nf1.only(h:Nf1 B w)(k:uX S w w')(a:¬S B):Nf1 B w':=⟨Nat.lt_of_lt_of_le h.1 k.size,λj=>by rw[k.frozen h.1 a];exact h.2 j⟩
theorem a6d.only{f:Nat->Wd}(h:a6d w B n k f)(e:uX S w w')(b:¬S B):a6d w' B n k f:=
 ⟨λq a=>⟨e.keep b (h.s q a).1,e.keep b (h.s q a).2.1,e.keep b (h.s q a).2.2⟩,λq a=>(h.o q a).only e b,h.n.only e b⟩
theorem a6d.step{f:Nat->Wd}(h:a6d w B n k f)(i:k<n):a6d (w.setCells B (k*3) [iv (f k).k,iv (f k).n,iv (f k).a]) B n (k+1) f/\uX (λq=>q=B) w (w.setCells B (k*3) [iv (f k).k,iv (f k).n,iv (f k).a]):=by
 have b:∀j,j<[iv (f k).k,iv (f k).n,iv (f k).a].length->qC w B (k*3+j):=λj g=>h.o (k*3+j) (by simp at g;omega)
 refine⟨⟨λq d=>?_,λq d=>a9z (h.o q d),h.n.put⟩,a5a (S:=λq=>q=B) rfl (uX.refl _ w)⟩;by_cases e:q=k
 ·subst e;refine⟨?_,?_,?_⟩
  ·have:=a2m b 0 (by simp)
   simpa using this
  ·have:=a2m b 1 (by simp)
   simpa using this
  ·have:=a2m b 2 (by simp)
   simpa using this
 ·have c:=h.s q (by omega);refine⟨?_,?_,?_⟩
  ·rw[a1p _ _ (Or.inr (by simp;omega))];exact c.1
  ·rw[a1p _ _ (Or.inr (by simp;omega))];exact c.2.1
  ·rw[a1p _ _ (Or.inr (by simp;omega))];exact c.2.2
theorem b5h:(prog.info? 99).map (λi=>(i.zero,i.size,i.bytes))=some (some (.agg #[iv 0,iv 0,iv 0,iv 0,.slice none 0 0]),5,56):=by kernel_rfl
theorem mkNdU(n:Nat)(f:n<=1048576):∃z,∀w,(Instr.makeSlice 42 (iv n) (iv n)).run prog w=.ok (sS w.heap.size n n) (w.alloc (.cells (madeCells z (n*5)) 99)):=by
 obtain⟨e,d,a,c,b⟩:=info_parts b5h;refine⟨#[iv 0,iv 0,iv 0,iv 0,.slice none 0 0],λw=>?_⟩;have h:=run_make (P:=prog) w 42 99 e _ underlying42 d a .i64 .i64 n n (by omega) (Int.le_refl _) (by rw[b];omega) (by omega);rw[c] at h;simp only [Int.toNat_natCast] at h;exact h
theorem mkWdU(n:Nat)(f:n<=1048576):∃z,∀w,(Instr.makeSlice 30 (iv n) (iv n)).run prog w=.ok (sS w.heap.size n n) (w.alloc (.cells (madeCells z (n*3)) 152)):=by
 obtain⟨e,d,a,c,b⟩:=info_parts b1m;refine⟨#[iv 0,iv 0,iv 0],λw=>?_⟩;have h:=run_make (P:=prog) w 30 152 e _ underlying30 d a .i64 .i64 n n (by omega) (Int.le_refl _) (by rw[b];omega) (by omega);rw[c] at h;simp only [Int.toNat_natCast] at h;exact h
def eJ(w:World)(B n:Nat):Prop:=(∀q,q<n->qC w B q)/\Nf1 B w
theorem eJ.made(w:World)(z:Array Value)(n:Nat)(t:TypeId):eJ (w.alloc (.cells (madeCells z n) t)) w.heap.size n:=⟨λq a=>a2s w z n t q a,Nf1.made w z n t⟩
theorem eJ.made2{z:Array Value}(h:B=w.heap.size):eJ (w.alloc (.cells (madeCells z n) t)) B n:=h ▸ eJ.made w z n t
theorem eJ.ext(h:eJ w B n)(e:Ext w w'):eJ w' B n:=⟨λq a=>(h.1 q a).ext e,h.2.ext e⟩
theorem eJ.alloc(h:eJ w B n)(o:Obj):eJ (w.alloc o) B n:=h.ext ((Ext.refl w).alloc o)
theorem eJ.drew(h:eJ w B n):eJ w.drew B n:=h.ext (Ext.refl w).drew
theorem eJ.only(h:eJ w B n)(k:uX S w w')(a:¬S B):eJ w' B n:=⟨λq b=>(h.1 q b).only k a,h.2.only k a⟩
structure yN(w:World)(B n k B0:Nat)(c:Nat->Cl)(m:Pr->Pr)(rk:Nat->Int)(pb:Nat->Nat):Prop where
 s:∀q,q<k->w.cell? ⟨B,q*5,none⟩=some (iv (c q).kind)/\w.cell? ⟨B,q*5+1,none⟩=some (iv (c q).T)/\w.cell? ⟨B,q*5+2,none⟩=some (iv (c q).U)/\w.cell? ⟨B,q*5+3,none⟩=some (iv (rk q))/\w.cell? ⟨B,q*5+4,none⟩=some (.slice (some ⟨pb q,0,none⟩) (c q).F.length (c q).F.length)
 p:∀q,q<k->SlP w (.slice (some ⟨pb q,0,none⟩) (c q).F.length (c q).F.length) ((c q).F.map m)/\Nf1 (pb q) w/\B0<=pb q/\pb q≠B
 d:∀q q',q<k->q'<k->q≠q'->pb q≠pb q'
 o:eJ w B (n*5)
theorem yN.ext{c:Nat->Cl}{m:Pr->Pr}{rk:Nat->Int}(h:yN w B n k B0 c m rk pb)(e:Ext w w'):yN w' B n k B0 c m rk pb:=
 ⟨λq a=>⟨e.keep (h.s q a).1,e.keep (h.s q a).2.1,e.keep (h.s q a).2.2.1,e.keep (h.s q a).2.2.2.1,e.keep (h.s q a).2.2.2.2⟩,λq a=>⟨SlP.ext e (h.p q a).1,(h.p q a).2.1.ext e,(h.p q a).2.2⟩,h.d,h.o.ext e⟩
theorem yN.only{c:Nat->Cl}{m:Pr->Pr}{rk:Nat->Int}(h:yN w B n k B0 c m rk pb)(e:uX S w w')(f:¬S B)(g:∀q,q<k->¬S (pb q)):yN w' B n k B0 c m rk pb:=
 ⟨λq a=>⟨e.keep f (h.s q a).1,e.keep f (h.s q a).2.1,e.keep f (h.s q a).2.2.1,e.keep f (h.s q a).2.2.2.1,e.keep f (h.s q a).2.2.2.2⟩,λq a=>⟨a6y e (λb o n c z=>by simp at z;rw[<-z.1.1];exact g q a) (h.p q a).1,(h.p q a).2.1.only e (g q a),(h.p q a).2.2⟩,h.d,h.o.only e f⟩
theorem yN.less{B1:Nat}{c:Nat->Cl}{m:Pr->Pr}{rk:Nat->Int}(h:yN w B n k B0 c m rk pb)(b:B1<=B0):yN w B n k B1 c m rk pb:=⟨h.s,λq a=>⟨(h.p q a).1,(h.p q a).2.1,Nat.le_trans b (h.p q a).2.2.1,(h.p q a).2.2.2⟩,h.d,h.o⟩
theorem yN.step{P:Nat}{c:Nat->Cl}{m:Pr->Pr}{rk:Nat->Int}(h:yN w B n k B0 c m rk pb)(J:k<n)(F:SlP w (sS P (c k).F.length (c k).F.length) ((c k).F.map m))(G:Nf1 P w)(H:B0<=P)(A:P≠B)(C:∀q,q<k->pb q≠P)(I:rk k=0):
  yN (w.setCells B (k*5) [iv (c k).kind,iv (c k).T,iv (c k).U,iv 0,sS P (c k).F.length (c k).F.length]) B n (k+1) B0 c m rk (λq=>if q=k then P else pb q)/\uX (λq=>q=B) w (w.setCells B (k*5) [iv (c k).kind,iv (c k).T,iv (c k).U,iv 0,sS P (c k).F.length (c k).F.length]):=by
 have f:∀j,j<[iv (c k).kind,iv (c k).T,iv (c k).U,iv 0,(sS P (c k).F.length (c k).F.length:Value)].length->qC w B (k*5+j):=λj E=>h.o.1 (k*5+j) (by simp at E;omega)
 have a:uX (λq=>q=B) w (w.setCells B (k*5) [iv (c k).kind,iv (c k).T,iv (c k).U,iv 0,sS P (c k).F.length (c k).F.length]):=a5a (S:=λq=>q=B) rfl (uX.refl _ w);refine⟨⟨λq l=>?_,λq l=>?_,λq t l D i=>?_,⟨λq l=>a9z (h.o.1 q l),h.o.2.put⟩⟩,a⟩
 ·by_cases e:q=k
  ·subst e;simp only [if_true];refine⟨?_,?_,?_,?_,?_⟩
   ·have:=a2m f 0 (by simp)
    simpa using this
   ·have:=a2m f 1 (by simp)
    simpa using this
   ·have:=a2m f 2 (by simp)
    simpa using this
   ·have:=a2m f 3 (by simp);rw[I];simpa using this
   ·have:=a2m f 4 (by simp)
    simpa using this
  ·simp only [e,if_false];have g:=h.s q (by omega);refine⟨?_,?_,?_,?_,?_⟩
   ·rw[a1p _ _ (Or.inr (by simp;omega))];exact g.1
   ·rw[a1p _ _ (Or.inr (by simp;omega))];exact g.2.1
   ·rw[a1p _ _ (Or.inr (by simp;omega))];exact g.2.2.1
   ·rw[a1p _ _ (Or.inr (by simp;omega))];exact g.2.2.2.1
   ·rw[a1p _ _ (Or.inr (by simp;omega))];exact g.2.2.2.2
 ·by_cases e:q=k
  ·subst e;simp only [if_true];exact⟨a6y a (λb o n c z y=>by injection z with u _ _;injection u with x;injection x with v;exact A (v.trans y)) F,G.only a A,H,A⟩
  ·simp only [e,if_false];have g:=h.p q (by omega);exact⟨a6y a (λb o n c z y=>by injection z with u _ _;injection u with x;injection x with v;exact g.2.2.2 (v.trans y)) g.1,g.2.1.only a g.2.2.2,g.2.2⟩
 ·by_cases e:q=k
  ·subst e;have r:¬t=q:=λz=>i z.symm
   simp only [if_true,r,if_false];exact λz=>C t (by omega) z.symm
  ·by_cases r:t=k
   ·subst r;simp only [if_true,e,if_false];exact C q (by omega)
   ·simp only [e,r,if_false];exact h.d q t (by omega) (by omega) i
theorem yN.rank{c:Nat->Cl}{m:Pr->Pr}{rk rk':Nat->Int}(h:yN w B n n B0 c m rk pb)(q:Nat)(t:q<n)(v:Int)(r:rk' q=v)(l:∀p,p<n->p≠q->rk' p=rk p):
  yN (w.setCell (aA B (q*5+3)) (iv v)) B n n B0 c m rk' pb/\uX (λz=>z=B) w (w.setCell (aA B (q*5+3)) (iv v)):=by
 have f:uX (λz=>z=B) w (w.setCell (aA B (q*5+3)) (iv v)):=uX.setCell (S:=λz=>z=B) (p:=(aA B (q*5+3))) (uX.refl _ w) rfl (iv v);refine⟨⟨λp g=>?_,λp g=>?_,h.d,⟨λp g=>(h.o.1 p g).set _ _,h.o.2.set _ _⟩⟩,f⟩
 ·have a:=h.s p g;refine⟨?_,?_,?_,?_,?_⟩
  ·rw[uC _ (.inr (by omega))];exact a.1
  ·rw[uC _ (.inr (by omega))];exact a.2.1
  ·rw[uC _ (.inr (by omega))];exact a.2.2.1
  ·by_cases e:p=q
   ·subst e;rw[r];exact(h.o.1 (p*5+3) (by omega)).same _
   ·rw[uC _ (.inr (by omega)),l p g e];exact a.2.2.2.1
  ·rw[uC _ (.inr (by omega))];exact a.2.2.2.2
 ·have a:=h.p p g;exact⟨a6y f (λb o n c z y=>by injection z with j _ _;injection j with k;injection k with i;exact a.2.2.2 (i.trans y)) a.1,a.2.1.only f a.2.2.2,a.2.2⟩
def rkN(N:List Nat)(oj:Nat->Nat)(k:Nat)(q:Nat):Int:=if N.idxOf (oj q)<k then ((N.idxOf (oj q):Nat):Int)+1 else 0
theorem d0u{N:List Nat}{oj:Nat->Nat}(c:N.Nodup)(d:O.Nodup)(e:∀q (h:q<O.length),oj q=O[q])(a:k<N.length)(b:N[k]∈O):rkN N oj (k+1) (O.idxOf N[k])=(k:Int)+1/\∀p,p<O.length->p≠O.idxOf N[k]->rkN N oj (k+1) p=rkN N oj k p:=by grind [rkN,Cl.p,dW.hlt]
def b5i(x:Hp)(B:Nat)(w:World)(vr vn:Value):Prop:=∃(N O:List Nat) (br bq:Nat) (pb:Nat->Nat) (f:Nat->Wd) (oj:Nat->Nat),IsW x N/\O=yC x N/\vr=.slice (some ⟨br,0,none⟩) x.B.length x.B.length/\vn=.slice (some ⟨bq,0,none⟩) O.length O.length/\a6d w br x.B.length x.B.length f/\(∀q (h:q<x.B.length),f q=nw x O x.B[q])/\(∀q (h:q<O.length),oj q=O[q])/\yN w bq O.length O.length B (λq=>x.c (oj q)) (np x O) (rkN N oj N.length) pb/\br≠bq/\(∀q,q<O.length->pb q≠br)/\B<=br/\B<=bq
def GBox(x:Hp)(n:Nat)(w2 wx:World)(br bq bg:Nat):Prop:=eJ wx br (x.B.length*3)/\eJ wx bq (n*5)/\wx.cell? ⟨bg,0,none⟩=some (.slice (some ⟨br,0,none⟩) x.B.length x.B.length)/\wx.cell? ⟨bg,1,none⟩=some (.slice (some ⟨bq,0,none⟩) n n)/\(br≠bq/\br≠bg/\bq≠bg/\w2.heap.size<=br/\w2.heap.size<=bq/\w2.heap.size<=bg)/\Ext w2 wx
theorem gb_ABG(x:Hp)(n:Nat)(a:World)(b c:Array Value):GBox x n a (((a.alloc (.cells (madeCells b (x.B.length*3)) 152)).alloc (.cells (madeCells c (n*5)) 99)).alloc (.cells #[sS a.heap.size x.B.length x.B.length,sS (a.heap.size+1) n n] 44)).drew (a.heap.size) (a.heap.size+1) (a.heap.size+1+1):=
 ⟨(((eJ.made2 rfl).alloc _).alloc _).drew,((eJ.made2 (by simp)).alloc _).drew,by simp [go_sem],by simp [go_sem],⟨by omega,by omega,by omega,by omega,by omega,by omega⟩,((((Ext.refl a).alloc _).alloc _).alloc _).drew⟩
theorem gb_AGB(x:Hp)(n:Nat)(a:World)(b c:Array Value):GBox x n a (((a.alloc (.cells (madeCells b (x.B.length*3)) 152)).alloc (.cells #[sS a.heap.size x.B.length x.B.length,sS (a.heap.size+1+1) n n] 44)).alloc (.cells (madeCells c (n*5)) 99)).drew (a.heap.size) (a.heap.size+1+1) (a.heap.size+1):=
 ⟨(((eJ.made2 rfl).alloc _).alloc _).drew,(eJ.made2 (by simp)).drew,by simp [go_sem],by simp [go_sem],⟨by omega,by omega,by omega,by omega,by omega,by omega⟩,((((Ext.refl a).alloc _).alloc _).alloc _).drew⟩
theorem gb_BAG(x:Hp)(n:Nat)(a:World)(b c:Array Value):GBox x n a (((a.alloc (.cells (madeCells c (n*5)) 99)).alloc (.cells (madeCells b (x.B.length*3)) 152)).alloc (.cells #[sS (a.heap.size+1) x.B.length x.B.length,sS a.heap.size n n] 44)).drew (a.heap.size+1) (a.heap.size) (a.heap.size+1+1):=
 ⟨((eJ.made2 (by simp)).alloc _).drew,(((eJ.made2 rfl).alloc _).alloc _).drew,by simp [go_sem],by simp [go_sem],⟨by omega,by omega,by omega,by omega,by omega,by omega⟩,((((Ext.refl a).alloc _).alloc _).alloc _).drew⟩
theorem gb_BGA(x:Hp)(n:Nat)(a:World)(b c:Array Value):GBox x n a (((a.alloc (.cells (madeCells c (n*5)) 99)).alloc (.cells #[sS (a.heap.size+1+1) x.B.length x.B.length,sS a.heap.size n n] 44)).alloc (.cells (madeCells b (x.B.length*3)) 152)).drew (a.heap.size+1+1) (a.heap.size) (a.heap.size+1):=
 ⟨(eJ.made2 (by simp)).drew,(((eJ.made2 rfl).alloc _).alloc _).drew,by simp [go_sem],by simp [go_sem],⟨by omega,by omega,by omega,by omega,by omega,by omega⟩,((((Ext.refl a).alloc _).alloc _).alloc _).drew⟩
theorem gb_GAB(x:Hp)(n:Nat)(a:World)(b c:Array Value):GBox x n a (((a.alloc (.cells #[sS (a.heap.size+1) x.B.length x.B.length,sS (a.heap.size+1+1) n n] 44)).alloc (.cells (madeCells b (x.B.length*3)) 152)).alloc (.cells (madeCells c (n*5)) 99)).drew (a.heap.size+1) (a.heap.size+1+1) (a.heap.size):=
 ⟨((eJ.made2 (by simp)).alloc _).drew,(eJ.made2 (by simp)).drew,by simp [go_sem],by simp [go_sem],⟨by omega,by omega,by omega,by omega,by omega,by omega⟩,((((Ext.refl a).alloc _).alloc _).alloc _).drew⟩
theorem gb_GBA(x:Hp)(n:Nat)(a:World)(b c:Array Value):GBox x n a (((a.alloc (.cells #[sS (a.heap.size+1+1) x.B.length x.B.length,sS (a.heap.size+1) n n] 44)).alloc (.cells (madeCells c (n*5)) 99)).alloc (.cells (madeCells b (x.B.length*3)) 152)).drew (a.heap.size+1+1) (a.heap.size+1) (a.heap.size):=
 ⟨(eJ.made2 (by simp)).drew,((eJ.made2 (by simp)).alloc _).drew,by simp [go_sem],by simp [go_sem],⟨by omega,by omega,by omega,by omega,by omega,by omega⟩,((((Ext.refl a).alloc _).alloc _).alloc _).drew⟩
theorem tN.V(w:World)(a d e n:Nat)(t:TypeId):tN ((w.alloc (.map #[] 0)).alloc (.cells #[pP a,.map (some w.heap.size),.slice none 0 0] t)) w.heap.size (w.heap.size+1) a w.heap.size d e n (.slice none 0 0) []:=by
 have c:((w.alloc (.map #[] 0)).alloc (.cells #[pP a,.map (some w.heap.size),.slice none 0 0] t)).heap[w.heap.size]?=some (.map #[] 0):=by
  rw[Below.heap_alloc _ _ _ (by simp)];exact heap_alloc_new w _
 exact⟨by simp [go_sem],by simp [go_sem],by simp [go_sem],by simp [go_sem],⟨#[],0,c,by simp [a1i]⟩,World.ownsRow_nil _ _ _ _,by simp [Value.ownBlock],by simp [Value.ownBlock],by omega,by omega,Nat.le_refl _,List.nodup_nil,λi b=>by cases b⟩
theorem c1h{α:Type}(f:List Nat->α->List Nat)(hf:∀O a,∃R,f O a=O++R):∀(l:List α) (O:List Nat),∃R,l.foldl f O=O++R
 | [],O=>⟨[],by simp⟩
 | a::l,O=>by
  obtain⟨R,e⟩:=hf O a;obtain⟨R',e'⟩:=c1h f hf l (f O a);exact⟨R++R',by rw[List.foldl_cons,e',e,List.append_assoc]⟩
theorem prO_pre(x:Hp)(j p:Nat)(O:List Nat):∃R,prO x j p O=O++R:=c1h _ (λO q=>by
 obtain⟨R,e⟩:=b8y O (wq x q.key);obtain⟨b,a⟩:=b8y (ad O (wq x q.key)) (wq x q.val);exact⟨R++b,by rw[a,e,List.append_assoc]⟩) _ O
theorem b9a(x:Hp)(b:Nat)(w:World){ac:Nat->Option Addr}(r u:Nat)(h:VNt w b x ar kr ac (some (aA r u)) kn)(r2:R2 x)(r4:R4 x)(J:x.A.length<=8000)(N:List Nat)(hN:IsW x N)(g:Option Addr)(cap:Nat)(hg:∀k (h:k<N.length),∃gb go,g=some (aA gb go)/\w.cell? (aA gb (go+k))=some (ptr r (u+N[k]*2))):
  Calls prog 103 #[pP b,.slice g N.length cap] w λe w'=>e=.returned (pP (w.heap.size+1))/\∃v,tN w' w.heap.size (w.heap.size+1) b w.heap.size r u x.A.length v (yC x N)/\Ext w w':=by
 have c3:=h.H.c3;have lr:=h.H.lr;have HV:=uU h;have W:=uU r2;have Q4:=uU r4;have HG:=uU hg;have WN:=uU hN;have an:N.length<=8000:=by have:=a6b hN.nd (λi hi=>((hN.m i).1 hi).1);omega
 have ai:∀(t:TypeId) (w:World),(Instr.makeMap t none).run prog w=.ok (.map (some w.heap.size)) (w.alloc (.map #[] 0)):=λ_ _=>rfl
 have c4:=(((Ext.refl w).alloc (.map #[] 0)).alloc (.cells #[pP b,.map (some w.heap.size),.slice none 0 0] 160)).keep c3;have S0:=uU (tN.V w b r u x.A.length 160);clear h r2 r4 hg hN;go_enter func103,ntmps103;go_wp2_with fail;go_loopw [23] (λi wr=>∃(k:Nat) (v:Value),k<=x.B.length/\i=iv k/\tN wr w.heap.size (w.heap.size+1) b w.heap.size r u x.A.length v (a6a x k)/\Ext w wr) (λi _=>x.B.length-(intOf i).toNat)
 case atStart=>exact⟨0,_,Nat.zero_le _,rfl,S0,((Ext.refl w).alloc _).alloc _⟩
 case round=>
  clear S0 c3 c4 ai;obtain⟨k,v,hk,rfl,A,d⟩:=hrel;have q:=uU A;clear A;by_cases l:k<x.B.length
  ·have hh:=HV.ext d;obtain⟨b',o,rfl,p0,p1,p2⟩:=hh.H.R k l;have aj:(0:Int)<=(k:Int):=by omega
   have ah:(k:Int)<(x.B.length:Int):=by omega
   have Y:=(Ext.refl wr).alloc (.cells #[iv x.B[k].k,iv x.B[k].n,iv x.B[k].a] 152);have MY:=uU (a2b W Q4 k l);clear hh;go_wp2_with fail;refine(a4i x x.B[k] b _ r u (HV.ext (d.trans Y)) W MY).mono ?_;rintro e w2 ⟨rfl,hq⟩;have I:=Y.trans hq;go_wp2_with fail;refine(b1z w.heap.size (w.heap.size+1) b w.heap.size r u x.A.length (wo x x.B[k]) v (a6a x k) _ (q.ext I) (λi e=>(b0o MY i e).1) (d.trans I).size J).mono ?_;rintro e T ⟨rfl,L,y,E⟩;have R:=uU (show tN T w.heap.size (w.heap.size+1) b w.heap.size r u x.A.length L (a6a x (k+1))/\Ext w T from⟨by rw[b1w k l];exact y,(q.ext I).kext E (d.trans I)⟩);clear y E;go_wp2_with fail;go_roundw
   case rel=>exact⟨k+1,L,by omega,by go_num,R.1,R.2⟩
   case measure=>simp [intOf];omega
  ·have V:k=x.B.length:=by omega
   subst V;have K:=uU d
   have SP:=uU (show b5d wr g (w.heap.size+1) w.heap.size v r u N from λi hi=>by
    obtain⟨gb,go,e,c⟩:=HG i hi;have hl:=uL c;refine⟨gb,go,e,d.keep c,λz=>?_,λz=>?_,λz=>?_⟩
    ·have ae:gb<w.heap.size:=hl;omega
    ·have ae:gb<w.heap.size:=hl;omega
    ·have ae:gb<w.heap.size:=hl;have:=(q.s.lt gb z).1;omega)
   clear l hk d;go_wp2_with fail;go_loopw [35] (λi wr=>∃(k:Nat) (v:Value),k<=N.length/\i=iv k/\tN wr w.heap.size (w.heap.size+1) b w.heap.size r u x.A.length v (tE x N k)/\Hid (b5d wr g (w.heap.size+1) w.heap.size v r u N)/\Ext w wr) (λi _=>N.length-(intOf i).toNat)
   case atStart=>exact⟨0,v,Nat.zero_le _,rfl,q,SP,K⟩
   case round=>
    clear q SP K v;obtain⟨k,v,hk,rfl,A,U,d⟩:=hrel;have q:=uU A;clear A;by_cases l:k<N.length
    ·obtain⟨gb,go,hg,gc,g1,g2,g3⟩:=U k l;subst hg;have aj:(0:Int)<=(k:Int):=by omega
     have ah:(k:Int)<(N.length:Int):=by omega
     have HI:=uU ((WN.m N[k]).1 (List.getElem_mem l));clear g1 g2 g3;go_wp2_with fail;refine(b5f w.heap.size (w.heap.size+1) b w.heap.size r u x.A.length N[k] v (tE x N k) _ q HI.1 d.size J).mono ?_;rintro e T ⟨rfl,L,y,E⟩;have R:=uU (show tN T w.heap.size (w.heap.size+1) b w.heap.size r u x.A.length L (tE x N (k+1))/\b5d T (some (aA gb go)) (w.heap.size+1) w.heap.size L r u N/\Ext w T from⟨by rw[a9n k l];exact y,U.step E,q.kext E d⟩);clear y E gc;go_wp2_with fail;go_roundw
     case rel=>exact⟨k+1,L,by omega,by go_num,R.1,R.2.1,R.2.2⟩
     case measure=>simp [intOf];omega
    ·have V:k=N.length:=by omega
     subst V;have K:=uU d;have I0:=uU (show ∀i,i∈tE x N N.length->uZ x i from(b0j W WN N.length (Nat.le_refl _)).1);clear l hk d U;go_wp2_with fail;go_loopw [10] (λi wr=>∃(c:Nat) (v:Value) (O:List Nat),c<=O.length/\i=iv c/\tN wr w.heap.size (w.heap.size+1) b w.heap.size r u x.A.length v O/\Hid ((∀i,i∈O->uZ x i)/\clO x (x.A.length+1-c) c O=yC x N)/\Ext w wr) (λi _=>x.A.length-(intOf i).toNat)
     case atStart=>exact⟨0,v,_,Nat.zero_le _,rfl,q,⟨I0,rfl⟩,K⟩
     case round=>
      clear q I0 K v;obtain⟨c,v,O,hc,rfl,A,B,d⟩:=hrel;have q:=uU A;have aw:=A.len;have c2:=A.c2;obtain⟨av,cv,rfl,ag⟩:=A.form;by_cases l:c<O.length
      ·obtain⟨gq,rfl⟩:=ag (by omega);obtain⟨j,ej⟩:∃j,j=O[c]:=⟨_,rfl⟩;have cj:=A.cell c l;rw[<-ej] at cj;have RJ:=uU (show uZ x j by rw[ej];exact B.1 _ (List.getElem_mem l));have EJ:=uU ej;have GD:=uU (RJ.good W Q4);have Z:=GD.1;obtain⟨bc,oc,ap,kp,e1,C⟩:=HV.H.cell j Z;obtain⟨au,al,ao,am,e2,e3,m0,ab⟩:=HV.N j Z;rw[e1] at e3;cases e2;cases e3;have p7:=d.keep C.p7;have m1:=d.keep ab;have lp:=C.lp;have HP:=uU C.P;have c0:(0:Int)<=(c:Int):=by omega
       have c1:(c:Int)<(O.length:Int):=by omega
       have K:=uU d;clear A C m0 ab e1 ej d;go_wp2_with fail;go_loopw [66] (λi wz=>∃(p:Nat) (v:Value),p<=(x.c j).F.length/\i=iv p/\tN wz w.heap.size (w.heap.size+1) b w.heap.size r u x.A.length v (prO x j p O)/\Ext w wz) (λi _=>(x.c j).F.length-(intOf i).toNat)
       case atStart=>exact⟨0,_,Nat.zero_le _,rfl,q,K⟩
       case round=>
        clear q K c2 cj p7 m1;obtain⟨p,v,hp,rfl,A,d⟩:=hrel;have q:=uU A;clear A;by_cases X:p<(x.c j).F.length
        ·obtain⟨b2,o2,rfl,q0,q1,q2,q3,q4,q5⟩:=uH HP p X;have e0:=d.keep q0;have e1:=d.keep q1;have e2:=d.keep q2;have e3:=d.keep q3;have e4:=d.keep q4;have e5:=d.keep q5;clear q0 q1 q2 q3 q4 q5;have ak:(0:Int)<=(p:Int):=by omega
         have aq:(p:Int)<((x.c j).F.length:Int):=by omega
         have Y:=(Ext.refl wr).alloc (.cells #[iv ((x.c j).p p).key.k,iv ((x.c j).p p).key.n,iv ((x.c j).p p).key.a,iv ((x.c j).p p).val.k,iv ((x.c j).p p).val.n,iv ((x.c j).p p).val.a] 154);have MK:=uU (a0j W Q4 j p GD X);go_wp2_with fail;refine(a4i x ((x.c j).p p).key b _ r u (HV.ext (d.trans Y)) W MK.1).mono ?_;rintro e w2 ⟨rfl,F⟩;have I:=Y.trans F;have v3:w2.cell? (aA wr.heap.size 3)=some (iv ((x.c j).p p).val.k):=F.keep (by simp [go_sem]);have v4:w2.cell? (aA wr.heap.size 4)=some (iv ((x.c j).p p).val.n):=F.keep (by simp [go_sem]);have v5:w2.cell? (aA wr.heap.size 5)=some (iv ((x.c j).p p).val.a):=F.keep (by simp [go_sem]);clear e0 e1 e2 e3 e4 e5 F;go_wp2_with fail;refine(b1z w.heap.size (w.heap.size+1) b w.heap.size r u x.A.length (wo x ((x.c j).p p).key) v (prO x j p O) _ (q.ext I) (λi e=>(b0o MK.1 i e).1) (d.trans I).size J).mono ?_;rintro e T ⟨rfl,L,y,S⟩;have M:wr.heap.size<w2.heap.size:=uL v3;have kb:=S.block wr.heap.size M (by have:=q.rlt;omega) (by have:=q.rlt;omega) (λe=>by have:=(q.s.lt _ e).2;omega);have y3:=(World.cell?_of_block (a:=(aA wr.heap.size 3)) kb).trans v3;have y4:=(World.cell?_of_block (a:=(aA wr.heap.size 4)) kb).trans v4;have y5:=(World.cell?_of_block (a:=(aA wr.heap.size 5)) kb).trans v5;have B3:=(q.ext I).kext S (d.trans I);have W3:=uU y;clear y S v3 v4 v5 kb M q I Y;go_wp2_with fail;refine(a4i x ((x.c j).p p).val b _ r u (HV.ext B3) W MK.2).mono ?_;rintro e w4 ⟨rfl,G⟩;go_wp2_with fail;refine(b1z w.heap.size (w.heap.size+1) b w.heap.size r u x.A.length (wo x ((x.c j).p p).val) L _ _ (W3.ext G) (λi e=>(b0o MK.2 i e).1) (B3.trans G).size J).mono ?_;rintro e w5 ⟨rfl,v5,af,ad⟩;have R:=uU (show tN w5 w.heap.size (w.heap.size+1) b w.heap.size r u x.A.length v5 (prO x j (p+1) O)/\Ext w w5 from⟨by rw[b5a p X];exact af,(W3.ext G).kext ad (B3.trans G)⟩);clear af ad y3 y4 y5 W3 G B3;go_wp2_with fail;go_roundw
         case rel=>exact⟨p+1,v5,by omega,by go_num,R.1,R.2⟩
         case measure=>simp [intOf];omega
        ·have Q:p=(x.c j).F.length:=by omega
         have R:=uU (show(∀i,i∈prO x j p O->uZ x i)/\clO x (x.A.length+1-(c+1)) (c+1) (prO x j p O)=yC x N by
          rw[Q]
          refine⟨(c4a RJ B.1 (by
           have:=q.nd;rw[Q] at this;obtain⟨R,e⟩:=prO_pre x j (x.c j).F.length O;rw[e,List.nodup_append] at this;exact this.1) _ (Nat.le_refl _)).1,?_⟩
          rw[<-B.2,c0x (x:=x) (f:=x.A.length+1-(c+1)) l EJ.symm,show x.A.length+1-(c+1)+1=x.A.length+1-c by omega])
         have hl:=b8w x j p O;clear Q;go_wp2_with fail;go_roundw
         case rel=>exact⟨c+1,v,_,by omega,by go_num,q,⟨R.1,R.2⟩,d⟩
         case measure=>simp [intOf];omega
      ·have aa:c=O.length:=by omega
       have D:=uU (show O=yC x N from by rw[<-B.2];exact(c5w aa).symm);clear A aa;go_wp2_with fail;go_ret;exact⟨rfl,_,uH D ▸ uH q,d⟩
theorem c1i(x y:Int)(b c d bc f r1 g:Nat)(W:World)(l:W.cell? (aA b (c+1))=some (ptr bc r1))(i:W.cell? (aA bc (r1+4))=some (iv x))(j:W.cell? (aA b (d+1))=some (ptr f g))(k:W.cell? (aA f (g+4))=some (iv y)):
  Calls prog 168 #[ptr b c,ptr b d] W λe w'=>e=.returned (iv (Lib.compareInt x y))/\∃q,w'=W.drewN q:=by
 have a:=λW=>AnyG.cmp_Compare_int Tryz.cmpL x y W
 change ∀W,Calls prog 169 _ _ _ at a;generalize Lib.compareInt x y=r at a ⊢;have h:=uU a;go_enter func168,ntmps168;go_wp2_with fail;go_quiet ((go_at_call 169;exact Calls.quiet_of_same (h _)));go_wp2;go_ret;exact⟨rfl,_,rfl⟩
end Go.Proofs.YtddkhnclmeikfaaGreat
