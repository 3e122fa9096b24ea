import Derived.Test.YtmfgdjfpchplmaaGreatDoorEi
import Derived.Test.YtmfgdjfpchplmaaGreatDoorQd
import Derived.Test.YtmfgdjfpchplmaaGreatDoorSpecL
import Derived.Test.YtmfgdjfpchplmaaGreatDoorTa
set_option maxRecDepth 100000
set_option maxHeartbeats 40000000
namespace Go.Proofs.YtmfgdjfpchplmaaGreatDoor
open Go.RowKit Go.Proofs.Tryz
attribute [local go_sem ↓] Go.wp_at_zero Go.wp_at_succ
variable{B b C a c bd p k:Nat}{x:Hp}{w w':World}{n:Int}{rv:Value}
abbrev c1j[ql](B g:Nat)(x:Hp)(op a b c n:Int)(v:World)(e:Ending)(w':World):Prop:=∃(y:Hp)(cd nm:Int),Hid (e=.returned (tC cd nm))/\Hid (b0y x op a b c n y cd nm)/\Hid (GOk B w' g y)/\Ext v w'
theorem l5do_no[p:ql](B g:Nat)(x:Hp)(op a b c n:Int)(w:World)(h:GOk B w g x)(l:qJ op a b c n=false)(v:World)(m:Ext v w):
  Calls prog 19 #[pP g,tV op a b c n] w λe w'=>c1j B g x op a b c n v e w':=by
 obtain⟨C,o,z⟩:=GOk.enter h (w0:=doW w op a b c n) ((eAl w _).alloc _);have y:=uU z;have k:=uU o;have u:=uU l;have j:=uU (λW=>a1h op a b c n W);rw[l] at j;have A:=uU (show v.heap.size<=w.heap.size+1 by have:=m.size;omega);have s:=uU (show Ext v (doW w op a b c n) from(m.alloc _).alloc _);go_in;go_wp21;refine(j _).mono ?_;rintro e E ⟨rfl,i⟩;have q:=uU (s.trans i);have t:=uU (y.ext i);go_wp21;refine(a0u 1 _).mono ?_;rintro e D ⟨rfl,d⟩;have f:=uU (t.ext d);have r:=uU (q.trans d);obtain⟨u0,u1,u2,u3,u4,u5,u6,u7⟩:=f.boxes k;go_wp2;refine bodyPost_ret (v:=tC 1 0) (by simp [results,results19,go_sem,u5,u6]) rfl ?_;exact⟨x,1,0,rfl,.inl ⟨u,rfl,rfl,rfl⟩,GOk.done k f 1 0,eX r A 1 0⟩
theorem a1c.is[ql]{g:Nat}{v:World}{e:Ending}(h:a1c B g x a b c n k v e w')(o:qJ (k:Int) a b c n=true):c1j B g x (k:Int) a b c n v e w':=by
 obtain⟨y,m,i,l,f,d,j⟩:=h;exact⟨y,m,i,l,.inr ⟨o,by simpa using uH f⟩,d,j⟩
theorem l5do_ok[p:ql](B g:Nat)(x:Hp)(a b c:Nat)(n:Int)(w:World)(h:GOk B w g x)(s:Snd x)(v:World)(hv:v.heap.size<=B)(hx:Ext v w):
  ∀k:Nat,1<=k->k<=24->qJ (k:Int) a b c n=true->Calls prog 19 #[.pointer (some ⟨g,0,none⟩),tV (k:Int) a b c n] w λe w'=>a1c B g x a b c n k v e w':=by
 intro k h1 h2 ok;have h9:=a5q ok;rcases k with _|_|_|_|_|_|_|_|_|_|_|_|_|_|_|_|_|_|_|_|_|_|_|_|_|k
 all_goals try omega
 all_goals
  simp [a7c,c3h,kW,c9a,kK] at h9
  first|exact d4z B g x _ _ a b c n w (by decide) h s ok v hv hx (by omega) (by omega)|exact l5do_in B g x _ _ a b c n w (by decide) h s ok v hv hx (by omega) (by omega)|exact b2m B g x _ _ a b c n w (by decide) h ok v hx (λ_ w1 G X=>d5a _ _ (by decide) B g x a b c n w1 G s (by omega) (by omega) v hv X)|exact b2m B g x _ _ a b c n w (by decide) h ok v hx (λ_ w1 G X=>d5b _ _ (by decide) B g x a b c n w1 G s (by omega) (by omega) v hv X)|exact b2m B g x _ _ a b c n w (by decide) h ok v hx (λ_ w1 G X=>d1j B g x _ _ a b c n w1 G s (by omega) v X (λhk=>.inl ⟨hk,rfl,rfl,rfl⟩) (λhk=>d1i B g x _ _ a b c n w1 (by decide) G s (by omega) hk v hv X))|exact l5do_9 B g x a b c n w h s ok (by omega) (by omega) v hv hx|exact l5do_1 B g x a b c n w h s ok (by omega) (by omega) (by omega) v hv hx
theorem d6j[p:ql](B g:Nat)(x:Hp)(op a b c n:Int)(w:World)(h:GOk B w g x)(s:Snd x)(v:World)(j:v.heap.size<=B)(f:Ext v w):
  Calls prog 19 #[pP g,tV op a b c n] w λe w'=>c1j B g x op a b c n v e w':=by
 cases d:qJ op a b c n
 ·exact l5do_no B g x op a b c n w h d v f
 ·have l:=a5q d;obtain⟨k,rfl⟩:∃k:Nat,op=k:=⟨op.toNat,by omega⟩;obtain⟨a,rfl⟩:∃k:Nat,a=k:=⟨a.toNat,by omega⟩;obtain⟨b,rfl⟩:∃k:Nat,b=k:=⟨b.toNat,by omega⟩;obtain⟨c,rfl⟩:∃k:Nat,c=k:=⟨c.toNat,by omega⟩;exact(l5do_ok B g x a b c n w h s v j f k (by omega) (by omega) d).mono λ_ _ i=>i.is d
theorem sresQ[ql](h:SOq C B w b x)(d:R2 x)(y:Wd)(c:hQ y x.A.length):Calls prog 197 #[pP b,y.v] w λe w'=>e=.returned (zH x y).v/\Ext w w':=by
 obtain⟨G,o,A,i,l,E,f,t,g,m,u,p,n,D,j,z,r,q,F,s,K,a,h,v,k⟩:=h;exact b6j h d y c
theorem SPr.ext[ql]{i bn kn cb co bp kp:Nat}(h:SPr C B w b x i k bn kn cb co bp kp)(e:Ext w w'):SPr C B w' b x i k bn kn cb co bp kp:=
 ⟨h.ce.ext e,h.pr.ext e,λj=>((uK e).2 bp j h.lo.2).trans (h.f j),⟨h.lo.1,kG h.lo.2 e.size⟩⟩
theorem way_5[ql](q:Nat)(o:Int)(hq:q=5/\o=5\/q=6/\o=6)(h:SOq C B w b x)(s:Snd x)(hd:(default:uL).z bd=some (yH b o a p c n rv))(ha:a<16)(hp:p<16)(v:World)(hv:v.heap.size<=B)(hx:Ext v w):
  Calls prog 160 #[.pointer (some ⟨bd,0,none⟩)] w λe w'=>qW C B b x a p c n q v e w':=by
 obtain⟨sel,hse⟩:∃s:Pr->Wd,s=(if q=5 then Pr.key else Pr.val):=⟨_,rfl⟩;have HSE:=uU hse;clear hse;rcases hq with⟨rfl,rfl⟩|⟨rfl,rfl⟩
 all_goals
  have D:=uU (tN.of (h.obj hd));have H:=uU h;have S:=uU s;have hdz:=hd;obtain⟨br,kr,hr⟩:=h.B s;have R:=uU hr;obtain⟨d0,d1,d2,d3,d4,d5,d6⟩:=uH D;have hdw:=cLt d0;have QF:=uU (λW(xW:Ext w W)=>c1n (R.ext xW) (D.ext xW) hp);by_cases hk:(x.r p).k=2
  ·obtain⟨en,ea,hi,st,nd⟩:=s.at p hp hk;obtain⟨i,hI⟩:=obE (x.at p);have HI:=uU hI;rw[<-hI] at ea hi st nd;have HK:=uU hk;have ND:=uU nd;by_cases hl:c<(x.c i).F.length
   ·obtain⟨bn,kn,cb,co,bp,kp,hs,ps⟩:=h.prw i hi c hl;have SP:=uU hs;have PS:=uU ps
    first|have QC:=uU (λW(xW:Ext w W)=>c5r (R.ext xW) (D.ext xW) hp (SPr.ext SP xW) hk ea hi hl (.inl rfl))|have QC:=uU (λW(xW:Ext w W)=>c5s (R.ext xW) (D.ext xW) hp (SPr.ext SP xW) hk ea hi hl (.inl rfl))
    have QA:=uU (λW(xW:Ext w W)=>a1r (R.ext xW) (D.ext xW) ha);have hse:=uH HSE;simp at hse;have FM:=uU (show hQ (sel ((x.c i).p c)) x.A.length by rw[hse];have f:=((s.r4.2 i hi).2 c hl).2 nd;first|exact f.1.1|exact f.2.1);obtain⟨rr,hrr⟩:∃r,r=zH x (sel ((x.c i).p c)):=⟨_,rfl⟩;have HR:=uU hrr;have QR:=uU (show ∀W,Ext w W->Calls prog 197 #[.pointer (some ⟨b,0,none⟩),(sel ((x.c i).p c)).v] W λe w'=>e=.returned rr.v/\Ext W w' from λW xW=>by rw[hrr];exact sresQ (H.ext xW) S.r2 _ FM);subst hse;clear HSE;have FN:=uU (show ∀W,Ext w W->SOq (C+64000) B (cY W br (a*3) rr) b (regTo x a rr)/\Ext v (cY W br (a*3) rr) from λW xW=>⟨(hr.set W a rr xW ha).wide (by omega),(dN W br (a*3) rr).ext (hx.trans xW) (λq hq e=>by have:=hr.lo.1;omega)⟩);unfold cY at FN;obtain⟨r0,r1,r2⟩:=hr.r a ha;have ff:=hr.f;have hbr:=cLt r0;obtain⟨e0,e1,e2,e3,e4,e5⟩:=hs.pr;have hbp:=cLt e0;have HL:=uU hl;clear h s hd hr hk ea en hI hs ps st nd hrr;go_in;go_wp21;refine(QF _ (hO w)).mono ?_;rintro e w5 ⟨rfl,x5⟩;go_wp21;refine(QC _ x5).mono ?_;rintro e w6 ⟨rfl,x6⟩;have x56:=x5.trans x6;have X6:=uU x56;have k0:=x56.keep r0;have k1:=x56.keep r1;have k2:=x56.keep r2;have kf:=λm=>((uK x56).2 br m hbr).trans (ff m)
    have l0:=x56.keep e0;have l1:=x56.keep e1;have l2:=x56.keep e2;have l3:=x56.keep e3;have l4:=x56.keep e4;have l5:=x56.keep e5;have m0:=x56.keep d0;have hb6:=cLt k0;have hp6:=cLt l0;have hd6:=cLt m0;clear x5 x6 x56 r0 r1 r2 e0 e1 e2 e3 e4 e5 d0 d1 d2 d3 d4 d5 d6;go_wp21;go_region_with (first|(go_at_call 197;refine(QR _ (by first|exact xwA|exact X6.trans (eDr w6))).mono ?_;rintro e wB ⟨rfl,xB⟩;have xwB:=kF (show Ext w _ from by first|exact xwA|exact X6.trans (eDr w6)) xB;have y6:=kF (show Ext w6 _ from by first|exact x6A|exact(eDr w6)) xB;have n0:=y6.keep k0;have n1:=y6.keep k1;have n2:=y6.keep k2;have nf:=λm=>((uK y6).2 br m hb6).trans (kf m);have hb7:=cLt n0;have FB:=uU (FN wB xwB);clear xB y6)|(go_at_call 193;refine(QA _ (X6.trans (eDr w6))).mono ?_;rintro e wA ⟨rfl,xA⟩;have xwA:=kF (X6.trans (eDr w6)) xA;have x6A:=kF (eDr w6) xA;have o0:=x6A.keep l0;have o1:=x6A.keep l1;have o2:=x6A.keep l2;have o3:=x6A.keep l3;have o4:=x6A.keep l4;have o5:=x6A.keep l5;have o6:=x6A.keep m0;have hpA:=cLt o0;have hdA:=cLt o6;clear xA))
    all_goals
     go_wp21;go_ret2;exact⟨_,0,0,rfl,.inr (.inr ⟨HK,by rw[<-uH HI];exact uH HL,by rw[<-uH HI];exact congrArg (regTo x a) HR,rfl,rfl⟩),FB.1,FB.2⟩
   ·obtain⟨bn,kn,cb,co,ap,kp,hc⟩:=h.cel i hi;have CE:=uU hc;have QC:=uU (λW(xW:Ext w W)=>b7a (R.ext xW) (D.ext xW) hp (CE.ext xW) hk ea hi (by omega));have HL:=uU (show(x.c i).F.length<=c by omega);clear h s hd hr hk ea en hI hc st nd hl;go_in;go_wp21;refine(QF _ (hO w)).mono ?_;rintro e w5 ⟨rfl,x5⟩;go_wp21;refine(QC _ x5).mono ?_;rintro e w6 ⟨rfl,x6⟩;have X6:=uU (x5.trans x6);clear x5 x6;go_wp21;go_ret2;exact⟨x,3,0,rfl,.inr (.inl ⟨HK,by rw[<-uH HI];exact uH HL,rfl,rfl,rfl⟩),(H.wide (show C<=C+64000 by omega)).ext X6,hx.trans X6⟩
  ·have HK:=uU hk;have QC:=uU (λW(xW:Ext w W)=>c9x (R.ext xW) (D.ext xW) hp hk);clear h s hd hr hk;go_in;go_wp21;refine(QF _ (hO w)).mono ?_;rintro e w5 ⟨rfl,x5⟩;go_wp21;refine(QC _ x5).mono ?_;rintro e w6 ⟨rfl,x6⟩;have X6:=uU (x5.trans x6);clear x5 x6;go_wp21;go_ret2;exact⟨x,2,0,rfl,.inl ⟨HK,rfl,rfl,rfl⟩,(H.wide (show C<=C+64000 by omega)).ext X6,hx.trans X6⟩
theorem way_16[ql](q:Nat)(o:Int)(F:FuncId)(hq:q=16/\o=16/\F=169\/q=17/\o=17/\F=170\/q=11/\o=11/\F=164)(h:SOq C B w b x)(s:Snd x)(hd:(default:uL).z bd=some (yH b o a p c n rv))(ha:a<16)(v:World)(hv:q=11->v.heap.size<=B)(hx:Ext v w):
  Calls prog F #[.pointer (some ⟨bd,0,none⟩)] w λe w'=>qW C B b x a p c n q v e w':=by
 rcases hq with⟨rfl,rfl,rfl⟩|⟨rfl,rfl,rfl⟩|⟨rfl,rfl,rfl⟩
 all_goals
  have D:=uU (tN.of (h.obj hd));have H:=uU h;obtain⟨br,kr,hr⟩:=h.B s;have R:=uU hr;obtain⟨d0,d1,d2,d3,d4,d5,d6⟩:=uH D;have hdw:=cLt d0;have QA:=uU (λW(xW:Ext w W)=>a1r (R.ext xW) (D.ext xW) ha);by_cases hk:(x.r a).k=2
  ·obtain⟨en,ea,hi,st,nd⟩:=s.at a ha hk;obtain⟨i,hI⟩:=obE (x.at a);have HI:=uU hI;rw[<-hI] at ea hi st nd;have HK:=uU hk;obtain⟨bn,kn,cb,co,ap,kp,hc⟩:=h.cel i hi;have CE:=uU hc;have QC:=uU (λW(xW:Ext w W)=>a1z (R.ext xW) (CE.ext xW) (D.ext xW) ha hk ea hi);clear h s hd hr hk ea en hI hc st nd
   go_in
   go_wp21;refine(QA _ (hO w)).mono ?_;rintro e w5 ⟨rfl,x5⟩;go_wp21;refine(QC _ x5).mono ?_;rintro e w6 ⟨rfl,x6⟩;have X6:=uU (x5.trans x6);have C6:=uU (CE.ext X6);have m1:=C6.m1;have p7:=C6.p7;obtain⟨q0,q1,q2,q3,q4,q5,q6⟩:=C6.s;have fc:=C6.f;have hn6:=cLt m1;have hc6:=cLt q0;have D6:=uU (D.ext X6);have e4:=D6.d4;have hd6:=cLt e4;clear x5 x6;have FN:=uU (λh:v.heap.size<=B=>show SOq (C+64000) B (w6.setCell ⟨cb,co+2,none⟩ (iv c)) b (hD x i (b5y (x.c i) c))/\Ext v (w6.setCell ⟨cb,co+2,none⟩ (iv c)) from⟨(C6.set2 w6 c (hO _)).wide (by omega),(hx.trans X6).setCell (p:=⟨cb,co+2,none⟩) (kB h C6.lo.1) _⟩);go_wp21
   first|(go_ret2;exact⟨x,0,_,rfl,.inr ⟨HK,by rw[<-uH HI];exact⟨rfl,rfl,rfl⟩⟩,(H.wide (show C<=C+64000 by omega)).ext X6,hx.trans X6⟩)|(go_ret2;exact⟨_,0,0,rfl,.inr ⟨HK,by rw[<-uH HI];exact⟨rfl,rfl,rfl⟩⟩,(FN (hv (by simp))).1,(FN (hv (by simp))).2⟩)|(go_region;all_goals (go_wp21;go_ret2;exact⟨_,0,0,rfl,.inr ⟨HK,by rw[<-uH HI];exact⟨rfl,rfl,rfl⟩⟩,(FN (hv (by simp))).1.ext (eDr _),(FN (hv (by simp))).2.drew⟩))
  ·have HK:=uU hk;have QC:=uU (λW(xW:Ext w W)=>a5e (R.ext xW) (D.ext xW) ha hk);clear h s hd hr hk
   go_in
   go_wp21;refine(QA _ (hO w)).mono ?_;rintro e w5 ⟨rfl,x5⟩;go_wp21;refine(QC _ x5).mono ?_;rintro e w6 ⟨rfl,x6⟩;have X6:=uU (x5.trans x6);clear x5 x6;go_wp21;go_ret2;exact⟨x,2,0,rfl,.inl ⟨HK,rfl,rfl,rfl⟩,(H.wide (show C<=C+64000 by omega)).ext X6,hx.trans X6⟩
theorem way_7[ql](q:Nat)(o:Int)(hq:q=7/\o=7\/q=8/\o=8)(h:SOq C B w b x)(s:Snd x)(hd:(default:uL).z bd=some (yH b o a p c n rv))(ha:a<16)(hp:p<16)(v:World)(hv:v.heap.size<=B)(hx:Ext v w):
  Calls prog 161 #[.pointer (some ⟨bd,0,none⟩)] w λe w'=>qW C B b x a p c n q v e w':=by
 obtain⟨oo,ho⟩:∃k:Nat,k=(if q=7 then 0 else 3):=⟨_,rfl⟩;obtain⟨fC,hf⟩:∃f:Cl->Nat->Wd->Cl,f=(if q=7 then keyC else valC):=⟨_,rfl⟩;have HO:=uU (kI ho hf);clear ho hf;rcases hq with⟨rfl,rfl⟩|⟨rfl,rfl⟩
 all_goals
  have D:=uU (tN.of (h.obj hd));have H:=uU h;have S:=uU s;have hdz:=hd;obtain⟨br,kr,hr⟩:=h.B s;have R:=uU hr;obtain⟨d0,d1,d2,d3,d4,d5,d6⟩:=uH D;have hdw:=cLt d0;have QF:=uU (λW(xW:Ext w W)=>a1r (R.ext xW) (D.ext xW) ha);by_cases hk:(x.r a).k=2
  ·obtain⟨en,ea,hi,st,nd⟩:=s.at a ha hk;obtain⟨i,hI⟩:=obE (x.at a);have HI:=uU hI;rw[<-hI] at ea hi st nd;have HK:=uU hk;have ND:=uU nd;by_cases hl:c<(x.c i).F.length
   ·obtain⟨bn,kn,cb,co,bp,kp,hs,ps⟩:=h.prw i hi c hl;have SP:=uU hs;have PS:=uU ps
    first|have QC:=uU (λW(xW:Ext w W)=>c5r (R.ext xW) (D.ext xW) ha (SPr.ext SP xW) hk ea hi hl (.inr rfl))|have QC:=uU (λW(xW:Ext w W)=>c5s (R.ext xW) (D.ext xW) ha (SPr.ext SP xW) hk ea hi hl (.inr rfl))
    have QB:=uU (λW(xW:Ext w W)=>c1n (R.ext xW) (D.ext xW) hp);obtain⟨yy,hyy⟩:∃y,y=x.r p:=⟨_,rfl⟩;have HY:=uU hyy;obtain⟨r0,r1,r2⟩:=hr.r p hp;rw[<-hyy] at r0 r1 r2;have LY:=uU (show hE x yy False from by rw[hyy];exact s.reg p hp);have hbr:=cLt r0;obtain⟨e0,e1,e2,e3,e4,e5⟩:=hs.pr;have fp:=hs.f;have hbB:=hs.lo.1;have hbp:=cLt e0;have HL:=uU hl;clear h s hd hr hk ea en hI hs ps st nd hyy;go_in;go_wp21;refine(QF _ (hO w)).mono ?_;rintro e w5 ⟨rfl,x5⟩;go_wp21;refine(QC _ x5).mono ?_;rintro e w6 ⟨rfl,x6⟩;have x56:=x5.trans x6;go_wp21;refine(QB _ x56).mono ?_;rintro e w7 ⟨rfl,x7⟩;have x57:=x56.trans x7;have X7:=uU x57;have k0:=x57.keep r0;have k1:=x57.keep r1;have k2:=x57.keep r2;have l0:=x57.keep e0;have l1:=x57.keep e1;have l2:=x57.keep e2;have l3:=x57.keep e3;have l4:=x57.keep e4;have l5:=x57.keep e5;have lf:=λm=>((uK x57).2 bp m hbp).trans (fp m)
    have hb7:=cLt k0;have hp7:=cLt l0;obtain⟨ho,hf⟩:=uH HO;simp at ho hf;have OR:=uU (show oo=0/\hD x i (fC (x.c i) c yy)=hD x i (keyC (x.c i) c yy)\/oo=3/\hD x i (fC (x.c i) c yy)=hD x i (valC (x.c i) c yy) by rw[ho,hf];simp);obtain⟨W8,hW8⟩:∃W,W=cY w7 bp (c*6+oo) yy:=⟨_,rfl⟩;have PS8:=uU (PS oo yy _ OR w7 W8 x57 (by rw[hW8];exact hO _));have X8:=uU (show Ext v W8 by rw[hW8];exact(dN w7 bp (c*6+oo) yy).ext (hx.trans x57) (λq hq e=>by omega));unfold cY at hW8;clear x5 x6 x56 x7 x57 r0 r1 r2 e0 e1 e2 e3 e4 e5 d0 d1 d2 d3 d4 d5 d6 fp;have PX:=uU (λW2(e8:Ext W8 W2)=>uH PS oo yy _ OR w7 W2 X7 (by rw[show cY w7 bp (c*6+oo) yy=W8 from by rw[hW8];rfl];exact e8));obtain⟨z,hz⟩:=obE (hD x i (fC (x.c i) c yy));have HZ:=uU hz;rw[<-hz] at PS8 PX
    have ZB:=uU (show ∀t,eQ z t=eQ x t from λt=>by
     rw[hz];unfold eQ
     have e:whB ((hD x i (fC (x.c i) c yy)).c t)=whB (x.c t):=by
      show whB (({ x with A:=x.A.set i _ }:Hp).c t)=_;rw[Hp.c_set x i _ hi t];by_cases e:t=i
      ·rw[if_pos e,e,hf];rfl
      ·rw[if_neg e]
     rw[e];rfl)
    subst ho;subst hf;clear hz PS OR HO
    try simp only [Nat.add_zero] at hW8
    go_wp21;rw[<-hW8];clear hW8 k0 k1 k2 l0 l1 l2 l3 l4 l5 lf hb7 hp7;obtain⟨⟨y0,y1,y2⟩,h8,⟨kn8,n13⟩,_⟩:=uH PS8
    try simp only [Nat.add_zero] at y0 y1 y2
    have H8:=uU h8;have d0:=(tN.of (h8.obj hdz)).d0;have hd8:=cLt d0;have hp8:=cLt y0;clear h8 PS8;by_cases k2:yy.k=2
    ·obtain⟨t,ht,hta⟩:∃t:Nat,t<x.A.length/\yy.a=(t:Int):=by
      have l:=LY.1;unfold hQ at l;exact⟨yy.a.toNat,by omega,by omega⟩
     have QN:=uU (λW(xW:Ext W8 W)=>a1g ⟨yy.k,yy.n,(t:Int)⟩ b x.A.length bn 0 kn8 t W (by simpa using k2) (xW.keep n13) ht);simp only [Nat.zero_add] at QN;have QS:=uU (λW(xW:Ext W8 W)=>(PX W xW).2.2.2 v t ht hv (X8.trans xW) (λq=>(a2f S.ok).2 t ht (by rw[<-uH ZB t];exact q)));rw[hta] at y2;have EW:=uU (show uV z t=uX z yy from by unfold uX;rw[if_pos (by simpa using k2),hta];simp);clear k2 hta;go_region_with (first|(go_at_call 198;refine(QS _ xwA).mono ?_;rintro e w9 ⟨rfl,h9,x9⟩;have H9:=uU (h9.wide (show C<=C+64000 by omega));have X9:=uU x9;clear h9 x9)|(go_at_call 184;refine(QN _ (eDr W8)).mono ?_;rintro e wA ⟨rfl,xA⟩;have xwA:=kF (eDr W8) xA;have o0:=xwA.keep d0;have hdA:=cLt o0;clear xA))
     all_goals
      go_wp21;go_ret2;exact⟨_,0,0,rfl,.inr (.inr ⟨HK,by rw[<-uH HI];exact uH HL,by rw[<-uH HI];show uV z t=uX (hD x i _) (x.r p);rw[<-uH HY,<-uH HZ,uH EW],rfl,rfl⟩),H9,X9⟩
    ·have QN:=uU (λ(W:World)=>a3m yy b W (by simpa using k2));have EW:=uU (show z=uX z yy from by unfold uX;rw[if_neg (by simpa using k2)]);clear k2;go_region_with (first|(go_at_call 198;refine(b6k b _).mono ?_;rintro e w9 ⟨rfl,rfl⟩)|(go_at_call 184;refine(QN _).mono ?_;rintro e wA ⟨rfl,xA⟩;have xwA:=kF (eDr W8) xA;have o0:=xwA.keep d0;have hdA:=cLt o0;clear xA))
     all_goals
      go_wp21;go_ret2;exact⟨_,0,0,rfl,.inr (.inr ⟨HK,by rw[<-uH HI];exact uH HL,by rw[<-uH HI];show z=uX (hD x i _) (x.r p);rw[<-uH HY,<-uH HZ];exact uH EW,rfl,rfl⟩),(H8.wide (show C<=C+64000 by omega)).ext xwA,X8.trans xwA⟩
   ·obtain⟨bn,kn,cb,co,ap,kp,hc⟩:=h.cel i hi;have CE:=uU hc;have QC:=uU (λW(xW:Ext w W)=>b7a (R.ext xW) (D.ext xW) ha (CE.ext xW) hk ea hi (by omega));have HL:=uU (show(x.c i).F.length<=c by omega);clear h s hd hr hk ea en hI hc st nd hl;go_in;go_wp21;refine(QF _ (hO w)).mono ?_;rintro e w5 ⟨rfl,x5⟩;go_wp21;refine(QC _ x5).mono ?_;rintro e w6 ⟨rfl,x6⟩;have X6:=uU (x5.trans x6);clear x5 x6;go_wp21;go_ret2;exact⟨x,3,0,rfl,.inr (.inl ⟨HK,by rw[<-uH HI];exact uH HL,rfl,rfl,rfl⟩),(H.wide (show C<=C+64000 by omega)).ext X6,hx.trans X6⟩
  ·have HK:=uU hk;have QC:=uU (λW(xW:Ext w W)=>c9x (R.ext xW) (D.ext xW) ha hk);clear h s hd hr hk;go_in;go_wp21;refine(QF _ (hO w)).mono ?_;rintro e w5 ⟨rfl,x5⟩;go_wp21;refine(QC _ x5).mono ?_;rintro e w6 ⟨rfl,x6⟩;have X6:=uU (x5.trans x6);clear x5 x6;go_wp21;go_ret2;exact⟨x,2,0,rfl,.inl ⟨HK,rfl,rfl,rfl⟩,(H.wide (show C<=C+64000 by omega)).ext X6,hx.trans X6⟩
end Go.Proofs.YtmfgdjfpchplmaaGreatDoor
