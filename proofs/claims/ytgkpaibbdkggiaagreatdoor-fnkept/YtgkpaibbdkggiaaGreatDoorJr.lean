import Derived.Test.YtgkpaibbdkggiaaGreatDoorAe
import Derived.Test.YtgkpaibbdkggiaaGreatDoorEi
import Derived.Test.YtgkpaibbdkggiaaGreatDoorJr0
import Derived.Test.YtgkpaibbdkggiaaGreatDoorJw
set_option maxRecDepth 100000
set_option maxHeartbeats 100000000
namespace Go.Proofs.YtgkpaibbdkggiaaGreatDoor
open Go.RowKit Go.Proofs.Tryz
attribute [local go_sem ↓] Go.wp_at_zero Go.wp_at_succ
variable{x x1 z:Hp}{b B C c a bd p k ba bs lo hi q bn kn t:Nat}{w w':World}{n op cd:Int}{rv:Value}{F:List Int}{K:List Nat}
abbrev b9m[qr](B g:Nat)(x:Hp)(op a b c n:Int)(v:World)(e:Ending)(w':World):Prop:=∃(y:Hp)(cd nm:Int),Hid (e=.returned (tD cd nm))/\Hid (gU x op a b c n y cd nm)/\Hid (GOk B w' g y)/\Ext v w'
theorem l5do_no[p:qr](B g:Nat)(x:Hp)(op a b c n:Int)(w:World)(h:GOk B w g x)(l:zC op a b c n=false)(v:World)(m:Ext v w):
  Calls prog 28 #[pP g,yU op a b c n] w λe w'=>b9m B g x op a b c n v e w':=by
 obtain⟨C,o,z⟩:=GOk.enter h (w0:=doW w op a b c n) ((eAl w _).alloc _);have y:=uU z;have k:=uU o;have u:=uU l;have j:=uU (λW=>a1g op a b c n W);rw[l]at j;have A:=uU (show v.heap.size<=w.heap.size+1 by have:=m.size;omega);have s:=uU (show Ext v (doW w op a b c n) from(m.alloc _).alloc _);go_in;go_wp21;refine(j _).mono ?_;rintro e E ⟨rfl,i⟩;have q:=uU (s.trans i);have t:=uU (y.ext i);go_wp21;refine(a0r 1 _).mono ?_;rintro e D ⟨rfl,d⟩;have f:=uU (t.ext d);have r:=uU (q.trans d);obtain⟨u0,u1,u2,u3,u4,u5,u6,u7⟩:=f.boxes k;go_wp2;refine bodyPost_ret (v:=tD 1 0) (by simp[results,results28,go_sem,u5,u6]) rfl ?_;exact⟨x,1,0,rfl,.inl ⟨u,rfl,rfl,rfl⟩,GOk.done k f 1 0,eJ r A 1 0⟩
theorem a1a.is[qr]{g:Nat}{v:World}{e:Ending}(h:a1a B g x a b c n k v e w')(o:zC (k:Int) a b c n=true):b9m B g x (k:Int) a b c n v e w':=by
 obtain⟨y,m,i,l,f,d,j⟩:=h;exact⟨y,m,i,l,.inr ⟨o,by simpa using uH f⟩,d,j⟩
theorem l5do_ok[p:qr](B g:Nat)(x:Hp)(a b c:Nat)(n:Int)(w:World)(h:GOk B w g x)(s:Snd x)(v:World)(hv:v.heap.size<=B)(hx:Ext v w):
  ∀k:Nat,1<=k->k<=24->zC (k:Int) a b c n=true->Calls prog 28 #[.pointer (some ⟨g,0,none⟩),yU (k:Int) a b c n] w λe w'=>a1a B g x a b c n k v e w':=by
 intro k h1 h2 ok;have h9:=a5n ok;obtain _|_|_|_|_|_|_|_|_|_|_|_|_|_|_|_|_|_|_|_|_|_|_|_|_|k:=k;all_goals try omega
 all_goals
  simp[a6y,c0n,kJ,c6f,gH]at h9;first|exact d1o B g x _ _ a b c n w (by decide) h s ok v hv hx (by omega) (by omega)|exact l5do_in B g x _ _ a b c n w (by decide) h s ok v hv hx (by omega) (by omega)|exact b1t B g x _ _ a b c n w (by decide) h ok v hx (λ_ w1 G X=>d1p _ _ (by decide) B g x a b c n w1 G s (by omega) (by omega) v hv X)|exact b1t B g x _ _ a b c n w (by decide) h ok v hx (λ_ w1 G X=>d1q _ _ (by decide) B g x a b c n w1 G s (by omega) (by omega) v hv X)|exact b1t B g x _ _ a b c n w (by decide) h ok v hx (λ_ w1 G X=>c8h B g x _ _ a b c n w1 G s (by omega) v X (λhk=>.inl ⟨hk,rfl,rfl,rfl⟩) (λhk=>c8g B g x _ _ a b c n w1 (by decide) G s (by omega) hk v hv X))|exact l5do_9 B g x a b c n w h s ok (by omega) (by omega) v hv hx|exact l5do_1 B g x a b c n w h s ok (by omega) (by omega) (by omega) v hv hx
theorem c2b[p:qr](B g:Nat)(x:Hp)(op a b c n:Int)(w:World)(h:GOk B w g x)(s:Snd x)(v:World)(j:v.heap.size<=B)(f:Ext v w):
  Calls prog 28 #[pP g,yU op a b c n] w λe w'=>b9m B g x op a b c n v e w':=by
 cases d:zC op a b c n
 exact l5do_no B g x op a b c n w h d v f;have l:=a5n d;obtain⟨k,rfl⟩:∃k:Nat,op=k:=⟨op.toNat,by omega⟩;obtain⟨a,rfl⟩:∃k:Nat,a=k:=⟨a.toNat,by omega⟩;obtain⟨b,rfl⟩:∃k:Nat,b=k:=⟨b.toNat,by omega⟩;obtain⟨c,rfl⟩:∃k:Nat,c=k:=⟨c.toNat,by omega⟩;exact(l5do_ok B g x a b c n w h s v j f k (by omega) (by omega) d).mono λ_ _ i=>i.is d
theorem gU.snd{a b c:Int}{y:Hp}{nm:Int}(s:Snd x)(h:gU x op a b c n y cd nm):Snd y:=by
 obtain⟨_,h2,_⟩|⟨ok,h2⟩:=h;rw[h2];exact s;have⟨l,m,j,k⟩:=a5n ok;have i:a6y op<=15:=by unfold a6y;split <;> omega
 have g:op≠1->op≠23->kJ op<=15:=λd f=>by unfold kJ;rw[if_neg d,if_neg f];split <;> omega
 refine DoR.snd s (by omega) (λd f=>by have:=g (by omega) (by omega);omega) (λe=>?_) (λe=>?_) (λe=>?_) (λe=>?_) h2;grind[kJ,gH,gU,Hp.c];grind[kJ,c6f,gH,gU,Hp.c];grind[gH,gU,Hp.c];grind[gH,gU,Hp.c]
theorem SOq.pace[qr](h:SOq C B w b x)(u t:Int):SOq C B ((w.setCell (aA b 9) (iv u)).setCell (aA b 10) (iv t)) b (paceTo x u t):=by
 obtain⟨J,n,G,f,j,I,d,z,e,l,D,r,m,H,g,E,v,s,F,y,K,a,h,i,k⟩:=h;have c:=h.boxed (x':={ x with per:=u }) (tJ w b 9 _) (h.sb.nb.set _ _) rfl rfl rfl (h.sb.bx.set9 u) (λk A=>uC _ (.inr (by omega)));have o:=c.boxed (x':=paceTo x u t) (tJ _ b 10 _) (c.sb.nb.set _ _) rfl rfl rfl (c.sb.bx.set10 t) (λk A=>uC _ (.inr (by omega)));exact⟨J,n,G,f,j,I,d,z,e,l,D,r,m,H,g,E,v,s,F,y,K,a,o,i.alike (dQ.A rfl) rfl rfl,k⟩
theorem SOq.boxN[qr](h:SOq C B w b x):(∃v,w.cell? (aA b 9)=some v)/\(∃v,w.cell? (aA b 10)=some v)/\(∀j,w.frozen? (aA b j)=false)/\B<=b/\b<w.heap.size:=by
 obtain⟨S,y,N,o,q,Q,l,G,n,s,L,z,u,O,p,M,D,A,F,E,K,c,h,i,k⟩:=h;obtain⟨R,J,H,t,I,m,g,r,P,f,a,d,e⟩:=h.sb.bx;exact⟨⟨_,f⟩,⟨_,a⟩,h.sb.nb.2,h.sb.lo.1,h.sb.nb.1⟩
theorem way_24[qr](h:SOq C B w b x)(s:Snd x)(hd:(default:uL).z bd=some (yL b 24 a p c n rv))(hC:C+64000<=1000000000)(v:World)(hv:v.heap.size<=B)(hx:Ext v w):
  Calls prog 195 #[.pointer (some ⟨bd,0,none⟩)] w λe w'=>zU C B b x a p c n 24 v e w':=by
 have D:=uU (tQ.of (h.obj hd));have H:=uU h;have S:=uU s;obtain⟨d0,d1,d2,d3,d4,d5,d6⟩:=uH D;go_in;go_wp21;refine(b2e H (by omega) S v hv hx).mono ?_;rintro e w5 ⟨y,z,rfl,rr,h5,x5⟩;have H5:=uU (h5.wide (show C+16000<=C+64000 by omega));go_wp21;go_ret2;exact⟨z,0,0,rfl,⟨rfl,rfl,y,rr.1,rr.2⟩,H5,x5⟩
theorem way_22[qr](h:SOq C B w b x)(s:Snd x)(hd:(default:uL).z bd=some (yL b 22 a p c n rv))(hC:C+64000<=1000000000)(hc:c<=100000)(v:World)(hv:v.heap.size<=B)(hx:Ext v w):
  Calls prog 193 #[.pointer (some ⟨bd,0,none⟩)] w λe w'=>zU C B b x a p c n 22 v e w':=by
 have D:=uU (tQ.of (h.obj hd));have H:=uU h;have S:=uU s;obtain⟨d0,d1,d2,d3,d4,d5,d6⟩:=uH D;have QS:=uU (λW(xW:Ext w W)=>c2g c (H.ext xW) (by omega) S hc v hv (hx.trans xW));go_in;go_wp21;go_region_with (go_at_call 31;refine(QS _ (eDr w)).mono ?_;rintro e w5 ⟨k,rfl,st,h5,x5⟩;have H5:=uU (h5.wide (show C+16000<=C+64000 by omega));have X5:=uU x5);all_goals
  go_wp21;go_ret2;exact⟨_,0,0,rfl,⟨rfl,rfl,k,st,rfl⟩,H5,X5⟩
theorem way_18[qr](h:SOq C B w b x)(s:Snd x)(hd:(default:uL).z bd=some (yL b 18 a p c n rv))(v:World)(hv:v.heap.size<=B)(hx:Ext v w):
  Calls prog 189 #[.pointer (some ⟨bd,0,none⟩)] w λe w'=>zU C B b x a p c n 18 v e w':=by
 have D:=uU (tQ.of (h.obj hd));have H:=uU h;have S:=uU s;obtain⟨d0,d1,d2,d3,d4,d5,d6⟩:=uH D;have QS:=uU (show Calls prog 29 #[.pointer (some ⟨b,0,none⟩)] w λe w'=>∃G:Nat->Bool,Hid (e=.returned (.tuple #[.int .i64 (qJ x G x.A.length),.int .i64 (kE x G x.A.length)]))/\Hid (∀i,G i=true↔qX x i)/\Hid (SOq C B w' b (a1u x G))/\Ext v w' from by
  obtain⟨ar,kr,a4,n4,k4,a8,m8,k8,br,cB,cO,bn,pb,pa,pk,kn,hd,vf,F,vk,K,role,h,i,k⟩:=H;refine(b6e h S v hv hx).mono ?_;rintro e w' ⟨G,he,hG,h2,x2⟩;have r:=a3p x G x.A.length;refine⟨G,he,hG,⟨ar,kr,a4,n4,k4,a8,m8,k8,br,cB,cO,bn,pb,pa,pk,kn,hd,vf,F,vk,K,role,h2,i.alike ⟨?_,λq=>?_⟩ ?_ ?_,?_⟩,x2⟩;rw[<-a4d,a2j];rw[<-a4d];exact(c6r x G x.A.length (hT _) q).1;rw[<-a4d];exact r.2.2.2.1;rw[<-a4d];exact r.2.2.2.2.1;rw[<-a4d,r.1];exact k)
 go_in;go_wp21;refine QS.mono ?_;rintro e w5 ⟨G,he,hG,h5,x5⟩;have e2:=uH he;subst e2;have H5:=uU (h5.wide (show C<=C+64000 by omega));go_wp21;go_ret2;exact⟨_,0,_,rfl,⟨rfl,G,hG,rfl,rfl⟩,H5,x5⟩
theorem d4g[qr](q:Nat)(o:Int)(F G:FuncId)(P:Nat->Prop)(hq:q=20/\o=20/\F=191/\G=79/\P=qX x\/q=21/\o=21/\F=192/\G=226/\P=cU x)(h:SOq C B w b x)(s:Snd x)(hd:(default:uL).z bd=some (yL b o a p c n rv))(v:World)(hx:Ext v w):
  Calls prog F #[.pointer (some ⟨bd,0,none⟩)] w λe w'=>zU C B b x a p c n q v e w':=by
 have D:=uU (tQ.of (h.obj hd));have H:=uU h;have S:=uU s;obtain⟨d0,d1,d2,d3,d4,d5,d6⟩:=uH D;have hdw:bd<w.heap.size:=uQ d0;clear h s hd
 obtain⟨ar,kr,ac,bn,kn,V⟩:∃(ar:Option Addr)(kr:Nat)(ac:Nat->Option Addr)(bn kn:Nat),Hid (VNt w b x ar kr ac (some ⟨bn,0,none⟩) kn):=by
  obtain⟨ar,kr,a4,n4,k4,a8,m8,k8,br,cB,cO,bn,pb,pa,pk,kn,hd,vf,F,vk,K,role,h,i,k⟩:=H;exact⟨ar,kr,_,bn,kn,h.vn (by rw[S.r1.B];omega) S.ok.p200⟩
 have QH:=uU (show ∀W,Ext w W->Calls prog G #[.pointer (some ⟨b,0,none⟩)] W λe w'=>∃(r:Nat)(Mt:List Nat),e=.returned (Value.map (some r))/\Hid (tV w' r bn (Mt.map (λi=>0+i*2)))/\r<w'.heap.size/\Hid (∀i,i∈Mt↔P i)/\Ext W w' from λW xW=>by
  rcases hq with⟨_,_,_,rfl,rfl⟩|⟨_,_,_,rfl,rfl⟩
  focus refine(c2w x b W bn 0 (V.ext xW) S.r2 S.r4 S.ok.n8 S.ok.p200 (λw1 h1=>a5x x b w1 bn 0 h1 S.ok.n8)).mono ?_
  rotate_left
  focus refine(c2v x b W bn 0 (V.ext xW) S.r2 S.r4 S.ok.n8 S.ok.p200 (λw1 h1=>a5x x b w1 bn 0 h1 S.ok.n8)).mono ?_
  all_goals
   rintro e w' ⟨h1,Mt,h2,h3,h4,h5⟩;exact⟨_,Mt,h1,h2,h3,h4,h5⟩)
 have hbw:b<w.heap.size:=H.boxN.2.2.2.2;rcases hq with⟨rfl,rfl,rfl,rfl,rfl⟩|⟨rfl,rfl,rfl,rfl,rfl⟩
 all_goals
  go_in
  go_wp21;go_region_with (first|(go_at_call 225;refine(sum_any x b r Mt w5 bn 0 (V.ext X5) hm hlt S.ok.n8 S.ok.p200).mono ?_;rintro e w6 ⟨u,he,hu,x6⟩;have e2:=uH he;subst e2;have X6:=uU (X5.trans x6);clear he x6)|((first|go_at_call 79|go_at_call 226);refine(QH _ (eDr w)).mono ?_;rintro e w5 ⟨r,Mt,rfl,hm,hlt,hh,x5⟩;have x15:=kI (eDr w) x5;have l0:=x15.keep d0;have X5:=uU x15;clear x5 x15))
  all_goals
   go_wp21;go_ret2;exact⟨x,0,u,rfl,⟨rfl,rfl,λi=>decide (i∈Mt),λi=>by rw[decide_eq_true_iff];exact hh i,by rw[uH hu]⟩,(H.wide (show C<=C+64000 by omega)).ext X6,hx.trans X6⟩
theorem way_16[qr](q:Nat)(o:Int)(F:FuncId)(hq:q=16/\o=16/\F=187\/q=17/\o=17/\F=188\/q=11/\o=11/\F=182)(h:SOq C B w b x)(s:Snd x)(hd:(default:uL).z bd=some (yL b o a p c n rv))(ha:a<16)(v:World)(hv:q=11->v.heap.size<=B)(hx:Ext v w):
  Calls prog F #[.pointer (some ⟨bd,0,none⟩)] w λe w'=>zU C B b x a p c n q v e w':=by
 obtain⟨rfl,rfl,rfl⟩|⟨rfl,rfl,rfl⟩|⟨rfl,rfl,rfl⟩:=hq;all_goals
  have D:=uU (tQ.of (h.obj hd));have H:=uU h;obtain⟨br,kr,hr⟩:=h.B s;have R:=uU hr;obtain⟨d0,d1,d2,d3,d4,d5,d6⟩:=uH D;have hdw:=cLt d0;have QA:=uU (λW(xW:Ext w W)=>a1r (R.ext xW) (D.ext xW) ha);by_cases hk:(x.r a).k=2
  ·obtain⟨en,ea,hi,st,nd⟩:=s.at a ha hk;obtain⟨i,hI⟩:=obE (x.at a);have HI:=uU hI;rw[<-hI]at ea hi st nd;have HK:=uU hk;obtain⟨bn,kn,cb,co,ap,kp,hc⟩:=h.cel i hi;have CE:=uU hc;have QC:=uU (λW(xW:Ext w W)=>a2b (R.ext xW) (CE.ext xW) (D.ext xW) ha hk ea hi);clear h s hd hr hk ea en hI hc st nd;go_in;go_wp21;refine(QA _ (hO w)).mono ?_;rintro e w5 ⟨rfl,x5⟩;go_wp21;refine(QC _ x5).mono ?_;rintro e w6 ⟨rfl,x6⟩;have X6:=uU (x5.trans x6);have C6:=uU (CE.ext X6);have m1:=C6.m1;have p7:=C6.p7;obtain⟨q0,q1,q2,q3,q4,q5,q6⟩:=C6.s;have fc:=C6.f;have hn6:=cLt m1;have hc6:=cLt q0;have D6:=uU (D.ext X6);have e4:=D6.d4;have hd6:=cLt e4;clear x5 x6;have FN:=uU (λh:v.heap.size<=B=>show SOq (C+64000) B (w6.setCell ⟨cb,co+2,none⟩ (iv c)) b (hD x i (b5c (x.c i) c))/\Ext v (w6.setCell ⟨cb,co+2,none⟩ (iv c)) from⟨(C6.set2 w6 c (hO _)).wide (by omega),(hx.trans X6).setCell (p:=⟨cb,co+2,none⟩) (kA h C6.lo.1) _⟩);go_wp21;first|(go_ret2;exact⟨x,0,_,rfl,.inr ⟨HK,by rw[<-uH HI];exact⟨rfl,rfl,rfl⟩⟩,(H.wide (show C<=C+64000 by omega)).ext X6,hx.trans X6⟩)|(go_ret2;exact⟨_,0,0,rfl,.inr ⟨HK,by rw[<-uH HI];exact⟨rfl,rfl,rfl⟩⟩,(FN (hv (by simp))).1,(FN (hv (by simp))).2⟩)|(go_region;all_goals (go_wp21;go_ret2;exact⟨_,0,0,rfl,.inr ⟨HK,by rw[<-uH HI];exact⟨rfl,rfl,rfl⟩⟩,(FN (hv (by simp))).1.ext (eDr _),(FN (hv (by simp))).2.drew⟩))
  have HK:=uU hk;have QC:=uU (λW(xW:Ext w W)=>a5b (R.ext xW) (D.ext xW) ha hk);clear h s hd hr hk;go_in;go_wp21;refine(QA _ (hO w)).mono ?_;rintro e w5 ⟨rfl,x5⟩;go_wp21;refine(QC _ x5).mono ?_;rintro e w6 ⟨rfl,x6⟩;have X6:=uU (x5.trans x6);clear x5 x6;go_wp21;go_ret2;exact⟨x,2,0,rfl,.inl ⟨HK,rfl,rfl,rfl⟩,(H.wide (show C<=C+64000 by omega)).ext X6,hx.trans X6⟩
theorem way_23[qr](h:SOq C B w b x)(hd:(default:uL).z bd=some (yL b 23 a p c n rv))(v:World)(hv:v.heap.size<=B)(hx:Ext v w):
  Calls prog 194 #[.pointer (some ⟨bd,0,none⟩)] w λe w'=>zU C B b x a p c n 23 v e w':=by
 have D:=uU (tQ.of (h.obj hd));obtain⟨d0,d1,d2,d3,d4,d5,d6⟩:=uH D;obtain⟨⟨z9,c9⟩,⟨z10,c10⟩,fz,lo,hbw⟩:=h.boxN;have FN:=uU (show SOq (C+64000) B ((w.setCell ⟨b,9,none⟩ (iv p)).setCell ⟨b,10,none⟩ (iv c)).drew b (paceTo x p c)/\Ext v ((w.setCell ⟨b,9,none⟩ (iv p)).setCell ⟨b,10,none⟩ (iv c)).drew from⟨((h.pace p c).wide (by omega)).ext (eDr _),((hx.setCell (p:=⟨b,9,none⟩) (kA hv lo) _).setCell (p:=⟨b,10,none⟩) (kA hv lo) _).drew⟩);go_in;go_wp21;go_region;all_goals
  go_wp21;go_ret2;exact⟨_,0,0,rfl,⟨rfl,rfl,rfl⟩,FN.1,FN.2⟩
theorem way_4[qr](h:SOq C B w b x)(s:Snd x)(hd:(default:uL).z bd=some (yL b 4 a p c n rv))(ha:a<16)(hp:p<16)(v:World)(hv:v.heap.size<=B)(hx:Ext v w):
  Calls prog 177 #[.pointer (some ⟨bd,0,none⟩)] w λe w'=>zU C B b x a p c n 4 v e w':=by
 have D:=uU (tQ.of (h.obj hd));obtain⟨br,kr,hr⟩:=h.B s;have R:=uU hr;obtain⟨d0,d1,d2,d3,d4,d5,d6⟩:=uH D;obtain⟨r0,r1,r2⟩:=hr.r a ha;obtain⟨s0,s1,s2⟩:=hr.r p hp;have QB:=uU (λW(xW:Ext w W)=>b9p (R.ext xW) (D.ext xW) hp);have f:=hr.f;have hb1:=cLt r0;have hbB:=hr.lo.1;have QA:=uU (λW(xW:Ext w W)=>a1r (R.ext xW) (D.ext xW) ha);have FN:=uU (show ∀W,Ext w W->SOq (C+64000) B (cX W br (a*3) (x.r p)) b (regTo x a (x.r p))/\Ext v (cX W br (a*3) (x.r p)) from λW xW=>⟨(hr.set W a (x.r p) xW ha).wide (by omega),(cD W br (a*3) (x.r p)).ext (hx.trans xW) (λq hq e=>by omega)⟩);unfold cX at FN;go_in;go_wp21;refine(QA _ (hO w)).mono ?_;rintro e w5 ⟨rfl,x5⟩;go_wp21;refine(QB _ x5).mono ?_;rintro e w6 ⟨rfl,x6⟩;have x56:=x5.trans x6;have k0:=x56.keep r0;have k1:=x56.keep r1;have k2:=x56.keep r2;have l0:=x56.keep s0;have l1:=x56.keep s1;have l2:=x56.keep s2;have kf:=λm=>((cE x56).2 br m hb1).trans (f m)
 have F6:=uU (FN w6 x56);go_wp21;go_ret2;exact⟨_,0,0,rfl,⟨rfl,rfl,rfl⟩,F6.1,F6.2⟩
theorem way_13[qr]{C B:Nat}{w:World}{b bd:Nat}{x:Hp}{a p c:Nat}{n:Int}{rv:Value}(h:SOq C B w b x)(s:Snd x)(hd:(default:uL).z bd=some (yL b 13 a p c n rv))(ha:a<16)(hp:p<16)(v:World)(hx:Ext v w):
  Calls prog 184 #[.pointer (some ⟨bd,0,none⟩)] w λe w'=>zU C B b x a p c n 13 v e w':=by
 have D:=uU (tQ.of (h.obj hd));obtain⟨br,kr,hr⟩:=h.B s;have R:=uU hr;have H:=uU (h.wide (show C<=C+64000 by omega));obtain⟨r0,r1,r2⟩:=hr.r a ha;obtain⟨s0,s1,s2⟩:=hr.r p hp;have QA:=uU (λW(xW:Ext w W)=>a1r (R.ext xW) (D.ext xW) ha);have QB:=uU (λW(xW:Ext w W)=>b9p (R.ext xW) (D.ext xW) hp);cases q:wdB (x.r a) (x.r p)
 ·have we:=λW=>wd_eq (x.r a) (x.r p) W
  rw[q]at we;have Q:=uU q;go_in;go_wp21;go_region_with (first|(go_at_call 217;refine(QA _ (by first|exact xwB|exact(eDr w))).mono ?_;rintro e wA ⟨rfl,xA⟩;have xwA:=kI (show Ext w _ from by first|exact xwB|exact(eDr w)) xA;have c0A:=xwA.keep r0;have c1A:=xwA.keep r1;have c2A:=xwA.keep r2)|(go_at_call 219;refine(QB _ (by first|exact xwA|exact(eDr w))).mono ?_;rintro e wB ⟨rfl,xB⟩;have xwB:=kI (show Ext w _ from by first|exact xwA|exact(eDr w)) xB;have c0B:=xwB.keep r0;have c1B:=xwB.keep r1;have c2B:=xwB.keep r2;have c3B:=xwB.keep s0;have c4B:=xwB.keep s1;have c5B:=xwB.keep s2));all_goals
   go_wp21;go_ret2;first
    | exact⟨x,0,0,rfl,⟨rfl,rfl,by rw[uH Q];rfl⟩,H.ext xwA,hx.trans xwA⟩
    | exact⟨x,0,0,rfl,⟨rfl,rfl,by rw[uH Q];rfl⟩,H.ext xwB,hx.trans xwB⟩
    | exact⟨x,0,0,rfl,⟨rfl,rfl,by rw[uH Q];rfl⟩,(H.ext xwA).ext (eDr _),(hx.trans xwA).drew⟩
    | exact⟨x,0,0,rfl,⟨rfl,rfl,by rw[uH Q];rfl⟩,(H.ext xwB).ext (eDr _),(hx.trans xwB).drew⟩
 have we:=λW=>wd_eq (x.r a) (x.r p) W
 rw[q]at we;have Q:=uU q;go_in;go_wp21;go_region_with (first|(go_at_call 217;refine(QA _ (by first|exact xwB|exact(eDr w))).mono ?_;rintro e wA ⟨rfl,xA⟩;have xwA:=kI (show Ext w _ from by first|exact xwB|exact(eDr w)) xA;have c0A:=xwA.keep r0;have c1A:=xwA.keep r1;have c2A:=xwA.keep r2)|(go_at_call 219;refine(QB _ (by first|exact xwA|exact(eDr w))).mono ?_;rintro e wB ⟨rfl,xB⟩;have xwB:=kI (show Ext w _ from by first|exact xwA|exact(eDr w)) xB;have c0B:=xwB.keep r0;have c1B:=xwB.keep r1;have c2B:=xwB.keep r2;have c3B:=xwB.keep s0;have c4B:=xwB.keep s1;have c5B:=xwB.keep s2));all_goals
  go_wp21;go_ret2;first
   | exact⟨x,0,1,rfl,⟨rfl,rfl,by rw[uH Q];rfl⟩,H.ext xwA,hx.trans xwA⟩
   | exact⟨x,0,1,rfl,⟨rfl,rfl,by rw[uH Q];rfl⟩,H.ext xwB,hx.trans xwB⟩
   | exact⟨x,0,1,rfl,⟨rfl,rfl,by rw[uH Q];rfl⟩,(H.ext xwA).ext (eDr _),(hx.trans xwA).drew⟩
   | exact⟨x,0,1,rfl,⟨rfl,rfl,by rw[uH Q];rfl⟩,(H.ext xwB).ext (eDr _),(hx.trans xwB).drew⟩
theorem SOq.regs16[qr](h:SOq C B w b x)(f:x.B.length=16):∃br kr,b2f C B w b x br kr:=by
 have⟨L,kr,H,j,o,J,g,D,br,p,E,s,q,I,l,G,u,t,F,A,K,a,h,v,k⟩:=h;have c:0<x.B.length:=by omega
 exact⟨br,kr,by have:=h.sb.bx.2.2.2.1;rw[h.sb.ha c,f]at this;exact this,λi z=>by have:=h.rw.r i (by omega);rw[Hp.r_eq]at this;exact this,(h.rw.nr c).1.2,⟨(h.rw.nr c).2,(h.rw.nr c).1.1⟩,λW i y e z=>by have d:=h.ext e;exact⟨L,kr,H,j,o,J,g,D,br,p,E,s,q,I,l,G,u,t,F,A,K,a,d.setr i (by omega) y (cD _ _ _ _) (a2g (d.rw.nr c).1 _ _) (a1m _ _ _ _ _ (d.rw.r i (by omega))) (λm n=>dL _ _ _ _ m n),v.alike (dQ.A rfl) rfl rfl,k⟩⟩
theorem way_19[qr](h:SOq C B w b x)(s:Snd x)(hd:(default:uL).z bd=some (yL b 19 a p c n rv))(ha:a<16)(v:World)(hv:v.heap.size<=B)(hx:Ext v w):
  Calls prog 190 #[.pointer (some ⟨bd,0,none⟩)] w λe w'=>zU C B b x a p c n 19 v e w':=by
 have D:=uU (tQ.of (h.obj hd));have H:=uU h;have E:=hd;have L:=uU (show Calls prog 224 #[.pointer (some ⟨b,0,none⟩)] w λe w'=>∃vv,e=.returned vv/\((vv=.pointer none/\qV x x.A.length (-1))\/∃(y bn kn cb co:Nat)(ap:Option Addr)(kp:Nat),vv=ndp bn y/\qV x x.A.length y/\y<x.A.length/\Hid (b6f C B w b x y bn kn cb co ap kp/\∀(W W2:World)(u:Int),Ext w W->Ext (W.setCell ⟨cb,co+3,none⟩ (iv u)) W2->W2.cell? ⟨bn,y*2,none⟩=some (iv y)/\SOq C B W2 b (hD x y (qE (x.c y) u))))/\Ext w w' from by
  have⟨ar,kr,ac,bn,kn,V,NB⟩:∃(ar:Option Addr)(kr:Nat)(ac:Nat->Option Addr)(bn kn:Nat),VNt w b x ar kr ac (some ⟨bn,0,none⟩) kn/\w.cell? ⟨b,13,none⟩=some (.slice (some ⟨bn,0,none⟩) x.A.length kn):=by
   have⟨ar,kr,a4,n4,k4,a8,m8,k8,br,cB,cO,bn,pb,pa,pk,kn,hd,vf,F,vk,K,role,h,i,k⟩:=h;exact⟨ar,kr,_,bn,kn,h.vn (by rw[s.r1.B];omega) s.ok.p200,h.sb.n13⟩
  refine(c2z x b w bn 0 V s.ok.n8).mono ?_;rintro e w' ⟨vv,he,hv,xe⟩;refine⟨vv,he,?_,xe⟩;obtain hv|⟨y,e1,e2,e3⟩:=hv;exact .inl hv;have⟨bn2,kn2,cb,co,ap,kp,hc,ls⟩:=h.lastS y e3;have U:bn2=bn:=by
   have:=hc.n13.symm.trans NB;simp at this;exact this.1
  subst U;exact .inr ⟨y,bn2,kn2,cb,co,ap,kp,by rw[e1,kO],e2,e3,hc,λW W2 u e e2=>let ⟨_,m0,_,h2,_⟩:=ls W W2 u e e2;⟨m0,h2⟩⟩)
 have⟨d0,d1,d2,d3,d4,d5,d6⟩:=uH D;have ab:=cLt d0;clear h hd;go_in;go_wp21;refine L.mono ?_;rintro e w5 ⟨vv,rfl,hor,x5⟩;have H5:=uU (H.ext x5);have P:=uU (hx.trans x5);obtain⟨rfl,hd1⟩|⟨y,bn,kn,cb,co,ap,kp,rfl,hd1,hy,hcl⟩:=hor
 ·have t:=uU hd1;have⟨br,kr,hr⟩:=H5.B s;have A:=uU (a1r hr (D.ext x5) ha);obtain⟨r0,r1,r2⟩:=hr.r a ha;have f:=hr.f;have g:=uU (show ∀W,Ext w5 W->SOq (C+64000) B (cX W br (a*3) Wd0) b (regTo x a Wd0)/\Ext v (cX W br (a*3) Wd0) from λW xW=>⟨(hr.set W a Wd0 xW ha).wide (by omega),(cD W br (a*3) Wd0).ext (P.trans xW) (λq hq e=>by have:=hr.lo.1;omega)⟩);unfold cX Wd0 at g;clear hr hd1 L x5;go_wp21;refine A.mono ?_;rintro e w6 ⟨rfl,x6⟩;have I:=x6.keep r0;have Y:=x6.keep r1;have T:=x6.keep r2;have kf:=λm=>((cE x6).2 br m (cLt r0)).trans (f m)
  have aa:=cLt I;have Q:=uU (g w6 x6);clear x6;go_wp21;go_ret2;exact⟨_,0,0,rfl,⟨rfl,.inl ⟨t,rfl,rfl⟩⟩,Q.1,Q.2⟩
 have t:=uU hd1;have j:=hcl.1.ext x5;have N:=j.m1;have⟨q0,q1,q2,q3,q4,q5,q6⟩:=j.s;have fc:=j.f;have J:=cLt N;have o:=cLt q0;have⟨W7,hW7⟩:∃W,W=w5.setCell ⟨cb,co+3,none⟩ (iv 3):=⟨_,rfl⟩;have⟨m0,h7⟩:=(λ(W W2:World) (u:Int) (e:Ext w5 W)=>hcl.2 W W2 u (x5.trans e)) w5 W7 3 (hO _) (hW7▸hO _);have⟨br,kr,hr⟩:=h7.regs16 (show(hD x y (qE (x.c y) 3)).B.length=16 from s.r1.B);have O:=tQ.of (h7.obj E);have A:=uU (a1r hr O ha);have⟨r0,r1,r2⟩:=hr.r a ha;have f:=hr.f;have g:∀W,Ext W7 W->SOq (C+64000) B (cX W br (a*3) ⟨2,0,y⟩) b (regTo (hD x y (qE (x.c y) 3)) a ⟨2,0,y⟩)/\Ext v (cX W br (a*3) ⟨2,0,y⟩):=λW xW=>⟨(hr.set W a ⟨2,0,y⟩ xW ha).wide (by omega),(cD W br (a*3) ⟨2,0,y⟩).ext ((show Ext v W7 by rw[hW7];exact P.setCell (p:=⟨cb,co+3,none⟩) (kA hv j.lo.1) _).trans xW) (λq hq e=>by have:=hr.lo.1;omega)⟩;unfold cX at g;clear hd1 L x5 hr O h7;go_wp21;rw[<-hW7];clear hW7 N q0 q1 q2 q3 q4 q5 q6 fc J o;refine A.mono ?_;rintro e w8 ⟨rfl,x8⟩;go_wp21;refine(a8b bn (y*2) y _ (x8.keep m0)).mono ?_;rintro e w9 ⟨rfl,x9⟩;have d:=x8.trans x9;have I:=d.keep r0;have Y:=d.keep r1;have T:=d.keep r2;have kf:=λm=>((cE d).2 br m (cLt r0)).trans (f m)
 have X:=cLt I;have R:=uH g w9 d;clear x8 x9 d;go_wp21;go_ret2;exact⟨_,0,1,rfl,⟨rfl,.inr ⟨y,t,rfl,rfl⟩⟩,R.1,R.2⟩
abbrev a7t(ba bs:Nat):Value:=.func (.func 111) #[] #[.pointer (some ⟨ba,0,none⟩),.pointer (some ⟨bs,0,none⟩)]
theorem b3g(b:Nat)(op a p c n:Int)(w:World):
  Calls prog 56 #[pP b,yU op a p c n] w λe w'=>e=.returned (a7t (w.heap.size+1) w.heap.size)/\w'=(w.alloc (.cells #[pP b] 72)).alloc (.cells #[iv op,iv a,iv p,iv c,iv n] 29):=by
 go_in;go_wp21;go_ret;exact⟨rfl,rfl⟩
theorem SOq.nums[qr](h:SOq C B w b x):w.cell? (aA b 0)=some (iv x.M)/\w.cell? (aA b 1)=some (iv x.K)/\w.cell? (aA b 2)=some (iv x.born)/\w.cell? (aA b 5)=some (iv x.E)/\w.cell? (aA b 9)=some (iv x.per)/\w.cell? (aA b 10)=some (iv x.V)/\w.cell? (aA b 12)=some (iv x.S):=by
 obtain⟨Q,z,M,q,s,P,o,H,p,u,J,A,y,N,r,L,E,D,F,G,K,d,h,i,k⟩:=h;obtain⟨l,j,g,v,I,e,n,t,O,m,c,f,a⟩:=h.sb.bx;exact⟨l,j,g,e,m,c,a⟩
theorem SOq.set12[qr](h:SOq C B w b x)(u:Int):SOq C B (w.setCell (aA b 12) (iv u)) b { x with S:=u }:=by
 obtain⟨E,m,z,e,g,D,c,t,d,j,v,n,l,A,f,y,r,o,F,s,K,a,h,i,k⟩:=h;exact⟨E,m,z,e,g,D,c,t,d,j,v,n,l,A,f,y,r,o,F,s,K,a,h.boxed (x':={ x with S:=u }) (tJ w b 12 _) (h.sb.nb.set _ _) rfl rfl rfl (h.sb.bx.set12 u) (λk G=>uC _ (.inr (by omega))),i.alike (dQ.A rfl) rfl rfl,k⟩
theorem c3f[qr](h:SOq C B w b x)(s:Snd x)(u:Nat)(j:u<=201):Calls prog 112 #[pP b,iv u] w λe w'=>e=.returned (.bool (zV x u))/\Ext w w':=by
 obtain⟨g,i,_⟩:=h.nums;have c:0<=x.K/\x.K<=4000:=by have a:=s.r3;have d:=s.r1.M;unfold R3 at a;omega
 have f:wrap64 (x.K+(u:Int))=x.K+(u:Int):=a1e _ (by omega) (by omega);go_in;go_wp21;go_quiet (fail);go_wp21;go_ret;exact⟨rfl,Ext.drewN (hO _) _⟩
def c3g(b:Nat):Obj:=.cells #[.pointer (some ⟨b,0,none⟩)] 72
def b9u(op a p c n:Int):Obj:=.cells #[iv op,iv a,iv p,iv c,iv n] 29
def b0w(x:Hp)(op:Int)(u:Nat)(y:Hp)(cd:Int):Prop:=((op=1/\x.born=1000000000)/\y=x/\cd=4)\/(¬(op=1/\x.born=1000000000)/\tY x u y/\cd=if zV y u=true then 0 else 4)
theorem c3h[qr]{a p c:Int}(h:SOq C B w b x)(hC:C+16000<=1000000000)(s:Snd x)(za:(default:uL).z ba=some (b9u op a p c n))(zs:(default:uL).z bs=some (c3g b))(u:Nat)(hu:u<=201)(v:World)(hv:v.heap.size<=B)(hx:Ext v w):
  Calls prog 111 #[.int .i64 u,.pointer (some ⟨ba,0,none⟩),.pointer (some ⟨bs,0,none⟩)] w λe w'=>∃(y:Hp)(cd:Int),Hid (e=.returned (b5z cd))/\Hid (b0w x op u y cd)/\Hid (SOq (C+16000) B w' b y)/\Ext v w':=by
 have H:=uU h;have S:=uU s;have ca:=λj=>cell_of_row w ba j _ _ (0,0) (h.obj za)
 have cs:=λj=>cell_of_row w bs j _ _ (0,0) (h.obj zs)
 have a0:w.cell? ⟨ba,0,none⟩=some (iv op):=ca 0;have s0:w.cell? ⟨bs,0,none⟩=some (.pointer (some ⟨b,0,none⟩)):=cs 0;obtain⟨c0,c1,c2,c5,c9,c10,c12⟩:=h.nums;have fz:=h.boxN.2.2.1;have lo:v.heap.size<=b:=kA hv h.boxN.2.2.2.1;have fo:=s.r1.S;have hbw:=cLt c0;have BS:=uU (show ∀(W:World)(z:Hp)(K:Nat),SOq K B W b z->W.cell? ⟨bs,0,none⟩=some (.pointer (some ⟨b,0,none⟩)) from λW z K hz=>cell_of_row W bs 0 _ _ (0,0) (hz.obj zs));by_cases hop:op=1/\x.born=1000000000;have R:=uU (show b0w x op u x 4 from .inl ⟨hop,rfl,rfl⟩);obtain⟨rfl,hb⟩:=hop;rw[hb]at c2;go_in;go_wp21;go_ret;exact⟨x,4,rfl,R,H.wide (by omega),hx⟩;have RP:=uU (show ∀y cd,tY x u y->(cd=if zV y u=true then 0 else 4)->b0w x op u y cd from λy cd r e=>.inr ⟨hop,r,e⟩);have Q1:=uU (λW(xW:Ext w W)=>c3f (H.ext xW) S u hu);go_in;rcases (show(op=1/\x.born≠1000000000)\/op≠1 from(Decidable.em (op=1)).elim (λh1=>.inl ⟨h1,λe=>hop ⟨h1,e⟩⟩) .inr) with⟨rfl,hb⟩|hb;all_goals
  go_wp21;refine(Q1 _ (hO w)).mono ?_;rintro e w1 ⟨rfl,x1⟩;have X1:=uU x1;have t0:=x1.keep s0;have d0:=x1.keep c0;have d12:=x1.keep c12;have fz1:=λj=>((cE x1).2 b j hbw).trans (fz j)
  cases hf:zV x u
  ·go_wp21;go_region;all_goals
    go_wp21;have FH:SOq C B (w1.setCell ⟨b,12,none⟩ (iv (min (x.S+1) 1000000000))).drew b (forceTo x):=by
     rw[show forceTo x={ x with S:=min (x.S+1) 1000000000 } from by unfold forceTo;congr 1;split <;> omega];exact((H.ext X1).set12 _).ext (eDr _)
    refine(b2e FH hC S.forceTo v hv (((hx.trans X1).setCell (p:=⟨b,12,none⟩) lo _).drew)).mono ?_;rintro e w2 ⟨y,z,rfl,he,h2,x2⟩;have RM:=uU (show tY x u z from .inr ⟨hf,y,he.1,he.2⟩);have Sz:=uU (RM.snd S);have Q2:=uU (c3f h2 Sz u hu);have t2:=uH BS w2 z _ h2;go_wp21;refine Q2.mono ?_;rintro e w3 ⟨rfl,x3⟩;cases hg:zV z u;go_wp21;go_ret;exact⟨z,4,rfl,uH RP z 4 RM (by rw[hg];rfl),h2.ext x3,x2.trans x3⟩;go_wp21;go_ret;exact⟨z,0,rfl,uH RP z 0 RM (by rw[hg];rfl),h2.ext x3,x2.trans x3⟩
  go_wp21;refine(Q1 _ X1).mono ?_;rintro e w2 ⟨rfl,x2⟩;rw[hf];go_wp21;go_ret;exact⟨x,0,rfl,uH RP x 0 (.inl ⟨hf,rfl⟩) (by rw[hf];rfl),((H.ext (X1.trans x2)).wide (by omega)),hx.trans (X1.trans x2)⟩
theorem Own.sub{p p1:Inhabited uL}{c:World}(o:Own p lo hi c p1):∀q ob,(@default uL p).z q=some ob->(@default uL p1).z q=some ob:=λq ob a=>by
 rw[o.z,if_neg (λe=>by have:=o.l q ob a;omega)];exact a
theorem b8g{p p1:Inhabited uL}(a:∀q ob,(@default uL p).z q=some ob->(@default uL p1).z q=some ob){q:Nat}(h:(@default uL p1).z q=none):(@default uL p).z q=none:=by
 cases e:(@default uL p).z q with
 | none=>rfl
 | some ob=>rw[a q ob e]at h;cases h
theorem SOq.less{p p1:Inhabited uL}(h:@SOq p1 C B w b x)(c:∀q ob,(@default uL p).z q=some ob->(@default uL p1).z q=some ob):@SOq p C B w b x:=by
 obtain⟨L,r,H,g,l,J,e,y,f,m,D,s,n,I,j,E,u,t,F,v,K,a,h,i,k⟩:=h;have A:=h;obtain⟨_,_,_,d⟩:=A;exact⟨L,r,H,g,l,J,e,y,f,m,D,s,n,I,j,E,u,t,F,v,K,a,SAt.far (z:=(@default uL p1).z) (z2:=(@default uL p).z) h (hT _) (λ_ _ _=>rfl) (λ_ _ _=>rfl) (λq o G=>d q o (c q o G)),i,k.1,b8g c k.2⟩
def WayOk(p:Inhabited uL)(C B b:Nat)(x:Hp)(a q c:Nat)(n:Int)(k:Nat)(v:World)(rv:Value):Prop:=
 ∀(p1:Inhabited uL)(bd:Nat)(W:World),@SOq p1 C B W b x->(@default uL p1).z bd=some (yL b k a q c n rv)->(∀m ob,(@default uL p).z m=some ob->(@default uL p1).z m=some ob)->Ext v W->Calls prog (wayF k) #[.pointer (some ⟨bd,0,none⟩)] W λe w'=>@zU p1 C B b x a q c n k v e w'
theorem d4p(k:Nat)(b:1<=k)(c:k<=24)(a:Array Value)(W:World):(callFunc (wayF k) a).run prog W=.ok (.enter (wayF k) a) W:=by
 have h:k=1\/k=2\/k=3\/k=4\/k=5\/k=6\/k=7\/k=8\/k=9\/k=10\/k=11\/k=12\/k=13\/k=14\/k=15\/k=16\/k=17\/k=18\/k=19\/k=20\/k=21\/k=22\/k=23\/k=24:=by omega
 obtain rfl|rfl|rfl|rfl|rfl|rfl|rfl|rfl|rfl|rfl|rfl|rfl|rfl|rfl|rfl|rfl|rfl|rfl|rfl|rfl|rfl|rfl|rfl|rfl:=h <;> first|exact(by kernel_rfl)|rfl
theorem c5r[p:qr](h:SOq C B w b x)(J:1<=k)(K:k<=24)(V:(n != 0)=false\/((n != 0)=true/\((k:Int) != 2)=false))(X:(decide (0<=(a:Int)/\(a:Int)<=a6y k) && (decide (0<=(q:Int)/\(q:Int)<=kJ k) && decide (0<=(c:Int)/\(c:Int)<=gH k)))=true)(v:World)(hx:Ext v w)(Y:WayOk p C B b x a q c n k v (a7t ba bs)):
  Calls prog 55 #[pP b,yU k a q c n,a7t ba bs] w λe w'=>zU C B b x a q c n k v e w':=by
 have H:=uU h;have YY:=uU Y;have L:=uU (λW=>c3j k a q c n W J K V true X);obtain⟨fw,u⟩:∃f,f=wayF k:=⟨_,rfl⟩;obtain⟨m1,o⟩:∃m,m=a6y k:=⟨_,rfl⟩;obtain⟨m2,r⟩:∃m,m=kJ k:=⟨_,rfl⟩;obtain⟨m3,s⟩:∃m,m=gH k:=⟨_,rfl⟩;rw[<-u,<-o,<-r,<-s]at L;have M:=uU (d4p k J K);rw[<-u]at M;have HF:=uU u;clear h Y J K V X u o r s;go_in;go_wp21;refine(L _).mono ?_;rintro e d ⟨rfl,I⟩;have N:d.heap[w.heap.size]?=some (b9u k a q c n):=(I.block w.heap.size (by simp[go_sem])).trans (show((w.heap.push _)[w.heap.size]?)=_ by rw[ns];rfl);have l:=λj=>cell_of_row d w.heap.size j _ _ (0,0) N
 have O:d.cell? (aA w.heap.size 0)=some (iv k):=l 0;have t1:d.cell? (aA w.heap.size 1)=some (iv a):=l 1;have t2:d.cell? (aA w.heap.size 2)=some (iv q):=l 2;have Z:d.cell? (aA w.heap.size 3)=some (iv c):=l 3;have t4:d.cell? (aA w.heap.size 4)=some (iv n):=l 4;have l1:=cLt O;have P:=uU (show Ext w d from(eAl w _).trans I);clear N l I;go_wp21;rw[uH M,Oper.upon_enter];obtain⟨G,g⟩:∃W,W=(d.alloc (.cells #[iv m1,iv m2,iv m3,.func (.func fw) #[] #[]] 151)).alloc (yL b k a q c n (a7t ba bs)):=⟨_,rfl⟩;have i:Ext d G:=by rw[g];exact(eAl d _).alloc _
 have A:G.heap[d.heap.size+1]?=some (yL b k a q c n (a7t ba bs)):=by
  rw[g];show(((d.heap.push _).push _)[d.heap.size+1]?)=_;rw[<-nK,ns]
 have S:=a1p A;obtain⟨D,t,Q⟩:=SOq.enter (H.ext P) i;have T:(@default uL D).z (d.heap.size+1)=some (yL b k a q c n (a7t ba bs)):=by rw[t.z,if_pos ⟨by omega,S⟩];exact A
 have F:=uH YY D (d.heap.size+1) G Q T t.sub (hx.trans (P.trans i));rw[<-uH HF]at F;unfold yL at g;rw[<-g];refine F.mono ?_;clear F T Q A S g O t1 t2 Z t4 i;have O1:=uU t.sub;clear t;rintro e w4 ⟨y,cd,nm,R,dr,U,x4⟩;have E:=uH R;subst E;have G4:=uU (show @SOq p (C+64000) B w4 b y from SOq.less (p:=p) (p1:=D) U O1);clear R U;go_wp21;go_ret2;exact⟨y,cd,nm,rfl,dr,G4,x4⟩
def NoWay(op a b c n:Int):Prop:=∀W,Calls prog 110 #[yU op a b c n] W λe w'=>∃(m1 m2 m3:Int)(f:Value),Hid (f=.nilFunc\/∃F,f=.func (.func F) #[] #[])/\e=.returned (.tuple #[.agg #[iv m1,iv m2,iv m3,f],.bool false])/\Ext W w'
theorem noWay(op a b c n:Int)(h:zC op a b c n=false):NoWay op a b c n:=λW=>by
 by_cases i:cH op 1 24=false;refine(c9z op a b c n W i).mono ?_;rintro e l ⟨rfl,d⟩;exact⟨0,0,0,.nilFunc,.inl rfl,rfl,d⟩;have p:1<=op/\op<=24:=by
  by_cases m:1<=op/\op<=24;exact m;exact absurd (show cH op 1 24=false by simp[cH];omega) i
 obtain⟨k,rfl⟩:∃k:Nat,op=k:=⟨op.toNat,by omega⟩;by_cases j:n=0\/(k:Int)=2;have o:(decide (0<=a/\a<=a6y k) && (decide (0<=b/\b<=kJ k) && decide (0<=c/\c<=gH k)))=false:=by
  have f:=h;unfold zC at f;rw[decide_eq_true (show(1<=(k:Int)/\(k:Int)<=24)/\(n=0\/(k:Int)=2) from⟨p,j⟩),Bool.true_and]at f;exact f
 refine(c3j k a b c n W (by omega) (by omega) ?_ false o).mono ?_;by_cases g:n=0
 ·exact .inl (by rw[g];rfl)
 refine .inr ⟨by simpa using g,?_⟩;obtain e|e:=j
 ·exact absurd e g
 rw[e];rfl;rintro e l ⟨rfl,d⟩;exact⟨_,_,_,_,.inr ⟨_,rfl⟩,rfl,d⟩;refine(d0a k a b c n W (by omega) (by omega) (by simp only[bne_iff_ne,ne_eq];omega) (by simp only[bne_iff_ne,ne_eq];omega)).mono ?_;rintro e l ⟨rfl,d⟩;exact⟨0,0,0,.nilFunc,.inl rfl,rfl,d⟩
theorem c5s(b m l:Nat)(op a q c n:Int)(w:World)(g:NoWay op a q c n):
  Calls prog 55 #[pP b,yU op a q c n,a7t m l] w λe w'=>e=.returned (.tuple #[iv 0,b5z 1])/\Ext w w':=by
 have h:=uU g;go_in;go_wp21;refine(h _).mono ?_;rintro e k ⟨o,p,r,f,j,rfl,d⟩;have i:=uU (show Ext w k from(eAl w _).trans d);obtain rfl|⟨F,rfl⟩:=uH j;all_goals
  go_wp21;go_ret2;exact⟨rfl,i.alloc _⟩
def d4r(p:Inhabited uL)(C B b:Nat)(x:Hp)(a q c:Nat)(n:Int)(k:Nat)(v:World):Prop:=
 ∀(p1:Inhabited uL)(ba bs:Nat),(@default uL p1).z ba=some (b9u k a q c n)->(@default uL p1).z bs=some (c3g b)->(∀m ob,(@default uL p).z m=some ob->(@default uL p1).z m=some ob)->WayOk p1 C B b x a q c n k v (a7t ba bs)
theorem sresQ[qr](h:SOq C B w b x)(d:R2 x)(y:Wd)(c:uJ y x.A.length):Calls prog 221 #[pP b,y.v] w λe w'=>e=.returned (zL x y).v/\Ext w w':=by
 obtain⟨G,o,A,i,l,E,f,t,g,m,u,p,n,D,j,z,r,q,F,s,K,a,h,v,k⟩:=h;exact b5p h d y c
theorem SPr.ext[qr]{i cb co bp kp:Nat}(h:SPr C B w b x i k bn kn cb co bp kp)(e:Ext w w'):SPr C B w' b x i k bn kn cb co bp kp:=
 ⟨h.ce.ext e,h.pr.ext e,λj=>((cE e).2 bp j h.lo.2).trans (h.f j),⟨h.lo.1,kF h.lo.2 e.size⟩⟩
theorem way_5[qr](q:Nat)(o:Int)(hq:q=5/\o=5\/q=6/\o=6)(h:SOq C B w b x)(s:Snd x)(hd:(default:uL).z bd=some (yL b o a p c n rv))(ha:a<16)(hp:p<16)(v:World)(hv:v.heap.size<=B)(hx:Ext v w):
  Calls prog 178 #[.pointer (some ⟨bd,0,none⟩)] w λe w'=>zU C B b x a p c n q v e w':=by
 obtain⟨sel,hse⟩:∃s:Pr->Wd,s=(if q=5 then Pr.key else Pr.val):=⟨_,rfl⟩;have HSE:=uU hse;clear hse;obtain⟨rfl,rfl⟩|⟨rfl,rfl⟩:=hq;all_goals
  have D:=uU (tQ.of (h.obj hd));have H:=uU h;have S:=uU s;have hdz:=hd;obtain⟨br,kr,hr⟩:=h.B s;have R:=uU hr;obtain⟨d0,d1,d2,d3,d4,d5,d6⟩:=uH D;have hdw:=cLt d0;have QF:=uU (λW(xW:Ext w W)=>b9p (R.ext xW) (D.ext xW) hp);by_cases hk:(x.r p).k=2
  ·obtain⟨en,ea,hi,st,nd⟩:=s.at p hp hk;obtain⟨i,hI⟩:=obE (x.at p);have HI:=uU hI;rw[<-hI]at ea hi st nd;have HK:=uU hk;have ND:=uU nd;by_cases hl:c<(x.c i).F.length
   ·obtain⟨bn,kn,cb,co,bp,kp,hs,ps⟩:=h.prw i hi c hl;have SP:=uU hs;have PS:=uU ps;first|have QC:=uU (λW(xW:Ext w W)=>c3a (R.ext xW) (D.ext xW) hp (SPr.ext SP xW) hk ea hi hl (.inl rfl))|have QC:=uU (λW(xW:Ext w W)=>c3b (R.ext xW) (D.ext xW) hp (SPr.ext SP xW) hk ea hi hl (.inl rfl))
    have QA:=uU (λW(xW:Ext w W)=>a1r (R.ext xW) (D.ext xW) ha);have hse:=uH HSE;simp at hse;have FM:=uU (show uJ (sel ((x.c i).p c)) x.A.length by rw[hse];have f:=((s.r4.2 i hi).2 c hl).2 nd;first|exact f.1.1|exact f.2.1);obtain⟨rr,hrr⟩:∃r,r=zL x (sel ((x.c i).p c)):=⟨_,rfl⟩;have HR:=uU hrr;have QR:=uU (show ∀W,Ext w W->Calls prog 221 #[.pointer (some ⟨b,0,none⟩),(sel ((x.c i).p c)).v] W λe w'=>e=.returned rr.v/\Ext W w' from λW xW=>by rw[hrr];exact sresQ (H.ext xW) S.r2 _ FM);subst hse;clear HSE;have FN:=uU (show ∀W,Ext w W->SOq (C+64000) B (cX W br (a*3) rr) b (regTo x a rr)/\Ext v (cX W br (a*3) rr) from λW xW=>⟨(hr.set W a rr xW ha).wide (by omega),(cD W br (a*3) rr).ext (hx.trans xW) (λq hq e=>by have:=hr.lo.1;omega)⟩);unfold cX at FN;obtain⟨r0,r1,r2⟩:=hr.r a ha;have ff:=hr.f;have hbr:=cLt r0;obtain⟨e0,e1,e2,e3,e4,e5⟩:=hs.pr;have hbp:=cLt e0;have HL:=uU hl;clear h s hd hr hk ea en hI hs ps st nd hrr;go_in;go_wp21;refine(QF _ (hO w)).mono ?_;rintro e w5 ⟨rfl,x5⟩;go_wp21;refine(QC _ x5).mono ?_;rintro e w6 ⟨rfl,x6⟩;have x56:=x5.trans x6;have X6:=uU x56;have k0:=x56.keep r0;have k1:=x56.keep r1;have k2:=x56.keep r2;have kf:=λm=>((cE x56).2 br m hbr).trans (ff m)
    have l0:=x56.keep e0;have l1:=x56.keep e1;have l2:=x56.keep e2;have l3:=x56.keep e3;have l4:=x56.keep e4;have l5:=x56.keep e5;have m0:=x56.keep d0;have hb6:=cLt k0;have hp6:=cLt l0;have hd6:=cLt m0;clear x5 x6 x56 r0 r1 r2 e0 e1 e2 e3 e4 e5 d0 d1 d2 d3 d4 d5 d6;go_wp21;go_region_with (first|(go_at_call 221;refine(QR _ (by first|exact xwA|exact X6.trans (eDr w6))).mono ?_;rintro e wB ⟨rfl,xB⟩;have xwB:=kI (show Ext w _ from by first|exact xwA|exact X6.trans (eDr w6)) xB;have y6:=kI (show Ext w6 _ from by first|exact x6A|exact(eDr w6)) xB;have n0:=y6.keep k0;have n1:=y6.keep k1;have n2:=y6.keep k2;have nf:=λm=>((cE y6).2 br m hb6).trans (kf m);have hb7:=cLt n0;have FB:=uU (FN wB xwB);clear xB y6)|(go_at_call 217;refine(QA _ (X6.trans (eDr w6))).mono ?_;rintro e wA ⟨rfl,xA⟩;have xwA:=kI (X6.trans (eDr w6)) xA;have x6A:=kI (eDr w6) xA;have o0:=x6A.keep l0;have o1:=x6A.keep l1;have o2:=x6A.keep l2;have o3:=x6A.keep l3;have o4:=x6A.keep l4;have o5:=x6A.keep l5;have o6:=x6A.keep m0;have hpA:=cLt o0;have hdA:=cLt o6;clear xA));all_goals
     go_wp21;go_ret2;exact⟨_,0,0,rfl,.inr (.inr ⟨HK,by rw[<-uH HI];exact uH HL,by rw[<-uH HI];exact congrArg (regTo x a) HR,rfl,rfl⟩),FB.1,FB.2⟩
   obtain⟨bn,kn,cb,co,ap,kp,hc⟩:=h.cel i hi;have CE:=uU hc;have QC:=uU (λW(xW:Ext w W)=>b6g (R.ext xW) (D.ext xW) hp (CE.ext xW) hk ea hi (by omega));have HL:=uU (show(x.c i).F.length<=c by omega);clear h s hd hr hk ea en hI hc st nd hl;go_in;go_wp21;refine(QF _ (hO w)).mono ?_;rintro e w5 ⟨rfl,x5⟩;go_wp21;refine(QC _ x5).mono ?_;rintro e w6 ⟨rfl,x6⟩;have X6:=uU (x5.trans x6);clear x5 x6;go_wp21;go_ret2;exact⟨x,3,0,rfl,.inr (.inl ⟨HK,by rw[<-uH HI];exact uH HL,rfl,rfl,rfl⟩),(H.wide (show C<=C+64000 by omega)).ext X6,hx.trans X6⟩
  have HK:=uU hk;have QC:=uU (λW(xW:Ext w W)=>c7b (R.ext xW) (D.ext xW) hp hk);clear h s hd hr hk;go_in;go_wp21;refine(QF _ (hO w)).mono ?_;rintro e w5 ⟨rfl,x5⟩;go_wp21;refine(QC _ x5).mono ?_;rintro e w6 ⟨rfl,x6⟩;have X6:=uU (x5.trans x6);clear x5 x6;go_wp21;go_ret2;exact⟨x,2,0,rfl,.inl ⟨HK,rfl,rfl,rfl⟩,(H.wide (show C<=C+64000 by omega)).ext X6,hx.trans X6⟩
theorem way_7[qr](q:Nat)(o:Int)(hq:q=7/\o=7\/q=8/\o=8)(h:SOq C B w b x)(s:Snd x)(hd:(default:uL).z bd=some (yL b o a p c n rv))(ha:a<16)(hp:p<16)(v:World)(hv:v.heap.size<=B)(hx:Ext v w):
  Calls prog 179 #[.pointer (some ⟨bd,0,none⟩)] w λe w'=>zU C B b x a p c n q v e w':=by
 obtain⟨oo,ho⟩:∃k:Nat,k=(if q=7 then 0 else 3):=⟨_,rfl⟩;obtain⟨fC,hf⟩:∃f:Cl->Nat->Wd->Cl,f=(if q=7 then keyC else valC):=⟨_,rfl⟩;have HO:=uU (kG ho hf);clear ho hf;obtain⟨rfl,rfl⟩|⟨rfl,rfl⟩:=hq;all_goals
  have D:=uU (tQ.of (h.obj hd));have H:=uU h;have S:=uU s;have hdz:=hd;obtain⟨br,kr,hr⟩:=h.B s;have R:=uU hr;obtain⟨d0,d1,d2,d3,d4,d5,d6⟩:=uH D;have hdw:=cLt d0;have QF:=uU (λW(xW:Ext w W)=>a1r (R.ext xW) (D.ext xW) ha);by_cases hk:(x.r a).k=2
  ·obtain⟨en,ea,hi,st,nd⟩:=s.at a ha hk;obtain⟨i,hI⟩:=obE (x.at a);have HI:=uU hI;rw[<-hI]at ea hi st nd;have HK:=uU hk;have ND:=uU nd;by_cases hl:c<(x.c i).F.length
   ·obtain⟨bn,kn,cb,co,bp,kp,hs,ps⟩:=h.prw i hi c hl;have SP:=uU hs;have PS:=uU ps;first|have QC:=uU (λW(xW:Ext w W)=>c3a (R.ext xW) (D.ext xW) ha (SPr.ext SP xW) hk ea hi hl (.inr rfl))|have QC:=uU (λW(xW:Ext w W)=>c3b (R.ext xW) (D.ext xW) ha (SPr.ext SP xW) hk ea hi hl (.inr rfl))
    have QB:=uU (λW(xW:Ext w W)=>b9p (R.ext xW) (D.ext xW) hp);obtain⟨yy,hyy⟩:∃y,y=x.r p:=⟨_,rfl⟩;have HY:=uU hyy;obtain⟨r0,r1,r2⟩:=hr.r p hp;rw[<-hyy]at r0 r1 r2;have LY:=uU (show hE x yy False from by rw[hyy];exact s.reg p hp);have hbr:=cLt r0;obtain⟨e0,e1,e2,e3,e4,e5⟩:=hs.pr;have fp:=hs.f;have hbB:=hs.lo.1;have hbp:=cLt e0;have HL:=uU hl;clear h s hd hr hk ea en hI hs ps st nd hyy;go_in;go_wp21;refine(QF _ (hO w)).mono ?_;rintro e w5 ⟨rfl,x5⟩;go_wp21;refine(QC _ x5).mono ?_;rintro e w6 ⟨rfl,x6⟩;have x56:=x5.trans x6;go_wp21;refine(QB _ x56).mono ?_;rintro e w7 ⟨rfl,x7⟩;have x57:=x56.trans x7;have X7:=uU x57;have k0:=x57.keep r0;have k1:=x57.keep r1;have k2:=x57.keep r2;have l0:=x57.keep e0;have l1:=x57.keep e1;have l2:=x57.keep e2;have l3:=x57.keep e3;have l4:=x57.keep e4;have l5:=x57.keep e5;have lf:=λm=>((cE x57).2 bp m hbp).trans (fp m)
    have hb7:=cLt k0;have hp7:=cLt l0;obtain⟨ho,hf⟩:=uH HO;simp at ho hf;have OR:=uU (show oo=0/\hD x i (fC (x.c i) c yy)=hD x i (keyC (x.c i) c yy)\/oo=3/\hD x i (fC (x.c i) c yy)=hD x i (valC (x.c i) c yy) by rw[ho,hf];simp);obtain⟨W8,hW8⟩:∃W,W=cX w7 bp (c*6+oo) yy:=⟨_,rfl⟩;have PS8:=uU (PS oo yy _ OR w7 W8 x57 (by rw[hW8];exact hO _));have X8:=uU (show Ext v W8 by rw[hW8];exact(cD w7 bp (c*6+oo) yy).ext (hx.trans x57) (λq hq e=>by omega));unfold cX at hW8;clear x5 x6 x56 x7 x57 r0 r1 r2 e0 e1 e2 e3 e4 e5 d0 d1 d2 d3 d4 d5 d6 fp;have PX:=uU (λW2(e8:Ext W8 W2)=>uH PS oo yy _ OR w7 W2 X7 (by rw[show cX w7 bp (c*6+oo) yy=W8 from by rw[hW8];rfl];exact e8));obtain⟨z,hz⟩:=obE (hD x i (fC (x.c i) c yy));have HZ:=uU hz;rw[<-hz]at PS8 PX;have ZB:=uU (show ∀t,eE z t=eE x t from λt=>by
     rw[hz];unfold eE;have e:whB ((hD x i (fC (x.c i) c yy)).c t)=whB (x.c t):=by
      show whB (({ x with A:=x.A.set i _ }:Hp).c t)=_;rw[Hp.c_set x i _ hi t];by_cases e:t=i;rw[if_pos e,e,hf];rfl;rw[if_neg e]
     rw[e];rfl)
    subst ho;subst hf;clear hz PS OR HO;try simp only[Nat.add_zero]at hW8
    go_wp21;rw[<-hW8];clear hW8 k0 k1 k2 l0 l1 l2 l3 l4 l5 lf hb7 hp7;obtain⟨⟨y0,y1,y2⟩,h8,⟨kn8,n13⟩,_⟩:=uH PS8;try simp only[Nat.add_zero]at y0 y1 y2
    have H8:=uU h8;have d0:=(tQ.of (h8.obj hdz)).d0;have hd8:=cLt d0;have hp8:=cLt y0;clear h8 PS8;by_cases k2:yy.k=2
    ·obtain⟨t,ht,hta⟩:∃t:Nat,t<x.A.length/\yy.a=(t:Int):=by
      have l:=LY.1;unfold uJ at l;exact⟨yy.a.toNat,by omega,by omega⟩
     have QN:=uU (λW(xW:Ext W8 W)=>a1f ⟨yy.k,yy.n,(t:Int)⟩ b x.A.length bn 0 kn8 t W (by simpa using k2) (xW.keep n13) ht);simp only[Nat.zero_add]at QN;have QS:=uU (λW(xW:Ext W8 W)=>(PX W xW).2.2.2 v t ht hv (X8.trans xW) (λq=>(a2d S.ok).2 t ht (by rw[<-uH ZB t];exact q)));rw[hta]at y2;have EW:=uU (show uK z t=uX z yy from by unfold uX;rw[if_pos (by simpa using k2),hta];simp);clear k2 hta;go_region_with (first|(go_at_call 222;refine(QS _ xwA).mono ?_;rintro e w9 ⟨rfl,h9,x9⟩;have H9:=uU (h9.wide (show C<=C+64000 by omega));have X9:=uU x9;clear h9 x9)|(go_at_call 202;refine(QN _ (eDr W8)).mono ?_;rintro e wA ⟨rfl,xA⟩;have xwA:=kI (eDr W8) xA;have o0:=xwA.keep d0;have hdA:=cLt o0;clear xA));all_goals
      go_wp21;go_ret2;exact⟨_,0,0,rfl,.inr (.inr ⟨HK,by rw[<-uH HI];exact uH HL,by rw[<-uH HI];show uK z t=uX (hD x i _) (x.r p);rw[<-uH HY,<-uH HZ,uH EW],rfl,rfl⟩),H9,X9⟩
    have QN:=uU (λ(W:World)=>a3j yy b W (by simpa using k2));have EW:=uU (show z=uX z yy from by unfold uX;rw[if_neg (by simpa using k2)]);clear k2;go_region_with (first|(go_at_call 222;refine(b5q b _).mono ?_;rintro e w9 ⟨rfl,rfl⟩)|(go_at_call 202;refine(QN _).mono ?_;rintro e wA ⟨rfl,xA⟩;have xwA:=kI (eDr W8) xA;have o0:=xwA.keep d0;have hdA:=cLt o0;clear xA));all_goals
     go_wp21;go_ret2;exact⟨_,0,0,rfl,.inr (.inr ⟨HK,by rw[<-uH HI];exact uH HL,by rw[<-uH HI];show z=uX (hD x i _) (x.r p);rw[<-uH HY,<-uH HZ];exact uH EW,rfl,rfl⟩),(H8.wide (show C<=C+64000 by omega)).ext xwA,X8.trans xwA⟩
   obtain⟨bn,kn,cb,co,ap,kp,hc⟩:=h.cel i hi;have CE:=uU hc;have QC:=uU (λW(xW:Ext w W)=>b6g (R.ext xW) (D.ext xW) ha (CE.ext xW) hk ea hi (by omega));have HL:=uU (show(x.c i).F.length<=c by omega);clear h s hd hr hk ea en hI hc st nd hl;go_in;go_wp21;refine(QF _ (hO w)).mono ?_;rintro e w5 ⟨rfl,x5⟩;go_wp21;refine(QC _ x5).mono ?_;rintro e w6 ⟨rfl,x6⟩;have X6:=uU (x5.trans x6);clear x5 x6;go_wp21;go_ret2;exact⟨x,3,0,rfl,.inr (.inl ⟨HK,by rw[<-uH HI];exact uH HL,rfl,rfl,rfl⟩),(H.wide (show C<=C+64000 by omega)).ext X6,hx.trans X6⟩
  have HK:=uU hk;have QC:=uU (λW(xW:Ext w W)=>c7b (R.ext xW) (D.ext xW) ha hk);clear h s hd hr hk;go_in;go_wp21;refine(QF _ (hO w)).mono ?_;rintro e w5 ⟨rfl,x5⟩;go_wp21;refine(QC _ x5).mono ?_;rintro e w6 ⟨rfl,x6⟩;have X6:=uU (x5.trans x6);clear x5 x6;go_wp21;go_ret2;exact⟨x,2,0,rfl,.inl ⟨HK,rfl,rfl,rfl⟩,(H.wide (show C<=C+64000 by omega)).ext X6,hx.trans X6⟩
theorem way_10[qr](h:SOq C B w b x)(s:Snd x)(hd:(default:uL).z bd=some (yL b 10 a p c n rv))(ha:a<16)(v:World)(hv:v.heap.size<=B)(hx:Ext v w):
  Calls prog 181 #[.pointer (some ⟨bd,0,none⟩)] w λe w'=>zU C B b x a p c n 10 v e w':=by
 have D:=uU (tQ.of (h.obj hd));have H:=uU h;obtain⟨br,kr,hr⟩:=h.B s;have R:=uU hr;obtain⟨d0,d1,d2,d3,d4,d5,d6⟩:=uH D;have ao:=cLt d0;have QA:=uU (λW(xW:Ext w W)=>a1r (R.ext xW) (D.ext xW) ha);by_cases hk:(x.r a).k=2
 ·obtain⟨en,ea,hi,st,nd⟩:=s.at a ha hk;obtain⟨i,hI⟩:=obE (x.at a);have HI:=uU hI;rw[<-hI]at ea hi st nd;have O:=uU hk;have ag:=uU (show uV x=(i:Int)->x.sub<=(x.c i).F.length from λe=>(b0h s hi st e).2);have SR:=uU (show uV x = -1\/0<=uV x from b6d s.r1.I s.r5.2.2);have K:=s.ok.p200 i hi;have us:0<=x.K/\x.K<=4000:=by have h3:=s.r3;have h1:=s.r1.M;unfold R3 at h3;omega
  have an:=s.r1.sub;obtain⟨bn,kn,cb,co,ap,kp,hc,hkp,hbb,c1,f1,hmid,hcut⟩:=h.cutc s i hi;have CE:=uU hc;have ab:=uU hcut;have ad:=uU hmid;have HD:=uU hd;have Y:=uU (λW(xW:Ext w W)=>a2b (R.ext xW) (CE.ext xW) (D.ext xW) ha hk ea hi);clear h s hd hr hk ea en hI hc st nd hcut hmid;obtain⟨l,hl⟩:=obE ((x.c i).F.length);have o:=uU hl;rw[<-hl]at K hkp;obtain⟨m,hm⟩:=obE (min c l:Nat);have af:m<=l:=by omega
  have HM:=uU hm;have MN:=uU (show min (c:Int) (l:Int)=(m:Int) by omega);clear hm hl;go_in;go_wp21;refine(QA _ (hO w)).mono ?_;rintro e w5 ⟨rfl,x5⟩;go_wp21;refine(Y _ x5).mono ?_;rintro e w6 ⟨rfl,x6⟩;have g:=uU (x5.trans x6);have L:=uU (CE.ext g);have G:=L.m1;have y:=L.p7;rw[<-uH o]at y;have fc:=L.f (co+7);have U:=cLt G;have ai:=cLt y;have D6:=uU (D.ext g);obtain⟨d0,d1,d2,d3,d4,d5,d6⟩:=uH D6;have T:=cLt d4;have q:=g.keep c1;have A:=((cE g).2 b 1 (uQ c1)).trans f1;have F:=cLt q;clear x5 x6 c1 f1;go_wp21;go_quiet (fail);rw[uH MN];obtain⟨W7,hW7⟩:∃W,W=w6.drewN nq:=⟨_,rfl⟩;have d:Ext w6 W7:=by rw[hW7];exact(hO _).drewN _
  rw[<-hW7];have X7:=uU (g.trans d);have P:=uU (L.ext d);have D7:=uU (D6.ext d);clear hW7 G y fc U ai d0 d1 d2 d3 d4 d5 d6 T L D6 g;have E:=d.keep q;have ae:=((cE d).2 b 1 F).trans A;clear d q A F;have G:=P.m1;have y:=P.p7;rw[<-uH o]at y;have fc:=P.f (co+7);have Z:=cLt G;have ac:=cLt y;obtain⟨d0,d1,d2,d3,d4,d5,d6⟩:=uH D7;have S:=cLt d4;have ak:=cLt E;obtain⟨cne,hne2⟩:cb≠b/\b≠cb:=⟨hbb.2,λe=>hbb.2 e.symm⟩;go_wp21;go_region;obtain⟨u,hu⟩:=obE (x.K-((l:Int)-(m:Int)):Int);rw[<-hu];have HU:=uU hu;obtain⟨W8,hW8⟩:∃W,W=(W7.setCell ⟨b,1,none⟩ (.int .i64 u)).drew:=⟨_,rfl⟩;obtain⟨m18,p78,f78⟩:=uH ad u W7 W8 X7 (by rw[hW8];exact(eDr _));rw[<-uH o]at p78;rw[<-hW8];have Q:=cLt m18;have aa:=cLt p78;have CU:=uU (ab u m (by rw[<-uH o];exact af) W7);have N:=uU hW8;have k0:=i0N m;have k1:(m:Int)<=(l:Int):=by omega
  have k2:(m:Int)<=(kp:Int):=by omega
  have M:=uU (show Ext v W8 by rw[hW8];exact((hx.trans X7).setCell (p:=⟨b,1,none⟩) (kA hv hbb.1) _).drew);clear hu hW8 E ae G y fc Z ac d0 d1 d2 d3 d4 d5 d6 S ak;go_wp21;go_region;obtain⟨W9,hW9⟩:∃W,W=(W8.setCell ⟨cb,co+7,none⟩ (.slice ap m kp)).drew:=⟨_,rfl⟩;rw[<-hW9];have j:=uU (CU W9 X7 (by rw[hW9,uH N];exact(eDr _).drew));have J:=uU (show Ext v W9 by rw[hW9];exact(M.setCell (p:=⟨cb,co+7,none⟩) (kA hv P.lo.1) _).drew);clear hW9 N CU m18 p78 f78 Q aa k0 k1 k2 M;have D9:=uU (tQ.of (j.so.obj HD));obtain⟨d0,d1,d2,d3,d4,d5,d6⟩:=uH D9;have aj:=cLt d4;have QU:=uU j.un;have UE:=uU (λW=>d4e bn i SR W);go_wp21;refine QU.mono ?_;rintro e w10 ⟨rfl,x10⟩;have V:=uH UE;have ah:=uU (show ∀W3,Ext w10 W3->SOq C B W3 b (a8h x i u m) from λW3 e3=>j.so.ext (x10.trans e3));have SU:=uU (show ∀(W3:World)(t:Int),Ext w10 W3->SOq C B (W3.setCell ⟨b,7,none⟩ (iv t)) b { a8h x i u m with sub:=t } from λW3 t e3=>j.su W3 t (x10.trans e3));have c7:=x10.keep j.c7;have f7:=((cE x10).2 b 7 (uQ j.c7)).trans j.f7;have X:=uU (D9.ext x10);have I:=uU (J.trans x10);clear x10 j J D9 QU UE d0 d1 d2 d3 d4 d5 d6 aj;obtain⟨d0,d1,d2,d3,d4,d5,d6⟩:=uH X;have am:=cLt d4;have al:=cLt c7;obtain⟨vu,hvu⟩:=obE (a6g bn x);rw[<-hvu]at V ⊢;clear hvu;by_cases hq:uV x=(i:Int)
  ·rw[decide_eq_true hq]at V;have IS:=uU (d4s x i c m u (by rw[<-uH o];exact HM) (by rw[<-uH o];exact HU) hq (ag hq));clear hq;go_wp21;go_region;all_goals
    go_wp21;go_ret2;exact⟨_,0,0,rfl,.inr ⟨O,by rw[<-uH HI];exact⟨IS,rfl,rfl⟩⟩,((SU w10 _ (hO _)).ext (eDr _)).wide (show C<=C+64000 by omega),(I.setCell (p:=⟨b,7,none⟩) (kA hv hbb.1) _).drew⟩
  rw[decide_eq_false hq]at V;have IS:=uU (cutZ_no x i c m u (by rw[<-uH o];exact HM) (by rw[<-uH o];exact HU) hq);clear hq;go_wp21;go_ret2;exact⟨_,0,0,rfl,.inr ⟨O,by rw[<-uH HI];exact⟨IS,rfl,rfl⟩⟩,(ah w10 (hO _)).wide (show C<=C+64000 by omega),I⟩
 have O:=uU hk;have Y:=uU (λW(xW:Ext w W)=>a5b (R.ext xW) (D.ext xW) ha hk);clear h s hd hr hk;go_in;go_wp21;refine(QA _ (hO w)).mono ?_;rintro e w5 ⟨rfl,x5⟩;go_wp21;refine(Y _ x5).mono ?_;rintro e w6 ⟨rfl,x6⟩;have g:=uU (x5.trans x6);clear x5 x6;go_wp21;go_ret2;exact⟨x,2,0,rfl,.inl ⟨O,rfl,rfl,rfl⟩,(H.wide (show C<=C+64000 by omega)).ext g,hx.trans g⟩
def zs6(k:Nat):List Value:=(Builtin.zeroCells #[iv 0,iv 0,iv 0,iv 0,iv 0,iv 0] k).toList
theorem a3i(k:Nat):(zs6 k).length=k*6:=b6a k
theorem d4t(k j:Nat)(a:j<k*6):(zs6 k)[j]?=some (iv 0):=by
 have b:j % 6<6:=mT _ (by omega);have:([iv 0,iv 0,iv 0,iv 0,iv 0,iv 0]:List Value)[j % 6]?.getD default=iv 0:=by
  have:j % 6=0\/j % 6=1\/j % 6=2\/j % 6=3\/j % 6=4\/j % 6=5:=by omega
  obtain e|e|e|e|e|e:=this <;> rw[e] <;> rfl
 unfold zs6;simp[Builtin.zeroCells,a];exact this
theorem b6i(w:World)(y:TypeId)(base:Option Addr)(b l cap k:Nat)(z:l+k<=cap)(A:k<=200)(x:0<k->base=some (aA b 0)/\∀j,j<k*6->(w.cell? (aA b (l*6+j))).isSome=true/\w.frozen? (aA b (l*6+j))=false):
  (Builtin.append_ #[49,3] y #[.slice base l cap,iv k]).run prog w=.ok (.slice base (l+k) cap) (w.setCells b (l*6) (zs6 k)):=by
 obtain⟨r,d,o,c,q⟩:=info_parts a2n;have v:IntKind.i64.wrap (k:Int)=k:=by rw[nF];omega
 have g:¬((k:Int)<0):=by omega
 have i:¬(281474976710656<(k:Int)*(r.bytes:Int)):=by rw[q];omega
 obtain t|t:=mN k;subst t;have e:zs6 0=[]:=mU (by rw[a3i]);rw[e];have m:l<=cap:=by omega
 have n:IntKind.i64.wrap 0=0:=by rw[nF];decide
 cases base with
 | none=>simp[Builtin.append_,run_underlying underlying49,run_underlying underlying3,sizeOf,typeInfo,d,asInt,asIntOf,n,m,World.setCells]
 | some a=>simp[Builtin.append_,run_underlying underlying49,run_underlying underlying3,sizeOf,typeInfo,d,asInt,asIntOf,n,m,World.setCells,storeCells]
 obtain⟨rfl,u⟩:=x t;have s:¬(k*r.size=0):=by rw[c];omega
 have p:(Value.agg #[iv 0,iv 0,iv 0,iv 0,iv 0,iv 0]).cells=#[iv 0,iv 0,iv 0,iv 0,iv 0,iv 0]:=by kernel_rfl
 have f:=run_storeCells_cells (P:=prog) b (0+l*r.size) (zs6 k) 0 w (λj h=>by rw[a3i]at h;rw[c,kO];exact(u j h).1) (λj h=>by rw[a3i]at h;rw[c,kO];exact(u j h).2) (b6b k);simp only[Nat.add_zero,Nat.zero_add]at f;unfold zs6 at f ⊢;rw[<-c];simp[Builtin.append_,run_underlying underlying49,run_underlying underlying3,sizeOf,typeInfo,zeroValue,d,o,asInt,asIntOf,v,z,g,i,Addr.add_lit];rw[if_neg s,p,f];rfl
structure AppS[qr](C B b:Nat)(x:Hp)(i c bn cb co:Nat)(ap:Option Addr)(kp:Nat)(v:World)(a':Option Addr)(k':Nat)(w':World):Prop where
 so:∀W,Ext w' W->SOq C B (W.setCell ⟨cb,co+7,none⟩ (.slice a' ((x.c i).F.length+c) k')) b (hD x i (tK (x.c i) c))
 m1:w'.cell? ⟨bn,i*2+1,none⟩=some (.pointer (some ⟨cb,co,none⟩))
 p7:w'.cell? ⟨cb,co+7,none⟩=some (.slice ap (x.c i).F.length kp)
 f7:w'.frozen? ⟨cb,co+7,none⟩=false
 dd:∀q ob,(default:uL).z q=some ob->w'.heap[q]?=some ob
 ex:Ext v w'
theorem kN.more{M:List Pr}(h:kN w b M)(z:∀j,M.length*6<=j->j<(M.length+c)*6->w.cell? (aA b j)=some (iv 0)):kN w b (M++List.replicate c Pr0):=λk f=>by
 by_cases e:k<M.length;rw[List.getElem_append_left e];exact h k e;have d:k<M.length+c:=by simpa using f
 rw[List.getElem_append_right (by omega),List.getElem_replicate];have a:∀m,m<6->w.cell? (aA b (k*6+m))=some (iv 0):=λm g=>z _ (by omega) (by omega)
 exact⟨a 0 (by omega),a 1 (by omega),a 2 (by omega),a 3 (by omega),a 4 (by omega),a 5 (by omega)⟩
theorem SOq.growr[qr]{C B:Nat}{w:World}{b:Nat}{x:Hp}(h:SOq C B w b x)(r0:0<x.B.length)(i:Nat)(f:i<x.A.length)(c:Nat)(hc:(x.c i).F.length+c<=200)(v:World)(hv:v.heap.size<=B)(hx:Ext v w):∃bn kn cb co ap kp,b6f C B w b x i bn kn cb co ap kp/\
  ∀(d:World)(ty:TypeId),Ext w d->∃a' k' w',(Builtin.append_ #[49,3] ty #[.slice ap (x.c i).F.length kp,iv c]).run prog d=.ok (.slice a' ((x.c i).F.length+c) k') w'/\AppS C B b x i c bn cb co ap kp v a' k' w':=by
 have h0:=h;obtain⟨ar,kr,a4,n4,k4,a8,m8,k8,br,A,Q,bn,s,I,g,kn,hd,vf,F,vk,K,V,h,ac,kk⟩:=h;obtain⟨M,an,cb,co,ap,kp,ce⟩:=h0.cel i f;have ak:M=bn:=by
  have:=ce.n13.symm.trans h.sb.n13;simp at this;exact this.1
 subst ak;have aj:cb=A i/\co=Q i:=by
  have:=ce.m1.symm.trans (h.sb.nd i f).2;simp at this;exact this
 obtain⟨rfl,rfl⟩:=aj;have am:ap=I i/\kp=g i:=by
  have:=ce.p7.symm.trans (h.rw.p7 i f);simp at this;exact this
 obtain⟨rfl,rfl⟩:=am;refine⟨M,an,A i,Q i,I i,g i,ce,λd ty e1=>?_⟩;have r:=h.ext e1;have lk:=r.rw.kp i f;have y:=(r.rw.nc i f).1;have sm:dQ x (hD x i (tK (x.c i) c)):=dQ.set x i (tK (x.c i) c) rfl rfl;have gl:((x.c i).F++List.replicate c Pr0).length=(x.c i).F.length+c:=by simp
 have aq:B<=d.heap.size:=kA r.sb.lo.1 (nQ r.sb.nb.1);by_cases hr:(x.c i).F.length+c<=g i
 
 have hb:0<c->I i=some (aA (s i) 0)/\∀j,j<c*6->(d.cell? (aA (s i) ((x.c i).F.length*6+j))).isSome=true/\d.frozen? (aA (s i) ((x.c i).F.length*6+j))=false:=λau=>by
  obtain⟨a1,O,_⟩:=r.rw.pl i f (by omega);refine⟨a1,λj H=>⟨?_,O.2 _⟩⟩;obtain⟨u,hu⟩:=O.3 ((x.c i).F.length*6+j) (by omega);rw[hu];rfl
 have t:=b6i d ty (I i) (s i) (x.c i).F.length (g i) c hr (by omega) hb;have T:uZ (λq=>q=s i/\0<g i) d (d.setCells (s i) ((x.c i).F.length*6) (zs6 c)):=by
  obtain c0|c0:=mN c;subst c0;rw[show zs6 0=[] from mU (by rw[a3i])];exact uZ.refl _ d;exact a1d (S:=λq=>q=s i/\0<g i) ⟨rfl,by omega⟩ (uZ.refl _ d)
 have ne:∀q,V q≠6+i->¬(q=s i/\0<g i):=λq U e=>U (by rw[e.1];exact h.sp.p i f e.2)
 have fc:=T.block (A i) y.1 (ne _ (by rw[h.sp.c i f];omega));have fn:=T.block M r.sb.lo.2.2.1 (ne _ (by rw[h.sp.n];omega));refine⟨I i,g i,_,t,⟨λW e=>?_,(cOb M _ fn).trans (r.sb.nd i f).2,(cOb (A i) _ fc).trans (r.rw.p7 i f),(fOb (A i) _ fc).trans (y.2 _),λq ob U=>?_,T.ext (hx.trans e1) (λq U e=>by have:=(r.rw.pl i f e.2).2.2.2;omega)⟩⟩;have oW:uZ (λq=>q=s i/\0<g i) d W:=T.trans (uZ.of_ext e);have fW:=oW.block (A i) y.1 (ne _ (by rw[h.sp.c i f];omega));obtain⟨X,D⟩:=obE (if 0<g i then s i else d.heap.size);have q1:(X=s i/\0<g i)\/d.heap.size<=X:=by
  by_cases u:0<g i;rw[if_pos u]at D;exact .inl ⟨D,u⟩;rw[if_neg u]at D;exact .inr (by omega)
 have eK:∀j,0<g i->(W.setCell (aA (A i) (Q i+7)) (.slice (I i) ((x.c i).F.length+c) (g i))).cell? (aA (s i) j)=(d.setCells (s i) ((x.c i).F.length*6) (zs6 c)).cell? (aA (s i) j):=λj z=>by
  obtain⟨_,O,a3,_⟩:=r.rw.pl i f z;rw[uC _ (.inl (λe=>a3.2 i f e.symm))];exact(cE e).1 (s i) j (kF O.1 T.size)
 have g2:=r.rowTo i f r0 ((x.c i).F++List.replicate c Pr0) X (I i) (g i) (by rw[gl];exact hr) (uZ.setCell (oW.mono (λq e=>.inr e)) (p:=(aA (A i) (Q i+7))) (.inl rfl) (.slice (I i) ((x.c i).F.length+c) (g i))) ((uY y fW oW.size).set _ _) q1 (λz=>by
   rw[if_pos z]at D;rw[D];obtain⟨a1,O,_⟩:=r.rw.pl i f z;exact⟨a1,(O.put.ext e).set _ _⟩) (by
   obtain⟨u1,u2⟩|u:=q1;rw[u1];exact(r.rw.pl i f u2).2.2.2;omega) (by rw[gl];exact kM _ _ _ ((cOb (A i) _ fW).trans (r.rw.p7 i f))) (λj H=>(uC _ (.inr (λe=>H e.symm))).trans (cOb (A i) j fW)) (λk L=>by
   have z:0<g i:=by omega
   rw[if_pos z]at D;rw[D];refine kN.more (c:=c) (λk L=>?_) (λj h1 h2=>?_) k L;rw[Cl.p_eq _ _ L];exact(r.rw.p i f k L).of λj H=>by rw[eK _ z,a1v (s i) _ _ _ d (by omega)]
   rw[eK _ z];have:=a4p (s i) (zs6 c) ((x.c i).F.length*6) (j-(x.c i).F.length*6) d (λm hm=>by
    rw[a3i]at hm;exact(r.rw.pl i f z).2.1.3 _ (by omega)) (by rw[a3i];omega)
   rw[show(x.c i).F.length*6+(j-(x.c i).F.length*6)=j by omega]at this;rw[this];exact d4t c _ (by omega))
 exact⟨_,_,_,_,_,_,_,_,_,_,_,_,_,_,_,_,_,_,_,_,_,_,g2,ac.alike sm rfl rfl,kk⟩;obtain⟨r1,N⟩:=r.pr q ob U;have hl:q<d.heap.size:=by
  obtain l|l:=ky q d.heap.size;exact l;rw[mp l]at N;cases N
 exact(T.block q hl (ne q (by rw[r1];omega))).trans N;obtain⟨Z,ah,ad,ao,Y⟩:=info_parts a2n;have ae:(Value.agg #[iv 0,iv 0,iv 0,iv 0,iv 0,iv 0]).cells=#[iv 0,iv 0,iv 0,iv 0,iv 0,iv 0]:=by kernel_rfl
 have ab:(Builtin.firstCells Z.size (x.c i).F.length (.slice (I i) (x.c i).F.length (g i))).run prog d.drew=.ok ((x.c i).F.flatMap fP).toArray d.drew:=by
  obtain k0|k0:=mN (g i);have l0:(x.c i).F=[]:=mU (by omega);rw[l0];cases I i with
  | none=>exact run_firstCells_none d.drew Z.size 0 0 (g i)
  | some a=>exact run_firstCells_some d.drew Z.size 0 a 0 (g i) [] (by simp) (λj u H=>by simp at H)
  obtain⟨a1,O,_⟩:=r.rw.pl i f k0;rw[a1];exact run_firstCells_some d.drew Z.size _ (aA (s i) 0) _ (g i) ((x.c i).F.flatMap fP) (by rw[a9c,ao]) (λj u H=>by
   rw[Addr.add_lit];exact(cOb (s i) _ (show d.drew.heap[s i]?=d.heap[s i]? from rfl)).trans (fP_at (o:=0) (λk L=>by rw[kO,Cl.p_eq _ _ L];exact r.rw.p i f k L) j u H))
 have t:=Go.Lib.run_append_grow_zeros (P:=prog) d 49 3 ty 53 Z _ .i64 .i64 underlying49 underlying3 ah ad (I i) (x.c i).F.length (g i) ((x.c i).F.flatMap fP) ab c (by omega) (by omega) (by omega) (by omega) (by rw[Y];omega) (growslice_fits (by omega) (by rw[Y];omega));have hG:(x.c i).F.length+c<=grownCap d ((x.c i).F.length+c) (g i) 53:=grownCap_ge d _ _ _;rw[ae]at t;obtain⟨G,eG⟩:=obE (grownCap d ((x.c i).F.length+c) (g i) 53);rw[<-eG]at t hG;obtain⟨J,aa⟩:=obE (((x.c i).F.flatMap fP).toArray++Builtin.zeroCells #[iv 0,iv 0,iv 0,iv 0,iv 0,iv 0] c++Builtin.zeroCells #[iv 0,iv 0,iv 0,iv 0,iv 0,iv 0] (G-((x.c i).F.length+c)));rw[<-aa]at t;have el:J.toList=(x.c i).F.flatMap fP++(zs6 c++zs6 (G-((x.c i).F.length+c))):=by rw[aa];simp[zs6]
 have ag:J.size=G*6:=by
  rw[<-Array.length_toList,el,ko,ko,a9c,a3i,a3i];omega
 have R:Ext d (d.drew.alloc (.cells J 53)):=(eDr d).alloc _;have af:(d.drew.alloc (.cells J 53)).heap[d.heap.size]?=some (.cells J 53):=heap_alloc_new d.drew _;have cz:∀W,Ext (d.drew.alloc (.cells J 53)) W->∀j,W.cell? (aA d.heap.size j)=J.toList[j]?:=λW e j=>by
  rw[(cE e).1 d.heap.size j (by simp),cell_of_row _ d.heap.size j _ _ (0,0) af,qB]
 refine⟨_,_,_,t,⟨λW e=>?_,R.keep (r.sb.nd i f).2,R.keep (r.rw.p7 i f),((cE R).2 (A i) _ y.1).trans (y.2 _),λq ob U=>?_,(hx.trans e1).trans R⟩⟩;have eW:Ext d W:=R.trans e;have al:A i≠d.heap.size:=λu=>by have:=y.1;omega
 have cS:∀j,(W.setCell (aA (A i) (Q i+7)) (sS d.heap.size ((x.c i).F.length+c) G)).cell? (aA d.heap.size j)=J.toList[j]?:=λj=>(uC _ (.inl al)).trans (cz W e j)
 have ai:d.heap.size<W.heap.size:=by have:=e.size;simp at this;omega
 have g2:=r.rowTo i f r0 ((x.c i).F++List.replicate c Pr0) d.heap.size (some (aA d.heap.size 0)) G (by rw[gl];exact hG) (uZ.setCell (uZ.of_ext eW) (p:=(aA (A i) (Q i+7))) (.inl rfl) (sS d.heap.size ((x.c i).F.length+c) G)) ((y.ext eW).set _ _) (.inr (hT _)) (λ_=>⟨rfl,by simpa[World.setCell]using ai,λj=>by
   rw[ki,(cE e).2 d.heap.size j (by simp)];simp[go_sem],λj H=>by
   rw[cS j];exact⟨_,ma (by rw[Array.length_toList,ag];exact H)⟩⟩) aq (by rw[gl];exact kM _ _ _ (eW.keep (r.rw.p7 i f))) (λj H=>(uC _ (.inr (λe=>H e.symm))).trans ((cE eW).1 (A i) j y.1)) (by
   refine kN.more (c:=c) (λk L=>?_) (λj h1 h2=>?_);have E:∀m,m<6->(W.setCell (aA (A i) (Q i+7)) (sS d.heap.size ((x.c i).F.length+c) G)).cell? (aA d.heap.size (k*6+m))=(fP (x.c i).F[k])[m]?:=λm hm=>by
    rw[cS,el,ms (by rw[a9c];omega)];exact a9o fP 6 (λ_=>rfl) (x.c i).F k m L hm
   exact⟨E 0 (by omega),E 1 (by omega),E 2 (by omega),E 3 (by omega),E 4 (by omega),E 5 (by omega)⟩;rw[cS,el,nZ (by rw[a9c];exact h1),a9c,ms (by rw[a3i];omega)];exact d4t c _ (by omega))
 exact⟨_,_,_,_,_,_,_,_,_,_,_,_,_,_,_,_,_,_,_,_,_,_,g2,ac.alike sm rfl rfl,kk⟩;obtain⟨r1,N⟩:=r.pr q ob U;have hl:q<d.heap.size:=by
  obtain l|l:=ky q d.heap.size;exact l;rw[mp l]at N;cases N
 exact(R.block q hl).trans N
theorem c5t{ops:Array Oper}{o:Oper}{a:Act}{K:Act->World->Prop}{Q:Exit->Act->World->Prop}{E:Prop}(f:World)(b:o.guard=none)(s y:Operand)
  (n:o.op=.call { callee:=.builtin .append,args:=#[s,y],argTypes:=#[49,3] }) (d:Option Addr) (l e c N:Nat) (P:Option Addr->Nat->World->Prop) (m:a.eval s=.slice d l e) (j:a.eval y=iv c)
  (p:∀ty,∃a' k' w',(Builtin.append_ #[49,3] ty #[.slice d l e,iv c]).run prog f=.ok (.slice a' N k') w'/\P a' k' w')
  (k:∀a' k' w',P a' k' w'->K (a.put o.dst (.slice a' N k')) w') :
  if Region.wanted o (yielded ops a.tmps)=true then Oper.wp prog o a f K Q else E:=by
 have i:Region.wanted o (yielded ops a.tmps)=true:=by simp[Region.wanted,b]
 rw[if_pos i];obtain⟨a',k',w',h,g⟩:=p o.type;unfold Oper.wp execOp;simp only[n,resolve,invoke,builtin,Sem.run_bind,Sem.run_pure,Result.andThen_ok,List.map_toArray,List.map_cons,List.map_nil,m,j,h];exact k a' k' w' g
theorem SOq.set1[qr](h:SOq C B w b x)(u:Int):SOq C B (w.setCell (aA b 1) (iv u)) b { x with K:=u }:=by
 obtain⟨E,m,z,e,g,D,c,t,d,j,v,n,l,A,f,y,r,o,F,s,K,a,h,i,k⟩:=h;exact⟨E,m,z,e,g,D,c,t,d,j,v,n,l,A,f,y,r,o,F,s,K,a,h.boxed (x':={ x with K:=u }) (tJ w b 1 _) (h.sb.nb.set _ _) rfl rfl rfl (h.sb.bx.set1 u) (λk G=>uC _ (.inr (by omega))),i.alike (dQ.A rfl) rfl rfl,k⟩
theorem d0c{n:Nat}(h:a2f x n k)(a:x.E=0):itU k x=x:=by
 have e:k=0:=by
  obtain e|e:=mN k;exact e;exact absurd a (h.1 0 e)
 rw[e];rfl
def zE(x:Hp)(u:Nat):Hp:={ x with K:=x.K+u }
theorem c3k[qr](h:SOq C B w b x)(F:C+16000<=1000000000)(u:Nat)(U:u<=201)(s:Snd (zE x u))(v:World)(q:v.heap.size<=B)(V:Ext v w):
  Calls prog 218 #[pP b,iv u] w λe w'=>∃y,Hid (e=.returned (.tuple #[]))/\Hid (tL (zE x u) u y)/\Hid (SOq (C+16000) B w' b y)/\Ext v w':=by
 obtain⟨c0,c1,c2,G,Q,P,O⟩:=h.nums;have X:=h.boxN.2.2.1;have M:v.heap.size<=b:=kA q h.boxN.2.2.2.1;have Z:0<=x.K+u/\x.K+u<=4000:=by have I:=s.r3;have t:=s.r1.M;unfold R3 at I;simp only[zE]at I t;omega
 have wu:wrap64 (x.K+(u:Int))=x.K+(u:Int):=a1e _ (by omega) (by omega);have N:0<=x.per/\x.per<=64:=s.r1.per;have j:=uU (show SOq C B (w.setCell (aA b 1) (iv (x.K+u))) b (zE x u) from h.set1 _);have n:=uU (show Ext v (w.setCell (aA b 1) (iv (x.K+u))) from V.sc b 1 M _);have S:=uU s;clear h s;by_cases J:u=0\/x.per=0
 ·have c:=uU (show tL (zE x u) u (zE x u) from .inl ⟨by
   unfold a3v zE;obtain e|e:=J;rw[e];simp;rw[e];rfl,rfl⟩)
  obtain e|⟨e,r⟩:=(show u=0\/(u≠0/\x.per=0) by omega);focus
   have L:((u:Int) == 0)=true:=by rw[e];rfl
   clear e J
  rotate_left
  focus
   have L:((u:Int) == 0)=false:=by simp only[beq_eq_false_iff_ne];omega
   rw[r]at Q
  all_goals
   go_in;go_wp21;refine bodyPost_ret (results_none rfl _ _ _) rfl ?_;exact⟨_,rfl,c,j.wide (by omega),n⟩
 have e1:((u:Int) == 0)=false:=by simp only[beq_eq_false_iff_ne];omega
 have r:(x.per == 0)=false:=by simp only[beq_eq_false_iff_ne];omega
 obtain⟨m,d⟩:=obE (x.per.toNat*u);have wp:wrap64 (x.per*(u:Int))=(m:Int):=by
  rw[d];have m:x.per*(u:Int)=((x.per.toNat*u:Nat):Int):=by
   have:((x.per.toNat:Nat):Int)=x.per:=qh N.1;rw[Int.natCast_mul,this]
  have W:x.per.toNat*u<=64*201:=Nat.mul_le_mul (by omega) U;rw[m];exact a1e _ (by omega) (by omega)
 have z:m≠0:=by rw[d];exact Nat.mul_ne_zero (by omega) (by omega)
 by_cases a:x.E=0;by_cases Y:x.K+u > x.V
 ·have f:stepH (zE x u) ((zE x u).per.toNat*u)=dC (zE x u) 1 0:=by unfold stepH;rw[if_pos ⟨a,d ▸ z⟩]
  have o:a3v (zE x u) u=false:=by
   unfold a3v zE;have:(u == 0)=false:=by simp only[beq_eq_false_iff_ne];omega
   have E:decide (x.K+(u:Int)<=x.V)=false:=decide_eq_false (by omega);simp only[r,this,E,Bool.and_false,Bool.or_false]
  have c:=uU (show ∀k,a2f (dC (zE x u) 1 0) m k->tL (zE x u) u (itU k (dC (zE x u) 1 0)) from λk D=>.inr ⟨o,k,by rw[f];exact d ▸ D,by rw[f]⟩);have SB:=uU (S.begin a);have A:=uU a;rw[a]at G;clear o f z a d;go_in;go_wp21;go_quiet (fail);go_wp21;refine(b2d (j.ext (Ext.drewN (hO _) nq)) A v q (Ext.drewN n nq)).mono ?_;rintro e R ⟨rfl,t,T⟩;have d9:R.cell? (aA b 9)=some (iv x.per):=t.nums.2.2.2.2.1;go_wp21;refine(a4f m t F SB v q T).mono ?_;rintro e H ⟨k,rfl,i,g,l⟩;go_wp21;go_end0;exact⟨_,rfl,uH c k i,g,l⟩
 have c:=uU (show tL (zE x u) u (zE x u) from .inl ⟨by
  unfold a3v zE;have E:decide (x.K+(u:Int)<=x.V)=true:=decide_eq_true (by omega);simp only[a,E,Bool.and_true,beq_self_eq_true,Bool.or_true],rfl⟩)
 have A:=uU a;rw[a]at G;clear z a d;go_in;go_wp21;go_quiet (fail);go_wp21;refine(a4f m ((j.wide (show C<=C+16000 by omega)).ext (Ext.drewN (hO _) nq)) F S v q (Ext.drewN n nq)).mono ?_;rintro e H ⟨k,rfl,i,g,l⟩;rw[d0c (uH i) (uH A)]at g;go_wp21;go_end0;exact⟨_,rfl,c,g,l⟩;have f:stepH (zE x u) ((zE x u).per.toNat*u)=zE x u:=by unfold stepH;rw[if_neg (λh=>a h.1)]
 have K:(x.E == 0)=false:=by simpa using a
 have o:a3v (zE x u) u=false:=by
  unfold a3v zE;have:(u == 0)=false:=by simp only[beq_eq_false_iff_ne];omega
  simp only[r,this,K,Bool.false_and,Bool.or_false]
 have c:=uU (show ∀k,a2f (zE x u) m k->tL (zE x u) u (itU k (zE x u)) from λk D=>.inr ⟨o,k,by rw[f];exact d ▸ D,by rw[f]⟩);clear o f z a d;go_in;go_wp21;go_quiet (fail);go_wp21;refine(a4f m ((j.wide (show C<=C+16000 by omega)).ext (Ext.drewN (hO _) nq)) F S v q (Ext.drewN n nq)).mono ?_;rintro e H ⟨k,rfl,i,g,l⟩;go_wp21;go_end0;exact⟨_,rfl,uH c k i,g,l⟩
theorem way_9[qr](h:SOq C B w b x)(s:Snd x)(hd:(default:uL).z bd=some (yL b 9 a p c n (a7t ba bs)))(za:(default:uL).z ba=some (b9u 9 a p c n))(zs:(default:uL).z bs=some (c3g b))(hC:C+64000<=1000000000)(ha:a<16)(hcc:c<=200)(v:World)(hv:v.heap.size<=B)(hx:Ext v w):
  Calls prog 180 #[.pointer (some ⟨bd,0,none⟩)] w λe w'=>zU C B b x a p c n 9 v e w':=by
 have D:=uU (tQ.of (h.obj hd));have H:=uU h;have HD:=uU hd;obtain⟨br,kr,hr⟩:=h.B s;have R:=uU hr;obtain⟨F,d1,d2,d3,d,d5,d6⟩:=uH D;have bc:=cLt F;have QA:=uU (λW(xW:Ext w W)=>a1r (R.ext xW) (D.ext xW) ha);by_cases hk:(x.r a).k=2
 ·obtain⟨en,ea,hi,st,nd⟩:=s.at a ha hk;obtain⟨i,hI⟩:=obE (x.at a);have HI:=uU hI;rw[<-hI]at ea hi st nd;have J:=uU hk;have T:=s.ok.p200 i hi;have S:=uU s;obtain⟨bn,kn,cb,co,ap,kp,hc⟩:=h.cel i hi;have CE:=uU hc;have QC:=uU (λW(xW:Ext w W)=>a2b (R.ext xW) (CE.ext xW) (D.ext xW) ha hk ea hi);have QR:=uU (λW(xW:Ext w W)=>c3h (op:=9) (a:=a) (p:=p) (c:=c) (n:=n) (H.ext xW) (by omega) S za zs c (by omega) v hv (hx.trans xW));obtain⟨l,hl⟩:=obE ((x.c i).F.length);have P:=uU hl;rw[<-hl]at T;clear h s hd hr hk ea en hI hc st nd hl za zs;go_in;go_wp21;refine(QA _ (hO w)).mono ?_;rintro e w5 ⟨rfl,x5⟩;go_wp21;refine(QC _ x5).mono ?_;rintro e w6 ⟨rfl,x6⟩;have o:=uU (x5.trans x6);have C6:=uU (CE.ext o);have X:=C6.m1;have E:=C6.p7;rw[<-uH P]at E;have ac:=cLt X;have au:=cLt E;have D6:=uU (D.ext o);clear F d1 d2 d3 d d5 d6;obtain⟨F,d1,d2,d3,d,d5,d6⟩:=uH D6;have ab:=cLt d;clear x5 x6;by_cases hlc:l+c<=200
  ·have q1:¬((l:Int)+(c:Int) > 200):=by omega
   go_wp21;go_quiet (fail);obtain⟨W7,hW7⟩:∃W,W=w6.drewN nq:=⟨_,rfl⟩;have I:Ext w6 W7:=by rw[hW7];exact(hO _).drewN _
   rw[<-hW7];have X7:=uU (o.trans I);have D7:=uU (D6.ext I);clear hW7 I X E ac au F d1 d2 d3 d d5 d6 ab C6 D6 o;obtain⟨F,d1,d2,d3,d,d5,d6⟩:=uH D7;have ag:=cLt d;go_wp21;go_cut [6] (λs6 wx=>∃(y:Hp)(cd:Int),s6=b5z cd/\Hid (b0w x 9 c y cd)/\Hid (SOq (C+16000) B wx b y)/\Hid (Ext v wx))
   case first=>
    go_region_with (go_at_call 111;refine(QR _ (by first|exact X7|exact X7.trans (eDr _))).mono ?_;rintro e w8 ⟨y,cd,he,hp,g8,x8⟩;have e2:=uH he;subst e2;have G:=uU g8;have N:=uU x8;have g:=uU hp;clear he g8 x8 hp)
    all_goals
     go_wp21;go_meet;first|exact⟨y,cd,rfl,g,G,N⟩|exact⟨y,cd,rfl,g,G.ext (eDr _),N.drew⟩
   case rest=>
    obtain⟨w8,hw8⟩:∃W,W=wc:=⟨_,rfl⟩;subst hw8;obtain⟨z,cd,rfl,hp,g8,x8⟩:=hcut;have G:=uU g8;have N:=uU x8;have g:=uU hp;clear g8 x8 hp QR F d1 d2 d3 d d5 d6 ag D7 X7;have RI:tY x c z/\cd=if zV z c=true then 0 else 4:=by
     obtain q|q:=uH g;exact absurd q.1.1 (by decide);exact q.2
    obtain⟨hz,hcd⟩:=RI;have HZ:=uU hz;clear hz g;cases hf:zV z c;all_goals
     rw[hf]at hcd;simp at hcd;subst hcd;have HF:=uU hf;clear hf
    ·rw[show b5z 4=.iface 146 (.agg #[iv 4]) from rfl];go_wp21;go_ret2;exact⟨z,4,0,rfl,.inr ⟨J,by rw[<-uH HI];exact⟨rfl,.inr ⟨by rw[<-uH P];exact hlc,z,HZ,.inl ⟨HF,rfl,rfl⟩⟩⟩⟩,G.wide (by omega),N⟩
    rw[show b5z 0=.nilIface from rfl];have O:=HZ.snd S;obtain⟨k1,k2⟩:=KpN.M S ha J HZ;obtain⟨_,ea,hi2,st2,_⟩:=O.at a ha k1;rw[<-uH HI,<-uH P]at k2;obtain⟨m,hM⟩:=obE (z.at a);have HM:=uU hM;rw[<-hM]at ea hi2 st2 k2;have SZ:=uU O;have KL:=uU k2;have L:=uU hi2;have aq:=uU st2;have aj:=uU (show z.K+c<=z.M by have e:=uH HF;unfold zV at e;exact of_decide_eq_true e);obtain⟨br2,kr2,hr2⟩:=G.B O;have R8:=uU hr2;have D8:=uU (tQ.of (G.obj HD));obtain⟨bn2,kn2,cb2,co2,ap2,kp2,hc2,hg2⟩:=G.growr (by rw[O.r1.B];omega) m hi2 c (by rw[k2];exact hlc) v hv N;have Z:=uU hc2;have GR:=uU hg2;have am:((z.r a).k == 2)=true:=by simpa using k1
    have U:=uU (λW(xW:Ext w8 W)=>a1r (R8.ext xW) (D8.ext xW) ha);obtain⟨yk,hyk⟩:∃u,u=(z.r a).k:=⟨_,rfl⟩;obtain⟨yn,hyn⟩:∃u,u=(z.r a).n:=⟨_,rfl⟩;have YK:=uU hyk;have YN:=uU hyn;have A:=uU (λW(xW:Ext w8 W)=>a1f ⟨yk,yn,(m:Int)⟩ b z.A.length bn2 0 kn2 m W (by rw[hyk];simpa using k1) (xW.keep Z.n13) L);simp only[Nat.zero_add]at A;clear hyk hyn;have EA:=uU ea;clear hM k1 k2 O hi2 st2 hr2 hc2 hg2 ea am;have V:=D8.d0;have ad:=cLt V;go_wp21;go_cut [4] (λs4 wx=>s4=ndp bn2 m/\Hid (Ext w8 wx))
    case first=>
     go_region_with (first|(have _:=t;go_at_call 202;refine(A _ t).mono ?_;rintro e w9 ⟨rfl,x9⟩;have X9:=uU (t.trans x9);clear x9)|(go_at_call 217;refine(U _ (eDr w8)).mono ?_;rintro e wa ⟨rfl,xa⟩;have j:=kI (eDr w8) xa;obtain⟨q0,q1,q2⟩:=(R8.ext j).r a ha;rw[uH EA]at q2;rw[<-uH YK]at q0;rw[<-uH YN]at q1;have e0:=(D8.ext j).d0;have az:=cLt q0;have ay:=cLt e0;have t:=uU j;clear j xa))
     all_goals
      go_wp21;go_meet;exact⟨rfl,X9⟩
    case rest=>
     obtain⟨w9,hw9⟩:∃W,W=wc:=⟨_,rfl⟩;subst hw9;obtain⟨rfl,x9⟩:=hcut;have X9:=uU x9;clear x9 V ad U A;have K:=uU (Z.ext X9);have D9:=uU (D8.ext X9);have X:=K.m1;have E:=K.p7;have f7:=K.f (co2+7);have d:=D9.d4;have ao:=D9.d0;have ah:=cLt X;have al:=cLt E;have af:=cLt d;obtain⟨l2,hl2⟩:=obE ((z.c m).F.length);have an:=uU (show ∀(W1:World),Ext w9 W1->∀ty,∃a' k' w',(Builtin.append_ #[49,3] ty #[.slice ap2 l2 kp2,.int .i64 c]).run prog W1=.ok (.slice a' (l2+c) k') w'/\AppS (C+16000) B b z m c bn2 cb2 co2 ap2 kp2 v a' k' w' from λW1 e ty=>by rw[hl2];exact GR W1 ty (X9.trans e));have Q:=uU hl2;rw[<-hl2]at E;clear hl2 GR;go_wp21;go_cut [] (λwx=>Hid (SOq (C+16000) B wx b (hD z m (tK (z.c m) c)))/\Hid (Ext v wx))
     case first=>
      go_region_law (refine c5t _ rfl _ _ rfl ap2 l2 kp2 c (l2+c) _ (by first|rfl|simp[Act.eval,Act.put]) (by first|rfl|simp[Act.eval,Act.put];rfl) (an _ (by first|exact hO _|exact(eDr _))) ?_;intro a' k' w10 hap;have ae:=hap.m1;have M:=hap.p7;rw[<-uH Q]at M;have bb:=hap.f7;have av:=cLt ae;have aw:=cLt M;have g:=uU hap;clear hap)
      all_goals
       go_wp21;go_meet;exact⟨by rw[uH Q];first|exact g.so _ (hO _)|exact g.so _ (eDr _)|exact(g.so _ (hO _)).ext (eDr _),by first|exact g.ex.setCell (p:=⟨cb2,co2+7,none⟩) (kA hv K.lo.1) _|exact g.ex.drew.setCell (p:=⟨cb2,co2+7,none⟩) (kA hv K.lo.1) _|exact(g.ex.setCell (p:=⟨cb2,co2+7,none⟩) (kA hv K.lo.1) _).drew⟩
     case rest=>
      obtain⟨w11,hw11⟩:∃W,W=wc:=⟨_,rfl⟩;subst hw11;obtain⟨g11,x11⟩:=hcut;have Y:=uU g11;have ar:=uU x11;clear g11 x11 X E f7 d ao ah al af;have aa:=uU (tQ.of (Y.obj HD));have d:=aa.d4;have F:=aa.d0;have ax:=cLt d;have sg:=SZ.grow m c L aq (by rw[uH KL];exact hlc) aj;have QM:=uU (λW(xW:Ext w11 W)=>c3k (Y.ext xW) (by omega) c (by omega) (show Snd (zE (hD z m (tK (z.c m) c)) c) from sg) v hv (ar.trans xW));clear sg;go_wp21;go_region_with (go_at_call 218;refine(QM _ (eDr w11)).mono ?_;rintro e w12 ⟨y,he,hp,g12,x12⟩;have e2:=uH he;subst e2;have ai:=uU g12;have ak:=uU x12;have PC:=uU hp;clear he g12 x12 hp);all_goals
       go_wp21;go_ret2;exact⟨y,0,0,rfl,.inr ⟨J,by rw[<-uH HI];exact⟨rfl,.inr ⟨by rw[<-uH P];exact hlc,z,HZ,.inr ⟨HF,rfl,by rw[<-uH HM];exact uH PC⟩⟩⟩⟩,ai.wide (by omega),ak⟩
  have q1:(l:Int)+(c:Int) > 200:=by omega
  go_wp21;go_quiet (fail);go_wp21;go_ret2;exact⟨x,5,0,rfl,.inr ⟨J,by rw[<-uH HI];exact⟨rfl,.inl ⟨by rw[<-uH P];omega,rfl,rfl⟩⟩⟩,(H.wide (show C<=C+64000 by omega)).ext (Ext.drewN o _),hx.trans (Ext.drewN o _)⟩
 have J:=uU hk;have QC:=uU (λW(xW:Ext w W)=>a5b (R.ext xW) (D.ext xW) ha hk);clear h s hd hr hk;go_in;go_wp21;refine(QA _ (hO w)).mono ?_;rintro e w5 ⟨rfl,x5⟩;go_wp21;refine(QC _ x5).mono ?_;rintro e w6 ⟨rfl,x6⟩;have o:=uU (x5.trans x6);clear x5 x6;go_wp21;go_ret2;exact⟨x,2,0,rfl,.inl ⟨J,rfl,rfl,rfl⟩,(H.wide (show C<=C+64000 by omega)).ext o,hx.trans o⟩
theorem b6k.len(h:b6k x t x1):t<x1.A.length/\x1.B=x.B/\x1.D=x.D/\x1.M=x.M/\x1.E=x.E/\x1.I=x.I:=by
 obtain⟨h1,rfl⟩|⟨h1,rfl⟩:=h;exact⟨h1,rfl,rfl,rfl,rfl,rfl⟩;exact⟨by simp;omega,rfl,rfl,rfl,rfl,rfl⟩
theorem b6k.set(h:b6k x t x1)(c:Cl):x1.A.set t c=yC x t c:=by
 unfold yC;obtain⟨h1,rfl⟩|⟨h1,rfl⟩:=h;rw[if_pos h1];rw[if_neg (by omega),h1];simp
theorem zQ.made{F':List Int}(h:zQ C x F K)(g:a9e x F F')(c:Cl)(Q:c.st=1)(H:z.A=yC x (uE x) c)(p:z.E=x.E)(G:z.I=x.I)(V:0<=x.I/\x.I<=x.A.length):zQ (C+1) z F' K:=by
 have⟨I,J,M⟩:=a0i x;have B:=b9b x z (uE x) c I H;have s:z.A.length=if uE x<x.A.length then x.A.length else x.A.length+1:=by rw[H,a3n]
 have E:∀q,q<z.A.length->q≠uE x->q<x.A.length:=λq n o=>by rw[s]at n;split at n <;> omega
 have A:∀q,q<z.A.length->(z.c q).st=0->q<x.A.length/\(x.c q).st=0/\uE x<q:=λq n f=>by
  rw[B q]at f;split at f;rw[Q]at f;omega;rename_i o;refine⟨E q n o,f,?_⟩;obtain u|u:=ky q (uE x)
  ·exact absurd f (J q u)
  omega
 have r:∀q,q≠uE x->z.c q=x.c q:=λq n=>by rw[B q,if_neg n]
 have D:∀q,(x.c q).st=1->q<x.A.length->q≠uE x:=λq l n e=>by
  have:=M (by omega);rw[<-e,l]at this;omega
 refine⟨g.1,λi d f=>?_,λv L=>h.nn v (g.2.2.1 v L),?_,λP=>?_,λN=>?_,λa b=>h.k0 (p▸a) (p▸b)⟩;have⟨l,m,_⟩:=A i d f;exact g.2.2.2 i l m (h.al i l m)
 ·have T:=h.le;have R:=g.2.1;have O:z.A.length<=x.A.length+1:=by rw[s];split <;> omega
  have U:kU z<=kU x+1:=by
   unfold kU;rw[p,G];repeat' split
   all_goals omega
  omega
 have k:=h.k3 (p▸P);rw[G];refine⟨k.1,λi d=>⟨(k.2.1 i d).1,?_⟩,λi d l t j y f=>?_⟩
 ·have m:=k.2.1 i d;rw[r i (D i m.2 (by omega))];exact m.2
 have⟨j1,j2,j3⟩:=A j y f;by_cases e:i=uE x
 ·omega
 rw[r i e]at l;exact k.2.2 i d l t j j1 j2;have k:=h.k4 (p▸N);have S:x.A.length<=z.A.length:=by rw[s];split <;> omega
 refine⟨k.1,λi d=>⟨by have:=(k.2.1 i d).1;omega,?_⟩,λi d l t j y f=>?_⟩;have m:=k.2.1 i d;rw[r i (D i m.2 m.1)];exact m.2;have⟨j1,j2,j3⟩:=A j y f;by_cases e:i=uE x
 ·omega
 rw[r i e]at l;exact k.2.2 i (E i d e) l t j j1 j2
theorem SAt.newcell[qr]{W:World}{ar:Option Addr}{kr:Nat}{v4 v8:Value}{br:Nat}{cB cO:Nat->Nat}{pb:Nat->Nat}{pa:Nat->Option Addr}{pk:Nat->Nat}{hd:Nat}{vf:Value}{vk:Value}{role:Nat->Nat}(h:SAt B w b x ar kr v4 v8 br cB cO bn pb pa pk kn hd vf F vk K role)(U:0<x.B.length)(t:Nat)(d:t<x.A.length)(c':Cl)(m:Nat)(A:c'.F=List.replicate m Pr0)(e:Ext w W)(a:Nat)(o:w.heap.size<=a)(T:Nfp a m W)(S:∀k,k<m->qY W a (k*6) Pr0):
  ∃pb' pa' pk' role',SAt B (eK W (cB t) (cO t) c' (sS a m m)) b { x with A:=x.A.set t c' } ar kr v4 v8 br cB cO bn pb' pa' pk' kn hd vf F vk K role':=by
 have g:=h.ext e;have y:=(g.rw.nc t d).1;have C:c'.F.length=m:=by rw[A];simp
 have P:cB t≠a:=λu=>by have:=(h.rw.nc t d).1.1;omega
 have L:B<=a:=kA h.sb.lo.1 (by have:=h.sb.nb.1;omega);have N:uZ (λq=>q=cB t\/(q=pb t/\0<pk t)) w (W.setCell (aA (cB t) (cO t+7)) (sS a m m)):=uZ.setCell (uZ.of_ext e) (p:=(aA (cB t) (cO t+7))) (.inl rfl) _;have r:(W.setCell (aA (cB t) (cO t+7)) (sS a m m)).cell? (aA (cB t) (cO t+7))=some (sS a m m):=kM _ _ _ (g.rw.p7 t d);have⟨G,D⟩:=a3y W (cB t) (cO t) c' (x.c t) (sS a m m) _ (g.rw.s t d) (g.rw.p7 t d);have l:=a0a W (cB t) (cO t) c' (sS a m m);have H:uZ (λq=>q=cB t) (W.setCell (aA (cB t) (cO t+7)) (sS a m m)) (eK W (cB t) (cO t) c' (sS a m m)):=⟨l.os,l.tape,l.output,by have:=l.size;simpa[World.setCell]using this,λq o f=>by
  rw[kP _ _ _ _ f];exact l.block q (by simpa[World.setCell]using o) f⟩
 have E:=(h.rowTo t d U c'.F a (some (aA a 0)) m (by omega) N (y.set _ _) (.inr o) (λ_=>⟨rfl,T.set _ _⟩) L (by rw[C];exact r) (λj Q=>(uC _ (.inr (λu=>Q u.symm))).trans ((cE e).1 (cB t) j (h.rw.nc t d).1.1)) (λk J=>by
  have n:k<m:=by omega
  have:c'.F[k]=Pr0:=by simp[A]
  rw[this];exact(S k n).of λj _=>uC _ (.inl P))).setc (i:=t) (c':=c') (by simpa using d) (by rw[(Hp.c_set x t { x.c t with F:=c'.F } d) t,if_pos rfl]) H G (λk J=>by
  by_cases u:k=cO t+7;rw[u,D,r];rw[(a1k W (cB t) (cO t) c' (sS a m m)) k (by omega),uC _ (.inr (λz=>u z.symm))]) (a3b y _ _ _)
 have R:({ ({ x with A:=x.A.set t { x.c t with F:=c'.F } }:Hp) with A:=(x.A.set t { x.c t with F:=c'.F }).set t c' }:Hp)={ x with A:=x.A.set t c' }:=by simp
 have v:=E;rw[R]at v;exact⟨_,_,_,_,v⟩
theorem d4x(x:Hp)(t:Nat):qN x t=if a0e x t=true then 2 else 0:=by
 unfold qN a0e a1i;by_cases b:x.E=1;simp[b];by_cases a:x.E=2
 ·simp[a]
 by_cases c:x.E=3
 ·simp[c]
 simp[b,a,c]
theorem b6m(x:Hp)(b bn t:Nat)(w:World)(h:w.cell? (aA b 5)=some (iv x.E))(f:w.cell? (aA b 6)=some (iv x.I))(g:w.cell? (aA bn (t*2))=some (iv t)):
  Calls prog 215 #[pP b,ndp bn t] w λe w'=>e=.returned (iv (qN x t))/\Ext w w':=by
 have a:=d4x x t;have c:=uU (a6w x b bn (t*2) t w h f g);cases q:a0e x t;focus
  rw[q]at c a;have E:qN x t=0:=by rw[uH a];rfl
 rotate_left
 focus
  rw[q]at c a;have E:=uU (show qN x t=2 by rw[uH a];rfl)
 all_goals
  go_in;go_wp21;refine c.mono ?_;rintro e i ⟨rfl,d⟩;go_wp21;go_ret;exact⟨by rw[uH E];rfl,d⟩
structure PMid[qr](C B:Nat)(W1:World)(b:Nat)(z:Hp)(t bn cb co:Nat)(u:Int):Prop where
 m0:W1.cell? ⟨bn,t*2,none⟩=some (iv t)
 m1:W1.cell? ⟨bn,t*2+1,none⟩=some (.pointer (some ⟨cb,co,none⟩))
 s:∃c0,S7 W1 cb co c0
 p7:∃v7,W1.cell? ⟨cb,co+7,none⟩=some v7
 f:∀j,W1.frozen? ⟨cb,j,none⟩=false
 c2:W1.cell? ⟨b,2,none⟩=some (iv u)
 c5:W1.cell? ⟨b,5,none⟩=some (iv z.E)
 c6:W1.cell? ⟨b,6,none⟩=some (iv z.I)
 lo:B<=cb
 dd:∀q ob,(default:uL).z q=some ob->W1.heap[q]?=some ob
 ne:cb≠b/\cb≠bn/\∀q ob,(default:uL).z q=some ob->cb≠q
 fin:∀(k:Int)(n:Nat)(col:Int)(W:World)(qb:Nat),Ext W1 W->a6f W1 W qb n->SOq (C+1) B (eK W cb co (tE u k n col) (.slice (some ⟨qb,0,none⟩) n n)) b { z with born:=u,A:=yC z t (tE u k n col) }
structure PLD[qr](C B:Nat)(w':World)(b:Nat)(z:Hp)(t bn cb co:Nat):Prop where
 ft:t=uE z
 b2:w'.cell? ⟨b,2,none⟩=some (iv z.born)
 f2:w'.frozen? ⟨b,2,none⟩=false
 lo:B<=b
 dd:∀q ob,(default:uL).z q=some ob->w'.heap[q]?=some ob
 mid:∀(u:Int)(W1:World),Ext (w'.setCell ⟨b,2,none⟩ (iv u)) W1->PMid C B W1 b z t bn cb co u
theorem SOq.plc[qr](h:SOq C B w b z)(s:Snd z)(hC:C<=1000000000)(c:Nat)(af:z.K+(1+(c:Int))<=z.M)(v:World)(hv:v.heap.size<=B)(hx:Ext v w):
  Calls prog 214 #[pP b] w λe w'=>∃t bn cb co:Nat,e=.returned (ndp bn t)/\Hid (PLD C B w' b z t bn cb co)/\Ext v w':=by
 have⟨ar,kr,a4,n4,k4,a8,m8,k8,br,cB,cO,bn,pb,pa,pk,kn,hd,vf,F,vk,K,M,h,o,kk,l⟩:=h;have ad:=s.r1.B;have N:0<z.B.length:=by omega
 refine(d0e h o hC N s.ok.n8 l (λV=>by
  have cr:=s.crowd V;have r3:=s.r3;unfold R3 at r3;omega) v hv hx).mono ?_
 rintro e w' ⟨t,he,T,E⟩;have⟨L,i,x,G,ab,ae,aa,F',D,r,Z,g⟩:=uH T;have⟨tl,R,xg,xo,y,H⟩:=r.len;refine⟨t,bn,x t,G t,he,⟨L,?_,g.sb.nb.2 2,g.sb.lo.1,λq j m=>(g.pr q j m).2,λu W1 Q=>?_⟩,E⟩;have:=g.sb.bx.2.2.1;rw[show i.born=z.born by obtain⟨_,rfl⟩|⟨_,rfl⟩:=r <;> rfl]at this;exact this;have d:=(g.boxed (x':={ i with born:=u }) (tJ w' b 2 _) (g.sb.nb.set _ _) rfl rfl rfl (g.sb.bx.set2 u) (λk hk=>uC _ (.inr (by omega)))).ext Q;have a:t<({ i with born:=u }:Hp).A.length:=tl;refine⟨(d.sb.nd t a).1,(d.sb.nd t a).2,⟨_,d.rw.s t a⟩,⟨_,d.rw.p7 t a⟩,(d.rw.nc t a).1.2,d.sb.bx.2.2.1,?_,?_,(d.rw.nc t a).2,λq j m=>(d.pr q j m).2,⟨λe=>(by have:=d.sp.c t a;rw[e,d.sp.b]at this;cases this),λe=>(by have:=d.sp.c t a;rw[e,d.sp.n]at this;cases this),λq j m e=>(by have:=d.sp.c t a;rw[e,(d.pr q j m).1]at this;cases this)⟩,λk n f W X eW J=>?_⟩
 ·have:=d.sb.bx.2.2.2.2.2.1;rw[show({ i with born:=u }:Hp).E=z.E from y]at this;exact this
 have:=d.sb.bx.2.2.2.2.2.2.1;rw[show({ i with born:=u }:Hp).I=z.I from H]at this;exact this;have⟨ac,P,Y,I,O⟩:=d.newcell (by show 0<i.B.length;rw[R];exact N:0<({ i with born:=u }:Hp).B.length) t a (tE u k n f) n rfl eW X J.lt J.nf J.z;have ex:({ ({ i with born:=u }:Hp) with A:=({ i with born:=u }:Hp).A.set t (tE u k n f) }:Hp)={ z with born:=u,A:=yC z t (tE u k n f) }:=by
  have U:({ i with born:=u }:Hp).A.set t (tE u k n f)=yC z t (tE u k n f):=r.set _;rw[U];obtain⟨_,rfl⟩|⟨_,rfl⟩:=r <;> rfl
 rw[ex]at O;have A:zQ (C+1) { z with born:=u,A:=yC z t (tE u k n f) } F' K:=o.made Z (tE u k n f) rfl (by rw[L]) rfl rfl s.r1.I;exact⟨_,_,_,_,_,_,_,_,_,_,_,_,_,_,_,_,_,_,_,_,_,_,O,A,kk,l⟩
theorem c3o(w:World)(b o:Nat)(k:Cl)(a:Value)(ob:Obj)(h:b<w.heap.size):eK (w.alloc ob) b o k a=(eK w b o k a).alloc ob:=by
 unfold eK;simp only[World.setCell_alloc_past _ _ _ _ h,World.setCell_alloc_past,World.size_setCell,h]
theorem way_1[qr]{C B:Nat}{w:World}{b bd ba bs:Nat}{x:Hp}{a p c:Nat}{n:Int}(h:SOq C B w b x)(s:Snd x)(hd:(default:uL).z bd=some (yL b 1 a p c n (a7t ba bs)))(za:(default:uL).z ba=some (b9u 1 a p c n))(zs:(default:uL).z bs=some (c3g b))(hC:C+64000<=1000000000)(ha:a<16)(hpp:p<=255)(hcc:c<=200)(v:World)(hv:v.heap.size<=B)(hx:Ext v w):
  Calls prog 174 #[.pointer (some ⟨bd,0,none⟩)] w λe w'=>zU C B b x a p c n 1 v e w':=by
 have D:=uU (tQ.of (h.obj hd));have H:=uU h;have I:=uU hd;have S:=uU s;obtain⟨d0,d1,d2,d3,d4,d5,d6⟩:=uH D;have G:=cLt d0;have QR:=uU (λW(xW:Ext w W)=>c3h (op:=1) (a:=a) (p:=p) (c:=c) (n:=n) (H.ext xW) (by omega) S za zs (1+c) (by omega) v hv (hx.trans xW));have U1:=uU (show((1+c:Nat):Int)=1+(c:Int) by omega);rw[uH U1]at QR;clear h s hd za zs;go_in;go_wp21;refine(QR _ (hO w)).mono ?_;rintro e w8 ⟨z,cd,he,hp,g8,x8⟩;have e2:=uH he;subst e2;have G8:=uU g8;have X8:=uU x8;have HP:=uU hp;clear he g8 x8 hp QR d0 d1 d2 d3 d4 d5 d6 G;by_cases hcd:cd=4
 ·subst hcd;rw[show b5z 4=.iface 146 (.agg #[iv 4]) from rfl];go_wp21;go_ret2;refine⟨z,4,0,rfl,⟨rfl,?_⟩,G8.wide (by omega),X8⟩;obtain q|q:=uH HP
  ·exact .inl ⟨q.1.2,q.2.1,rfl⟩
  refine .inr ⟨λe=>q.1 ⟨rfl,e⟩,z,q.2.1,.inl ⟨?_,rfl,rfl⟩⟩;cases hf:zV z (1+c)
  ·rfl
  have:=q.2.2;rw[hf]at this;simp at this
 have RI:x.born≠1000000000/\tY x (1+c) z/\zV z (1+c)=true/\cd=0:=by
  obtain q|q:=uH HP;exact absurd q.2.2 hcd;have K:=q.2.2;cases hf:zV z (1+c)
  ·rw[hf]at K;simp at K;exact absurd K hcd
  rw[hf]at K;simp at K;exact⟨λe=>q.1 ⟨rfl,e⟩,q.2.1,rfl,K⟩
 obtain⟨nb,hz,hf,rfl⟩:=RI;have X:=uU nb;have V:=uU hz;have HF:=uU hf;clear nb hz hf HP hcd;rw[show b5z 0=.nilIface from rfl];have SZ:=uU (V.snd S);have R:=uU (show z.K+(1+(c:Int))<=z.M by have e:=uH HF;unfold zV at e;have:=of_decide_eq_true e;omega);have D8:=uU (tQ.of (G8.obj I));obtain⟨d0,d1,d2,d3,d4,d5,d6⟩:=uH D8;have ab:=cLt d0;have QP:=uU (λW(xW:Ext w8 W)=>(G8.ext xW).plc SZ (by omega) c R v hv (X8.trans xW));go_wp21;refine(QP _ (hO w8)).mono ?_;rintro e w9 ⟨t,bn,cb,co,rfl,hpl,x9⟩;have E:=uU hpl;have X9:=uU x9;clear hpl x9 QP d0 d1 d2 d3 d4 d5 d6 ab D8;have D9:=uU (tQ.of (E.dd bd _ I));obtain⟨d0,d1,d2,d3,d4,d5,d6⟩:=uH D9;have af:=cLt d0;have b2:=E.b2;have f2:=E.f2;have Z:=cLt b2;have ae:=E.lo;have bo:0<=z.born/\z.born<1000000000:=by
  have eb:=V.bornE;have b1:=S.r1.born;have:=uH X;omega
 obtain⟨u,hu⟩:=obE (z.born+1:Int);have HU:=uU hu;go_wp21;rw[<-hu];obtain⟨W10,hW10⟩:∃W,W=w9.setCell ⟨b,2,none⟩ (.int .i64 u):=⟨_,rfl⟩;have g:=uU (E.mid u W10 (by rw[hW10];exact hO _));have O:=uU (show Ext v W10 by rw[hW10];exact X9.setCell (p:=⟨b,2,none⟩) (kA hv ae) _);have FT:=uU E.ft;rw[<-hW10];clear hW10 hu E X9 b2 f2 Z bo d0 d1 d2 d3 d4 d5 d6 af D9;have N:=uU (tQ.of (g.dd bd _ I));obtain⟨d0,d1,d2,d3,d4,d5,d6⟩:=uH N;obtain⟨Q,m1,⟨c0,s0,s1,s2,s3,s4,s5,s6⟩,⟨v7,s7⟩,fc,c2,c5,c6,lob,-,⟨nb1,nb2,nb3⟩,-⟩:=uH g;have i:=nb3 bd _ I;have G:=cLt d0;have aa:=cLt c2;have ad:=cLt Q;have M:=cLt s7;have QB:=uU (λW(xW:Ext W10 W)=>b6m z b bn t W (xW.keep g.c5) (xW.keep g.c6) (xW.keep g.m0));obtain⟨col,hcol⟩:=obE (qN z t);rw[<-hcol]at QB;have P:=uU hcol;have KP:=uU (λW(e:Ext W10 W)=>show W.cell? ⟨bd,0,none⟩=some (.pointer (some ⟨b,0,none⟩))/\W.cell? ⟨bd,3,none⟩=some (.int .i64 p)/\W.cell? ⟨bd,4,none⟩=some (.int .i64 c)/\W.cell? ⟨b,2,none⟩=some (.int .i64 u)/\W.cell? ⟨bn,t*2+1,none⟩=some (.pointer (some ⟨cb,co,none⟩)) from⟨e.keep d0,e.keep d3,e.keep d4,e.keep c2,e.keep m1⟩);have KS:=uU (λ(W:World) (o:Nat) (v:Value) (h:W.cell? ⟨bd,0,none⟩=some (.pointer (some ⟨b,0,none⟩))/\W.cell? ⟨bd,3,none⟩=some (.int .i64 p)/\W.cell? ⟨bd,4,none⟩=some (.int .i64 c)/\W.cell? ⟨b,2,none⟩=some (.int .i64 u)/\W.cell? ⟨bn,t*2+1,none⟩=some (.pointer (some ⟨cb,co,none⟩)))=>show(W.setCell ⟨cb,o,none⟩ v).cell? ⟨bd,0,none⟩=some (.pointer (some ⟨b,0,none⟩))/\(W.setCell ⟨cb,o,none⟩ v).cell? ⟨bd,3,none⟩=some (.int .i64 p)/\(W.setCell ⟨cb,o,none⟩ v).cell? ⟨bd,4,none⟩=some (.int .i64 c)/\(W.setCell ⟨cb,o,none⟩ v).cell? ⟨b,2,none⟩=some (.int .i64 u)/\(W.setCell ⟨cb,o,none⟩ v).cell? ⟨bn,t*2+1,none⟩=some (.pointer (some ⟨cb,co,none⟩)) from⟨(nj _ _ _ _ i).trans h.1,(nj _ _ _ _ i).trans h.2.1,(nj _ _ _ _ i).trans h.2.2.1,(nj _ _ _ _ nb1).trans h.2.2.2.1,(nj _ _ _ _ nb2).trans h.2.2.2.2⟩);have KA:=uU (λ(W:World) (o:Obj) (h:W.cell? ⟨bd,0,none⟩=some (.pointer (some ⟨b,0,none⟩))/\W.cell? ⟨bd,3,none⟩=some (.int .i64 p)/\W.cell? ⟨bd,4,none⟩=some (.int .i64 c)/\W.cell? ⟨b,2,none⟩=some (.int .i64 u)/\W.cell? ⟨bn,t*2+1,none⟩=some (.pointer (some ⟨cb,co,none⟩)))=>show(W.alloc o).cell? ⟨bd,0,none⟩=some (.pointer (some ⟨b,0,none⟩))/\(W.alloc o).cell? ⟨bd,3,none⟩=some (.int .i64 p)/\(W.alloc o).cell? ⟨bd,4,none⟩=some (.int .i64 c)/\(W.alloc o).cell? ⟨b,2,none⟩=some (.int .i64 u)/\(W.alloc o).cell? ⟨bn,t*2+1,none⟩=some (.pointer (some ⟨cb,co,none⟩)) from⟨(eAl W o).keep h.1,(eAl W o).keep h.2.1,(eAl W o).keep h.2.2.1,(eAl W o).keep h.2.2.2.1,(eAl W o).keep h.2.2.2.2⟩);have MK:=uU (λ(W:World) (k:Cl) (vv:Value) (e:Ext W10 W)=>show(eK W cb co k vv).cell? ⟨bn,t*2,none⟩=some (iv t) from(kT (a:=⟨bn,t*2,none⟩) ((a0a W cb co k vv).block bn (kF (uQ g.m0) e.size) (λe=>g.ne.2.1 e.symm))).trans (e.keep g.m0));clear hcol nb3 c5 c6 Q;have mk:=λW=>c1o c (by omega) W
 go_cut [] (λwx=>Hid (SOq (C+16000+1) B wx b { z with born:=u,A:=yC z t (tE u p c col) })/\Hid (Ext v wx)/\Hid (wx.cell? ⟨bn,t*2,none⟩=some (iv t)))
 case first=>
  go_region_held3 (λW=>W.cell? ⟨bd,0,none⟩=some (.pointer (some ⟨b,0,none⟩))/\W.cell? ⟨bd,3,none⟩=some (.int .i64 p)/\W.cell? ⟨bd,4,none⟩=some (.int .i64 c)/\W.cell? ⟨b,2,none⟩=some (.int .i64 u)/\W.cell? ⟨bn,t*2+1,none⟩=some (.pointer (some ⟨cb,co,none⟩)))
   (first
    | (with_reducible (iterate 8 (refine uH KS _ _ _ ?_));with_reducible assumption)
    | (with_reducible refine uH KP _ ?_;with_reducible (first|assumption|exact(eDr W10)|exact(eDr W10).alloc _|exact(eAl W10 _).drew|exact(hO W10).alloc _|(refine mJ ?_ _;assumption)))
    | (with_reducible refine uH KA _ _ ?_;with_reducible (iterate 8 (refine uH KS _ _ _ ?_));refine uH KP _ ?_;with_reducible assumption))
   (first|(go_at_call 215;refine(QB _ (by first|exact hO _|exact(eDr W10)|exact(hO W10).alloc _|exact(eAl W10 _).drew|exact(eDr W10).alloc _)).mono ?_;rintro e wb ⟨rfl,xb⟩;have d:Ext W10 wb:=(by first|exact xb|exact kI (eDr W10) xb|exact kI (eAl W10 _) xb|exact kI (eAl W10 _).drew xb|exact kI ((eDr W10).alloc _) xb);have an:=d.keep s0;have aq:=d.keep s1;have au:=d.keep s2;have ao:=d.keep s3;have am:=d.keep s4;have ap:=d.keep s5;have ar:=d.keep s6;have ak:=d.keep s7;have av:=λj=>((cE d).2 cb j M).trans (fc j);have Y:=cLt ak;have XB:=uU xb))
  ·go_wp21;go_meet;have f:=g.fin p c col (wb.alloc (.cells (madeCells z6 (c*6)) 53)) wb.heap.size (d.alloc _) (a6f.made W10 wb c _ d);rw[c3o _ _ _ _ _ _ Y]at f;exact⟨f,((a0a wb cb co (tE u p c col) (.slice (some ⟨wb.heap.size,0,none⟩) c c)).ext (O.trans d) (λq hq e=>by omega)).alloc _,(eAl _ _).keep (MK wb (tE u p c col) _ d)⟩
  go_wp21;go_meet;exact⟨g.fin p c col wb W10.heap.size d ((a6f.made W10 W10 c _ (hO W10)).ext (kI (eDr _) XB)),(a0a wb cb co (tE u p c col) (.slice (some ⟨W10.heap.size,0,none⟩) c c)).ext (O.trans d) (λq hq e=>by omega),uH MK wb (tE u p c col) _ d⟩
 case rest=>
  obtain⟨w11,hw11⟩:∃W,W=wc:=⟨_,rfl⟩;subst hw11;obtain⟨g11,x11,m11⟩:=hcut;have F:=uU g11;have aj:=uU x11;have Q:=uH m11;clear g11 x11 m11 d0 d1 d2 d3 d4 d5 d6 m1 s0 s1 s2 s3 s4 s5 s6 s7 fc c2 G aa ad M nb1 nb2 i mk KP KS KA MK QB N;obtain⟨z1,hz1⟩:=obE ({ z with born:=u,A:=yC z t (tE u p c col) }:Hp);rw[<-hz1]at F;have EQ:=uU (show zE (regTo z1 a ⟨2,0,t⟩) (1+c)=regTo (tW z p c) a ⟨2,0,uE z⟩ by
   rw[hz1,uH HU,uH P,uH FT];unfold zE regTo tW;simp)
  have ag:=uU (show z1.B.length=16 by rw[hz1];exact SZ.r1.B);clear hz1;obtain⟨br,kr,hr⟩:=F.regs16 ag;have dd:=tQ.of (F.obj I);have QA:=uU (a1r hr dd ha);obtain⟨r0,r1,r2⟩:=hr.r a ha;have f:=hr.f;have A:=cLt r0;have FN:=uU (show ∀W,Ext w11 W->SOq (C+16000+1) B (cX W br (a*3) ⟨2,0,t⟩) b (regTo z1 a ⟨2,0,t⟩)/\Ext v (cX W br (a*3) ⟨2,0,t⟩) from λW xW=>⟨hr.set W a ⟨2,0,t⟩ xW ha,(cD W br (a*3) ⟨2,0,t⟩).ext (aj.trans xW) (λq hq e=>by have:=hr.lo.1;omega)⟩);clear dd hr;go_wp21;refine QA.mono ?_;rintro e w12 ⟨rfl,x12⟩;have L:=x12.keep Q;go_wp21;refine(a8b bn (t*2) t _ L).mono ?_;rintro e w13 ⟨rfl,x13⟩;have J:=x12.trans x13;have k0:=J.keep r0;have k1:=J.keep r1;have k2:=J.keep r2;have kf:=λm=>((cE J).2 br m A).trans (f m)
  have al:=cLt k0;have l:=uU (FN w13 J);obtain⟨W14,hW14⟩:∃W,W=cX w13 br (a*3) ⟨2,0,t⟩:=⟨_,rfl⟩;rw[<-hW14]at l;unfold cX at hW14;clear x12 x13 J Q L r0 r1 r2 f A FN QA;have U:=uU l.1;have ac:=uU l.2;clear l;have DD:=uU (tQ.of (U.obj I));have QM:=uU (λW(xW:Ext W14 W)=>c3k (U.ext xW) (by omega) (1+c) (by omega) (show Snd (zE (regTo z1 a ⟨2,0,t⟩) (1+c)) by
   rw[uH EQ];have sm:=SZ.make p c (by omega) hcc (by have eb:=V.bornE;have b1:=S.r1.born;have:=uH X;omega) R;exact sm.1.regTo a ⟨2,0,uE z⟩ ⟨.inr (.inr ⟨rfl,rfl,by show(0:Int)<=(uE z:Nat);omega,by show((uE z:Nat):Int)<_;have:=sm.2.2.1;omega⟩),λ_=>.inr ⟨sm.2.1,sm.2.2.2⟩⟩) v hv (ac.trans xW))
  rw[uH U1]at QM;have e0:(((w13.setCell ⟨br,a*3,none⟩ (.int .i64 2)).setCell ⟨br,a*3+1,none⟩ (.int .i64 0)).setCell ⟨br,a*3+2,none⟩ (.int .i64 t)).cell? ⟨bd,0,none⟩=some (.pointer (some ⟨b,0,none⟩)):=by rw[<-hW14];exact DD.d0
  have T:=uU hW14;clear hW14;go_wp21;refine(QM _ (by rw[uH T];exact hO _)).mono ?_;rintro e w15 ⟨y,he,hp,g15,x15⟩;have e2:=uH he;subst e2;have ah:=uU g15;have ai:=uU x15;have PC:=uU hp;clear he g15 x15 hp;go_wp21;go_ret2;exact⟨y,0,0,rfl,⟨rfl,.inr ⟨X,z,V,.inr ⟨HF,rfl,by have q:=uH PC;rw[uH EQ]at q;exact q⟩⟩⟩,ah.wide (by omega),ai⟩
theorem errV_no(h:cd≠0):b5z cd=.iface 146 (.agg #[iv cd]):=if_neg h
theorem b0y(b a:Int)(w:World)(c:w.cell? (aA 0 0)=some (rty 112))(d:a≠0->b=0):
  Calls prog 54 #[iv b,b5z a] w λe w'=>e=.returned (tD a b)/\Ext w w':=by
 by_cases h:a=0;rw[h];exact b7a b w;rw[errV_no h,d h];exact c3p 0 a w c
theorem SOq.poke{p p1:Inhabited uL}{cw:World}(o:Own p lo hi cw p1)(h:@SOq p1 C B w b x)(r:Nat)(hr:lo<=r/\r<hi)(rm:1<=x.M)(hn:w.cell? (aA r 2)=none)(g:uZ (λq=>q=r) w w'):@SOq p C B w' b x:=by
 have⟨Z,M,U,D,H,X,v,Q,A,J,S,n,L,V,E,T,O,N,F,P,K,a,h,i,k⟩:=h;have⟨G,_,_,j⟩:=h;have t:n≠r:=λe=>by
  have⟨⟨u,m⟩,_⟩:=G.lo.2.2.2 2 (by omega);rw[e,hn]at m;cases m
 have⟨I,Y⟩:=a2x (w:=cw) (q:=r) (by have:=o.h;omega);refine⟨Z,M,U,D,H,X,v,Q,A,J,S,n,L,V,E,T,O,N,F,P,K,a,SAt.far (z:=(@default uL p1).z) (z2:=(@default uL p).z) h g.size (λq d c=>g.block q d (λe=>?_)) (λ_ _ _=>rfl) (λq f d=>?_),i,k.1,b8g o.sub k.2⟩;obtain c|c:=c
 ·exact c (by rw[e];exact (j r I (by rw[o.z r,if_pos hr];exact Y)).1)
 exact t (c.symm.trans e);have⟨y,s⟩:=j q f (o.sub q f d);exact⟨y,(g.block q (a1p s) (λe=>by have:=o.l q f d;omega)).trans s⟩
theorem d0g[p:qr](h:SOq C B w b x)(R:1<=k)(U:k<=24)(T:(n != 0)=false\/((n != 0)=true/\((k:Int) != 2)=false))(hr:(decide (0<=(a:Int)/\(a:Int)<=a6y k) && (decide (0<=(q:Int)/\(q:Int)<=kJ k) && decide (0<=(c:Int)/\(c:Int)<=gH k)))=true)(v:World)(Z:Ext v w)(hg:v.cell? (aA 0 0)=some (rty 112))(X:∀y d f,DoR x a q c n y d f k->1<=y.M)(Y:∀p1,(∀m ob,(@default uL p).z m=some ob->(@default uL p1).z m=some ob)->d4r p1 C B b x a q c n k v):
  Calls prog 22 #[pP b,yU k a q c n] w λe w'=>∃(y:Hp)(d f:Int),Hid (e=.returned (tD d f))/\Hid (DoR x a q c n y d f k)/\Hid (SOq (C+64000) B w' b y)/\Ext v w':=by
 have D:Ext w (ansW w k a q c n):=(eAl w _).alloc _;obtain⟨p1,l,L⟩:=SOq.enter h D;rw[b8i]at l;have QA:=uU (show Calls prog 55 #[pP b,yU k a q c n,a7t (w.heap.size+1+1+1) (w.heap.size+1+1)] ((((w.alloc (.cells #[iv k,iv a,iv q,iv c,iv n] 29)).alloc (.cells #[iv 0,iv 0] 33)).alloc (.cells #[pP b] 72)).alloc (.cells #[iv k,iv a,iv q,iv c,iv n] 29)).drew λe w'=>∃(y:Hp)(d f:Int),e=.returned (.tuple #[iv f,b5z d])/\Hid (DoR x a q c n y d f k)/\Hid (@SOq p1 (C+64000) B w' b y)/\Ext v w' from by
  obtain⟨V,K⟩:=obE (ansW w k a q c n);have sV:V.heap.size=w.heap.size+1+1:=by rw[K,b8i]
  show Calls _ _ _ (((ansW w k a q c n).alloc (c3g b)).alloc (b9u k a q c n)).drew _;rw[<-K,<-sV];rw[<-K]at L D;obtain⟨W,E⟩:=obE (((V.alloc (c3g b)).alloc (b9u k a q c n)).drew);have P:Ext V W:=by rw[E];exact((eAl V _).alloc _).drew
  have N:W.heap[V.heap.size+1]?=some (b9u k a q c n):=by
   rw[E];show(((V.heap.push _).push _)[V.heap.size+1]?)=_;rw[<-nK,ns]
  have O:W.heap[V.heap.size]?=some (c3g b):=by
   rw[E];show(((V.heap.push _).push _)[V.heap.size]?)=_;rw[Array.getElem?_push_lt (by rw[nK];omega),<-nL,ns]
  rw[<-E];obtain⟨t,A,g2⟩:=SOq.enter (p:=p1) L P;have l1:=a1p O;have l2:=a1p N;have z1:(@default uL t).z V.heap.size=some (c3g b):=by rw[A.z,if_pos ⟨by omega,l1⟩];exact O
  have z2:(@default uL t).z (V.heap.size+1)=some (b9u k a q c n):=by rw[A.z,if_pos ⟨by omega,l2⟩];exact N
  refine(c5r (p:=t) (w:=W) (a:=a) (q:=q) (c:=c) (n:=n) (k:=k) (ba:=V.heap.size+1) (bs:=V.heap.size) g2 R U T hr v (Z.trans (D.trans P)) (Y p1 l.sub t _ _ z2 z1 A.sub)).mono ?_;rintro e w' ⟨y,d,f,he,o,g4,i⟩;exact⟨y,d,f,he,o,SOq.less (p:=p1) (p1:=t) g4 A.sub,i⟩)
 have QR:=uU (λW=>b3g b k a q c n W);have BO:=uU (show ∀W z,@SOq p1 (C+64000) B W b z->W.heap[w.heap.size+1]?=some (.cells #[iv 0,iv 0] 33) from λW z s=>(SOq.own l s (w.heap.size+1) (by omega) (by omega)).trans (d4y w k a q c n));have BF:=uU (show ∀W z,@SOq p1 (C+64000) B W b z->∀j,W.frozen? (aA (w.heap.size+1) j)=false from λW z s j=>(fOb (w.heap.size+1) j (SOq.own l s (w.heap.size+1) (by omega) (by omega))).trans (by unfold ansW;simp[go_sem]));have PK:=uU (show ∀W J z,@SOq p1 (C+64000) B W b z->1<=z.M->W.cell? (aA (w.heap.size+1) 2)=none->uZ (λm=>m=w.heap.size+1) W J->@SOq p (C+64000) B J b z from λW J z s M hn on=>SOq.poke l s (w.heap.size+1) ⟨by omega,by omega⟩ M hn on);have HM:=uU X;have aa:=Z.size;go_in;go_wp21;go_region_with (first|(go_at_call 54;refine(b0y f d g H (λe=>o.nm e)).mono ?_;rintro e u ⟨rfl,i⟩;have Q:=λm=>((cE i).2 (w.heap.size+1) m (uQ u0)).trans (Q m);have u0:=i.keep u0;have u1:=i.keep u1;have F:=uU i)|(go_at_call 55;refine QA.mono ?_;rintro e g ⟨y,d,f,rfl,o,I,G⟩;have r:=uH BO g y I;have Q:=uH BF g y I;have u0:g.cell? (aA (w.heap.size+1) 0)=some (iv 0):=cell_of_row g _ 0 _ _ (0,0) r;have u1:g.cell? (aA (w.heap.size+1) 1)=some (iv 0):=cell_of_row g _ 1 _ _ (0,0) r;have u2:g.cell? (aA (w.heap.size+1) 2)=none:=cell_of_row g _ 2 _ _ (0,0) r;have H:=G.keep hg;have BX:=uU r;have X3:=uU G)|(go_at_call 56;refine(QR _).mono ?_;rintro e w2 ⟨rfl,rfl⟩));all_goals
  have u24:u.cell? (aA (w.heap.size+1) 2)=none:=(cOb (w.heap.size+1) 2 (F.block _ (a1p BX))).trans u2;have GF:=uU (PK u ((u.setCell (aA (w.heap.size+1) 0) (iv d)).setCell (aA (w.heap.size+1) 1) (iv f)) y (@SOq.ext _ _ _ _ _ p1 _ I F) (HM y d f o) u24 ((tJ u (w.heap.size+1) 0 _).sc (w.heap.size+1) 1 rfl _));have XF:=uU (show Ext v ((u.setCell (aA (w.heap.size+1) 0) (iv d)).setCell (aA (w.heap.size+1) 1) (iv f)) from((X3.trans F).sc (w.heap.size+1) 0 (show v.heap.size<=w.heap.size+1 by omega) _).sc (w.heap.size+1) 1 (show v.heap.size<=w.heap.size+1 by omega) _);go_wp21;refine bodyPost_ret (v:=tD d f) (by simp[results,results22,go_sem,u0,u1]) rfl ?_;exact⟨y,d,f,rfl,o,GF,XF⟩
theorem d0h(b:Nat)(op a q c n:Int)(w:World)(r:NoWay op a q c n)(B:w.cell? (aA 0 0)=some (rty 112)):
  Calls prog 22 #[pP b,yU op a q c n] w λe w'=>e=.returned (tD 1 0)/\Ext w w':=by
 have t:=uU (λ(V:World) (r1 r2:Nat)=>c5s b r1 r2 op a q c n V r);have A:=uU (λW=>b3g b op a q c n W);obtain⟨V,g⟩:=obE (((((w.alloc (.cells #[iv op,iv a,iv q,iv c,iv n] 29)).alloc (.cells #[iv 0,iv 0] 33)).alloc (.cells #[pP b] 72)).alloc (.cells #[iv op,iv a,iv q,iv c,iv n] 29)).drew);have o:Ext w V:=by rw[g];exact((((eAl w _).alloc _).alloc _).alloc _).drew
 have j:V.cell? (aA (w.heap.size+1) 0)=some (iv 0):=by rw[g];simp[go_sem]
 have s:V.cell? (aA (w.heap.size+1) 1)=some (iv 0):=by rw[g];simp[go_sem]
 have y:∀m,V.frozen? (aA (w.heap.size+1) m)=false:=λm=>by rw[g];simp[go_sem]
 have i:w.heap.size+1<V.heap.size:=uQ j;have l:=uU o;go_in;go_wp21;go_region_with (first|(go_at_call 54;refine(b0y 0 1 z h (λ_=>rfl)).mono ?_;rintro e D ⟨rfl,f⟩;have k:=λm=>((cE f).2 (w.heap.size+1) m (uQ u0)).trans (k m);have u0:=f.keep u0;have u1:=f.keep u1;have x:=uU (u.trans f))|(go_at_call 55;rw[<-g];refine(t _ _ _).mono ?_;rintro e z ⟨rfl,d⟩;have k:=λm=>((cE d).2 (w.heap.size+1) m i).trans (y m);have u0:=d.keep j;have u1:=d.keep s;have h:=(l.trans d).keep B;have u:=uU (l.trans d))|(go_at_call 56;refine(A _).mono ?_;rintro e C ⟨rfl,rfl⟩));all_goals
  go_wp21;refine bodyPost_ret (v:=tD 1 0) (by simp[results,results22,go_sem,u0,u1]) rfl ?_;exact⟨rfl,(x.sc (w.heap.size+1) 0 (show w.heap.size<=w.heap.size+1 by omega) _).sc (w.heap.size+1) 1 (show w.heap.size<=w.heap.size+1 by omega) _⟩
