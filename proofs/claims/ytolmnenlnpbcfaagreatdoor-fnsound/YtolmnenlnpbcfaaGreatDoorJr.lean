import Derived.Test.YtolmnenlnpbcfaaGreatDoorAe
import Derived.Test.YtolmnenlnpbcfaaGreatDoorJb
import Derived.Test.YtolmnenlnpbcfaaGreatDoorQd
import Derived.Test.YtolmnenlnpbcfaaGreatDoorSpecL
import Derived.Test.YtolmnenlnpbcfaaGreatDoorTa
set_option maxRecDepth 100000
set_option maxHeartbeats 4000000
namespace Go.Proofs.YtolmnenlnpbcfaaGreatDoor
open Go.RowKit Go.Proofs.Tryz
attribute [local go_sem ↓] Go.wp_at_zero Go.wp_at_succ
variable{x:Hp}{C B b a c bd p k ba bs lo hi q:Nat}{w:World}{n:Int}{rv:Value}
theorem SOq.pace[qd](h:SOq C B w b x)(u t:Int):SOq C B ((w.setCell (aA b 9) (iv u)).setCell (aA b 10) (iv t)) b (paceTo x u t):=by
 obtain⟨J,n,G,f,j,I,d,z,e,l,D,r,m,H,g,E,v,s,F,y,K,a,h,i,k⟩:=h;have c:=h.boxed (x':={ x with per:=u }) (tE w b 9 _) (h.sb.nb.set _ _) rfl rfl rfl (h.sb.bx.set9 u) (λk A=>uC _ (.inr (by omega)));have o:=c.boxed (x':=paceTo x u t) (tE _ b 10 _) (c.sb.nb.set _ _) rfl rfl rfl (c.sb.bx.set10 t) (λk A=>uC _ (.inr (by omega)));exact⟨J,n,G,f,j,I,d,z,e,l,D,r,m,H,g,E,v,s,F,y,K,a,o,i.alike (cJ.A rfl) rfl rfl,k⟩
theorem SOq.boxN[qd](h:SOq C B w b x):(∃v,w.cell? (aA b 9)=some v)/\(∃v,w.cell? (aA b 10)=some v)/\(∀j,w.frozen? (aA b j)=false)/\B<=b/\b<w.heap.size:=by
 obtain⟨S,y,N,o,q,Q,l,G,n,s,L,z,u,O,p,M,D,A,F,E,K,c,h,i,k⟩:=h;obtain⟨R,J,H,t,I,m,g,r,P,f,a,d,e⟩:=h.sb.bx;exact⟨⟨_,f⟩,⟨_,a⟩,h.sb.nb.2,h.sb.lo.1,h.sb.nb.1⟩
theorem way_24[qd](h:SOq C B w b x)(s:Snd x)(hd:(default:uL).z bd=some (tK b 24 a p c n rv))(hC:C+64000<=1000000000)(v:World)(hv:v.heap.size<=B)(hx:Ext v w):
  Calls prog 206 #[.pointer (some ⟨bd,0,none⟩)] w λe w'=>qW C B b x a p c n 24 v e w':=by
 have D:=uU (tH.of (h.obj hd));have H:=uU h;have S:=uU s;obtain⟨d0,d1,d2,d3,d4,d5,d6⟩:=uH D;go_in;go_wp21;refine(b2b H (by omega) S v hv hx).mono ?_;rintro e w5 ⟨y,z,rfl,rr,h5,x5⟩;have H5:=uU (h5.wide (show C+16000<=C+64000 by omega));go_wp21;go_ret2;exact⟨z,0,0,rfl,⟨rfl,rfl,y,rr.1,rr.2⟩,H5,x5⟩
theorem way_22[qd](h:SOq C B w b x)(s:Snd x)(hd:(default:uL).z bd=some (tK b 22 a p c n rv))(hC:C+64000<=1000000000)(hc:c<=100000)(v:World)(hv:v.heap.size<=B)(hx:Ext v w):
  Calls prog 204 #[.pointer (some ⟨bd,0,none⟩)] w λe w'=>qW C B b x a p c n 22 v e w':=by
 have D:=uU (tH.of (h.obj hd));have H:=uU h;have S:=uU s;obtain⟨d0,d1,d2,d3,d4,d5,d6⟩:=uH D;have QS:=uU (λW(xW:Ext w W)=>c2q c (H.ext xW) (by omega) S hc v hv (hx.trans xW));go_in;go_wp21;go_region_with (go_at_call 46;refine(QS _ (eDr w)).mono ?_;rintro e w5 ⟨k,rfl,st,h5,x5⟩;have H5:=uU (h5.wide (show C+16000<=C+64000 by omega));have X5:=uU x5);all_goals
  go_wp21;go_ret2;exact⟨_,0,0,rfl,⟨rfl,rfl,k,st,rfl⟩,H5,X5⟩
theorem way_18[qd](h:SOq C B w b x)(s:Snd x)(hd:(default:uL).z bd=some (tK b 18 a p c n rv))(v:World)(hv:v.heap.size<=B)(hx:Ext v w):
  Calls prog 200 #[.pointer (some ⟨bd,0,none⟩)] w λe w'=>qW C B b x a p c n 18 v e w':=by
 have D:=uU (tH.of (h.obj hd));have H:=uU h;have S:=uU s;obtain⟨d0,d1,d2,d3,d4,d5,d6⟩:=uH D;have QS:=uU (show Calls prog 43 #[.pointer (some ⟨b,0,none⟩)] w λe w'=>∃G:Nat->Bool,Hid (e=.returned (.tuple #[.int .i64 (qX x G x.A.length),.int .i64 (kL x G x.A.length)]))/\Hid (∀i,G i=true↔eJ x i)/\Hid (SOq C B w' b (a1r x G))/\Ext v w' from by
  obtain⟨ar,kr,a4,n4,k4,a8,m8,k8,br,cB,cO,bn,pb,pa,pk,kn,hd,vf,F,vk,K,role,h,i,k⟩:=H;refine(b6e h S v hv hx).mono ?_;rintro e w' ⟨G,he,hG,h2,x2⟩;have r:=a3r x G x.A.length;refine⟨G,he,hG,⟨ar,kr,a4,n4,k4,a8,m8,k8,br,cB,cO,bn,pb,pa,pk,kn,hd,vf,F,vk,K,role,h2,i.alike ⟨?_,λq=>?_⟩ ?_ ?_,?_⟩,x2⟩;rw[<-a4g,a2o];rw[<-a4g];exact(c7r x G x.A.length (hT _) q).1;rw[<-a4g];exact r.2.2.2.1;rw[<-a4g];exact r.2.2.2.2.1;rw[<-a4g,r.1];exact k)
 go_in;go_wp21;refine QS.mono ?_;rintro e w5 ⟨G,he,hG,h5,x5⟩;have e2:=uH he;subst e2;have H5:=uU (h5.wide (show C<=C+64000 by omega));go_wp21;go_ret2;exact⟨_,0,_,rfl,⟨rfl,G,hG,rfl,rfl⟩,H5,x5⟩
theorem d4n[qd](q:Nat)(o:Int)(F G:FuncId)(P:Nat->Prop)(hq:q=20/\o=20/\F=202/\G=100/\P=eJ x\/q=21/\o=21/\F=203/\G=231/\P=cU x)(h:SOq C B w b x)(s:Snd x)(hd:(default:uL).z bd=some (tK b o a p c n rv))(v:World)(hx:Ext v w):
  Calls prog F #[.pointer (some ⟨bd,0,none⟩)] w λe w'=>qW C B b x a p c n q v e w':=by
 have D:=uU (tH.of (h.obj hd));have H:=uU h;have S:=uU s;obtain⟨d0,d1,d2,d3,d4,d5,d6⟩:=uH D;have hdw:bd<w.heap.size:=uZ d0;clear h s hd
 obtain⟨ar,kr,ac,bn,kn,V⟩:∃(ar:Option Addr)(kr:Nat)(ac:Nat->Option Addr)(bn kn:Nat),Hid (VNt w b x ar kr ac (some ⟨bn,0,none⟩) kn):=by
  obtain⟨ar,kr,a4,n4,k4,a8,m8,k8,br,cB,cO,bn,pb,pa,pk,kn,hd,vf,F,vk,K,role,h,i,k⟩:=H;exact⟨ar,kr,_,bn,kn,h.vn (by rw[S.r1.B];omega) S.ok.p200⟩
 have QH:=uU (show ∀W,Ext w W->Calls prog G #[.pointer (some ⟨b,0,none⟩)] W λe w'=>∃(r:Nat)(Mt:List Nat),e=.returned (Value.map (some r))/\Hid (tD w' r bn (Mt.map (λi=>0+i*2)))/\r<w'.heap.size/\Hid (∀i,i∈Mt↔P i)/\Ext W w' from λW xW=>by
  rcases hq with⟨_,_,_,rfl,rfl⟩|⟨_,_,_,rfl,rfl⟩
  focus refine(c3i x b W bn 0 (V.ext xW) S.r2 S.r4 S.ok.n8 S.ok.p200 (λw1 h1=>a5z x b w1 bn 0 h1 S.ok.n8)).mono ?_
  rotate_left
  focus refine(c3h x b W bn 0 (V.ext xW) S.r2 S.r4 S.ok.n8 S.ok.p200 (λw1 h1=>a5z x b w1 bn 0 h1 S.ok.n8)).mono ?_
  all_goals
   rintro e w' ⟨h1,Mt,h2,h3,h4,h5⟩;exact⟨_,Mt,h1,h2,h3,h4,h5⟩)
 have hbw:b<w.heap.size:=H.boxN.2.2.2.2;rcases hq with⟨rfl,rfl,rfl,rfl,rfl⟩|⟨rfl,rfl,rfl,rfl,rfl⟩
 all_goals
  go_in
  go_wp21;go_region_with (first|(go_at_call 230;refine(sum_any x b r Mt w5 bn 0 (V.ext X5) hm hlt S.ok.n8 S.ok.p200).mono ?_;rintro e w6 ⟨u,he,hu,x6⟩;have e2:=uH he;subst e2;have X6:=uU (X5.trans x6);clear he x6)|((first|go_at_call 100|go_at_call 231);refine(QH _ (eDr w)).mono ?_;rintro e w5 ⟨r,Mt,rfl,hm,hlt,hh,x5⟩;have x15:=kI (eDr w) x5;have l0:=x15.keep d0;have X5:=uU x15;clear x5 x15))
  all_goals
   go_wp21;go_ret2;exact⟨x,0,u,rfl,⟨rfl,rfl,λi=>decide (i∈Mt),λi=>by rw[decide_eq_true_iff];exact hh i,by rw[uH hu]⟩,(H.wide (show C<=C+64000 by omega)).ext X6,hx.trans X6⟩
abbrev a7x(ba bs:Nat):Value:=.func (.func 145) #[] #[.pointer (some ⟨ba,0,none⟩),.pointer (some ⟨bs,0,none⟩)]
theorem b3k(b:Nat)(op a p c n:Int)(w:World):
  Calls prog 88 #[pP b,yU op a p c n] w λe w'=>e=.returned (a7x (w.heap.size+1) w.heap.size)/\w'=(w.alloc (.cells #[pP b] 75)).alloc (.cells #[iv op,iv a,iv p,iv c,iv n] 29):=by
 go_in;go_wp21;go_ret;exact⟨rfl,rfl⟩
theorem SOq.nums[qd](h:SOq C B w b x):w.cell? (aA b 0)=some (iv x.M)/\w.cell? (aA b 1)=some (iv x.K)/\w.cell? (aA b 2)=some (iv x.born)/\w.cell? (aA b 5)=some (iv x.E)/\w.cell? (aA b 9)=some (iv x.per)/\w.cell? (aA b 10)=some (iv x.V)/\w.cell? (aA b 12)=some (iv x.S):=by
 obtain⟨Q,z,M,q,s,P,o,H,p,u,J,A,y,N,r,L,E,D,F,G,K,d,h,i,k⟩:=h;obtain⟨l,j,g,v,I,e,n,t,O,m,c,f,a⟩:=h.sb.bx;exact⟨l,j,g,e,m,c,a⟩
theorem SOq.set12[qd](h:SOq C B w b x)(u:Int):SOq C B (w.setCell (aA b 12) (iv u)) b { x with S:=u }:=by
 obtain⟨E,m,z,e,g,D,c,t,d,j,v,n,l,A,f,y,r,o,F,s,K,a,h,i,k⟩:=h;exact⟨E,m,z,e,g,D,c,t,d,j,v,n,l,A,f,y,r,o,F,s,K,a,h.boxed (x':={ x with S:=u }) (tE w b 12 _) (h.sb.nb.set _ _) rfl rfl rfl (h.sb.bx.set12 u) (λk G=>uC _ (.inr (by omega))),i.alike (cJ.A rfl) rfl rfl,k⟩
theorem c3y[qd](h:SOq C B w b x)(s:Snd x)(u:Nat)(j:u<=201):Calls prog 146 #[pP b,iv u] w λe w'=>e=.returned (.bool (zY x u))/\Ext w w':=by
 obtain⟨g,i,_⟩:=h.nums;have c:0<=x.K/\x.K<=4000:=by have a:=s.r3;have d:=s.r1.M;unfold R3 at a;omega
 have f:wrap64 (x.K+(u:Int))=x.K+(u:Int):=a1g _ (by omega) (by omega);go_in;go_wp21;go_quiet (fail);go_wp21;go_ret;exact⟨rfl,Ext.drewN (hO _) _⟩
def c3z(b:Nat):Obj:=.cells #[.pointer (some ⟨b,0,none⟩)] 75
def c0j(op a p c n:Int):Obj:=.cells #[iv op,iv a,iv p,iv c,iv n] 29
def b1b(x:Hp)(op:Int)(u:Nat)(y:Hp)(cd:Int):Prop:=((op=1/\x.born=1000000000)/\y=x/\cd=4)\/(¬(op=1/\x.born=1000000000)/\tN x u y/\cd=if zY y u=true then 0 else 4)
theorem c4a[qd]{op a p c:Int}(h:SOq C B w b x)(hC:C+16000<=1000000000)(s:Snd x)(za:(default:uL).z ba=some (c0j op a p c n))(zs:(default:uL).z bs=some (c3z b))(u:Nat)(hu:u<=201)(v:World)(hv:v.heap.size<=B)(hx:Ext v w):
  Calls prog 145 #[.int .i64 u,.pointer (some ⟨ba,0,none⟩),.pointer (some ⟨bs,0,none⟩)] w λe w'=>∃(y:Hp)(cd:Int),Hid (e=.returned (b5v cd))/\Hid (b1b x op u y cd)/\Hid (SOq (C+16000) B w' b y)/\Ext v w':=by
 have H:=uU h;have S:=uU s;have ca:=λj=>cell_of_row w ba j _ _ (0,0) (h.obj za)
 have cs:=λj=>cell_of_row w bs j _ _ (0,0) (h.obj zs)
 have a0:w.cell? ⟨ba,0,none⟩=some (iv op):=ca 0;have s0:w.cell? ⟨bs,0,none⟩=some (.pointer (some ⟨b,0,none⟩)):=cs 0;obtain⟨c0,c1,c2,c5,c9,c10,c12⟩:=h.nums;have fz:=h.boxN.2.2.1;have lo:v.heap.size<=b:=kA hv h.boxN.2.2.2.1;have fo:=s.r1.S;have hbw:=cLt c0;have BS:=uU (show ∀(W:World)(z:Hp)(K:Nat),SOq K B W b z->W.cell? ⟨bs,0,none⟩=some (.pointer (some ⟨b,0,none⟩)) from λW z K hz=>cell_of_row W bs 0 _ _ (0,0) (hz.obj zs));by_cases hop:op=1/\x.born=1000000000;have R:=uU (show b1b x op u x 4 from .inl ⟨hop,rfl,rfl⟩);obtain⟨rfl,hb⟩:=hop;rw[hb]at c2;go_in;go_wp21;go_ret;exact⟨x,4,rfl,R,H.wide (by omega),hx⟩;have RP:=uU (show ∀y cd,tN x u y->(cd=if zY y u=true then 0 else 4)->b1b x op u y cd from λy cd r e=>.inr ⟨hop,r,e⟩);have Q1:=uU (λW(xW:Ext w W)=>c3y (H.ext xW) S u hu);go_in;rcases (show(op=1/\x.born≠1000000000)\/op≠1 from(Decidable.em (op=1)).elim (λh1=>.inl ⟨h1,λe=>hop ⟨h1,e⟩⟩) .inr) with⟨rfl,hb⟩|hb;all_goals
  go_wp21;refine(Q1 _ (hO w)).mono ?_;rintro e w1 ⟨rfl,x1⟩;have X1:=uU x1;have t0:=x1.keep s0;have d0:=x1.keep c0;have d12:=x1.keep c12;have fz1:=λj=>((cX x1).2 b j hbw).trans (fz j)
  cases hf:zY x u
  ·go_wp21;go_region;all_goals
    go_wp21;have FH:SOq C B (w1.setCell ⟨b,12,none⟩ (iv (min (x.S+1) 1000000000))).drew b (forceTo x):=by
     rw[show forceTo x={ x with S:=min (x.S+1) 1000000000 } from by unfold forceTo;congr 1;split <;> omega];exact((H.ext X1).set12 _).ext (eDr _)
    refine(b2b FH hC S.forceTo v hv (((hx.trans X1).setCell (p:=⟨b,12,none⟩) lo _).drew)).mono ?_;rintro e w2 ⟨y,z,rfl,he,h2,x2⟩;have RM:=uU (show tN x u z from .inr ⟨hf,y,he.1,he.2⟩);have Sz:=uU (RM.snd S);have Q2:=uU (c3y h2 Sz u hu);have t2:=uH BS w2 z _ h2;go_wp21;refine Q2.mono ?_;rintro e w3 ⟨rfl,x3⟩;cases hg:zY z u;go_wp21;go_ret;exact⟨z,4,rfl,uH RP z 4 RM (by rw[hg];rfl),h2.ext x3,x2.trans x3⟩;go_wp21;go_ret;exact⟨z,0,rfl,uH RP z 0 RM (by rw[hg];rfl),h2.ext x3,x2.trans x3⟩
  go_wp21;refine(Q1 _ X1).mono ?_;rintro e w2 ⟨rfl,x2⟩;rw[hf];go_wp21;go_ret;exact⟨x,0,rfl,uH RP x 0 (.inl ⟨hf,rfl⟩) (by rw[hf];rfl),((H.ext (X1.trans x2)).wide (by omega)),hx.trans (X1.trans x2)⟩
theorem Own.sub{p p1:Inhabited uL}{c:World}(o:Own p lo hi c p1):∀q ob,(@default uL p).z q=some ob->(@default uL p1).z q=some ob:=λq ob a=>by
 rw[o.z,if_neg (λe=>by have:=o.l q ob a;omega)];exact a
theorem b8v{p p1:Inhabited uL}(a:∀q ob,(@default uL p).z q=some ob->(@default uL p1).z q=some ob){q:Nat}(h:(@default uL p1).z q=none):(@default uL p).z q=none:=by
 cases e:(@default uL p).z q with
 | none=>rfl
 | some ob=>rw[a q ob e]at h;cases h
theorem SOq.less{p p1:Inhabited uL}(h:@SOq p1 C B w b x)(c:∀q ob,(@default uL p).z q=some ob->(@default uL p1).z q=some ob):@SOq p C B w b x:=by
 obtain⟨L,r,H,g,l,J,e,y,f,m,D,s,n,I,j,E,u,t,F,v,K,a,h,i,k⟩:=h;have A:=h;obtain⟨_,_,_,d⟩:=A;exact⟨L,r,H,g,l,J,e,y,f,m,D,s,n,I,j,E,u,t,F,v,K,a,SAt.far (z:=(@default uL p1).z) (z2:=(@default uL p).z) h (hT _) (λ_ _ _=>rfl) (λ_ _ _=>rfl) (λq o G=>d q o (c q o G)),i,k.1,b8v c k.2⟩
def WayOk(p:Inhabited uL)(C B b:Nat)(x:Hp)(a q c:Nat)(n:Int)(k:Nat)(v:World)(rv:Value):Prop:=
 ∀(p1:Inhabited uL)(bd:Nat)(W:World),@SOq p1 C B W b x->(@default uL p1).z bd=some (tK b k a q c n rv)->(∀m ob,(@default uL p).z m=some ob->(@default uL p1).z m=some ob)->Ext v W->Calls prog (wayF k) #[.pointer (some ⟨bd,0,none⟩)] W λe w'=>@qW p1 C B b x a q c n k v e w'
theorem d5e(k:Nat)(b:1<=k)(c:k<=24)(a:Array Value)(W:World):(callFunc (wayF k) a).run prog W=.ok (.enter (wayF k) a) W:=by
 have h:k=1\/k=2\/k=3\/k=4\/k=5\/k=6\/k=7\/k=8\/k=9\/k=10\/k=11\/k=12\/k=13\/k=14\/k=15\/k=16\/k=17\/k=18\/k=19\/k=20\/k=21\/k=22\/k=23\/k=24:=by omega
 obtain rfl|rfl|rfl|rfl|rfl|rfl|rfl|rfl|rfl|rfl|rfl|rfl|rfl|rfl|rfl|rfl|rfl|rfl|rfl|rfl|rfl|rfl|rfl|rfl:=h <;> first|exact(by kernel_rfl)|rfl
theorem c6o[p:qd](h:SOq C B w b x)(J:1<=k)(K:k<=24)(V:(n != 0)=false\/((n != 0)=true/\((k:Int) != 2)=false))(X:(decide (0<=(a:Int)/\(a:Int)<=a7f k) && (decide (0<=(q:Int)/\(q:Int)<=kE k) && decide (0<=(c:Int)/\(c:Int)<=kW k)))=true)(v:World)(hx:Ext v w)(Y:WayOk p C B b x a q c n k v (a7x ba bs)):
  Calls prog 87 #[pP b,yU k a q c n,a7x ba bs] w λe w'=>qW C B b x a q c n k v e w':=by
 have H:=uU h;have YY:=uU Y;have L:=uU (λW=>c4c k a q c n W J K V true X);obtain⟨fw,u⟩:∃f,f=wayF k:=⟨_,rfl⟩;obtain⟨m1,o⟩:∃m,m=a7f k:=⟨_,rfl⟩;obtain⟨m2,r⟩:∃m,m=kE k:=⟨_,rfl⟩;obtain⟨m3,s⟩:∃m,m=kW k:=⟨_,rfl⟩;rw[<-u,<-o,<-r,<-s]at L;have M:=uU (d5e k J K);rw[<-u]at M;have HF:=uU u;clear h Y J K V X u o r s;go_in;go_wp21;refine(L _).mono ?_;rintro e d ⟨rfl,I⟩;have N:d.heap[w.heap.size]?=some (c0j k a q c n):=(I.block w.heap.size (by simp[go_sem])).trans (show((w.heap.push _)[w.heap.size]?)=_ by rw[nW];rfl);have l:=λj=>cell_of_row d w.heap.size j _ _ (0,0) N
 have O:d.cell? (aA w.heap.size 0)=some (iv k):=l 0;have t1:d.cell? (aA w.heap.size 1)=some (iv a):=l 1;have t2:d.cell? (aA w.heap.size 2)=some (iv q):=l 2;have Z:d.cell? (aA w.heap.size 3)=some (iv c):=l 3;have t4:d.cell? (aA w.heap.size 4)=some (iv n):=l 4;have l1:=cLt O;have P:=uU (show Ext w d from(eAl w _).trans I);clear N l I;go_wp21;rw[uH M,Oper.upon_enter];obtain⟨G,g⟩:∃W,W=(d.alloc (.cells #[iv m1,iv m2,iv m3,.func (.func fw) #[] #[]] 161)).alloc (tK b k a q c n (a7x ba bs)):=⟨_,rfl⟩;have i:Ext d G:=by rw[g];exact(eAl d _).alloc _
 have A:G.heap[d.heap.size+1]?=some (tK b k a q c n (a7x ba bs)):=by
  rw[g];show(((d.heap.push _).push _)[d.heap.size+1]?)=_;rw[<-nD,nW]
 have S:=a1t A;obtain⟨D,t,Q⟩:=SOq.enter (H.ext P) i;have T:(@default uL D).z (d.heap.size+1)=some (tK b k a q c n (a7x ba bs)):=by rw[t.z,if_pos ⟨by omega,S⟩];exact A
 have F:=uH YY D (d.heap.size+1) G Q T t.sub (hx.trans (P.trans i));rw[<-uH HF]at F;unfold tK at g;rw[<-g];refine F.mono ?_;clear F T Q A S g O t1 t2 Z t4 i;have O1:=uU t.sub;clear t;rintro e w4 ⟨y,cd,nm,R,dr,U,x4⟩;have E:=uH R;subst E;have G4:=uU (show @SOq p (C+64000) B w4 b y from SOq.less (p:=p) (p1:=D) U O1);clear R U;go_wp21;go_ret2;exact⟨y,cd,nm,rfl,dr,G4,x4⟩
def NoWay(op a b c n:Int):Prop:=∀W,Calls prog 144 #[yU op a b c n] W λe w'=>∃(m1 m2 m3:Int)(f:Value),Hid (f=.nilFunc\/∃F,f=.func (.func F) #[] #[])/\e=.returned (.tuple #[.agg #[iv m1,iv m2,iv m3,f],.bool false])/\Ext W w'
theorem noWay(op a b c n:Int)(h:qV op a b c n=false):NoWay op a b c n:=λW=>by
 by_cases i:cH op 1 24=false;refine(d0z op a b c n W i).mono ?_;rintro e l ⟨rfl,d⟩;exact⟨0,0,0,.nilFunc,.inl rfl,rfl,d⟩;have p:1<=op/\op<=24:=by
  by_cases m:1<=op/\op<=24;exact m;exact absurd (show cH op 1 24=false by simp[cH];omega) i
 obtain⟨k,rfl⟩:∃k:Nat,op=k:=⟨op.toNat,by omega⟩;by_cases j:n=0\/(k:Int)=2;have o:(decide (0<=a/\a<=a7f k) && (decide (0<=b/\b<=kE k) && decide (0<=c/\c<=kW k)))=false:=by
  have f:=h;unfold qV at f;rw[decide_eq_true (show(1<=(k:Int)/\(k:Int)<=24)/\(n=0\/(k:Int)=2) from⟨p,j⟩),Bool.true_and]at f;exact f
 refine(c4c k a b c n W (by omega) (by omega) ?_ false o).mono ?_;by_cases g:n=0
 ·exact .inl (by rw[g];rfl)
 refine .inr ⟨by simpa using g,?_⟩;obtain e|e:=j
 ·exact absurd e g
 rw[e];rfl;rintro e l ⟨rfl,d⟩;exact⟨_,_,_,_,.inr ⟨_,rfl⟩,rfl,d⟩;refine(d1a k a b c n W (by omega) (by omega) (by simp only[bne_iff_ne,ne_eq];omega) (by simp only[bne_iff_ne,ne_eq];omega)).mono ?_;rintro e l ⟨rfl,d⟩;exact⟨0,0,0,.nilFunc,.inl rfl,rfl,d⟩
theorem c6p(b m l:Nat)(op a q c n:Int)(w:World)(g:NoWay op a q c n):
  Calls prog 87 #[pP b,yU op a q c n,a7x m l] w λe w'=>e=.returned (.tuple #[iv 0,b5v 1])/\Ext w w':=by
 have h:=uU g;go_in;go_wp21;refine(h _).mono ?_;rintro e k ⟨o,p,r,f,j,rfl,d⟩;have i:=uU (show Ext w k from(eAl w _).trans d);obtain rfl|⟨F,rfl⟩:=uH j;all_goals
  go_wp21;go_ret2;exact⟨rfl,i.alloc _⟩
def d5g(p:Inhabited uL)(C B b:Nat)(x:Hp)(a q c:Nat)(n:Int)(k:Nat)(v:World):Prop:=
 ∀(p1:Inhabited uL)(ba bs:Nat),(@default uL p1).z ba=some (c0j k a q c n)->(@default uL p1).z bs=some (c3z b)->(∀m ob,(@default uL p).z m=some ob->(@default uL p1).z m=some ob)->WayOk p1 C B b x a q c n k v (a7x ba bs)
theorem SOq.set1[qd](h:SOq C B w b x)(u:Int):SOq C B (w.setCell (aA b 1) (iv u)) b { x with K:=u }:=by
 obtain⟨E,m,z,e,g,D,c,t,d,j,v,n,l,A,f,y,r,o,F,s,K,a,h,i,k⟩:=h;exact⟨E,m,z,e,g,D,c,t,d,j,v,n,l,A,f,y,r,o,F,s,K,a,h.boxed (x':={ x with K:=u }) (tE w b 1 _) (h.sb.nb.set _ _) rfl rfl rfl (h.sb.bx.set1 u) (λk G=>uC _ (.inr (by omega))),i.alike (cJ.A rfl) rfl rfl,k⟩
theorem d1c{n:Nat}(h:a2j x n k)(a:x.E=0):itU k x=x:=by
 have e:k=0:=by
  obtain e|e:=mF k;exact e;exact absurd a (h.1 0 e)
 rw[e];rfl
def zQ(x:Hp)(u:Nat):Hp:={ x with K:=x.K+u }
theorem c4d[qd](h:SOq C B w b x)(F:C+16000<=1000000000)(u:Nat)(U:u<=201)(s:Snd (zQ x u))(v:World)(q:v.heap.size<=B)(V:Ext v w):
  Calls prog 223 #[pP b,iv u] w λe w'=>∃y,Hid (e=.returned (.tuple #[]))/\Hid (zV (zQ x u) u y)/\Hid (SOq (C+16000) B w' b y)/\Ext v w':=by
 obtain⟨c0,c1,c2,G,Q,P,O⟩:=h.nums;have X:=h.boxN.2.2.1;have M:v.heap.size<=b:=kA q h.boxN.2.2.2.1;have Z:0<=x.K+u/\x.K+u<=4000:=by have I:=s.r3;have t:=s.r1.M;unfold R3 at I;simp only[zQ]at I t;omega
 have wu:wrap64 (x.K+(u:Int))=x.K+(u:Int):=a1g _ (by omega) (by omega);have N:0<=x.per/\x.per<=64:=s.r1.per;have j:=uU (show SOq C B (w.setCell (aA b 1) (iv (x.K+u))) b (zQ x u) from h.set1 _);have n:=uU (show Ext v (w.setCell (aA b 1) (iv (x.K+u))) from V.sc b 1 M _);have S:=uU s;clear h s;by_cases J:u=0\/x.per=0
 ·have c:=uU (show zV (zQ x u) u (zQ x u) from .inl ⟨by
   unfold a4a zQ;obtain e|e:=J;rw[e];simp;rw[e];rfl,rfl⟩)
  obtain e|⟨e,r⟩:=(show u=0\/(u≠0/\x.per=0) by omega);focus
   have L:((u:Int) == 0)=true:=by rw[e];rfl
   clear e J
  rotate_left
  focus
   have L:((u:Int) == 0)=false:=by simp only[beq_eq_false_iff_ne];omega
   rw[r]at Q
  all_goals
   go_in;go_wp21;refine bodyPost_ret (results_none rfl _ _ _) rfl ?_;exact⟨_,rfl,c,j.wide (by omega),n⟩
 have e1:((u:Int) == 0)=false:=by simp only[beq_eq_false_iff_ne];omega
 have r:(x.per == 0)=false:=by simp only[beq_eq_false_iff_ne];omega
 obtain⟨m,d⟩:=obE (x.per.toNat*u);have wp:wrap64 (x.per*(u:Int))=(m:Int):=by
  rw[d];have m:x.per*(u:Int)=((x.per.toNat*u:Nat):Int):=by
   have:((x.per.toNat:Nat):Int)=x.per:=mg N.1;rw[Int.natCast_mul,this]
  have W:x.per.toNat*u<=64*201:=Nat.mul_le_mul (by omega) U;rw[m];exact a1g _ (by omega) (by omega)
 have z:m≠0:=by rw[d];exact Nat.mul_ne_zero (by omega) (by omega)
 by_cases a:x.E=0;by_cases Y:x.K+u > x.V
 ·have f:stepH (zQ x u) ((zQ x u).per.toNat*u)=dC (zQ x u) 1 0:=by unfold stepH;rw[if_pos ⟨a,d ▸ z⟩]
  have o:a4a (zQ x u) u=false:=by
   unfold a4a zQ;have:(u == 0)=false:=by simp only[beq_eq_false_iff_ne];omega
   have E:decide (x.K+(u:Int)<=x.V)=false:=decide_eq_false (by omega);simp only[r,this,E,Bool.and_false,Bool.or_false]
  have c:=uU (show ∀k,a2j (dC (zQ x u) 1 0) m k->zV (zQ x u) u (itU k (dC (zQ x u) 1 0)) from λk D=>.inr ⟨o,k,by rw[f];exact d ▸ D,by rw[f]⟩);have SB:=uU (S.begin a);have A:=uU a;rw[a]at G;clear o f z a d;go_in;go_wp21;go_quiet (fail);go_wp21;refine(b2a (j.ext (Ext.drewN (hO _) nq)) A v q (Ext.drewN n nq)).mono ?_;rintro e R ⟨rfl,t,T⟩;have d9:R.cell? (aA b 9)=some (iv x.per):=t.nums.2.2.2.2.1;go_wp21;refine(a4f m t F SB v q T).mono ?_;rintro e H ⟨k,rfl,i,g,l⟩;go_wp21;go_end0;exact⟨_,rfl,uH c k i,g,l⟩
 have c:=uU (show zV (zQ x u) u (zQ x u) from .inl ⟨by
  unfold a4a zQ;have E:decide (x.K+(u:Int)<=x.V)=true:=decide_eq_true (by omega);simp only[a,E,Bool.and_true,beq_self_eq_true,Bool.or_true],rfl⟩)
 have A:=uU a;rw[a]at G;clear z a d;go_in;go_wp21;go_quiet (fail);go_wp21;refine(a4f m ((j.wide (show C<=C+16000 by omega)).ext (Ext.drewN (hO _) nq)) F S v q (Ext.drewN n nq)).mono ?_;rintro e H ⟨k,rfl,i,g,l⟩;rw[d1c (uH i) (uH A)]at g;go_wp21;go_end0;exact⟨_,rfl,c,g,l⟩;have f:stepH (zQ x u) ((zQ x u).per.toNat*u)=zQ x u:=by unfold stepH;rw[if_neg (λh=>a h.1)]
 have K:(x.E == 0)=false:=by simpa using a
 have o:a4a (zQ x u) u=false:=by
  unfold a4a zQ;have:(u == 0)=false:=by simp only[beq_eq_false_iff_ne];omega
  simp only[r,this,K,Bool.false_and,Bool.or_false]
 have c:=uU (show ∀k,a2j (zQ x u) m k->zV (zQ x u) u (itU k (zQ x u)) from λk D=>.inr ⟨o,k,by rw[f];exact d ▸ D,by rw[f]⟩);clear o f z a d;go_in;go_wp21;go_quiet (fail);go_wp21;refine(a4f m ((j.wide (show C<=C+16000 by omega)).ext (Ext.drewN (hO _) nq)) F S v q (Ext.drewN n nq)).mono ?_;rintro e H ⟨k,rfl,i,g,l⟩;go_wp21;go_end0;exact⟨_,rfl,uH c k i,g,l⟩
theorem errV_no{cd:Int}(h:cd≠0):b5v cd=.iface 156 (.agg #[iv cd]):=if_neg h
theorem b1d(b a:Int)(w:World)(c:w.cell? (aA 0 0)=some (rty 123))(d:a≠0->b=0):
  Calls prog 86 #[iv b,b5v a] w λe w'=>e=.returned (tQ a b)/\Ext w w':=by
 by_cases h:a=0;rw[h];exact b7i b w;rw[errV_no h,d h];exact c4h 0 a w c
theorem SOq.poke{p p1:Inhabited uL}{cw:World}(o:Own p lo hi cw p1){w':World}(h:@SOq p1 C B w b x)(r:Nat)(hr:lo<=r/\r<hi)(rm:1<=x.M)(hn:w.cell? (aA r 2)=none)(g:uQ (λq=>q=r) w w'):@SOq p C B w' b x:=by
 have⟨Z,M,U,D,H,X,v,Q,A,J,S,n,L,V,E,T,O,N,F,P,K,a,h,i,k⟩:=h;have⟨G,_,_,j⟩:=h;have t:n≠r:=λe=>by
  have⟨⟨u,m⟩,_⟩:=G.lo.2.2.2 2 (by omega);rw[e,hn]at m;cases m
 have⟨I,Y⟩:=a3b (w:=cw) (q:=r) (by have:=o.h;omega);refine⟨Z,M,U,D,H,X,v,Q,A,J,S,n,L,V,E,T,O,N,F,P,K,a,SAt.far (z:=(@default uL p1).z) (z2:=(@default uL p).z) h g.size (λq d c=>g.block q d (λe=>?_)) (λ_ _ _=>rfl) (λq f d=>?_),i,k.1,b8v o.sub k.2⟩;obtain c|c:=c
 ·exact c (by rw[e];exact (j r I (by rw[o.z r,if_pos hr];exact Y)).1)
 exact t (c.symm.trans e);have⟨y,s⟩:=j q f (o.sub q f d);exact⟨y,(g.block q (a1t s) (λe=>by have:=o.l q f d;omega)).trans s⟩
theorem way_23[qd](h:SOq C B w b x)(hd:(default:uL).z bd=some (tK b 23 a p c n rv))(v:World)(hv:v.heap.size<=B)(hx:Ext v w):
  Calls prog 205 #[.pointer (some ⟨bd,0,none⟩)] w λe w'=>qW C B b x a p c n 23 v e w':=by
 have D:=uU (tH.of (h.obj hd));obtain⟨d0,d1,d2,d3,d4,d5,d6⟩:=uH D;obtain⟨⟨z9,c9⟩,⟨z10,c10⟩,fz,lo,hbw⟩:=h.boxN;have FN:=uU (show SOq (C+64000) B ((w.setCell ⟨b,9,none⟩ (iv p)).setCell ⟨b,10,none⟩ (iv c)).drew b (paceTo x p c)/\Ext v ((w.setCell ⟨b,9,none⟩ (iv p)).setCell ⟨b,10,none⟩ (iv c)).drew from⟨((h.pace p c).wide (by omega)).ext (eDr _),((hx.setCell (p:=⟨b,9,none⟩) (kA hv lo) _).setCell (p:=⟨b,10,none⟩) (kA hv lo) _).drew⟩);go_in;go_wp21;go_region;all_goals
  go_wp21;go_ret2;exact⟨_,0,0,rfl,⟨rfl,rfl,rfl⟩,FN.1,FN.2⟩
theorem way_4[qd](h:SOq C B w b x)(s:Snd x)(hd:(default:uL).z bd=some (tK b 4 a p c n rv))(ha:a<16)(hp:p<16)(v:World)(hv:v.heap.size<=B)(hx:Ext v w):
  Calls prog 188 #[.pointer (some ⟨bd,0,none⟩)] w λe w'=>qW C B b x a p c n 4 v e w':=by
 have D:=uU (tH.of (h.obj hd));obtain⟨br,kr,hr⟩:=h.B s;have R:=uU hr;obtain⟨d0,d1,d2,d3,d4,d5,d6⟩:=uH D;obtain⟨r0,r1,r2⟩:=hr.r a ha;obtain⟨s0,s1,s2⟩:=hr.r p hp;have QB:=uU (λW(xW:Ext w W)=>b9x (R.ext xW) (D.ext xW) hp);have f:=hr.f;have hb1:=cLt r0;have hbB:=hr.lo.1;have QA:=uU (λW(xW:Ext w W)=>a1w (R.ext xW) (D.ext xW) ha);have FN:=uU (show ∀W,Ext w W->SOq (C+64000) B (cQ W br (a*3) (x.r p)) b (regTo x a (x.r p))/\Ext v (cQ W br (a*3) (x.r p)) from λW xW=>⟨(hr.set W a (x.r p) xW ha).wide (by omega),(cE W br (a*3) (x.r p)).ext (hx.trans xW) (λq hq e=>by omega)⟩);unfold cQ at FN;go_in;go_wp21;refine(QA _ (hO w)).mono ?_;rintro e w5 ⟨rfl,x5⟩;go_wp21;refine(QB _ x5).mono ?_;rintro e w6 ⟨rfl,x6⟩;have x56:=x5.trans x6;have k0:=x56.keep r0;have k1:=x56.keep r1;have k2:=x56.keep r2;have l0:=x56.keep s0;have l1:=x56.keep s1;have l2:=x56.keep s2;have kf:=λm=>((cX x56).2 br m hb1).trans (f m)
 have F6:=uU (FN w6 x56);go_wp21;go_ret2;exact⟨_,0,0,rfl,⟨rfl,rfl,rfl⟩,F6.1,F6.2⟩
theorem way_13[qd]{C B:Nat}{w:World}{b bd:Nat}{x:Hp}{a p c:Nat}{n:Int}{rv:Value}(h:SOq C B w b x)(s:Snd x)(hd:(default:uL).z bd=some (tK b 13 a p c n rv))(ha:a<16)(hp:p<16)(v:World)(hx:Ext v w):
  Calls prog 195 #[.pointer (some ⟨bd,0,none⟩)] w λe w'=>qW C B b x a p c n 13 v e w':=by
 have D:=uU (tH.of (h.obj hd));obtain⟨br,kr,hr⟩:=h.B s;have R:=uU hr;have H:=uU (h.wide (show C<=C+64000 by omega));obtain⟨r0,r1,r2⟩:=hr.r a ha;obtain⟨s0,s1,s2⟩:=hr.r p hp;have QA:=uU (λW(xW:Ext w W)=>a1w (R.ext xW) (D.ext xW) ha);have QB:=uU (λW(xW:Ext w W)=>b9x (R.ext xW) (D.ext xW) hp);cases q:wdB (x.r a) (x.r p)
 ·have we:=λW=>wd_eq (x.r a) (x.r p) W
  rw[q]at we;have Q:=uU q;go_in;go_wp21;go_region_with (first|(go_at_call 222;refine(QA _ (by first|exact xwB|exact(eDr w))).mono ?_;rintro e wA ⟨rfl,xA⟩;have xwA:=kI (show Ext w _ from by first|exact xwB|exact(eDr w)) xA;have c0A:=xwA.keep r0;have c1A:=xwA.keep r1;have c2A:=xwA.keep r2)|(go_at_call 224;refine(QB _ (by first|exact xwA|exact(eDr w))).mono ?_;rintro e wB ⟨rfl,xB⟩;have xwB:=kI (show Ext w _ from by first|exact xwA|exact(eDr w)) xB;have c0B:=xwB.keep r0;have c1B:=xwB.keep r1;have c2B:=xwB.keep r2;have c3B:=xwB.keep s0;have c4B:=xwB.keep s1;have c5B:=xwB.keep s2));all_goals
   go_wp21;go_ret2;first
    | exact⟨x,0,0,rfl,⟨rfl,rfl,by rw[uH Q];rfl⟩,H.ext xwA,hx.trans xwA⟩
    | exact⟨x,0,0,rfl,⟨rfl,rfl,by rw[uH Q];rfl⟩,H.ext xwB,hx.trans xwB⟩
    | exact⟨x,0,0,rfl,⟨rfl,rfl,by rw[uH Q];rfl⟩,(H.ext xwA).ext (eDr _),(hx.trans xwA).drew⟩
    | exact⟨x,0,0,rfl,⟨rfl,rfl,by rw[uH Q];rfl⟩,(H.ext xwB).ext (eDr _),(hx.trans xwB).drew⟩
 have we:=λW=>wd_eq (x.r a) (x.r p) W
 rw[q]at we;have Q:=uU q;go_in;go_wp21;go_region_with (first|(go_at_call 222;refine(QA _ (by first|exact xwB|exact(eDr w))).mono ?_;rintro e wA ⟨rfl,xA⟩;have xwA:=kI (show Ext w _ from by first|exact xwB|exact(eDr w)) xA;have c0A:=xwA.keep r0;have c1A:=xwA.keep r1;have c2A:=xwA.keep r2)|(go_at_call 224;refine(QB _ (by first|exact xwA|exact(eDr w))).mono ?_;rintro e wB ⟨rfl,xB⟩;have xwB:=kI (show Ext w _ from by first|exact xwA|exact(eDr w)) xB;have c0B:=xwB.keep r0;have c1B:=xwB.keep r1;have c2B:=xwB.keep r2;have c3B:=xwB.keep s0;have c4B:=xwB.keep s1;have c5B:=xwB.keep s2));all_goals
  go_wp21;go_ret2;first
   | exact⟨x,0,1,rfl,⟨rfl,rfl,by rw[uH Q];rfl⟩,H.ext xwA,hx.trans xwA⟩
   | exact⟨x,0,1,rfl,⟨rfl,rfl,by rw[uH Q];rfl⟩,H.ext xwB,hx.trans xwB⟩
   | exact⟨x,0,1,rfl,⟨rfl,rfl,by rw[uH Q];rfl⟩,(H.ext xwA).ext (eDr _),(hx.trans xwA).drew⟩
   | exact⟨x,0,1,rfl,⟨rfl,rfl,by rw[uH Q];rfl⟩,(H.ext xwB).ext (eDr _),(hx.trans xwB).drew⟩
theorem d1g[p:qd](h:SOq C B w b x)(R:1<=k)(U:k<=24)(T:(n != 0)=false\/((n != 0)=true/\((k:Int) != 2)=false))(hr:(decide (0<=(a:Int)/\(a:Int)<=a7f k) && (decide (0<=(q:Int)/\(q:Int)<=kE k) && decide (0<=(c:Int)/\(c:Int)<=kW k)))=true)(v:World)(Z:Ext v w)(hg:v.cell? (aA 0 0)=some (rty 123))(X:∀y d f,DoR x a q c n y d f k->1<=y.M)(Y:∀p1,(∀m ob,(@default uL p).z m=some ob->(@default uL p1).z m=some ob)->d5g p1 C B b x a q c n k v):
  Calls prog 40 #[pP b,yU k a q c n] w λe w'=>∃(y:Hp)(d f:Int),Hid (e=.returned (tQ d f))/\Hid (DoR x a q c n y d f k)/\Hid (SOq (C+64000) B w' b y)/\Ext v w':=by
 have D:Ext w (ansW w k a q c n):=(eAl w _).alloc _;obtain⟨p1,l,L⟩:=SOq.enter h D;rw[b8x]at l;have QA:=uU (show Calls prog 87 #[pP b,yU k a q c n,a7x (w.heap.size+1+1+1) (w.heap.size+1+1)] ((((w.alloc (.cells #[iv k,iv a,iv q,iv c,iv n] 29)).alloc (.cells #[iv 0,iv 0] 35)).alloc (.cells #[pP b] 75)).alloc (.cells #[iv k,iv a,iv q,iv c,iv n] 29)).drew λe w'=>∃(y:Hp)(d f:Int),e=.returned (.tuple #[iv f,b5v d])/\Hid (DoR x a q c n y d f k)/\Hid (@SOq p1 (C+64000) B w' b y)/\Ext v w' from by
  obtain⟨V,K⟩:=obE (ansW w k a q c n);have sV:V.heap.size=w.heap.size+1+1:=by rw[K,b8x]
  show Calls _ _ _ (((ansW w k a q c n).alloc (c3z b)).alloc (c0j k a q c n)).drew _;rw[<-K,<-sV];rw[<-K]at L D;obtain⟨W,E⟩:=obE (((V.alloc (c3z b)).alloc (c0j k a q c n)).drew);have P:Ext V W:=by rw[E];exact((eAl V _).alloc _).drew
  have N:W.heap[V.heap.size+1]?=some (c0j k a q c n):=by
   rw[E];show(((V.heap.push _).push _)[V.heap.size+1]?)=_;rw[<-nD,nW]
  have O:W.heap[V.heap.size]?=some (c3z b):=by
   rw[E];show(((V.heap.push _).push _)[V.heap.size]?)=_;rw[Array.getElem?_push_lt (by rw[nD];omega),<-nE,nW]
  rw[<-E];obtain⟨t,A,g2⟩:=SOq.enter (p:=p1) L P;have l1:=a1t O;have l2:=a1t N;have z1:(@default uL t).z V.heap.size=some (c3z b):=by rw[A.z,if_pos ⟨by omega,l1⟩];exact O
  have z2:(@default uL t).z (V.heap.size+1)=some (c0j k a q c n):=by rw[A.z,if_pos ⟨by omega,l2⟩];exact N
  refine(c6o (p:=t) (w:=W) (a:=a) (q:=q) (c:=c) (n:=n) (k:=k) (ba:=V.heap.size+1) (bs:=V.heap.size) g2 R U T hr v (Z.trans (D.trans P)) (Y p1 l.sub t _ _ z2 z1 A.sub)).mono ?_;rintro e w' ⟨y,d,f,he,o,g4,i⟩;exact⟨y,d,f,he,o,SOq.less (p:=p1) (p1:=t) g4 A.sub,i⟩)
 have QR:=uU (λW=>b3k b k a q c n W);have BO:=uU (show ∀W z,@SOq p1 (C+64000) B W b z->W.heap[w.heap.size+1]?=some (.cells #[iv 0,iv 0] 35) from λW z s=>(SOq.own l s (w.heap.size+1) (by omega) (by omega)).trans (d5o w k a q c n));have BF:=uU (show ∀W z,@SOq p1 (C+64000) B W b z->∀j,W.frozen? (aA (w.heap.size+1) j)=false from λW z s j=>(fOb (w.heap.size+1) j (SOq.own l s (w.heap.size+1) (by omega) (by omega))).trans (by unfold ansW;simp[go_sem]));have PK:=uU (show ∀W J z,@SOq p1 (C+64000) B W b z->1<=z.M->W.cell? (aA (w.heap.size+1) 2)=none->uQ (λm=>m=w.heap.size+1) W J->@SOq p (C+64000) B J b z from λW J z s M hn on=>SOq.poke l s (w.heap.size+1) ⟨by omega,by omega⟩ M hn on);have HM:=uU X;have aa:=Z.size;go_in;go_wp21;go_region_with (first|(go_at_call 86;refine(b1d f d g H (λe=>o.nm e)).mono ?_;rintro e u ⟨rfl,i⟩;have Q:=λm=>((cX i).2 (w.heap.size+1) m (uZ u0)).trans (Q m);have u0:=i.keep u0;have u1:=i.keep u1;have F:=uU i)|(go_at_call 87;refine QA.mono ?_;rintro e g ⟨y,d,f,rfl,o,I,G⟩;have r:=uH BO g y I;have Q:=uH BF g y I;have u0:g.cell? (aA (w.heap.size+1) 0)=some (iv 0):=cell_of_row g _ 0 _ _ (0,0) r;have u1:g.cell? (aA (w.heap.size+1) 1)=some (iv 0):=cell_of_row g _ 1 _ _ (0,0) r;have u2:g.cell? (aA (w.heap.size+1) 2)=none:=cell_of_row g _ 2 _ _ (0,0) r;have H:=G.keep hg;have BX:=uU r;have X3:=uU G)|(go_at_call 88;refine(QR _).mono ?_;rintro e w2 ⟨rfl,rfl⟩));all_goals
  have u24:u.cell? (aA (w.heap.size+1) 2)=none:=(cOb (w.heap.size+1) 2 (F.block _ (a1t BX))).trans u2;have GF:=uU (PK u ((u.setCell (aA (w.heap.size+1) 0) (iv d)).setCell (aA (w.heap.size+1) 1) (iv f)) y (@SOq.ext _ _ _ _ _ p1 _ I F) (HM y d f o) u24 ((tE u (w.heap.size+1) 0 _).sc (w.heap.size+1) 1 rfl _));have XF:=uU (show Ext v ((u.setCell (aA (w.heap.size+1) 0) (iv d)).setCell (aA (w.heap.size+1) 1) (iv f)) from((X3.trans F).sc (w.heap.size+1) 0 (show v.heap.size<=w.heap.size+1 by omega) _).sc (w.heap.size+1) 1 (show v.heap.size<=w.heap.size+1 by omega) _);go_wp21;refine bodyPost_ret (v:=tQ d f) (by simp[results,results40,go_sem,u0,u1]) rfl ?_;exact⟨y,d,f,rfl,o,GF,XF⟩
theorem d1h(b:Nat)(op a q c n:Int)(w:World)(r:NoWay op a q c n)(B:w.cell? (aA 0 0)=some (rty 123)):
  Calls prog 40 #[pP b,yU op a q c n] w λe w'=>e=.returned (tQ 1 0)/\Ext w w':=by
 have t:=uU (λ(V:World) (r1 r2:Nat)=>c6p b r1 r2 op a q c n V r);have A:=uU (λW=>b3k b op a q c n W);obtain⟨V,g⟩:=obE (((((w.alloc (.cells #[iv op,iv a,iv q,iv c,iv n] 29)).alloc (.cells #[iv 0,iv 0] 35)).alloc (.cells #[pP b] 75)).alloc (.cells #[iv op,iv a,iv q,iv c,iv n] 29)).drew);have o:Ext w V:=by rw[g];exact((((eAl w _).alloc _).alloc _).alloc _).drew
 have j:V.cell? (aA (w.heap.size+1) 0)=some (iv 0):=by rw[g];simp[go_sem]
 have s:V.cell? (aA (w.heap.size+1) 1)=some (iv 0):=by rw[g];simp[go_sem]
 have y:∀m,V.frozen? (aA (w.heap.size+1) m)=false:=λm=>by rw[g];simp[go_sem]
 have i:w.heap.size+1<V.heap.size:=uZ j;have l:=uU o;go_in;go_wp21;go_region_with (first|(go_at_call 86;refine(b1d 0 1 z h (λ_=>rfl)).mono ?_;rintro e D ⟨rfl,f⟩;have k:=λm=>((cX f).2 (w.heap.size+1) m (uZ u0)).trans (k m);have u0:=f.keep u0;have u1:=f.keep u1;have x:=uU (u.trans f))|(go_at_call 87;rw[<-g];refine(t _ _ _).mono ?_;rintro e z ⟨rfl,d⟩;have k:=λm=>((cX d).2 (w.heap.size+1) m i).trans (y m);have u0:=d.keep j;have u1:=d.keep s;have h:=(l.trans d).keep B;have u:=uU (l.trans d))|(go_at_call 88;refine(A _).mono ?_;rintro e C ⟨rfl,rfl⟩));all_goals
  go_wp21;refine bodyPost_ret (v:=tQ 1 0) (by simp[results,results40,go_sem,u0,u1]) rfl ?_;exact⟨rfl,(x.sc (w.heap.size+1) 0 (show w.heap.size<=w.heap.size+1 by omega) _).sc (w.heap.size+1) 1 (show w.heap.size<=w.heap.size+1 by omega) _⟩
end Go.Proofs.YtolmnenlnpbcfaaGreatDoor
