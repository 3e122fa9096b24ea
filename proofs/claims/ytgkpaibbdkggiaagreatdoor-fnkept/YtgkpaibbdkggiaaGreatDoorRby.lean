import Derived.Test.YtgkpaibbdkggiaaGreatDoorPg
import Derived.OpenShut
import Derived.ProofKit
set_option maxRecDepth 100000
set_option maxHeartbeats 4000000
namespace Go.Proofs.YtgkpaibbdkggiaaGreatDoor
open Go.RowKit Tryz
attribute [local go_sem ↓] Go.wp_at_zero Go.wp_at_succ
variable{w w' W X:World}{c B g b m F lf k':Nat}{x:Hp}{z s s':Int}{S T:Nat->Prop}{r va:Value}
def HV(w:World)(x:Hp)(ar:Option Addr)(kr:Nat)(ac:Option Addr)(kc:Nat)(ag:Option Addr)(kg:Nat):Prop:=HRd w x ar kr ac kc ag kg/\a6a w x ac
structure Ak where
 op:Int
 a:Int
 b:Int
 c:Int
 n:Int
abbrev Ak.v(x:Ak):Value:=.agg #[iv x.op,iv x.a,iv x.b,iv x.c,iv x.n]
def fA(y:Ak):List Value:=[iv y.op,iv y.a,iv y.b,iv y.c,iv y.n]
structure Yt where
 n:Nat
 f:Nat->Int
 l:n<=1048576
 b:∀i,0<=f i/\f i<256
def Cu(Y:Yt)(v w:World)(c k:Nat)(s:Int):Prop:=uZ (λq=>q=c) v w/\Nf1 c w/\∃(ad:Option Addr)(p:Nat),w.cell? ⟨c,0,none⟩=some (.slice ad Y.n p)/\w.cell? ⟨c,1,none⟩=some (iv k)/\w.cell? ⟨c,2,none⟩=some (.int .u64 s)/\(∀i,i<Y.n->∃b o,ad=some ⟨b,o,none⟩/\b≠c/\v.cell? ⟨b,o+i,none⟩=some (.int .u8 (Y.f i)))/\v.cell? ⟨c,0,none⟩=some (.slice ad Y.n p)
theorem Cu.drew{Y:Yt}{v:World}{k:Nat}(h:Cu Y v w c k s):Cu Y v w.drew c k s:=by
 obtain⟨e,d,ad,p,g,b,f,r⟩:=h;exact⟨e.drew,d,ad,p,g,b,f,r⟩
theorem Cu.put1{Y:Yt}{v:World}{k:Nat}(h:Cu Y v w c k s)(i:Nat){j:Int}(u:j=i):Cu Y v (w.setCell (aA c 1) (iv j)) c i s:=by
 subst u; obtain⟨e,b,ad,p,g,d,f,r⟩:=h;exact⟨e.setCell (by rfl) _,b.set _ _,ad,p,by rw[uC _ (.inr (by omega))];exact g,yQ.same ⟨⟨_,d⟩,b.2 1⟩ _,by rw[uC _ (.inr (by omega))];exact f,r⟩
theorem Cu.put2{Y:Yt}{v:World}{k:Nat}(h:Cu Y v w c k s)(u:Int):Cu Y v (w.setCell (aA c 2) (.int .u64 u)) c k u:=by
 obtain⟨e,b,ad,p,g,d,f,r⟩:=h;exact⟨e.setCell (by rfl) _,b.set _ _,ad,p,by rw[uC _ (.inr (by omega))];exact g,by rw[uC _ (.inr (by omega))];exact d,yQ.same ⟨⟨_,f⟩,b.2 2⟩ _,r⟩
def Cv(Y:Yt)(v u w:World)(c k:Nat)(s:Int):Prop:=Cu Y v w c k s/\uZ (λq=>q=c) u w
structure Tc(Y:Yt)(k:Nat)(s:Int)(F:Nat)(x:List Value)(r:Value)(k':Nat)(s':Int):Prop where
 h:∀v w c,Cu Y v w c k s->Calls prog F (pP c::x).toArray w λe w'=>e=.returned r/\Hid (Cv Y v w w' c k' s')
theorem Tc.go{Y:Yt}{k:Nat}{x:List Value}{v u:World}(h:Hid (Cv Y v u w c k s))(t:Tc Y k s F x r k' s':=by with_reducible assumption):Calls prog F (pP c::x).toArray w λe w'=>e=.returned r/\Hid (Cv Y v u w' c k' s'):=(t.h v w c h.1).mono λ_ _ ⟨a,b⟩=>⟨a,b.1,h.2.trans b.2⟩
theorem Cu.v{Y:Yt}{v:World}{k:Nat}(h:Cu Y v w c k s):Hid (Cv Y v w w c k s):=⟨h,uZ.refl _ _⟩
theorem and255(x:Int)(n:Nat):0<=wrap64 (bits .and .u64 (IntKind.u64.wrap x / n) 255)/\wrap64 (bits .and .u64 (IntKind.u64.wrap x / n) 255)<256:=by
 have c:0<=IntKind.u64.wrap x/\IntKind.u64.wrap x<18446744073709551616:=by rw[IntKind.wrap_u64];omega
 obtain⟨k,a⟩:∃k:Nat,IntKind.u64.wrap x=k:=⟨(IntKind.u64.wrap x).toNat,by omega⟩;rw[a]at c ⊢;have e:((k:Int) / (n:Int))=((k / n:Nat):Int):=by simp
 have f:k / n<=k:=Nat.div_le_self _ _;have b:=bits_and_u64_nat (k / n) 255 (by omega) (by omega);rw[e,show(255:Int)=((255:Nat):Int) from rfl,b];have d:k / n &&& 255<=255:=Nat.and_le_right;unfold wrap64;omega
theorem d0z(Y:Yt)(k:Nat)(s:Int)(hk:k<=1000000000:=by omega):∃(r s':Int),0<=r/\r<256/\Tc Y k s 33 [] (iv r) (k+1) s':=by
 by_cases l:k<Y.n
 ·obtain⟨z0,z1⟩:=Y.b k;obtain⟨z,hz⟩:∃z,Hid (z=Y.f k):=⟨_,rfl⟩;rw[<-uH hz]at z0 z1;refine⟨z,IntKind.u64.wrap (IntKind.u64.wrap (IntKind.u64.wrap (s*6364136223846793005)+z)+1442695040888963407),z0,z1,⟨λv w c h=>?_⟩⟩;have H:=uU h;obtain⟨e,nf,ad,p,c0,c1,c2,hx,_⟩:=h;have hc:c<w.heap.size:=nf.1;have f1:=nf.2 1;have f2:=nf.2 2;obtain⟨b,o,rfl,hbc,hb⟩:=hx k l;rw[<-uH hz]at hb;have hb:=e.keep hbc hb;have hb2:b<w.heap.size:=uQ hb;have kl:(k:Int)<Y.n:=by omega
  have hn:=Y.l;clear hx e;go_in;go_wp21;go_region;go_wp21;go_region;go_wp21;go_ret;exact⟨rfl,⟨((H.put1 (k+1) (by omega)).put2 _).drew.drew,(((uZ.refl _ w).setCell (by rfl) _).setCell (by rfl) _).drew.drew⟩⟩
 have B:=and255 (IntKind.u64.wrap (s*6364136223846793005)+1442695040888963407) 1099511627776;refine⟨_,IntKind.u64.wrap (IntKind.u64.wrap (s*6364136223846793005)+1442695040888963407),B.1,B.2,⟨λv w c h=>?_⟩⟩;have H:=uU h;obtain⟨e,nf,ad,p,c0,c1,c2,hx,_⟩:=h;have hc:c<w.heap.size:=nf.1;have f1:=nf.2 1;have f2:=nf.2 2;have hl2:((k:Int)<(Y.n:Int))=False:=by simp;omega
 clear hx e;go_in;go_wp21;go_region;go_wp21;go_ret;exact⟨rfl,⟨((H.put2 _).put1 (k+1) (by omega)).drew,(((uZ.refl _ w).setCell (by rfl) _).setCell (by rfl) _).drew⟩⟩
theorem pick_d(Y:Yt)(k:Nat)(s:Int)(n:Int)(hk:k<=999999999)(hn:n<=1000000)(h1:-1000000<=n):∃(r:Int)(k':Nat)(s':Int),0<=r/\(r=0\/r<n)/\k'<=k+2/\Tc Y k s 12 [iv n] (iv r) k' s':=by
 by_cases hl:n<=1
 ·refine⟨0,k,s,by omega,by omega,by omega,⟨λv w c h=>?_⟩⟩;have e1:(n<=1)=True:=by simp[hl]
  have a:=h.v;go_in;go_wp21;go_ret;exact⟨rfl,a⟩
 obtain⟨z,s1,z0,z1,_⟩:=d0z Y k s;by_cases h2:n>200;obtain⟨y,s2,y0,y1,_⟩:=d0z Y (k+1) s1;refine⟨(z*256+y)%n,k+1+1,s2,Int.emod_nonneg _ (by omega),.inr (Int.emod_lt_of_pos _ (by omega)),by omega,⟨λv w c h=>?_⟩⟩;rotate_left;refine⟨z%n,k+1,s1,Int.emod_nonneg _ (by omega),.inr (Int.emod_lt_of_pos _ (by omega)),by omega,⟨λv w c h=>?_⟩⟩;all_goals
  have a:=h.v;go_in;go_wp2_with ((with_reducible refine(Tc.go a).mono ?_);rintro e l ⟨rfl,a⟩);go_ret;exact⟨rfl,a⟩
theorem cV(Y:Yt)(k:Nat)(s:Int)(n:Int)(hk:k<=999999999:=by omega)(hn:n<=1000000:=by omega)(h1:1<=n:=by omega):∃(r:Int)(k':Nat)(s':Int),0<=r/\r<n/\k'<=k+2/\Tc Y k s 12 [iv n] (iv r) k' s':=by
 obtain⟨r,k',s',a,b,c,d⟩:=pick_d Y k s n hk hn (by omega);exact⟨r,k',s',a,by omega,c,d⟩
theorem c6e(Y:Yt)(k:Nat)(s:Int)(hk:k<=99999999:=by omega):∃(r:Int)(k':Nat)(s':Int),(-9223372036854775808<=r/\r<=9223372036854775807)/\k'<=k+4/\Tc Y k s 42 [] (iv r) k' s':=by
 obtain⟨r,k1,s1,_,_,_,_⟩:=cV Y k s 6;have hr:r=0\/r=1\/r=2\/r=3\/r=4\/r=5:=by omega
 obtain rfl|rfl|rfl|rfl|rfl|rfl:=hr;obtain⟨z,k2,s2,_,_,_,_⟩:=cV Y k1 s1 3;refine⟨9223372036854775807-z,k2,s2,by omega,by omega,⟨λv w c h=>?_⟩⟩;rotate_left;obtain⟨z,k2,s2,_,_,_,_⟩:=cV Y k1 s1 3;refine⟨-9223372036854775808+z,k2,s2,by omega,by omega,⟨λv w c h=>?_⟩⟩;rotate_left;obtain⟨z,k2,s2,_,_,_,_⟩:=cV Y k1 s1 70000;refine⟨z-35000,k2,s2,by omega,by omega,⟨λv w c h=>?_⟩⟩;rotate_left;iterate 3 (obtain⟨z,k2,s2,_,_,_,_⟩:=cV Y k1 s1 12;refine⟨z-3,k2,s2,by omega,by omega,⟨λv w c h=>?_⟩⟩;rotate_left)
 all_goals
  have a:=h.v;go_in;go_wp2_with ((with_reducible refine(Tc.go a).mono ?_);rintro e l ⟨rfl,a⟩);go_ret;exact⟨rfl,a⟩
def GG(S:Nat->Prop)(B:Nat)(w:World)(g:Nat)(x:Hp):Prop:=∃z:Nat->Option Obj,(∀q,S q->∃o,z q=some o)/\@GOk ⟨⟨z⟩⟩ B w g x
theorem GOk.prt{p:Inhabited uL}(h:@GOk p B w g x){q:Nat}{o:Obj}(b:(@default uL p).z q=some o):w.heap[q]?=some o:=by
 obtain⟨n,f,i,e,c,d,m,l,k,j,a,h⟩:=h;exact(h.pr q o b).2
theorem GG.lt(h:GG S B w g x){q:Nat}(c:S q):q<w.heap.size:=by
 obtain⟨z,a,h⟩:=h;obtain⟨o,b⟩:=a q c;exact a1p (h.prt b)
theorem GG.call(h:GG S B w g x):∃p:Inhabited uL,@GOk p B w g x/\∀w' y,@GOk p B w' g y->GG S B w' g y/\∀q,S q->w'.heap[q]?=w.heap[q]?:=by
 obtain⟨z,a,h⟩:=h;refine⟨⟨⟨z⟩⟩,h,λw' y b=>⟨⟨z,a,b⟩,λq d=>?_⟩⟩;obtain⟨o,c⟩:=a q d;rw[b.prt c,h.prt c]
theorem GG.turn(h:GG S B w g x)(l:uZ S w w')(G:∀q,T q->S q\/(w.heap.size<=q/\q<w'.heap.size)):GG T B w' g x:=by
 obtain⟨z,m,F,s,D,n,v,y,u,t,E,C,d,h⟩:=h;have r:=h;obtain⟨_,_,_,_,_,_,_,_,_,j,_⟩:=r;refine⟨λq=>if w.heap.size<=q\/(z q).isSome then w'.heap[q]? else none,λq f=>?_,F,s,D,n,v,y,u,t,E,C,λq=>if w.heap.size<=q then 1 else d q,GAt.far h l.size (λq f p=>l.block q f (λe=>?_)) (λq f _=>if_neg (by omega)) (λq o f=>?_)⟩;obtain a|⟨a,b⟩:=G q f;obtain⟨o,i⟩:=m q a;simp only[i,Option.isSome_some,or_true,if_true];exact a2x (kF (a1p (j q o i).2) l.size);grind[a2x,GG];obtain⟨o,i⟩:=m q e;exact p (j q o i).1;split at f;rename_i c;refine⟨?_,f⟩;by_cases k:w.heap.size<=q
 ·exact if_pos k
 obtain⟨A,i⟩:=Option.isSome_iff_exists.1 (c.resolve_left k);show(if w.heap.size<=q then 1 else d q)=1;rw[if_neg k];exact(j q A i).1
 cases f
theorem GG.more(h:GG S B w g x)(e:Ext w w')(a:∀q,T q->S q\/(w.heap.size<=q/\q<w'.heap.size)):GG T B w' g x:=h.turn (uZ.of_ext e) a
theorem GG.poke{P:Nat->Prop}(h:GG S B w g x)(c:uZ P w w')(b:∀q,P q->S q):GG S B w' g x:=h.turn (c.mono b) (λ_ a=>.inl a)
theorem dE{o:Nat}(h:w'.heap[b]?=w.heap[b]?):w'.cell? (aA b o)=w.cell? (aA b o):=kT h
theorem a5m(h:Nf1 b w)(c:w'.heap[b]?=w.heap[b]?):Nf1 b w':=by
 obtain⟨o,d⟩:=a2x h.1;exact⟨a1p (c.trans d),λj=>by rw[mR (a:=(aA b j)) c];exact h.2 j⟩
def kL(w:World)(B:Nat):World:={w with heap:=w.heap.extract 0 B}
theorem kL.le(w:World)(B:Nat):(kL w B).heap.size<=B:=by simp[kL];omega
theorem kL.ext(w:World)(B:Nat):Ext (kL w B) w:=⟨rfl,rfl,rfl,by simp[kL];omega,λk h=>by simp[kL]at h ⊢;simp[h]⟩
theorem uZ.low{v:World}(o:uZ S v w)(m:v.heap.size<=B)(e:Ext (kL w B) w'):uZ S v w':=by
 have s:=o.size;have z:(kL w B).heap.size=min B w.heap.size:=by simp[kL]
 exact⟨e.os.trans o.os,e.tape.trans o.tape,e.output.trans o.output,by have:=e.size;omega,λk h n=>(e.block k (by omega)).trans (((kL.ext w B).block k (by omega)).symm.trans (o.block k h n))⟩
theorem uZ.pst{v:World}(h:uZ S v w)(o:uZ T w w')(k:∀q,T q->v.heap.size<=q):uZ S v w':=
 ⟨o.os.trans h.os,o.tape.trans h.tape,o.output.trans h.output,kA h.size o.size,λq a n=>(o.block q (kF a h.size) (λt=>by have:=k q t;omega)).trans (h.block q a n)⟩
theorem Cu.blk{v:World}{Y:Yt}(h:Cu Y v w c m z)(e:uZ (λq=>q=c) v w')(b:w'.heap[c]?=w.heap[c]?):Cu Y v w' c m z:=by
 obtain⟨_,d,ad,p,g,f,i,r⟩:=h;exact⟨e,a5m d b,ad,p,(dE b).trans g,(dE b).trans f,(dE b).trans i,r⟩
def a3a(x:Ak):Prop:=(-9223372036854775808<=x.op/\x.op<=9223372036854775807)/\(-9223372036854775808<=x.a/\x.a<=9223372036854775807)/\(-9223372036854775808<=x.b/\x.b<=9223372036854775807)/\(-9223372036854775808<=x.c/\x.c<=9223372036854775807)/\(-9223372036854775808<=x.n/\x.n<=9223372036854775807)
structure Bp(Y:Yt)(B:Nat)(v w:World)(b c g m:Nat)(z:Int)(x:Hp)(L:List Ak)(va:Value)(lf:Nat):Prop where
 s:Snd x
 hL:∀a,a∈L->a3a a
 hl:L.length+lf<=400
 cu:Cu Y v w c m z
 vB:v.heap.size<=B
 vb:v.heap.size<=b
 bc:b≠c
 nf:Nf1 b w
 b0:w.cell? ⟨b,0,none⟩=some (.pointer (some ⟨c,0,none⟩))
 b1:w.cell? ⟨b,1,none⟩=some (.pointer (some ⟨g,0,none⟩))
 b2:w.cell? ⟨b,2,none⟩=some va
 b3:w.cell? ⟨b,3,none⟩=some (iv lf)
 ow:w.ownsRow v.heap.size 29 5 va L.length (L.flatMap fA)
 n1:va.ownBlock≠some b
 n2:va.ownBlock≠some c
 gg:GG (λq=>q=b\/q=c\/va.ownBlock=some q) B w g x
structure Tx where
 k:Nat
 z:Int
 x:Hp
 L:List Ak
 lf:Nat
def Bd(Y:Yt)(B:Nat)(v w:World)(b c g:Nat)(T:Tx):Prop:=∃va,Bp Y B v w b c g T.k T.z T.x T.L va T.lf
theorem Bd.c0{Y:Yt}{v:World}{T:Tx}(h:Bd Y B v w b c g T):w.cell? (aA b 0)=some (pP c):=by
 obtain⟨_,h⟩:=h;exact h.b0
theorem Bd.c1{Y:Yt}{v:World}{T:Tx}(h:Bd Y B v w b c g T):w.cell? (aA b 1)=some (pP g):=by
 obtain⟨_,h⟩:=h;exact h.b1
theorem Bp.blk{Y:Yt}{v:World}{y:Hp}{L:List Ak}(h:Bp Y B v w b c g m z x L va lf)(e:uZ (λq=>q=c) v w')(s:Snd y)(f:GG (λq=>q=b\/q=c\/va.ownBlock=some q) B w' g y)(k:∀q,q=b\/q=c\/va.ownBlock=some q->w'.heap[q]?=w.heap[q]?):Bp Y B v w' b c g m z y L va lf:=by
 have a:=k b (.inl rfl);exact⟨s,h.hL,h.hl,h.cu.blk e (k c (.inr (.inl rfl))),h.vB,h.vb,h.bc,a5m h.nf a,(dE a).trans h.b0,(dE a).trans h.b1,(dE a).trans h.b2,(dE a).trans h.b3,uN h.ow (λq d=>k q (.inr (.inr d))),h.n1,h.n2,f⟩
theorem Bp.ext{Y:Yt}{v:World}{L:List Ak}(h:Bp Y B v w b c g m z x L va lf)(e:Ext w w'):Bp Y B v w' b c g m z x L va lf:=
 h.blk (h.cu.1.trans (uZ.of_ext e)) h.s (h.gg.more e (λ_ a=>.inl a)) (λq a=>e.block q (h.gg.lt a))
theorem Bd.ext{Y:Yt}{v:World}{T:Tx}(h:Bd Y B v w b c g T)(e:Ext w w'):Bd Y B v w' b c g T:=by
 obtain⟨a,h⟩:=h;exact⟨a,h.ext e⟩
theorem Bp.read{Y:Yt}{y:Int}{v:World}{k:Nat}{L:List Ak}(h:Bp Y B v w b c g m z x L va lf)(o:uZ (λq=>q=c) w w')(f:Cu Y v w' c k y):Bp Y B v w' b c g k y x L va lf:=by
 have a:w'.heap[b]?=w.heap[b]?:=o.block b h.nf.1 h.bc;exact⟨h.s,h.hL,h.hl,f,h.vB,h.vb,h.bc,a5m h.nf a,(dE a).trans h.b0,(dE a).trans h.b1,(dE a).trans h.b2,(dE a).trans h.b3,uN h.ow (λq d=>o.block q (h.ow.lt q d).2 (λe=>h.n2 (by rw[<-e];exact d))),h.n1,h.n2,h.gg.poke o (λ_ e=>.inr (.inl e))⟩
structure Tb(Y:Yt)(T:Tx)(F:Nat)(x:List Value)(r:Value)(U:Tx):Prop where
 h:∀B v w b c g,Bd Y B v w b c g T->Calls prog F (pP b::x).toArray w λe w'=>e=.returned r/\Hid (Bd Y B v w' b c g U)
structure Tk(Y:Yt)(T:Tx)(F:Nat)(x:List Value)(r:Value)(U:Tx):Prop where
 h:∀B v w b c g,Bd Y B v w b c g T->Calls prog F (pP c::x).toArray w λe w'=>e=.returned r/\Hid (Bd Y B v w' b c g U)
def Bq(Y:Yt)(B:Nat)(v w:World)(b c g:Nat)(T:Tx):Prop:=Hid (Bd Y B v w b c g T)/\w.cell? (aA b 0)=some (pP c)/\w.cell? (aA b 1)=some (pP g)/\w.cell? (aA g 5)=some (iv T.x.E)
theorem Bd.q{Y:Yt}{v:World}{T:Tx}(h:Bd Y B v w b c g T):Bq Y B v w b c g T:=⟨h,by obtain⟨_,h⟩:=h;obtain⟨_,j,_⟩:=h.gg.call;exact⟨h.b0,h.b1,j.box.2.2.1⟩⟩
theorem Tb.go{Y:Yt}{v:World}{T U:Tx}{x:List Value}(h:Hid (Bd Y B v w b c g T))(t:Tb Y T F x r U:=by with_reducible assumption):Calls prog F (pP b::x).toArray w λe w'=>e=.returned r/\Bq Y B v w' b c g U:=(t.h _ _ _ _ _ _ h).mono λ_ _ h=>⟨h.1,h.2.q⟩
theorem Tk.go{Y:Yt}{v:World}{T U:Tx}{x:List Value}(h:Hid (Bd Y B v w b c g T))(t:Tk Y T F x r U:=by with_reducible assumption):Calls prog F (pP c::x).toArray w λe w'=>e=.returned r/\Bq Y B v w' b c g U:=(t.h _ _ _ _ _ _ h).mono λ_ _ h=>⟨h.1,h.2.q⟩
def Ne(Y:Yt)(T:Tx):Prop:=∃B v w b c g,Bd Y B v w b c g T
theorem Tk.ne{Y:Yt}{T U:Tx}{x:List Value}(t:Tk Y T F x r U)(n:Ne Y T):Ne Y U:=by
 obtain⟨B,v,w,b,c,g,h⟩:=n;obtain⟨_,w',_,⟨_,i⟩,_⟩:=t.h B v w b c g h [];exact⟨B,v,w',b,c,g,i⟩
theorem Tc.k{Y:Yt}{T:Tx}{x:List Value}{k:Nat}(t:Tc Y T.k T.z F x r k z):Tk Y T F x r {T with k:=k,z:=z}:=⟨λ_ _ _ _ _ _ h=>by
 obtain⟨a,h⟩:=h;exact(t.h _ _ _ h.cu).mono λ_ _ ⟨e,f⟩=>⟨e,a,h.read f.2 f.1⟩⟩
theorem eY{Y:Yt}{T:Tx}(n:Int)(i:Ne Y T)(hk:T.k<=999999999:=by omega)(hn:n<=1000000:=by omega)(h1:1<=n:=by omega):∃(r:Int)(U:Tx),0<=r/\r<n/\U.k<=T.k+2/\Hid (U.x=T.x)/\Ne Y U/\Tk Y T 12 [iv n] (iv r) U:=by
 obtain⟨r,k,s,a,b,c,d⟩:=cV Y T.k T.z n hk hn h1;exact⟨r,{T with k:=k,z:=s},a,b,c,rfl,d.k.ne i,d.k⟩
theorem bwhole{Y:Yt}{T:Tx}(i:Ne Y T)(hk:T.k<=99999999:=by omega):∃(r:Int)(U:Tx),(-9223372036854775808<=r/\r<=9223372036854775807)/\U.k<=T.k+4/\Ne Y U/\Tk Y T 42 [] (iv r) U:=by
 obtain⟨r,k,s,a,b,d⟩:=c6e Y T.k T.z hk;exact⟨r,{T with k:=k,z:=s},a,b,d.k.ne i,d.k⟩
theorem Bp.left{Y:Yt}{v:World}{L:List Ak}{k:Nat}(h:Bp Y B v w b c g m z x L va lf)(f:k<=lf):Bp Y B v (w.setCell (aA b 3) (iv k)) b c g m z x L va k:=by
 have o:uZ (λq=>q=b) w (w.setCell (aA b 3) (iv k)):=(uZ.refl (λq=>q=b) w).setCell (p:=(aA b 3)) rfl _;have d:=o.block c h.cu.2.1.1 (λe=>h.bc e.symm);exact⟨h.s,h.hL,by have:=h.hl;omega,h.cu.blk (h.cu.1.pst o (λq e=>by have:=h.vb;omega)) d,h.vB,h.vb,h.bc,h.nf.set _ _,by rw[uC _ (.inr (by omega))];exact h.b0,by rw[uC _ (.inr (by omega))];exact h.b1,by rw[uC _ (.inr (by omega))];exact h.b2,yQ.same ⟨⟨_,h.b3⟩,h.nf.2 3⟩ _,uN h.ow (λq a=>o.block q (h.ow.lt q a).2 (λe=>h.n1 (by rw[<-e];exact a))),h.n1,h.n2,h.gg.poke o (λ_ e=>.inl e)⟩
structure AppA(base:Nat)(w0:World)(va:Value)(L:List Ak)(A:Ak)(q cap:Nat)(w':World):Prop where
 ow:w'.ownsRow base 29 5 (.slice (some ⟨q,0,none⟩) (L.length+1) cap) (L.length+1) ((L++[A]).flatMap fA)
 on:uZ (λr=>va.ownBlock=some r) w0 w'
 at_:va.ownBlock=some q\/w0.heap.size<=q
theorem Bp.push{Y:Yt}{v:World}{L:List Ak}{A:Ak}{q cap:Nat}(h:Bp Y B v w b c g m z x L va lf)(F:L.length+lf+1<=400)(E:a3a A)(a:AppA v.heap.size w va L A q cap w'):Bp Y B v (w'.setCell ⟨b,2,none⟩ (.slice (some ⟨q,0,none⟩) (L.length+1) cap)) b c g m z x (L++[A]) (.slice (some ⟨q,0,none⟩) (L.length+1) cap) lf:=by
 have i:=a.on.block b h.nf.1 h.n1;have t:=a.on.block c h.cu.2.1.1 h.n2;have D:q≠b:=λe=>by
  obtain f|f:=a.at_;exact h.n1 (by rw[f,e]);have:=h.nf.1;omega
 have z:q≠c:=λe=>by
  obtain f|f:=a.at_;exact h.n2 (by rw[f,e]);have:=h.cu.2.1.1;omega
 have n:=a5m h.nf i;have C:=h.cu.1.pst a.on (λr e=>(h.ow.lt r e).1);have o:uZ (λr=>r=b) w' (w'.setCell ⟨b,2,none⟩ (.slice (some ⟨q,0,none⟩) (L.length+1) cap)):=(uZ.refl (λq=>q=b) w').setCell (p:=⟨b,2,none⟩) rfl _;have l:=(o.block c (by have:=a.on.size;have:=h.cu.2.1.1;omega) (λe=>h.bc e.symm)).trans t;have j:(Value.slice (some ⟨q,0,none⟩) (L.length+1) cap).ownBlock=some q:=rfl;have k:=(a.ow.lt q j).2;refine⟨h.s,λy u=>?_,by simp;omega,h.cu.blk (C.pst o (λr e=>by have:=h.vb;omega)) l,h.vB,h.vb,h.bc,n.set _ _,?_,?_,?_,?_,?_,by rw[j];intro e;exact D (Option.some.inj e),by rw[j];intro e;exact z (Option.some.inj e),?_⟩;obtain e|e:=mD.1 u
 ·exact h.hL y e
 simp at e;subst e;exact E;rw[uC _ (.inr (by omega))];exact(dE i).trans h.b0;rw[uC _ (.inr (by omega))];exact(dE i).trans h.b1;exact yQ.same ⟨⟨_,(dE i).trans h.b2⟩,n.2 2⟩ _;rw[uC _ (.inr (by omega))];exact(dE i).trans h.b3;have:(L++[A]).length=L.length+1:=by simp
 rw[this];exact uN a.ow (λr d=>o.block r (a.ow.lt r d).2 (λe=>by rw[j]at d;have:=Option.some.inj d;omega));refine((h.gg.turn (T:=λr=>r=b\/r=c\/some q=some r) (a.on.mono λ_ e=>.inr (.inr e)) (λr d=>?_)).poke o (λ_ e=>.inl e));obtain e|e|e:=d
 ·exact .inl (.inl e)
 exact .inl (.inr (.inl e));have e:=Option.some.inj e;subst e;obtain f|f:=a.at_
 ·exact .inl (.inr (.inr f))
 exact .inr ⟨f,k⟩
def zw(n:Nat):Array Value:=Array.replicate n (iv 0)
theorem mk16(w:World):(Instr.makeSlice 23 (iv 16) (iv 16)).run prog w=.ok (sS w.heap.size 16 16) (w.alloc (.cells (zw 48) 48)):=by kernel_rfl
theorem c2d(n:Int)(w:World):Calls prog 92 #[.int .i64 n] w λe w'=>e=.returned (.pointer (some ⟨w.heap.size+1,0,none⟩))/\w'=(w.alloc (.cells (zw 48) 48)).alloc (.cells #[iv n,iv 0,iv 0,.slice (some ⟨w.heap.size,0,none⟩) 16 16,.slice none 0 0,iv 0,iv 0,iv 0,.slice none 0 0,iv 0,iv 0,iv 0,iv 0] 27):=by
 have hmk:=mk16;go_enter func92,ntmps92;go_wp2;go_ret;exact⟨rfl,rfl⟩
def frH(n:Int):Hp:=⟨n,0,0,List.replicate 16 ⟨0,0,0⟩,[],0,0,0,[],0,0,0,0⟩
theorem frH_snd(n:Int)(d:1<=n)(f:n<=4000):Snd (frH n):=by
 have b:(frH n).A=[]:=rfl;refine⟨⟨⟨d,f⟩,by simp[frH],by simp[frH];omega,by simp[frH],by simp[frH],by simp[frH],by simp[frH],by simp[frH],by simp[frH],by simp[frH],by simp[frH],by simp[frH]⟩,⟨λi a=>by simp[b]at a,λi a=>by simp[b]at a⟩,⟨by simp[frH,dZ],by simp[frH];omega⟩,⟨λi a=>?_,λi a=>by simp[b]at a⟩,⟨λ_=>rfl,λi a=>by simp[b]at a,λq c=>by simp[frH]at c⟩,⟨λ_=>⟨rfl,rfl⟩,λe=>by simp[frH]at e,λe=>by simp[frH]at e,λ_=>rfl⟩,λ_ i a=>by simp[b]at a,λi a=>by simp[b]at a⟩;have e:(frH n).B[i]=⟨0,0,0⟩:=List.eq_of_mem_replicate (n:=16) (k7 a);rw[e];exact⟨.inl ⟨rfl,rfl,rfl⟩,λh=>by cases h⟩
theorem Cu.ext{Y:Yt}{v:World}(h:Cu Y v w c m z)(e:Ext w w'):Cu Y v w' c m z:=h.blk (h.1.trans (uZ.of_ext e)) (e.block c h.2.1.1)
def oddL:List Int:=[-1,0,1,2,3,5,7,16,200,201,256,4000,4001,1000000000,1000000001]
theorem d3o(k:Nat)(hk:k<15):∃z:Int,-1<=z/\z<=1000000001/\∀(w:World)(t:TypeId),(w.alloc (.cells #[iv (-1),iv 0,iv 1,iv 2,iv 3,iv 5,iv 7,iv 16,iv 200,iv 201,iv 256,iv 4000,iv 4001,iv 1000000000,iv 1000000001] t)).cell? ⟨w.heap.size,k,none⟩=some (iv z):=by
 refine⟨oddL.getD k 0,?_⟩;obtain rfl|rfl|rfl|rfl|rfl|rfl|rfl|rfl|rfl|rfl|rfl|rfl|rfl|rfl|rfl:=(by omega:k=0\/k=1\/k=2\/k=3\/k=4\/k=5\/k=6\/k=7\/k=8\/k=9\/k=10\/k=11\/k=12\/k=13\/k=14)<;>exact⟨by decide,by decide,λw t=>by simp[go_sem,oddL]⟩
theorem odd_d(Y:Yt)(k:Nat)(s:Int)(hk:k<=99999999:=by omega):∃(r:Int)(k':Nat)(s':Int),-1<=r/\r<=1000000001/\k'<=k+2/\Tc Y k s 45 [] (iv r) k' s':=by
 obtain⟨r,k1,s1,_,_,_,t⟩:=cV Y k s 15;obtain⟨j,rfl⟩:=km ‹0<=r›;obtain⟨z,z0,z1,C⟩:=d3o j (by omega);refine⟨z,k1,s1,z0,z1,by omega,⟨λv w c h=>?_⟩⟩;have CU:=uU h;have hc:c<w.heap.size:=h.2.1.1;have jl:(j:Int)<15:=by omega
 have j0:(0:Int)<=j:=by omega
 go_in;go_wp21;obtain⟨W,hW⟩:=obE (w.alloc (.cells #[iv (-1),iv 0,iv 1,iv 2,iv 3,iv 5,iv 7,iv 16,iv 200,iv 201,iv 256,iv 4000,iv 4001,iv 1000000000,iv 1000000001] 3));have XA:Ext w W:=by rw[hW];exact(hO _).alloc _
 have cz:W.cell? ⟨w.heap.size,j,none⟩=some (iv z):=by rw[hW];exact C w _
 rw[<-hW];refine(Tc.go (F:=12) (CU.ext XA).v t).mono ?_;rintro e w2 ⟨rfl,a⟩;have cz:=a.2.keep (b:=w.heap.size) (λe=>by omega) cz;have hw2:w.heap.size<w2.heap.size:=uQ cz;have P:=uU (show Cv Y v w w2 c k1 s1 from⟨a.1,(uZ.of_ext XA).trans a.2⟩);go_wp21;go_ret;exact⟨rfl,P⟩
def ABx(w:World)(p:Nat)(A:Ak):Prop:=(w.cell? ⟨p,0,none⟩=some (iv A.op)/\w.cell? ⟨p,1,none⟩=some (iv A.a)/\w.cell? ⟨p,2,none⟩=some (iv A.b)/\w.cell? ⟨p,3,none⟩=some (iv A.c)/\w.cell? ⟨p,4,none⟩=some (iv A.n))/\∀j,w.frozen? ⟨p,j,none⟩=false
theorem ABx.new(w:World)(A:Ak)(t:TypeId):ABx (w.alloc (.cells #[iv A.op,iv A.a,iv A.b,iv A.c,iv A.n] t)) w.heap.size A:=⟨⟨by simp[go_sem],by simp[go_sem],by simp[go_sem],by simp[go_sem],by simp[go_sem]⟩,λj=>by simp[go_sem]⟩
theorem ABx.blk{p:Nat}{A:Ak}(h:ABx w p A)(e:w'.heap[p]?=w.heap[p]?):ABx w' p A:=by
 obtain⟨⟨b,i,c,g,d⟩,f⟩:=h;exact⟨⟨(dE e).trans b,(dE e).trans i,(dE e).trans c,(dE e).trans g,(dE e).trans d⟩,λj=>by rw[<-f j];exact mR (a:=(aA p j)) e⟩
theorem Cv.fin{Y:Yt}{v:World}(cu:Cv Y v w W c m z)(hc:c<w.heap.size)(hv:uZ (λq=>q=c) v w)(h:uZ (λq=>w.heap.size<=q) W X):Cv Y v w X c m z:=
 ⟨cu.1.blk (cu.1.1.pst h (λq e=>kA hv.size e)) (h.block c (kF hc cu.2.size) (by omega)),cu.2.pst h (λ_ e=>e)⟩
def Oa(Y:Yt)(v w W:World)(c k:Nat)(s:Int)(A:Ak):Prop:=Cu Y v W c k s/\uZ (λq=>q=c) w W/\ABx W w.heap.size A/\ABx W (w.heap.size+1) ⟨0,0,0,0,0⟩
theorem Oa.go{Y:Yt}{v:World}{k:Nat}{A:Ak}(h:Oa Y v w W c k s A)(hc:c<w.heap.size)(b:Cv Y v W X c k' s'):Hid (Oa Y v w X c k' s' A):=⟨b.1,h.2.1.trans b.2,h.2.2.1.blk (b.2.block _ (uQ h.2.2.1.1.1) (by show¬_=c;omega)),h.2.2.2.blk (b.2.block _ (uQ h.2.2.2.1.1) (by show¬_=c;omega))⟩
theorem d3q(Y:Yt)(k:Nat)(s:Int)(A:Ak)(hA:a3a A)(hk:k<=9999999):∃(C:Ak)(k':Nat)(s':Int),a3a C/\k'<=k+10/\Tc Y k s 18 [A.v] C.v k' s':=by
 obtain⟨z,k1,s1,_,_,_,_⟩:=odd_d Y k s;obtain⟨r,k2,s2,_,_,_,_⟩:=cV Y k1 s1 6;have hr:r=0\/r=1\/r=2\/r=3\/r=4\/r=5:=by omega
 obtain⟨a1,a2,a3,a4,a5⟩:=hA;obtain rfl|rfl|rfl|rfl|rfl|rfl:=hr;obtain⟨y,k3,s3,_,_,_,_⟩:=cV Y k2 s2 27;refine⟨⟨y-1,A.a,A.b,A.c,A.n⟩,k3,s3,by simp only[a3a];omega,by omega,⟨λv w c h=>?_⟩⟩;rotate_left;refine⟨⟨A.op,z,A.b,A.c,A.n⟩,k2,s2,by simp only[a3a];omega,by omega,⟨λv w c h=>?_⟩⟩;rotate_left;refine⟨⟨A.op,A.a,z,A.c,A.n⟩,k2,s2,by simp only[a3a];omega,by omega,⟨λv w c h=>?_⟩⟩;rotate_left;refine⟨⟨A.op,A.a,A.b,z,A.n⟩,k2,s2,by simp only[a3a];omega,by omega,⟨λv w c h=>?_⟩⟩;rotate_left;refine⟨⟨A.op,A.a,A.b,A.c,z⟩,k2,s2,by simp only[a3a];omega,by omega,⟨λv w c h=>?_⟩⟩;rotate_left;obtain⟨y,k3,s3,_,_,_,_⟩:=cV Y k2 s2 300;refine⟨⟨A.op,A.a,A.b,y,A.n⟩,k3,s3,by simp only[a3a];omega,by omega,⟨λv w c h=>?_⟩⟩;rotate_left;all_goals
  have hc:c<w.heap.size:=h.2.1.1;have VW:=uU h.1;go_in;go_wp21;obtain⟨W,hW⟩:=obE ((w.alloc (.cells #[iv A.op,iv A.a,iv A.b,iv A.c,iv A.n] 29)).alloc (.cells #[iv 0,iv 0,iv 0,iv 0,iv 0] 29));have a:=uU (show Oa Y v w W c k s A by
   rw[hW];exact⟨h.ext (((hO _).alloc _).alloc _),uZ.of_ext (((hO _).alloc _).alloc _),(ABx.new w A 29).blk (((hO _).alloc _).block _ (by simp)),by have:=ABx.new (w.alloc (.cells #[iv A.op,iv A.a,iv A.b,iv A.c,iv A.n] 29)) ⟨0,0,0,0,0⟩ 29;simpa using this⟩)
  rw[<-hW];go_wp2_with (first|(go_at_call 45;refine(Tc.go (F:=45) (uH a).1.v).mono ?_;rintro e l ⟨rfl,b⟩;have a:=(uH a).go hc (uH b);obtain⟨⟨p0,p1,p2,p3,p4⟩,fp⟩:=(uH a).2.2.1;obtain⟨⟨q0,q1,q2,q3,q4⟩,fq⟩:=(uH a).2.2.2)|(go_at_call 12;refine(Tc.go (F:=12) (uH a).1.v).mono ?_;rintro e l ⟨rfl,b⟩;have a:=(uH a).go hc (uH b);obtain⟨⟨p0,p1,p2,p3,p4⟩,fp⟩:=(uH a).2.2.1;obtain⟨⟨q0,q1,q2,q3,q4⟩,fq⟩:=(uH a).2.2.2));refine bodyPost_ret ?_ rfl ⟨rfl,?_⟩;simp[results,results18,go_sem, *];refine Cv.fin ⟨(uH a).1,(uH a).2.1⟩ hc (uH VW) ?_;repeat (first|(with_reducible refine uZ.setCell ?_ (by simp) _)|(with_reducible exact uZ.refl _ _))
def Wb(Y:Yt)(v w W:World)(c k:Nat)(s:Int):Prop:=Cu Y v W c k s/\uZ (λq=>q=c) w W/\(∃a b d,W.cell? (aA w.heap.size 0)=some a/\W.cell? (aA w.heap.size 1)=some b/\W.cell? (aA w.heap.size 2)=some d)/\Nf1 w.heap.size W
theorem Wb.go{Y:Yt}{v:World}{k:Nat}(h:Wb Y v w W c k s)(hc:c<w.heap.size)(b:Cv Y v W X c k' s'):Hid (Wb Y v w X c k' s'):=by
 have n:¬w.heap.size=c:=by omega
 obtain⟨_,o,⟨x,y,z,e,f,g⟩,i⟩:=h;exact⟨b.1,o.trans b.2,⟨x,y,z,b.2.keep n e,b.2.keep n f,b.2.keep n g⟩,uY i (b.2.block _ i.1 n) b.2.size⟩
theorem d3r(Y:Yt)(k:Nat)(s n:Int)(n0:0<=n)(n1:n<=900000)(hk:k<=9999999):∃(y:Wd)(k':Nat)(s':Int),k'<=k+8/\Tc Y k s 46 [iv n] y.v k' s':=by
 obtain⟨r,k1,s1,_,_,_,_⟩:=cV Y k s 8;have hr:r=0\/r=1\/r=2\/r=3\/r=4\/r=5\/r=6\/r=7:=by omega
 obtain rfl|rfl|rfl|rfl|rfl|rfl|rfl|rfl:=hr;obtain⟨p,k2,s2,_,_,_,_⟩:=cV Y k1 s1 5;obtain⟨q,k3,s3,_,_,_,_⟩:=cV Y k2 s2 2;obtain⟨r,k4,s4,_,_,_,_⟩:=cV Y k3 s3 3;refine⟨⟨p-1,q,r-1⟩,k4,s4,by omega,⟨λv w c h=>?_⟩⟩;rotate_left;obtain⟨p,k2,s2,_,_,_⟩:=c6e Y k1 s1;refine⟨⟨1,p,0⟩,k2,s2,by omega,⟨λv w c h=>?_⟩⟩;rotate_left;refine⟨⟨0,0,0⟩,k1,s1,by omega,⟨λv w c h=>?_⟩⟩;rotate_left;iterate 5 (obtain⟨p,k2,s2,_,_,_,_⟩:=cV Y k1 s1 (n+2);refine⟨⟨2,0,p-1⟩,k2,s2,by omega,⟨λv w c h=>?_⟩⟩;rotate_left)
 all_goals
  have hc:c<w.heap.size:=h.2.1.1;have VW:=uU h.1;go_in;go_wp21;obtain⟨W,hW⟩:=obE (w.alloc (.cells #[iv 0,iv 0,iv 0] 48));have a:=uU (show Wb Y v w W c k s by
   rw[hW];exact⟨h.ext (eAl w _),uZ.of_ext (eAl w _),⟨iv 0,iv 0,iv 0,by simp[go_sem],by simp[go_sem],by simp[go_sem]⟩,by simp[go_sem],λj=>by simp[go_sem]⟩)
  rw[<-hW];obtain⟨⟨x,y,z,e0,e1,e2⟩,lt,nf⟩:=(uH a).2.2;go_wp2_with (first|(go_at_call 12;refine(Tc.go (F:=12) (uH a).1.v).mono ?_;rintro e l ⟨rfl,b⟩;have a:=(uH a).go hc (uH b);obtain⟨⟨x,y,z,e0,e1,e2⟩,lt,nf⟩:=(uH a).2.2)|(go_at_call 42;refine(Tc.go (F:=42) (uH a).1.v).mono ?_;rintro e l ⟨rfl,b⟩;have a:=(uH a).go hc (uH b);obtain⟨⟨x,y,z,e0,e1,e2⟩,lt,nf⟩:=(uH a).2.2));refine bodyPost_ret ?_ rfl ⟨rfl,?_⟩;simp[results,results46,go_sem,Wd.v, *];refine Cv.fin ⟨(uH a).1,(uH a).2.1⟩ hc (uH VW) ?_;repeat (first|(with_reducible refine uZ.setCell ?_ (by simp) _)|(with_reducible exact uZ.refl _ _))
def c3c:List Value->Nat->List Value->List Value
 | xs,_,[]=>xs
 | xs,o,v::r=>c3c (xs.set o v) (o+1) r
theorem c7d{B:Nat}{T:TypeId}{c g n cap:Nat}:∀(vs:List Value)(o:Nat)(w:World)(xs:List Value),w.ownsRow B T c (.slice (some ⟨g,0,none⟩) n cap) n xs->(w.setCells g o vs).ownsRow B T c (.slice (some ⟨g,0,none⟩) n cap) n (c3c xs o vs)
 | [],_,_,_,h=>h
 | v::r,o,_,_,h=>c7d r (o+1) _ _ (h.stored o v).1
theorem c3d(r:List Value):∀(vs xs:List Value)(o:Nat),c3c (r++xs) (r.length+o) vs=r++c3c xs o vs
 | [],_,_=>rfl
 | v::q,xs,o=>by
  show c3c ((r++xs).set (r.length+o) v) (r.length+o+1) q=r++c3c (xs.set o v) (o+1) q;rw[List.set_append_right _ _ (by omega),Nat.add_sub_cancel_left,Nat.add_assoc];exact c3d r q _ _
theorem c7e(y:Ak):∀(M:List Ak)(i:Nat),i<M.length->c3c (M.flatMap fA) (i*5) (fA y)=(M.set i y).flatMap fA
 | m::M,0,_=>by simp[c3c,fA]
 | m::M,i+1,h=>by
  have e:(i+1)*5=(fA m).length+i*5:=by simp[fA];omega
  rw[nI,e,c3d,c7e y M i (by simpa using h),List.set_cons_succ,nI]
def ByAt(w:World)(v:Value):Prop:=∃(ad:Option Addr)(n k:Nat),v=.slice ad n k/\n<=1048576/\∀i,i<n->∃b o z,ad=some ⟨b,o,none⟩/\w.cell? ⟨b,o+i,none⟩=some (.int .u8 z)/\0<=z/\z<256
theorem c3q(xs:List Wd)(v s:Value)(w:World)(h:SlW w v xs)(I:SlW w s xs):
  Calls prog 24 #[v,s] w λe w'=>e=.returned (.bool true)/\Ext w w':=by
 obtain⟨L,C,rfl,K,f⟩:=h;obtain⟨z,q,rfl,_,c⟩:=I;have B:=uU f;have u:=uU c;go_enter func24,ntmps24;go_wp21;go_loopw [5,13] (λ_i i wr=>∃k:Nat,k<=xs.length/\i=iv k/\Ext w wr) (λ_ i _=>xs.length-(intOf i).toNat)
 case atStart=>exact⟨0,kB _,rfl,hO _⟩
 case round=>
  obtain⟨k,M,rfl,a⟩:=hrel;by_cases d:k<xs.length
  ·obtain⟨b,o,rfl,l,m,n⟩:=uH B k d;obtain⟨J,N,rfl,p,g,j⟩:=uH u k d;have F:=a.keep l;have E:=a.keep p;have G:=a.keep m;have x:=a.keep g;have H:=a.keep n;have A:=a.keep j;have D:(0:Int)<=(k:Int):=by omega
   have t:(k:Int)<(xs.length:Int):=by omega
   obtain⟨y,r⟩:=nM (xs[k]);rw[<-r]at F E G x H A;go_wp21;go_region;go_wp2;go_roundw
   ·exact⟨k+1,by omega,by go_num,a.drew⟩
   simp[intOf];omega
  go_wp2;go_ret;exact⟨rfl,a⟩
theorem c3r(xs:List Pr)(v B:Value)(w:World)(h:SlP w v xs)(U:SlP w B xs):
  Calls prog 25 #[v,B] w λe w'=>e=.returned (.bool true)/\Ext w w':=by
 obtain⟨X,M,rfl,W,g⟩:=h;obtain⟨G,x,rfl,_,c⟩:=U;have L:=uU g;have D:=uU c;go_enter func25,ntmps25;go_wp21;go_loopw [5,13] (λ_i i wr=>∃k:Nat,k<=xs.length/\i=iv k/\Ext w wr) (λ_ i _=>xs.length-(intOf i).toNat)
 case atStart=>exact⟨0,kB _,rfl,hO _⟩
 case round=>
  obtain⟨k,Y,rfl,a⟩:=hrel;by_cases d:k<xs.length
  ·obtain⟨b,o,rfl,m,r,s,p,q,f⟩:=uH L k d;obtain⟨V,Z,rfl,t,j,l,u,z,n⟩:=uH D k d;have Q:=a.keep m;have O:=a.keep t;have R:=a.keep r;have E:=a.keep j;have S:=a.keep s;have K:=a.keep l;have T:=a.keep p;have P:=a.keep u;have F:=a.keep q;have I:=a.keep z;have H:=a.keep f;have J:=a.keep n;have N:(0:Int)<=(k:Int):=by omega
   have C:(k:Int)<(xs.length:Int):=by omega
   obtain⟨y,A⟩:=nM (xs[k]);rw[<-A]at Q O R E S K T P F I H J;go_wp21;go_region;go_wp2;go_roundw
   ·exact⟨k+1,by omega,by go_num,a.drew⟩
   simp[intOf];omega
  go_wp2;go_ret;exact⟨rfl,a⟩
theorem c5w(xs:List Int)(v q:Value)(w:World)(h:SlI w v xs)(A:SlI w q xs):
  Calls prog 26 #[v,q] w λe w'=>e=.returned (.bool true)/\Ext w w':=by
 obtain⟨D,x,rfl,C,f⟩:=h;obtain⟨t,n,rfl,_,c⟩:=A;have u:=uU f;have s:=uU c;go_enter func26,ntmps26;go_wp21;go_loopw [5,13] (λ_i i wr=>∃k:Nat,k<=xs.length/\i=iv k/\Ext w wr) (λ_ i _=>xs.length-(intOf i).toNat)
 case atStart=>exact⟨0,kB _,rfl,hO _⟩
 case round=>
  obtain⟨k,E,rfl,a⟩:=hrel;by_cases d:k<xs.length
  ·obtain⟨b,o,rfl,g⟩:=uH u k d;obtain⟨B,F,rfl,m⟩:=uH s k d;have l:=a.keep g;have j:=a.keep m;simp only[Nat.mul_one]at l j;have z:(0:Int)<=(k:Int):=by omega
   have r:(k:Int)<(xs.length:Int):=by omega
   obtain⟨y,p⟩:=nM (xs[k]);rw[<-p]at l j;go_wp21;go_region;go_wp2;go_roundw
   ·exact⟨k+1,by omega,by go_num,a.drew⟩
   simp[intOf];omega
  go_wp2;go_ret;exact⟨rfl,a⟩
end Go.Proofs.YtgkpaibbdkggiaaGreatDoor
namespace Go.Proofs.YtgkpaibbdkggiaaGreatDoor
open Go.ChangeShapes Go.WideShapes Go.ChangeAt Go.RowKit Tryz
attribute [local go_sem ↓] Go.wp_at_zero Go.wp_at_succ
def ByL(w:World)(v:Value):Prop:=∃(ad:Option Addr)(n k:Nat),v=.slice ad n k/\n<=9223372036854775807/\∀i,i<n->∃b o z,ad=some ⟨b,o,none⟩/\w.cell? ⟨b,o+i,none⟩=some (.int .u8 z)/\0<=z/\z<256
theorem cells5:prog.cellsOf 5=1:=by kernel_rfl
theorem c3s{H:Type}{enc:TypeId×Value->H}{w:World}{base:Nat}{r:Reach}{b0:Nat}{held:Bool}{v:Value}{d:DataW H}{p:List MemPlace}(m:Value.okWide prog w r b0 22 v)(h:DataW.Trod enc prog w base (λ_=>true) held 22 v d p):ByL w v:=by
 obtain⟨ad,f,g,rfl⟩:=okWide_slice underlying22 m;obtain⟨q,s⟩:=h;obtain⟨hcs,_⟩|⟨a,len',cap',zs,hcs,_,hl,hm,hz,_,hcell,hwz⟩:=open_ints underlying22 underlying5 cells5 s;have e:Value.slice ad f g=.slice none 0 0:=by simpa[Value.cells]using hcs
 cases e;exact⟨none,0,0,rfl,by omega,λi u=>by omega⟩
 have e:Value.slice ad f g=.slice (some a) len' cap':=by simpa[Value.cells]using hcs
 cases e;simp only[if_true]at hz;refine⟨some a,f,g,rfl,by unfold maxLen at hm;omega,λi u=>?_⟩;have k:=hcell i (by omega);obtain⟨b,o,j⟩:=a
 have c:j=none:=by
  have t:=hcell 0 (by omega);simpa[Addr.add]using World.cell?_spot t
 subst c;rw[b3v]at k;obtain⟨z,l⟩:=nM (zs.getD i 0);have n:=hwz z (by grind[ByL]);rw[<-l]at k;refine⟨b,o,z,rfl,k,?_⟩;have n:IntKind.u8.min<=z/\z<=IntKind.u8.max:=by simpa[Lit.wf]using n
 have x:IntKind.u8.min=0:=by decide
 have y:IntKind.u8.max=255:=by decide
 omega
