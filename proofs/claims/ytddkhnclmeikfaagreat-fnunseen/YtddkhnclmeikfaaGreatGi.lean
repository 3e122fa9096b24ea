import Derived.Test.YtddkhnclmeikfaaGreatEh6
import Derived.Test.YtddkhnclmeikfaaGreatEi8
import Derived.Test.YtddkhnclmeikfaaGreatUnA
import Derived.Test.YtddkhnclmeikfaaGreatEo
set_option maxRecDepth 100000
set_option maxHeartbeats 4000000
namespace Go.Proofs.YtddkhnclmeikfaaGreat
open Go.RowKit Go.Proofs.Tryz
attribute [local go_sem ↓] Go.wp_at_zero Go.wp_at_succ
variable{B g b c m k:Nat}{v w:World}{x:Hp}
abbrev b9w[Inhabited uQ](B g:Nat)(x:Hp)(op a b c n:Int)(v:World)(e:Ending)(w':World):Prop:=∃(y:Hp) (cd nm:Int),Hid (e=.returned (eX cd nm))/\Hid (c2b x op a b c n y cd nm)/\Hid (GOk B w' g y)/\Ext v w'
theorem l5do_no[p:Inhabited uQ](B g:Nat)(x:Hp)(op a b c n:Int)(w:World)(h:GOk B w g x)(l:qL op a b c n=false)(v:World)(m:Ext v w):
  Calls prog 234 #[pP g,yQ op a b c n] w λe w'=>b9w B g x op a b c n v e w':=by
 obtain⟨C,o,z⟩:=GOk.enter h (w0:=doW w op a b c n) (((Ext.refl w).alloc _).alloc _);have y:=uU z;have k:=uU o;have u:=uU l;have j:=uU (λW=>a1n op a b c n W);rw[l] at j;have A:=uU (show v.heap.size<=w.heap.size+1 by have:=m.size;omega);have s:=uU (show Ext v (doW w op a b c n) from(m.alloc _).alloc _);go_enter func234,ntmps234;go_wp2_with fail;refine(j _).mono ?_;rintro e E ⟨rfl,i⟩;have q:=uU (s.trans i);have t:=uU (y.ext i);go_wp2_with fail;refine(a0m 1 _).mono ?_;rintro e D ⟨rfl,d⟩;have f:=uU (t.ext d);have r:=uU (q.trans d);obtain⟨u0,u1,u2,u3,u4,u5,u6,u7⟩:=f.boxes k;go_wp2;refine bodyPost_ret (v:=eX 1 0) (by simp [results,results234,go_sem,u5,u6]) rfl ?_;exact⟨x,1,0,rfl,.inl ⟨u,rfl,rfl,rfl⟩,GOk.done k f 1 0,dH r A 1 0⟩
theorem zN.is[Inhabited uQ]{a:Nat}{n:Int}{e:Ending}{w':World}(h:zN B g x a b c n k v e w')(o:qL (k:Int) a b c n=true):b9w B g x (k:Int) a b c n v e w':=by
 obtain⟨y,m,i,l,f,d,j⟩:=h;exact⟨y,m,i,l,.inr ⟨o,by simpa using uH f⟩,d,j⟩
theorem l5do_ok[p:Inhabited uQ](B g:Nat)(x:Hp)(a b c:Nat)(n:Int)(w:World)(h:GOk B w g x)(s:Snd x)(v:World)(hv:v.heap.size<=B)(hx:Ext v w):
  ∀k:Nat,1<=k->k<=24->qL (k:Int) a b c n=true->Calls prog 234 #[pP g,yQ (k:Int) a b c n] w λe w'=>zN B g x a b c n k v e w'
 | 0,h1,_,_=>absurd h1 (by omega)
 | 1,_,_,ok=>by have h9:=cL ok;simp [zJ,zQ,tU,tC] at h9;exact l5do_1 B g x a b c n w h s ok (by omega) (by omega) (by omega) v hv hx
 | 2,_,_,ok=>by have h9:=cL ok;simp [zJ,zQ,tU,zD,tC] at h9;exact a5q B g x 2 2 a b c n w (by simp) h s ok v hv hx (by omega) (by omega)
 | 3,_,_,ok=>by have h9:=cL ok;simp [zJ,zQ,tU,zD,tC] at h9;exact a5q B g x 3 3 a b c n w (by simp) h s ok v hv hx (by omega) (by omega)
 | 4,_,_,ok=>by have h9:=cL ok;simp [zJ,zQ,tU,zD,tC] at h9;exact a5q B g x 4 4 a b c n w (by simp) h s ok v hv hx (by omega) (by omega)
 | 5,_,_,ok=>by have h9:=cL ok;simp [zJ,zQ,tU,zD,tC] at h9;exact a1x B g x 5 5 a b c n w (by simp) h ok v hx (λ_ w1 G X=>d1h B g x a b c n w1 G s (by omega) (by omega) v hv X)
 | 6,_,_,ok=>by have h9:=cL ok;simp [zJ,zQ,tU,zD,tC] at h9;exact a1x B g x 6 6 a b c n w (by simp) h ok v hx (λ_ w1 G X=>d1i B g x a b c n w1 G s (by omega) (by omega) v hv X)
 | 7,_,_,ok=>by have h9:=cL ok;simp [zJ,zQ,tU,zD,tC] at h9;exact a1x B g x 7 7 a b c n w (by simp) h ok v hx (λ_ w1 G X=>d1j B g x a b c n w1 G s (by omega) (by omega) v hv X)
 | 8,_,_,ok=>by have h9:=cL ok;simp [zJ,zQ,tU,zD,tC] at h9;exact a1x B g x 8 8 a b c n w (by simp) h ok v hx (λ_ w1 G X=>d1k B g x a b c n w1 G s (by omega) (by omega) v hv X)
 | 9,_,_,ok=>by have h9:=cL ok;simp [zJ,zQ,tU,zD,tC] at h9;exact l5do_9 B g x a b c n w h s ok (by omega) (by omega) v hv hx
 | 10,_,_,ok=>by have h9:=cL ok;simp [zJ,zQ,tU,zD,tC] at h9;exact a1x B g x 10 10 a b c n w (by simp) h ok v hx (λ_ w1 G X=>a5s B g x 10 10 a b c n w1 G s (by omega) v X (λhk=>.inl ⟨hk,rfl,rfl,rfl⟩) (λhk=>a5r B g x 10 10 a b c n w1 (by simp) G s (by omega) hk v hv X))
 | 11,_,_,ok=>by have h9:=cL ok;simp [zJ,zQ,tU,zD,tC] at h9;exact a1x B g x 11 11 a b c n w (by simp) h ok v hx (λ_ w1 G X=>a5s B g x 11 11 a b c n w1 G s (by omega) v X (λhk=>.inl ⟨hk,rfl,rfl,rfl⟩) (λhk=>a5r B g x 11 11 a b c n w1 (by simp) G s (by omega) hk v hv X))
 | 12,_,_,ok=>by have h9:=cL ok;simp [zJ,zQ,tU,zD,tC] at h9;exact a1x B g x 12 12 a b c n w (by simp) h ok v hx (λ_ w1 G X=>a5s B g x 12 12 a b c n w1 G s (by omega) v X (λhk=>.inl ⟨hk,rfl,rfl,rfl⟩) (λhk=>a5r B g x 12 12 a b c n w1 (by simp) G s (by omega) hk v hv X))
 | 13,_,_,ok=>by have h9:=cL ok;simp [zJ,zQ,tU,zD,tC] at h9;exact a5q B g x 13 13 a b c n w (by simp) h s ok v hv hx (by omega) (by omega)
 | 14,_,_,ok=>by have h9:=cL ok;simp [zJ,zQ,tU,zD,tC] at h9;exact a5q B g x 14 14 a b c n w (by simp) h s ok v hv hx (by omega) (by omega)
 | 15,_,_,ok=>by have h9:=cL ok;simp [zJ,zQ,tU,zD,tC] at h9;exact a5q B g x 15 15 a b c n w (by simp) h s ok v hv hx (by omega) (by omega)
 | 16,_,_,ok=>by have h9:=cL ok;simp [zJ,zQ,tU,zD,tC] at h9;exact a1x B g x 16 16 a b c n w (by simp) h ok v hx (λ_ w1 G X=>a5s B g x 16 16 a b c n w1 G s (by omega) v X (λhk=>.inl ⟨hk,rfl,rfl,rfl⟩) (λhk=>a5r B g x 16 16 a b c n w1 (by simp) G s (by omega) hk v hv X))
 | 17,_,_,ok=>by have h9:=cL ok;simp [zJ,zQ,tU,zD,tC] at h9;exact a1x B g x 17 17 a b c n w (by simp) h ok v hx (λ_ w1 G X=>a5s B g x 17 17 a b c n w1 G s (by omega) v X (λhk=>.inl ⟨hk,rfl,rfl,rfl⟩) (λhk=>a5r B g x 17 17 a b c n w1 (by simp) G s (by omega) hk v hv X))
 | 18,_,_,ok=>by have h9:=cL ok;simp [zJ,zQ,tU,zD,tC] at h9;exact a6k B g x 18 18 a b c n w (by simp) h s ok v hv hx (by omega) (by omega)
 | 19,_,_,ok=>by have h9:=cL ok;simp [zJ,zQ,tU,zD,tC] at h9;exact a6k B g x 19 19 a b c n w (by simp) h s ok v hv hx (by omega) (by omega)
 | 20,_,_,ok=>by have h9:=cL ok;simp [zJ,zQ,tU,zD,tC] at h9;exact a6k B g x 20 20 a b c n w (by simp) h s ok v hv hx (by omega) (by omega)
 | 21,_,_,ok=>by have h9:=cL ok;simp [zJ,zQ,tU,zD,tC] at h9;exact a6k B g x 21 21 a b c n w (by simp) h s ok v hv hx (by omega) (by omega)
 | 22,_,_,ok=>by have h9:=cL ok;simp [zJ,zQ,tU,zD,tC] at h9;exact a6k B g x 22 22 a b c n w (by simp) h s ok v hv hx (by omega) (by omega)
 | 23,_,_,ok=>by have h9:=cL ok;simp [zJ,zQ,tU,zD,tC] at h9;exact a6k B g x 23 23 a b c n w (by simp) h s ok v hv hx (by omega) (by omega)
 | 24,_,_,ok=>by have h9:=cL ok;simp [zJ,zQ,tU,zD,tC] at h9;exact a6k B g x 24 24 a b c n w (by simp) h s ok v hv hx (by omega) (by omega)
 | k+25,_,h2,_=>absurd h2 (by omega)
theorem d2s[p:Inhabited uQ](B g:Nat)(x:Hp)(op a b c n:Int)(w:World)(h:GOk B w g x)(s:Snd x)(v:World)(j:v.heap.size<=B)(f:Ext v w):
  Calls prog 234 #[pP g,yQ op a b c n] w λe w'=>b9w B g x op a b c n v e w':=by
 cases d:qL op a b c n
 ·exact l5do_no B g x op a b c n w h d v f
 ·have l:=cL d;obtain⟨k,rfl⟩:∃k:Nat,op=k:=⟨op.toNat,by omega⟩;obtain⟨a,rfl⟩:∃k:Nat,a=k:=⟨a.toNat,by omega⟩;obtain⟨b,rfl⟩:∃k:Nat,b=k:=⟨b.toNat,by omega⟩;obtain⟨c,rfl⟩:∃k:Nat,c=k:=⟨c.toNat,by omega⟩;exact(l5do_ok B g x a b c n w h s v j f k (by omega) (by omega) d).mono λ_ _ i=>i.is d
theorem l5do_gg(S:Nat->Prop)(B:Nat)(v w:World)(g:Nat)(x:Hp)(A:Ak)(h:GG S B w g x)(s:Snd x)(m:v.heap.size<=B)(e:Ext v w):
  Calls prog 234 #[pP g,A.v] w λe w'=>∃(y:Hp) (u:Value),Hid (e=.returned u)/\Hid (Snd y)/\Hid (GG S B w' g y)/\Hid (∀q,S q->w'.heap[q]?=w.heap[q]?)/\Hid (Ext v w'):=by
 obtain⟨p,l,d⟩:=h.call;exact(d2s B g x A.op A.a A.b A.c A.n w l s v m e).mono λ_ _ ⟨y,o,r,i,k,f,j⟩=>⟨y,_,i,c2b.snd s k,(d _ _ f).1,(d _ _ f).2,j⟩
theorem infoA:(prog.info? 39).map (λi=>(i.zero,i.size,i.bytes))=some (some (.agg #[iv 0,iv 0,iv 0,iv 0,iv 0]),5,40):=by kernel_rfl
theorem c9e{ops:Array Oper}{o:Oper}{a:Act}{K:Act->World->Prop}{Q:Exit->Act->World->Prop}{E:Prop}(W:World)(C:o.guard=none)(s y:Operand)
  (M:o.op=.call { callee:=.builtin .append,args:=#[s,y],argTypes:=#[23,23] })
      {L:List Ak} {va:Value} {lf:Nat} (h:Bp B v w b c g m x L va lf) (e:Ext w W) (A:Ak) (ad:Addr) (I:a.eval s=va) (H:a.eval y=.slice (some ad) 1 1) (N:∀j u,(fA A)[j]?=some u->W.cell? (ad.add j)=some u)
  (J:∀q cap w',AppA v.heap.size w va L A q cap w'->K (a.put o.dst (sS q (L.length+1) cap)) w') :
  if Region.wanted o (yielded ops a.tmps)=true then Oper.wp prog o a W K Q else E:=by
 obtain⟨G,t,p,r,l⟩:=info_parts infoA;have R:=h.hl;have O:=e.size;have P:=h.cu.1.size;refine step_append_lies (w:=W) C s y 23 M v.heap.size 39 G (.agg #[iv 0,iv 0,iv 0,iv 0,iv 0]) 5 40 underlying23 t p r l rfl (by decide) va L.length (L.flatMap fA) I (uN h.ow (λq i=>e.block q (h.ow.lt q i).2)) ad 1 1 (fA A) H rfl N (λu D=>?_) (by decide) (by unfold maxLen;omega) (by omega) (by omega) _ rfl (λq cap w' k d n F=>J q cap w' ⟨?_,?_,?_⟩)
 ·simp [fA] at D;rcases D with e | e | e | e | e <;> subst e <;> rfl
 ·rw[List.flatMap_append];simpa using k
 ·exact(uX.of_ext e).trans ⟨d.os,d.tape,d.output,d.size,λq i z=>d.block q i (λe=>z e.symm)⟩
 ·rcases n with f | f
  ·exact .inl f
  ·exact .inr (by omega)
theorem c2s(B:Nat)(v w:World)(b c g m:Nat)(A:Ak)(hA:AkFit A)(h:Bd B v w b c g m):
  Calls prog 195 #[pP b,A.v] w λe w'=>e=.returned (.tuple #[])/\Hid (Bd B v w' b c g m):=by
 obtain⟨x,L,U,f,h⟩:=h;have H:=uU h;have b3:=h.b3;have hb:b<w.heap.size:=h.nf.1;have f3:=h.nf.2 3;cases f with
 | zero=>
  have HE:=uU (λW (e:Ext w W)=>(⟨x,L,U,0,H.ext e⟩:Bd B v W b c g m));clear h;go_enter func195,ntmps195;go_wp2_with fail;refine bodyPost_ret (results_none rfl _ _ _) rfl ?_;exact⟨rfl,uH HE _ ((Ext.refl _).alloc _)⟩
 | succ f=>
  obtain⟨W,D⟩:∃W,W=(w.setCell (aA b 3) (iv f)).alloc (.cells #[iv A.op,iv A.a,iv A.b,iv A.c,iv A.n] 39):=⟨_,rfl⟩;have HW:=uU D;have d:=uU ((h.left (k:=f) (by omega)).ext ((Ext.refl _).alloc (.cells #[iv A.op,iv A.a,iv A.b,iv A.c,iv A.n] 39)));rw[<-D] at d;have HL:=uU (show L.length+f+1<=400 by have:=h.hl;omega);have ks:(w.setCell (aA b 3) (iv f)).heap.size=w.heap.size:=by simp [World.setCell]
  obtain⟨k,K⟩:∃k,k=w.heap.size:=⟨_,rfl⟩;have Z:=uU (show U.ownBlock≠some k from λe=>by have:=(h.ow.lt k e).2;omega);have kb:¬k=b:=by omega
  have AC:=uU (show W.cell? (aA k 0)=some (iv A.op)/\W.cell? (aA k 1)=some (iv A.a)/\W.cell? (aA k 2)=some (iv A.b)/\W.cell? (aA k 3)=some (iv A.c)/\W.cell? (aA k 4)=some (iv A.n) by
   rw[D,K,<-ks];simp [go_sem])
  clear h;have e1:((f+1:Nat):Int)-1=f:=by omega
  have lb:f<=400:=by have:=uH HL;omega
  go_enter func195,ntmps195;go_wp2_with fail;rw[<-D,<-K];have N:=d.b2;have g2:=d.nf.2 2;have R:b<W.heap.size:=uL N;obtain⟨Q,V,a2,a3,T⟩:=uH AC;have O:k<W.heap.size:=uL Q;clear b3 f3 hb D K e1 ks;go_region_law (refine c9e _ rfl _ _ rfl d (by first | exact(Ext.refl _).alloc _ | exact((Ext.refl _).alloc _).drew | exact(Ext.refl _).drew.alloc _) A _ (by first | rfl | simp [Act.eval,Act.put]) (by first | rfl | simp [Act.eval,Act.put];rfl) (World.news_of_block (cs:=#[iv A.op,iv A.a,iv A.b,iv A.c,iv A.n]) (by first | exact heap_alloc_new _ _ | simp)) ?_;intro q J X i;have C:=i.on.keep d.n1 N;have M:=(b0s d.nf (i.on.block b d.nf.1 d.n1)).2 2;have P:b<X.heap.size:=uL C;have S:=uU i;clear i)
  all_goals
   obtain⟨l,o⟩:∃l,l=X.setCell (aA b 2) (sS q (L.length+1) J):=⟨_,rfl⟩;have p:=uU (d.push HL hA S);have z:=uU (λ(j:Nat) (u:Value) (e:W.cell? (aA k j)=some u)=>show l.cell? (aA k j)=some u by rw[o,uC _ (.inl (λe=>kb e.symm))];exact S.on.keep Z e);rw[<-o] at p ⊢;have b0:=uH z _ _ Q;have b1:=uH z _ _ V;have b2:=uH z _ _ a2;have b3:=uH z _ _ a3;have b4:=uH z _ _ T;have c1:=p.b1;have aa:k<l.heap.size:=uL b0;have ab:b<l.heap.size:=uL c1;have QD:=uU (λW (e:Ext l W)=>l5do_gg _ B v W g x A (p.ext e).gg (p.ext e).s (p.ext e).vB (p.ext e).cu.1);have FI:=uU (λ(W t:World) (e:Ext l W) (y:Hp) (G:Snd y) (I:GG (λr=>r=b\/r=c\/some q=some r) B t g y) (E:∀r,r=b\/r=c\/some q=some r->t.heap[r]?=W.heap[r]?) (F:Ext v t)=>(⟨y,_,_,_,(p.ext e).blk F G I E⟩:Bd B v t b c g m));clear Q V a2 a3 T N g2 R O C M P o z S AC Z;go_wp2_with fail;go_region_with (go_at_call 234;refine(QD _ (by first | exact Ext.refl _ | exact(Ext.refl _).drew)).mono ?_;rintro e t ⟨y,u,Y,G,I,E,F⟩;have e2:=uH Y;subst e2;have BD:=uU (FI _ t (by first | exact Ext.refl _ | exact(Ext.refl _).drew) y G I E F);clear Y G I E F)
   all_goals
    go_wp2_with fail
    go_end0
    first | exact⟨rfl,BD⟩ | exact⟨rfl,BD.ext (Ext.refl _).drew⟩
theorem a1m(B:Nat)(v w:World)(b c g m:Nat)(op x y z:Int)(j:0<=op/\op<=100)(f:-1000000000<=x/\x<=1000000000)(i:-1000000000<=y/\y<=1000000000)(d:-1000000000<=z/\z<=1000000000)(h:Bd B v w b c g m):
  Calls prog 194 #[pP b,iv op,iv x,iv y,iv z] w λe w'=>e=.returned (.tuple #[])/\Hid (Bd B v w' b c g m):=by
 have Q:=uU (c2s B v w b c g m ⟨op,x,y,z,0⟩ (by refine⟨?_,?_,?_,?_,?_⟩ <;> simp only <;> omega) h);go_enter func194,ntmps194;go_wp2_with fail;refine Q.mono ?_;rintro e w' ⟨rfl,a⟩;go_wp2_with fail
 go_end0
 exact⟨rfl,a⟩
theorem Bd.more(h:Bd B v w b c g m)(a:m<=k):Bd B v w b c g k:=h.read (uX.refl _ _) (h.cu.more a)
theorem d2t(B:Nat)(v w:World)(b c g m:Nat)(f:Nat)(E:f<16)(h:Bd B v w b c g m):
  Calls prog 198 #[pP b,iv f] w λe w'=>b2d B v b c g m 201 e w':=by
 have y:=uU (λW (e:Ext w W)=>h.ext e);have S:=h.c1;obtain⟨x,L,T,Z,h⟩:=h;obtain⟨p,j,_⟩:=h.gg.call;obtain⟨Y,U,l⟩:=j.B h.s.r1.B;have P:b<w.heap.size:=h.nf.1;have M:=l.c3;obtain⟨I,V,u⟩:=l.r f E;have K:g<w.heap.size:=uL M;have F:(0:Int)<=(f:Int):=by omega
 have H:(f:Int)<16:=by omega
 by_cases d:(x.r f).k=2
 ·obtain⟨_,z,q,_,_⟩:=h.s.at f E d;obtain⟨G,Q,R,X,o⟩:=j.cel (x.at f) q;have c4:=o.c4;have t:=o.p7;have a:=uU (h.s.ok.p200 (x.at f) q);have O:G<w.heap.size:=uL t;obtain⟨n,C⟩:∃n,n=(x.c (x.at f)).F.length:=⟨_,rfl⟩;rw[<-C] at t a;rw[d] at I;rw[z] at u;obtain⟨i,D⟩:∃i,i=x.at f:=⟨_,rfl⟩;rw[<-D] at u q t;have N:(0:Int)<=(i:Int):=by omega
  have J:(i:Int)<(x.A.length:Int):=by omega
  have A:n<=200:=uH a;clear l o j h d z C D a;go_enter func198,ntmps198;go_wp2_with fail
  go_region
  go_wp2_with fail;go_ret;exact⟨_,rfl,by omega,by omega,uH y _ ((Ext.refl _).alloc _).drew⟩
 ·have k3:((x.r f).k != 2)=true:=by simpa using d
  clear l j h d;go_enter func198,ntmps198;go_wp2_with fail;go_ret;exact⟨_,rfl,by omega,by omega,uH y _ ((Ext.refl _).alloc _)⟩
theorem bpairof(B:Nat)(v w:World)(b c g m:Nat)(f:Nat)(p:f<16)(h:Bd B v w b c g m)(y:m<=99999999):
  Calls prog 197 #[pP b,iv f] w λe w'=>b2d B v b c g (m+4) 201 e w':=by
 have Q:=uU (d2t B v w b c g m f p h);go_enter func197,ntmps197;go_wp2_with fail;refine Q.mono ?_;rintro e j ⟨n,d,x,u,a⟩;have i:=uH d;subst i;have l:=a.c0;cases t:(n == 0)
 ·have o:1<=n:=by simp at t;omega
  go_wp2_with (go_at_call 54;refine(zK B v _ b c g _ _ a (by omega) (by omega) (by omega)).mono ?_;rintro e j ⟨r,d,q,s,k⟩;have i:=uH d;subst i;have a:=k;have l:=a.c0)
  all_goals
   go_ret;exact⟨_,rfl,by omega,by omega,a.more (by omega)⟩
 ·go_wp2;go_ret;exact⟨_,rfl,by omega,by omega,a.more (by omega)⟩
theorem bsize(B:Nat)(v w:World)(b c g m:Nat)(h:Bd B v w b c g m)(o:m<=99999999):
  Calls prog 193 #[pP b] w λe w'=>b2d B v b c g (m+4) 201 e w':=by
 have a:=uU h;have j:=h.c0;go_enter func193,ntmps193;go_wp2_with (go_at_call 54;refine(zK B v _ b c g _ _ a (by omega) (by omega) (by omega)).mono ?_;rintro e l ⟨r,f,k,n,d⟩;have i:=uH f;subst i;have a:=d;have j:=a.c0)
 all_goals
  go_ret;exact⟨_,rfl,by omega,by omega,a.more (by omega)⟩
theorem a9e(B:Nat)(v w:World)(b c g m:Nat)(h:Bd B v w b c g m)(o:m<=99999999):
  Calls prog 156 #[pP b] w λe w'=>e=.returned (.tuple #[])/\Hid (Bd B v w' b c g (m+6)):=by
 have a:=uU h;have f:=h.c0;go_enter func156,ntmps156;go_wp2_with (first | (go_at_call 54;refine(zK B v _ b c g _ _ a (by omega) (by omega) (by omega)).mono ?_;rintro e i ⟨r,j,l,n,d⟩;have k:=uH j;subst k;have a:=d;have f:=a.c0) | (go_at_call 194;refine(a1m B v _ b c g _ _ _ _ _ (by omega) (by omega) (by omega) (by omega) a).mono ?_;rintro e i ⟨rfl,d⟩;have a:=d;have f:=a.c0))
 all_goals
  go_end0
  exact⟨rfl,a.more (by omega)⟩
theorem bpairsI(B:Nat)(v w:World)(b c g m:Nat)(f:Int)(d:0<=f)(a:f<16)(h:Bd B v w b c g m):
  Calls prog 198 #[pP b,iv f] w λe w'=>b2d B v b c g m 201 e w':=by
 obtain⟨k,rfl⟩:∃k:Nat,f=k:=⟨f.toNat,by omega⟩;exact d2t B v w b c g m k (by omega) h
theorem c2t(B:Nat)(v w:World)(b c g m:Nat)(f:Int)(i:0<=f)(d:f<16)(h:Bd B v w b c g m)(a:m<=99999999):
  Calls prog 197 #[pP b,iv f] w λe w'=>b2d B v b c g (m+4) 201 e w':=by
 obtain⟨k,rfl⟩:∃k:Nat,f=k:=⟨f.toNat,by omega⟩;exact bpairof B v w b c g m k (by omega) h a
theorem emitI(B:Nat)(v w:World)(b c g m:Nat)(op x y z n:Int)(j:0<=op/\op<=100)(a:0<=x/\x<=100)(d:0<=y/\y<=100)(f:0<=z/\z<=100)(i:-9223372036854775808<=n/\n<=9223372036854775807)(h:Bd B v w b c g m):
  Calls prog 195 #[pP b,.agg #[iv op,iv x,iv y,iv z,iv n]] w λe w'=>e=.returned (.tuple #[])/\Hid (Bd B v w' b c g m):=
 c2s B v w b c g m ⟨op,x,y,z,n⟩ (by refine⟨?_,?_,?_,?_,?_⟩ <;> simp only <;> omega) h
theorem bact(B:Nat)(v w:World)(b c g m:Nat)(h:Bd B v w b c g m)(o:m<=9999999):
  Calls prog 117 #[pP b] w λe w'=>e=.returned (.tuple #[])/\Hid (Bd B v w' b c g (m+14)):=by
 have a:=uU h;have j:=h.c0;go_enter func117,ntmps117;go_wp2_with (first | (go_at_call 54;refine(zK B v _ b c g _ _ a (by omega) (by omega) (by omega)).mono ?_;rintro e k ⟨r,f,l,n,d⟩;have i:=uH f;subst i;have a:=d;have j:=a.c0) | (go_at_call 194;refine(a1m B v _ b c g _ _ _ _ _ (by omega) (by omega) (by omega) (by omega) a).mono ?_;rintro e k ⟨rfl,d⟩;have a:=d;have j:=a.c0) | (go_at_call 193;refine(bsize B v _ b c g _ a (by omega)).mono ?_;rintro e k ⟨r,f,l,n,d⟩;have i:=uH f;subst i;have a:=d;have j:=a.c0) | (go_at_call 197;refine(c2t B v _ b c g _ _ (by omega) (by omega) a (by omega)).mono ?_;rintro e k ⟨r,f,l,n,d⟩;have i:=uH f;subst i;have a:=d;have j:=a.c0) | (go_at_call 198;refine(bpairsI B v _ b c g _ _ (by omega) (by omega) a).mono ?_;rintro e k ⟨r,f,l,n,d⟩;have i:=uH f;subst i;have a:=d;have j:=a.c0) | (go_at_call 196;refine(bwhole B v _ b c g _ a (by omega)).mono ?_;rintro e k ⟨r,f,l,d⟩;have i:=uH f;subst i;have a:=d;have j:=a.c0) | (go_at_call 195;refine(emitI B v _ b c g _ _ _ _ _ _ (by omega) (by omega) (by omega) (by omega) (by omega) a).mono ?_;rintro e k ⟨rfl,d⟩;have a:=d;have j:=a.c0))
 all_goals
  go_end0
  exact⟨rfl,a.more (by omega)⟩
theorem bchain(B:Nat)(v w:World)(b c g m:Nat)(n:Int)(h:Bd B v w b c g m)(u:m<=9999999)(y:0<=n)(x:n<=5):
  Calls prog 152 #[pP b,iv n] w λe w'=>e=.returned (.tuple #[])/\Hid (Bd B v w' b c g (m+100)):=by
 have a:=uU h;have f:=h.c0;go_enter func152,ntmps152;go_wp2_with (first | (go_at_call 54;refine(zK B v _ b c g _ _ a (by omega) (by omega) (by omega)).mono ?_;rintro e j ⟨r,l,p,q,d⟩;have o:=uH l;subst o;have a:=d;have f:=a.c0) | (go_at_call 194;refine(a1m B v _ b c g _ _ _ _ _ (by omega) (by omega) (by omega) (by omega) a).mono ?_;rintro e j ⟨rfl,d⟩;have a:=d;have f:=a.c0));go_loopw [4] (λi wr=>∃k:Nat,(k:Int)<=n/\i=iv k/\Hid (Bd B v wr b c g (m+4+k*12))) (λi _=>(n-intOf i).toNat)
 case atStart=>exact⟨0,by omega,rfl,a.more (by omega)⟩
 case round=>
  obtain⟨k,t,rfl,a⟩:=hrel;have f:=a.c0;by_cases s:(k:Int)<n
  ·go_wp2_with (first | (go_at_call 54;refine(zK B v _ b c g _ _ a (by omega) (by omega) (by omega)).mono ?_;rintro e j ⟨r,l,p,q,d⟩;have o:=uH l;subst o;have a:=d;have f:=a.c0) | (go_at_call 194;refine(a1m B v _ b c g _ _ _ _ _ (by omega) (by omega) (by omega) (by omega) a).mono ?_;rintro e j ⟨rfl,d⟩;have a:=d;have f:=a.c0) | (go_at_call 156;refine(a9e B v _ b c g _ a (by omega)).mono ?_;rintro e j ⟨rfl,d⟩;have a:=d;have f:=a.c0))
   all_goals
    go_roundw
    ·exact⟨k+1,by omega,by go_num,a.more (by omega)⟩
    ·simp [intOf];omega
  ·go_wp2_with (first | (go_at_call 54;refine(zK B v _ b c g _ _ a (by omega) (by omega) (by omega)).mono ?_;rintro e j ⟨r,l,p,q,d⟩;have o:=uH l;subst o;have a:=d;have f:=a.c0) | (go_at_call 194;refine(a1m B v _ b c g _ _ _ _ _ (by omega) (by omega) (by omega) (by omega) a).mono ?_;rintro e j ⟨rfl,d⟩;have a:=d;have f:=a.c0))
   all_goals
    go_end0
    exact⟨rfl,a.more (by omega)⟩
theorem bweakly(B:Nat)(v w:World)(b c g m:Nat)(h:Bd B v w b c g m)(y:m<=9999999):
  Calls prog 153 #[pP b] w λe w'=>e=.returned (.tuple #[])/\Hid (Bd B v w' b c g (m+100)):=by
 have a:=uU h;have f:=h.c0;go_enter func153,ntmps153;go_wp2_with fail;refine(zK B v _ b c g _ _ a (by omega) (by omega) (by omega)).mono ?_;rintro e l ⟨n,o,u,x,d⟩;have j:=uH o;subst j;have a:=d;have f:=a.c0;go_wp2_with (first | (go_at_call 54;refine(zK B v _ b c g _ _ a (by omega) (by omega) (by omega)).mono ?_;rintro e l ⟨r,o,p,q,d⟩;have j:=uH o;subst j;have a:=d;have f:=a.c0) | (go_at_call 194;refine(a1m B v _ b c g _ _ _ _ _ (by omega) (by omega) (by omega) (by omega) a).mono ?_;rintro e l ⟨rfl,d⟩;have a:=d;have f:=a.c0));go_loopw [3,4,5] (λi _x _y wr=>∃k:Nat,(k:Int)<=1+n/\i=iv k/\Hid (Bd B v wr b c g (m+8+k*20))) (λi _x _y _=>(1+n-intOf i).toNat)
 case atStart=>exact⟨0,by omega,rfl,a.more (by omega)⟩
 case round=>
  obtain⟨k,t,rfl,a⟩:=hrel;have f:=a.c0;by_cases s:(k:Int)<1+n
  ·go_wp2_with (first | (go_at_call 54;refine(zK B v _ b c g _ _ a (by omega) (by omega) (by omega)).mono ?_;rintro e l ⟨r,o,p,q,d⟩;have j:=uH o;subst j;have a:=d;have f:=a.c0) | (go_at_call 194;refine(a1m B v _ b c g _ _ _ _ _ (by omega) (by omega) (by omega) (by omega) a).mono ?_;rintro e l ⟨rfl,d⟩;have a:=d;have f:=a.c0) | (go_at_call 156;refine(a9e B v _ b c g _ a (by omega)).mono ?_;rintro e l ⟨rfl,d⟩;have a:=d;have f:=a.c0))
   all_goals
    go_roundw
    ·exact⟨k+1,by omega,by go_num,a.more (by omega)⟩
    ·simp [intOf];omega
  ·go_wp2_with (first | (go_at_call 54;refine(zK B v _ b c g _ _ a (by omega) (by omega) (by omega)).mono ?_;rintro e l ⟨r,o,p,q,d⟩;have j:=uH o;subst j;have a:=d;have f:=a.c0) | (go_at_call 194;refine(a1m B v _ b c g _ _ _ _ _ (by omega) (by omega) (by omega) (by omega) a).mono ?_;rintro e l ⟨rfl,d⟩;have a:=d;have f:=a.c0))
   all_goals
    go_end0
    exact⟨rfl,a.more (by omega)⟩
theorem bring(B:Nat)(v w:World)(b c g m:Nat)(h:Bd B v w b c g m)(t:m<=9999999):
  Calls prog 155 #[pP b] w λe w'=>e=.returned (.tuple #[])/\Hid (Bd B v w' b c g (m+60)):=by
 have a:=uU h;have f:=h.c0;go_enter func155,ntmps155;go_wp2_with (first | (go_at_call 54;refine(zK B v _ b c g _ _ a (by omega) (by omega) (by omega)).mono ?_;rintro e j ⟨r,l,o,p,d⟩;have n:=uH l;subst n;have a:=d;have f:=a.c0) | (go_at_call 194;refine(a1m B v _ b c g _ _ _ _ _ (by omega) (by omega) (by omega) (by omega) a).mono ?_;rintro e j ⟨rfl,d⟩;have a:=d;have f:=a.c0) | (go_at_call 156;refine(a9e B v _ b c g _ a (by omega)).mono ?_;rintro e j ⟨rfl,d⟩;have a:=d;have f:=a.c0));go_loopw [2] (λi wr=>∃k:Nat,k<=4/\i=iv k/\Hid (Bd B v wr b c g (m+8+k*4))) (λi _=>(4-intOf i).toNat)
 case atStart=>exact⟨1,by omega,rfl,a.more (by omega)⟩
 case round=>
  obtain⟨k,s,rfl,a⟩:=hrel;have f:=a.c0;by_cases q:(k:Int)<4
  ·go_wp2_with (first | (go_at_call 54;refine(zK B v _ b c g _ _ a (by omega) (by omega) (by omega)).mono ?_;rintro e j ⟨r,l,o,p,d⟩;have n:=uH l;subst n;have a:=d;have f:=a.c0) | (go_at_call 194;refine(a1m B v _ b c g _ _ _ _ _ (by omega) (by omega) (by omega) (by omega) a).mono ?_;rintro e j ⟨rfl,d⟩;have a:=d;have f:=a.c0) | (go_at_call 156;refine(a9e B v _ b c g _ a (by omega)).mono ?_;rintro e j ⟨rfl,d⟩;have a:=d;have f:=a.c0))
   all_goals
    go_roundw
    ·exact⟨k+1,by omega,by go_num,a.more (by omega)⟩
    ·simp [intOf];omega
  ·go_wp2_with (first | (go_at_call 54;refine(zK B v _ b c g _ _ a (by omega) (by omega) (by omega)).mono ?_;rintro e j ⟨r,l,o,p,d⟩;have n:=uH l;subst n;have a:=d;have f:=a.c0) | (go_at_call 194;refine(a1m B v _ b c g _ _ _ _ _ (by omega) (by omega) (by omega) (by omega) a).mono ?_;rintro e j ⟨rfl,d⟩;have a:=d;have f:=a.c0) | (go_at_call 156;refine(a9e B v _ b c g _ a (by omega)).mono ?_;rintro e j ⟨rfl,d⟩;have a:=d;have f:=a.c0))
   all_goals
    go_end0
    exact⟨rfl,a.more (by omega)⟩
theorem blastly(B:Nat)(v w:World)(b c g m:Nat)(h:Bd B v w b c g m)(u:m<=9999999):
  Calls prog 154 #[pP b] w λe w'=>e=.returned (.tuple #[])/\Hid (Bd B v w' b c g (m+150)):=by
 have a:=uU h;have f:=h.c0;go_enter func154,ntmps154;go_wp2_with (go_at_call 54;refine(zK B v _ b c g _ _ a (by omega) (by omega) (by omega)).mono ?_;rintro e l ⟨r,n,o,p,d⟩;have j:=uH n;subst j;have a:=d;have f:=a.c0);go_loopw [2] (λi wr=>∃k:Nat,k<=3/\i=iv k/\Hid (Bd B v wr b c g (m+2+(3-k)*12))) (λi _=>(intOf i).toNat)
 case atStart=>exact⟨(1+r).toNat,by omega,by rw[Int.toNat_of_nonneg (by omega)],a.more (by omega)⟩
 case round=>
  obtain⟨k,t,rfl,a⟩:=hrel;have f:=a.c0;by_cases q:(k:Int) > 0
  ·go_wp2_with (first | (go_at_call 54;refine(zK B v _ b c g _ _ a (by omega) (by omega) (by omega)).mono ?_;rintro e l ⟨r,n,o,p,d⟩;have j:=uH n;subst j;have a:=d;have f:=a.c0) | (go_at_call 194;refine(a1m B v _ b c g _ _ _ _ _ (by omega) (by omega) (by omega) (by omega) a).mono ?_;rintro e l ⟨rfl,d⟩;have a:=d;have f:=a.c0) | (go_at_call 156;refine(a9e B v _ b c g _ a (by omega)).mono ?_;rintro e l ⟨rfl,d⟩;have a:=d;have f:=a.c0))
   all_goals
    go_roundw
    ·exact⟨k-1,by omega,by rw[Int.ofNat_sub (by omega)];rfl,a.more (by omega)⟩
    ·simp [intOf];omega
  ·have s:k=0:=by omega
   subst s;go_wp2_with (first | (go_at_call 54;refine(zK B v _ b c g _ _ a (by omega) (by omega) (by omega)).mono ?_;rintro e l ⟨r,n,o,p,d⟩;have j:=uH n;subst j;have a:=d;have f:=a.c0) | (go_at_call 194;refine(a1m B v _ b c g _ _ _ _ _ (by omega) (by omega) (by omega) (by omega) a).mono ?_;rintro e l ⟨rfl,d⟩;have a:=d;have f:=a.c0));go_loopw [3,4] (λi _x wr=>∃k:Nat,k<=3/\i=iv k/\Hid (Bd B v wr b c g (m+40+(3-k)*20))) (λi _ _=>(intOf i).toNat)
   case atStart=>exact⟨r.toNat,by omega,by rw[Int.toNat_of_nonneg (by omega)],a.more (by omega)⟩
   case round=>
    obtain⟨k,t,rfl,a⟩:=hrel;have f:=a.c0;by_cases q:(k:Int) > 0
    ·go_wp2_with (first | (go_at_call 54;refine(zK B v _ b c g _ _ a (by omega) (by omega) (by omega)).mono ?_;rintro e l ⟨r,n,o,p,d⟩;have j:=uH n;subst j;have a:=d;have f:=a.c0) | (go_at_call 194;refine(a1m B v _ b c g _ _ _ _ _ (by omega) (by omega) (by omega) (by omega) a).mono ?_;rintro e l ⟨rfl,d⟩;have a:=d;have f:=a.c0) | (go_at_call 156;refine(a9e B v _ b c g _ a (by omega)).mono ?_;rintro e l ⟨rfl,d⟩;have a:=d;have f:=a.c0) | (go_at_call 197;refine(c2t B v _ b c g _ _ (by omega) (by omega) a (by omega)).mono ?_;rintro e l ⟨r,n,o,p,d⟩;have j:=uH n;subst j;have a:=d;have f:=a.c0))
     all_goals
      go_roundw
      ·exact⟨k-1,by omega,by rw[Int.ofNat_sub (by omega)];rfl,a.more (by omega)⟩
      ·simp [intOf];omega
    ·go_wp2_with (first | (go_at_call 54;refine(zK B v _ b c g _ _ a (by omega) (by omega) (by omega)).mono ?_;rintro e l ⟨r,n,o,p,d⟩;have j:=uH n;subst j;have a:=d;have f:=a.c0) | (go_at_call 194;refine(a1m B v _ b c g _ _ _ _ _ (by omega) (by omega) (by omega) (by omega) a).mono ?_;rintro e l ⟨rfl,d⟩;have a:=d;have f:=a.c0))
     all_goals
      go_end0
      exact⟨rfl,a.more (by omega)⟩
theorem bsome(B:Nat)(v w:World)(b c g m:Nat)(h:Bd B v w b c g m)(t:m<=999999):
  Calls prog 95 #[pP b] w λe w'=>e=.returned (.tuple #[])/\Hid (Bd B v w' b c g (m+300)):=by
 have a:=uU h;have f:=h.c0;go_enter func95,ntmps95;go_wp2_with (first | (go_at_call 54;refine(zK B v _ b c g _ _ a (by omega) (by omega) (by omega)).mono ?_;rintro e j ⟨r,n,q,s,d⟩;have o:=uH n;subst o;have a:=d;have f:=a.c0) | (go_at_call 152;refine(bchain B v _ b c g _ _ a (by omega) (by omega) (by omega)).mono ?_;rintro e j ⟨rfl,d⟩;have a:=d;have f:=a.c0) | (go_at_call 153;refine(bweakly B v _ b c g _ a (by omega)).mono ?_;rintro e j ⟨rfl,d⟩;have a:=d;have f:=a.c0) | (go_at_call 154;refine(blastly B v _ b c g _ a (by omega)).mono ?_;rintro e j ⟨rfl,d⟩;have a:=d;have f:=a.c0) | (go_at_call 155;refine(bring B v _ b c g _ a (by omega)).mono ?_;rintro e j ⟨rfl,d⟩;have a:=d;have f:=a.c0) | (go_at_call 156;refine(a9e B v _ b c g _ a (by omega)).mono ?_;rintro e j ⟨rfl,d⟩;have a:=d;have f:=a.c0))
 iterate 4
  ·go_end0
   exact⟨rfl,a.more (by omega)⟩
 go_loopw [3] (λi wr=>∃k:Nat,k<=9/\i=iv k/\Hid (Bd B v wr b c g (m+4+(9-k)*20))) (λi _=>(intOf i).toNat)
 case atStart=>exact⟨(2+r).toNat,by omega,by rw[Int.toNat_of_nonneg (by omega)],a.more (by omega)⟩
 case round=>
  obtain⟨k,p,rfl,a⟩:=hrel;have f:=a.c0;by_cases l:(k:Int) > 0
  ·go_wp2_with (first | (go_at_call 117;refine(bact B v _ b c g _ a (by omega)).mono ?_;rintro e j ⟨rfl,d⟩;have a:=d;have f:=a.c0) | (go_at_call 156;refine(a9e B v _ b c g _ a (by omega)).mono ?_;rintro e j ⟨rfl,d⟩;have a:=d;have f:=a.c0));go_roundw
   ·exact⟨k-1,by omega,by rw[Int.ofNat_sub (by omega)];rfl,a.more (by omega)⟩
   ·simp [intOf];omega
  ·go_wp2_with (go_at_call 156;refine(a9e B v _ b c g _ a (by omega)).mono ?_;rintro e j ⟨rfl,d⟩;have a:=d;have f:=a.c0)
   go_end0
   exact⟨rfl,a.more (by omega)⟩
theorem zw_cell(w:World)(t:TypeId)(j:Nat)(a:j<48):(w.alloc (.cells (zw 48) t)).cell? (aA w.heap.size j)=some (iv 0):=by
 have:=heap_alloc_new w (.cells (zw 48) t);unfold World.cell?;simp only [this];simp [zw,a]
theorem b9z(w:World)(c:Array Value)(t:TypeId):Nf1 w.heap.size (w.alloc (.cells c t)):=⟨by simp [go_sem],λj=>by simp [go_sem]⟩
theorem d2u(S:Nat->Prop)(n:Int)(w:World)(y:∀q,S q->q<w.heap.size):GG S w.heap.size ((w.alloc (.cells (zw 48) 152)).alloc (.cells #[iv n,iv 0,iv 0,sS w.heap.size 16 16,.slice none 0 0,iv 0,iv 0,iv 0,.slice none 0 0,iv 0,iv 0,iv 0,iv 0] 34)) (w.heap.size+1) (frH n):=by
 have t:=(Ext.refl w).alloc (.cells (zw 48) 152);have p:=b9z w (zw 48) 152;have Z:=λj x=>zw_cell w 152 j x
 obtain⟨c,l⟩:∃c,c=w.alloc (.cells (zw 48) 152):=⟨_,rfl⟩;rw[<-l] at t p Z ⊢;have v:c.heap.size=w.heap.size+1:=by rw[l];simp [go_sem]
 have d:=(Ext.refl c).alloc (.cells #[iv n,iv 0,iv 0,sS w.heap.size 16 16,.slice none 0 0,iv 0,iv 0,iv 0,.slice none 0 0,iv 0,iv 0,iv 0,iv 0] 34);have k:=b9z c #[iv n,iv 0,iv 0,sS w.heap.size 16 16,.slice none 0 0,iv 0,iv 0,iv 0,.slice none 0 0,iv 0,iv 0,iv 0,iv 0] 34;have g:=dK.new c (frH n) (sS w.heap.size 16 16) (.slice none 0 0) (.slice none 0 0) 34;rw[v] at k g;obtain⟨f,s⟩:∃f,f=c.alloc (.cells #[iv n,iv 0,iv 0,sS w.heap.size 16 16,.slice none 0 0,iv 0,iv 0,iv 0,.slice none 0 0,iv 0,iv 0,iv 0,iv 0] 34):=⟨_,rfl⟩;have g:dK (c.alloc (.cells #[iv n,iv 0,iv 0,sS w.heap.size 16 16,.slice none 0 0,iv 0,iv 0,iv 0,.slice none 0 0,iv 0,iv 0,iv 0,iv 0] 34)) (w.heap.size+1) (frH n) (sS w.heap.size 16 16) (.slice none 0 0) (.slice none 0 0):=g;rw[<-s] at d k g ⊢;have e:(frH n).B.length=16:=by simp [frH]
 have b:(frH n).A=[]:=rfl;refine⟨λq=>if q<w.heap.size then f.heap[q]? else none,λq a=>?_,some (aA w.heap.size 0),16,none,0,.slice none 0 0,w.heap.size,0,λ_=>0,λ_=>none,λ_=>0,λq=>if q=w.heap.size+1 then 0 else if q=w.heap.size then 2 else 1,?_⟩
 ·have:=y q a;simp only [this,if_true];exact a5j (by have:=d.size;omega)
 ·letI:Inhabited uQ:=⟨⟨λq=>if q<w.heap.size then f.heap[q]? else none⟩⟩
  refine⟨by rw[e];exact g,k,by omega,λ_=>rfl,λh=>by simp [b] at h,⟨λi m=>?_,λq a=>by simp [b] at a,λq a=>by simp [b] at a,λq a=>by simp [b] at a,λq a=>by simp [b] at a,λ_=>⟨p.ext d,Nat.le_refl _⟩,λh=>by simp [b] at h,λh=>by simp [b] at h,λq _ a=>by simp [b] at a,λq a=>by simp [b] at a⟩,.inl ⟨rfl,rfl⟩,⟨if_pos rfl,λ_=>by rw[if_neg (by omega),if_pos rfl],λh=>by simp [b] at h,λq a=>by simp [Value.ownBlock] at a,λq a=>by simp [b] at a⟩,by simp [b],λq o a=>?_,λh=>by omega⟩
  ·have r:i<16:=e ▸ m;have u:(frH n).B[i]=⟨0,0,0⟩:=List.eq_of_mem_replicate (n:=16) (List.getElem_mem m);exact(congrArg (yU f w.heap.size (i*3)) u).mpr ⟨d.keep (Z _ (by omega)),d.keep (Z _ (by omega)),d.keep (Z _ (by omega))⟩
  ·have a:(if q<w.heap.size then f.heap[q]? else none)=some o:=a
   split at a
   ·exact⟨by rw[if_neg (by omega),if_neg (by omega)],a⟩
   ·cases a
theorem c9f(v w:World)(c m:Nat)(h:Cu v w c m)(k:m<=99999):
  Calls prog 93 #[pP c] w λe w'=>∃r:Int,Hid (e=.returned (iv r))/\1<=r/\r<=4000/\Hid (Cu v w' c (m+4)):=by
 have a:=uU h;go_enter func93,ntmps93;go_wp2_with (go_at_call 54;refine(b9d v _ c _ _ a (by omega) (by omega) (by omega)).mono ?_;rintro e i ⟨r,b,j,g,d,o⟩;have f:=uH b;subst f;have a:=d)
 all_goals
  go_ret;exact⟨_,rfl,by omega,by omega,a⟩
theorem c5j(v w:World)(c m:Nat)(n:Int)(x:1<=n)(y:n<=4000)(h:Cu v w c m):
  Calls prog 94 #[pP c,iv n] w λe w'=>∃b g B,Hid (e=.returned (pP b))/\Hid (Bd B v w' b c g m):=by
 have d:=uU h;have k:=uU (d2u (λq=>q=c) n w (λq e=>by have:=h.2.2.1.1;omega));have j:=uU (((Ext.refl w).alloc (.cells (zw 48) 152)).alloc (.cells #[iv n,iv 0,iv 0,sS w.heap.size 16 16,.slice none 0 0,iv 0,iv 0,iv 0,.slice none 0 0,iv 0,iv 0,iv 0,iv 0] 34));have p:=uU (show((w.alloc (.cells (zw 48) 152)).alloc (.cells #[iv n,iv 0,iv 0,sS w.heap.size 16 16,.slice none 0 0,iv 0,iv 0,iv 0,.slice none 0 0,iv 0,iv 0,iv 0,iv 0] 34)).heap.size=w.heap.size+2 by simp [go_sem]);clear h;have Q:=uU (c2u n w);go_enter func94,ntmps94;go_wp2_with fail;refine Q.mono ?_;rintro e i ⟨rfl,l⟩;rw[<-l] at k j p;clear l Q;go_wp2_with fail;go_ret;have f:=(Ext.refl i).alloc (.cells #[pP c,pP (w.heap.size+1),.slice none 0 0,iv 400] 145);have o:=b9z i #[pP c,pP (w.heap.size+1),.slice none 0 0,iv 400] 145;have r:=d.2.2.1.1;have u:=d.1.size;have z:=uH p;refine⟨i.heap.size,w.heap.size+1,w.heap.size,rfl,frH n,[],.slice none 0 0,400,⟨frH_snd n x y,λa s=>(by simp at s),by simp,d.blk ((d.1.trans j).trans f) (by rw[f.block c (by omega)];exact j.block c r),u,by omega,by omega,o,by simp [go_sem],by simp [go_sem],by simp [go_sem],by simp [go_sem],World.ownsRow_nil _ _ _ _,by simp [Value.ownBlock],by simp [Value.ownBlock],k.more f (λq t=>?_)⟩⟩;rcases t with e | e | e
 ·exact .inr ⟨by omega,by rw[e];exact o.1⟩
 ·exact .inl e
 ·simp [Value.ownBlock] at e
theorem a2f(h:Bd B v w b c g m):∃p:Int,w.cell? (aA g 5)=some (iv p)/\
  Hid (p≠0->Calls prog 116 #[pP g] w λe w'=>e=.returned (.tuple #[])/\Hid (Bd B v w' b c g m))/\
  Hid (p=0->Calls prog 115 #[pP g] w λe w'=>e=.returned (.tuple #[])/\Hid (Bd B v w' b c g m)/\w'.cell? (aA g 5)=some (iv 1)):=by
 obtain⟨x,L,k,l,h⟩:=h;obtain⟨p,j,d⟩:=h.gg.call;refine⟨x.E,j.box.2.2.1,λe=>?_,λe=>?_⟩
 ·exact(a6g B g x w j h.s e v h.vB h.cu.1).mono λ_ w' ⟨f,a,i⟩=>⟨f,_,L,k,l,h.blk i h.s.unit (d _ _ a).1 (d _ _ a).2⟩
 ·exact(a4s B g x w j v h.vB h.cu.1).mono λ_ w' ⟨f,a,i⟩=>⟨f,⟨_,L,k,l,h.blk i (h.s.begin e) (d _ _ a).1 (d _ _ a).2⟩,a.box.2.2.1⟩
def d2v(v:World)(c:Nat)(e:Ending)(w':World):Prop:=∃b g B m,Hid (e=.returned (.pointer (some ⟨g,0,none⟩)))/\Hid (Bd B v w' b c g m)/\m<=999999
theorem c9g(v w:World)(c m:Nat)(h:Cu v w c m)(T:m<=9999):
  Calls prog 69 #[pP c] w λe w'=>d2v v c e w':=by
 have I:=uU h;go_enter func69,ntmps69;go_wp2_with fail;refine(c9f v w c m I (by omega)).mono ?_;rintro e z ⟨n,x,P,M,I⟩;have y:=uH x;subst y;go_wp2_with fail;refine(c5j v z c _ n P M I).mono ?_;rintro e R ⟨b,g,B,x,a⟩;have y:=uH x;subst y;have u:=a.c0;have o:=a.c1;obtain⟨p,f,j,l⟩:=a2f a;go_wp2_with fail;refine(zK B v _ b c g _ _ a (by omega) (by omega) (by omega)).mono ?_;rintro e z ⟨C,x,Q,N,d⟩;have y:=uH x;subst y;have a:=d;have u:=a.c0;have o:=a.c1;obtain⟨p,f,j,l⟩:=a2f a;go_wp2_with (go_at_call 54;refine(zK B v _ b c g _ _ a (by omega) (by omega) (by omega)).mono ?_;rintro e z ⟨r,x,J,F,d⟩;have y:=uH x;subst y;have a:=d;have u:=a.c0;have o:=a.c1;obtain⟨p,f,j,l⟩:=a2f a);go_loopw [5] (λi wr=>∃k:Nat,k<=8/\i=iv k/\Hid (Bd B v wr b c g (m+10+(8-k)*300))) (λi _=>(intOf i).toNat)
 case atStart=>exact⟨(1+r).toNat,by omega,by rw[Int.toNat_of_nonneg (by omega)],a.more (by omega)⟩
 case round=>
  obtain⟨k,K,rfl,a⟩:=hrel;have u:=a.c0;have o:=a.c1;obtain⟨p,f,j,l⟩:=a2f a;by_cases G:(k:Int) > 0
  ·go_wp2_with (go_at_call 95;refine(bsome B v _ b c g _ a (by omega)).mono ?_;rintro e z ⟨rfl,d⟩;have a:=d;have u:=a.c0;have o:=a.c1;obtain⟨p,f,j,l⟩:=a2f a);go_roundw
   ·exact⟨k-1,by omega,by rw[Int.ofNat_sub (by omega)];rfl,a.more (by omega)⟩
   ·simp [intOf];omega
  ·go_upto_if 37 with(go_at_call 54;refine(zK B v _ b c g _ _ a (by omega) (by omega) (by omega)).mono ?_;rintro e z ⟨r,x,J,F,d⟩;have y:=uH x;subst y;have a:=d;have u:=a.c0;have o:=a.c1;obtain⟨p,f,j,l⟩:=a2f a)
   ·go_ret;exact⟨b,g,B,_,rfl,a,by omega⟩
   go_cut [] (λA=>Hid (Bd B v A b c g (m+3000)))
   case first=>
    cases t:(p == 0)
    ·go_wp2;go_meet;exact a.more (by omega)
    ·go_wp2_with (go_at_call 115;refine(l (by have:=‹(p == 0)=true›;simpa using this)).mono ?_;rintro e z ⟨rfl,d,D⟩;have a:=d;have u:=a.c0;have o:=a.c1;obtain⟨p,f,j,l⟩:=a2f a;have H:p≠0:=by rw[D] at f;simp at f;omega);go_meet;exact a.more (by omega)
   case rest=>
    have a:=hcut;go_wp2_with fail;go_loopw [6] (λi wr=>∃k:Nat,k<=20000/\i=iv k/\Hid (Bd B v wr b c g (m+3000))) (λi _=>20000-(intOf i).toNat)
    case atStart=>exact⟨0,by omega,rfl,a⟩
    case round=>
     obtain⟨k,K,rfl,a⟩:=hrel;have u:=a.c0;have o:=a.c1;obtain⟨p,f,j,l⟩:=a2f a;obtain⟨W,O⟩:∃W,W=wr:=⟨_,rfl⟩;subst O
     go_upto_region 12 with(fail)
     go_cut [59] (λs A=>A=W/\∃t:Bool,s=.bool t/\Hid (t=true->(k:Int)<20000))
     case first=>
      rcases (show((k:Int)<20000/\(p != C)=true/\C<=6)\/((k:Int)<20000/\(p != C)=true/\¬C<=6)\/((k:Int)<20000/\(p != C)=false)\/¬(k:Int)<20000 by cases (p != C) <;> simp <;> omega) with⟨E,h2,h3⟩ | ⟨E,h2,h3⟩ | ⟨E,h2⟩ | E
      all_goals
       go_wp2;go_meet;exact⟨rfl,_,rfl,λe=>by first | omega | cases e⟩
     case rest=>
      obtain⟨rfl,t,rfl,L⟩:=hcut;cases t
      ·go_wp2_with (go_at_call 54;refine(zK B v _ b c g _ _ a (by omega) (by omega) (by omega)).mono ?_;rintro e z ⟨r,x,J,F,d⟩;have y:=uH x;subst y;have a:=d;have u:=a.c0;have o:=a.c1;obtain⟨p,f,j,l⟩:=a2f a);go_loopw [7] (λi wr=>∃k:Nat,k<=6/\i=iv k/\Hid (Bd B v wr b c g (m+4000+(6-k)*30))) (λi _=>(intOf i).toNat)
       case atStart=>exact⟨r.toNat,by omega,by rw[Int.toNat_of_nonneg (by omega)],a.more (by omega)⟩
       case round=>
        obtain⟨k,K,rfl,a⟩:=hrel;have u:=a.c0;have o:=a.c1;obtain⟨p,f,j,l⟩:=a2f a;by_cases G:(k:Int) > 0
        ·go_wp2_with (first | (go_at_call 54;refine(zK B v _ b c g _ _ a (by omega) (by omega) (by omega)).mono ?_;rintro e z ⟨r,x,J,F,d⟩;have y:=uH x;subst y;have a:=d;have u:=a.c0;have o:=a.c1;obtain⟨p,f,j,l⟩:=a2f a) | (go_at_call 117;refine(bact B v _ b c g _ a (by omega)).mono ?_;rintro e z ⟨rfl,d⟩;have a:=d;have u:=a.c0;have o:=a.c1;obtain⟨p,f,j,l⟩:=a2f a) | (go_at_call 116;refine(j (by first | exact H | (have:=‹(p != 0)=true›;simpa using this) | (have:=‹(p == 0)=false›;simpa using this))).mono ?_;rintro e z ⟨rfl,d⟩;have a:=d;have u:=a.c0;have o:=a.c1;obtain⟨p,f,j,l⟩:=a2f a))
         all_goals
          go_roundw
          ·exact⟨k-1,by omega,by rw[Int.ofNat_sub (by omega)];rfl,a.more (by omega)⟩
          ·simp [intOf];omega
        ·go_wp2;go_ret;exact⟨b,g,B,_,rfl,a,by omega⟩
      ·have E:=uH L rfl
       go_upto_if 69 with(fail)
       go_cut [] (λA=>Hid (Bd B v A b c g (m+3000))/\∃q:Int,A.cell? (aA g 5)=some (iv q)/\q≠0)
       case first=>
        cases t:(p == 0)
        ·go_wp2;go_meet;exact⟨a,p,f,by simpa using t⟩
        ·go_wp2_with (go_at_call 115;refine(l (by simpa using t)).mono ?_;rintro e z ⟨rfl,d,D⟩);go_meet;exact⟨d,1,D,by omega⟩
       case rest=>
        obtain⟨a,q,D,S⟩:=hcut;have u:=a.c0;have o:=a.c1;obtain⟨p,f,j,l⟩:=a2f a;have H:p≠0:=by rw[D] at f;simp at f;omega
        go_wp2_with (go_at_call 116;refine(j (by first | exact H | (have:=‹(p != 0)=true›;simpa using this) | (have:=‹(p == 0)=false›;simpa using this))).mono ?_;rintro e z ⟨rfl,d⟩;have a:=d;have u:=a.c0;have o:=a.c1;obtain⟨p,f,j,l⟩:=a2f a);go_roundw
        ·exact⟨k+1,by omega,by go_num,a⟩
        ·simp [intOf];omega
def HV(w:World)(x:Hp)(ar:Option Addr)(kr:Nat)(ac:Option Addr)(kc:Nat)(ag:Option Addr)(kg:Nat):Prop:=HRd w x ar kr ac kc ag kg/\a2p w x ac
theorem GAt.hv[Inhabited uQ]{ar:Option Addr}{kr:Nat}{ac:Option Addr}{kc:Nat}{ag:Option Addr}{kg:Nat}{br bc:Nat}{pb:Nat->Nat}{pa:Nat->Option Addr}{pk:Nat->Nat}{role:Nat->Nat}(a:GAt B w g x ar kr ac kc (.slice ag x.D.length kg) br bc pb pa pk role)(s:Snd x):HV w x ar kr ac kc ag kg:=by
 refine⟨a.rd (by rw[s.r1.B];omega) (by have:=s.ok.n8;omega) (λq j=>s.ok.p200 q j) (by have:=s.r1.D;have:=s.ok.n8;omega),λi e f k ad l c d b=>.inl ?_⟩;have h:0<x.A.length:=by omega
 rw[a.hc h] at d;simp only [Option.some.injEq,Addr.mk.injEq] at d;obtain⟨rfl,rfl,_⟩:=d;rw[Nat.zero_add,a.rw.p7 i e] at b;simp only [Option.some.injEq,Value.slice.injEq] at b;obtain⟨_,rfl,rfl⟩:=b;exact a.rw.kp i e
theorem Bd.hv(h:Bd B v w b c g m):∃(x:Hp) (f:Option Addr) (i:Nat) (p:Option Addr) (n:Nat) (j:Option Addr) (l:Nat),Hid (Snd x)/\dK w g x (.slice f x.B.length i) (.slice p x.A.length n) (.slice j x.D.length l)/\Hid (∀W,uX (λq=>q<B) w W->HV W x f i p n j l)/\v.heap.size<=B/\B<=g:=by
 obtain⟨x,L,R,T,h⟩:=h;have s:=h.s;obtain⟨z,_,f,i,p,n,D,O,F,I,C,K,d,r⟩:=h.gg;obtain⟨u,G,y,M,E,N,A,P,J,S,Q⟩:=r
 letI:Inhabited uQ:=⟨⟨λ_=>none⟩⟩
 obtain⟨j,l,t⟩:∃a k,D=.slice a x.D.length k:=A.form;subst t;have r:GAt B w g x f i p n (.slice j x.D.length l) O F I C K d:=⟨u,G,y,M,E,N,A,P,J,(λq o H=>by cases H),Q⟩;exact⟨x,f,i,p,n,j,l,s,u,λW o=>(GAt.low (λ_=>rfl) r o (λq e=>e)).hv s,h.vB,y⟩
theorem c9h(w:World)(u:Value)(h:ByAt w u):
  Calls prog 23 #[u] w λe w'=>∃(x:Hp) (p:Option Addr) (s:Nat) (C:Option Addr) (A:Nat) (t:Option Addr) (y:Nat),Hid (e=.returned (x.v (.slice p x.B.length s) (.slice C x.A.length A) (.slice t x.D.length y)))/\Hid (Snd x)/\Hid (HV w' x p s C A t y)/\Ext w w':=by
 obtain⟨ad,n,k,rfl,X,T⟩:=h;obtain⟨v,f⟩:∃v,v=w.alloc (.cells #[iv 0,iv 0,iv 0,.slice none 0 0,.slice none 0 0,iv 0,iv 0,iv 0,.slice none 0 0,iv 0,iv 0,iv 0,iv 0] 34):=⟨_,rfl⟩;have L:Ext w v:=by rw[f];exact(Ext.refl w).alloc _
 have P:v.heap.size=w.heap.size+1:=by rw[f];simp [go_sem]
 have R:=uU (show Cu v (v.alloc (.cells #[.slice ad n k,iv 0,.int .u64 0] 79)) v.heap.size 0 from⟨(Ext.refl v).alloc _,Nat.le_refl _,⟨by simp [go_sem],λj=>by simp [go_sem]⟩,ad,n,k,0,0,by simp [go_sem],by simp [go_sem],by simp [go_sem],by omega,by omega,X,λi hi=>let ⟨b,o,z,e,c,r⟩:=T i hi;⟨b,o,z,e,L.keep c,r⟩⟩);have Q:=uU (c9g v _ v.heap.size 0 R (by omega))
 have N:=uU (show(∀o,o<13->∃u,v.cell? (aA w.heap.size o)=some u)/\∀o,v.frozen? (aA w.heap.size o)=false from⟨λo E=>by
  rw[f]
  match o,E with
  | 0,_ | 1,_ | 2,_ | 3,_ | 4,_ | 5,_ | 6,_ | 7,_ | 8,_ | 9,_ | 10,_ | 11,_ | 12,_=>exact⟨_,by simp [go_sem];rfl⟩,λo=>by rw[f];simp [go_sem]⟩)
 clear R T;go_enter func23,ntmps23;go_wp2_with fail;rw[<-f,<-P];refine Q.mono ?_;rintro e G ⟨b,g,B,m,O,K,_⟩;have e2:=uH O;subst e2;obtain⟨x,p,s,C,A,t,y,S,V,HR,vB,Bg⟩:=K.hv;have D:=K.cu.1;obtain⟨d0,d1,d2,d3,d4,d5,d6,d7,d8,d9,W,ab,aa⟩:=V;obtain⟨r,l⟩:∃r,r=w.heap.size:=⟨_,rfl⟩;have rB:r<B:=by omega
 have XW:=uU (L.trans D);have a:=uU (show ∀o,G.frozen? (aA r o)=false from λo=>by rw[(uK D).2 r o (by omega),l];exact N.2 o);have d:=uU (λo (E:o<13)=>show ∃u,G.cell? (aA r o)=some u from let ⟨u,hu⟩:=N.1 o E;⟨u,by rw[l];exact D.keep hu⟩)
 obtain⟨u0,r0⟩:=d 0 (by omega);obtain⟨u1,r1⟩:=uH d 1 (by omega);obtain⟨u2,r2⟩:=uH d 2 (by omega);obtain⟨u3,Z⟩:=uH d 3 (by omega);obtain⟨u4,r4⟩:=uH d 4 (by omega);obtain⟨u5,r5⟩:=uH d 5 (by omega);obtain⟨u6,r6⟩:=uH d 6 (by omega);obtain⟨u7,r7⟩:=uH d 7 (by omega);obtain⟨u8,r8⟩:=uH d 8 (by omega);obtain⟨u9,r9⟩:=uH d 9 (by omega);obtain⟨u10,J⟩:=uH d 10 (by omega);obtain⟨u11,I⟩:=uH d 11 (by omega);obtain⟨u12,M⟩:=uH d 12 (by omega);have f0:=uH a 0;have f1:=uH a 1;have f2:=uH a 2;have f3:=uH a 3;have f4:=uH a 4;have f5:=uH a 5;have f6:=uH a 6;have f7:=uH a 7;have f8:=uH a 8;have f9:=uH a 9;have U:=uH a 10;have ae:=uH a 11;have Y:=uH a 12;rw[<-l];have H:=uU l;clear l f P L D N Q O K;go_wp2_with fail;refine bodyPost_ret (v:=x.v (.slice p x.B.length s) (.slice C x.A.length A) (.slice t x.D.length y)) (by simp [results,results23,go_sem,r0,r1,r2,Z,r4,r5,r6,r7,r8,r9,J,I,M]) rfl ⟨x,p,s,C,A,t,y,rfl,S,?_⟩;refine(λ(F:uX (λq=>q=r) G _)=>⟨uH HR _ (F.mono λq e=>by omega),F.ext XW (λq hq e=>by have:=uH H;omega)⟩) ?_
 repeat (first | (with_reducible refine uX.setCell ?_ (by simp) _) | (with_reducible exact uX.refl _ _))
end Go.Proofs.YtddkhnclmeikfaaGreat
