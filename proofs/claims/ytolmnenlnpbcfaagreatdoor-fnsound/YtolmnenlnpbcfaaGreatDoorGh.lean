import Derived.Test.YtolmnenlnpbcfaaGreatDoorJk
import Derived.Test.YtolmnenlnpbcfaaGreatDoorJv
import Derived.Test.YtolmnenlnpbcfaaGreatDoorWa2
set_option maxRecDepth 100000
set_option maxHeartbeats 4000000
namespace Go.Proofs.YtolmnenlnpbcfaaGreatDoor
open Go.RowKit Go.Proofs.Tryz
attribute [local go_sem ↓] Go.wp_at_zero Go.wp_at_succ
variable{B b c g m:Nat}{v w:World}
theorem l5do_gg(S P:Nat->Prop)(B:Nat)(v w:World)(g:Nat)(x:Hp)(A:Ak)(h:GG S B w g x)(s:Snd x)(m:v.heap.size<=B)(e:uQ P v w):
  Calls prog 42 #[pP g,A.v] w λe w'=>∃(y:Hp)(u:Value),Hid (e=.returned u)/\Hid (Snd y)/\Hid (GG S B w' g y)/\Hid (∀q,S q->w'.heap[q]?=w.heap[q]?)/\Hid (uQ P v w'):=by
 obtain⟨p,l,d⟩:=h.call;exact(c3t B g x A.op A.a A.b A.c A.n w l s _ (kN.le w B) (kN.ext w B)).mono λ_ _ ⟨y,o,r,i,k,f,j⟩=>⟨y,_,i,a7i.snd s k,(d _ _ f).1,(d _ _ f).2,e.low m j⟩
theorem infoA:(prog.info? 29).map (λi=>(i.zero,i.size,i.bytes))=some (some (.agg #[iv 0,iv 0,iv 0,iv 0,iv 0]),5,40):=by kernel_rfl
theorem d0u{ops:Array Oper}{o:Oper}{a:Act}{K:Act->World->Prop}{Q:Exit->Act->World->Prop}{E:Prop}(W:World)(C:o.guard=none)(s y:Operand)
  (M:o.op=.call { callee:=.builtin .append,args:=#[s,y],argTypes:=#[57,57] })
     {x:Hp} {L:List Ak} {va:Value} {lf:Nat} (h:Bp B v w b c g m x L va lf) (e:Ext w W) (A:Ak) (S:Addr) (I:a.eval s=va) (H:a.eval y=.slice (some S) 1 1) (N:∀j u,(fA A)[j]?=some u->W.cell? (S.add j)=some u)
  (J:∀q cap w',AppA v.heap.size w va L A q cap w'->K (a.put o.dst (sS q (L.length+1) cap)) w') :
  if Region.wanted o (yielded ops a.tmps)=true then Oper.wp prog o a W K Q else E:=by
 obtain⟨G,t,p,r,l⟩:=info_parts infoA;have R:=h.hl;have O:=e.size;have P:=h.cu.1.size;refine step_append_lies (w:=W) C s y 57 M v.heap.size 29 G (.agg #[iv 0,iv 0,iv 0,iv 0,iv 0]) 5 40 underlying57 t p r l rfl (by decide) va L.length (L.flatMap fA) I (uN h.ow (λq i=>e.block q (h.ow.lt q i).2)) S 1 1 (fA A) H rfl N (λu D=>?_) (by decide) (by unfold maxLen;omega) (by omega) (by omega) _ rfl (λq cap w' k d n F=>J q cap w' ⟨?_,?_,?_⟩);simp[fA]at D;obtain e|e|e|e|e:=D <;> subst e <;> rfl
 rw[nL];simpa using k;exact(uQ.of_ext e).trans ⟨d.os,d.tape,d.output,d.size,λq i z=>d.block q i (λe=>z e.symm)⟩;obtain f|f:=n
 ·exact .inl f
 exact .inr (by omega)
theorem c3u(B:Nat)(v w:World)(b c g m:Nat)(A:Ak)(hA:a3v A)(h:Bd B v w b c g m):
  Calls prog 58 #[pP b,A.v] w λe w'=>e=.returned (.tuple #[])/\Hid (Bd B v w' b c g m):=by
 obtain⟨x,L,va,f,h⟩:=h;have H:=uU h;have Z:=h.b3;have hb:b<w.heap.size:=h.nf.1;have f3:=h.nf.2 3;cases f with
 | zero=>
  have HE:=uU (λW (e:Ext w W)=>(⟨x,L,va,0,H.ext e⟩:Bd B v W b c g m));clear h;go_enter func58,ntmps58;go_wp21;refine bodyPost_ret (results_none rfl _ _ _) rfl ?_;exact⟨rfl,uH HE _ ((hO _).alloc _)⟩
 | succ f=>
  obtain⟨W,D⟩:=nM ((w.setCell (aA b 3) (iv f)).alloc (.cells #[iv A.op,iv A.a,iv A.b,iv A.c,iv A.n] 29));have HW:=uU D;have i:=uU ((h.left (k:=f) (by omega)).ext ((hO _).alloc (.cells #[iv A.op,iv A.a,iv A.b,iv A.c,iv A.n] 29)));rw[<-D]at i;have T:=uU (show L.length+f+1<=400 by have:=h.hl;omega);have Y:(w.setCell (aA b 3) (iv f)).heap.size=w.heap.size:=by simp[World.setCell]
  obtain⟨k,R⟩:=nM w.heap.size;have U:=uU (show va.ownBlock≠some k from λe=>by have:=(h.ow.lt k e).2;omega);have kb:¬k=b:=by omega
  have AC:=uU (show W.cell? (aA k 0)=some (iv A.op)/\W.cell? (aA k 1)=some (iv A.a)/\W.cell? (aA k 2)=some (iv A.b)/\W.cell? (aA k 3)=some (iv A.c)/\W.cell? (aA k 4)=some (iv A.n) by
   rw[D,R,<-Y];simp[go_sem])
  clear h;have e1:((f+1:Nat):Int)-1=f:=by omega
  have lb:f<=400:=by have:=uH T;omega
  go_enter func58,ntmps58;go_wp21;rw[<-D,<-R];have P:=i.b2;have g2:=i.nf.2 2;have K:b<W.heap.size:=uZ P;obtain⟨M,a1,a2,a3,a4⟩:=uH AC;have S:k<W.heap.size:=uZ M;clear Z f3 hb D R e1 Y;go_region_law (refine d0u _ rfl _ _ rfl i (by first|exact(hO _).alloc _|exact((hO _).alloc _).drew|exact(hO _).drew.alloc _) A _ (by first|rfl|simp[Act.eval,Act.put]) (by first|rfl|simp[Act.eval,Act.put];rfl) (World.news_of_block (cs:=#[iv A.op,iv A.a,iv A.b,iv A.c,iv A.n]) (by first|exact heap_alloc_new _ _|simp)) ?_;intro q Q V d;have C:=d.on.keep i.n1 P;have N:=(a8b i.nf (d.on.block b i.nf.1 i.n1)).2 2;have O:b<V.heap.size:=uZ C;have J:=uU d;clear d);all_goals
   obtain⟨p,o⟩:=nM (V.setCell (aA b 2) (sS q (L.length+1) Q));have l:=uU (i.push T hA J);have t:=uU (λ(j:Nat) (u:Value) (e:W.cell? (aA k j)=some u)=>show p.cell? (aA k j)=some u by rw[o,uC _ (.inl (λe=>kb e.symm))];exact J.on.keep U e);rw[<-o]at l ⊢;have b0:=uH t _ _ M;have b1:=uH t _ _ a1;have b2:=uH t _ _ a2;have Z:=uH t _ _ a3;have b4:=uH t _ _ a4;have c1:=l.b1;have aa:k<p.heap.size:=uZ b0;have ab:b<p.heap.size:=uZ c1;have QD:=uU (λW (e:Ext p W)=>l5do_gg _ _ B v W g x A (l.ext e).gg (l.ext e).s (l.ext e).vB (l.ext e).cu.1);have FI:=uU (λ(W z:World) (e:Ext p W) (y:Hp) (E:Snd y) (F:GG (λr=>r=b\/r=c\/some q=some r) B z g y) (G:∀r,r=b\/r=c\/some q=some r->z.heap[r]?=W.heap[r]?) (I:uQ (λq=>q=c) v z)=>(⟨y,_,_,_,(l.ext e).blk I E F G⟩:Bd B v z b c g m));clear M a1 a2 a3 a4 P g2 K S C N O o t J AC U;go_wp21;go_region_with (go_at_call 42;refine(QD _ (by first|exact hO _|exact(hO _).drew)).mono ?_;rintro e z ⟨y,u,he,E,F,G,I⟩;have e2:=uH he;subst e2;have X:=uU (FI _ z (by first|exact hO _|exact(hO _).drew) y E F G I);clear he E F G I);all_goals
    go_wp21;go_end0;first|exact⟨rfl,X⟩|exact⟨rfl,X.ext (hO _).drew⟩
theorem a1e(B:Nat)(v w:World)(b c g m:Nat)(op x y z:Int)(j:0<=op/\op<=100)(f:-1000000000<=x/\x<=1000000000)(i:-1000000000<=y/\y<=1000000000)(d:-1000000000<=z/\z<=1000000000)(h:Bd B v w b c g m):
  Calls prog 56 #[pP b,iv op,iv x,iv y,iv z] w λe w'=>e=.returned (.tuple #[])/\Hid (Bd B v w' b c g m):=by
 have Q:=uU (c3u B v w b c g m ⟨op,x,y,z,0⟩ (by refine⟨?_,?_,?_,?_,?_⟩ <;> simp only <;> omega) h);go_enter func56,ntmps56;go_wp21;refine Q.mono ?_;rintro e w' ⟨rfl,a⟩;go_wp21;go_end0;exact⟨rfl,a⟩
theorem Bd.more{k:Nat}(h:Bd B v w b c g m)(a:m<=k):Bd B v w b c g k:=h.read (uQ.refl _ _) (h.cu.more a)
theorem d4z(B:Nat)(v w:World)(b c g m:Nat)(f:Nat)(E:f<16)(h:Bd B v w b c g m):
  Calls prog 61 #[pP b,iv f] w λe w'=>b1k B v b c g m 201 e w':=by
 have y:=uU (λW (e:Ext w W)=>h.ext e);have Y:=h.c1;obtain⟨x,L,U,S,h⟩:=h;obtain⟨p,l,_⟩:=h.gg.call;obtain⟨Q,X,j⟩:=l.B h.s.r1.B;have R:b<w.heap.size:=h.nf.1;have G:=j.c3;obtain⟨K,P,D⟩:=j.r f E;have F:g<w.heap.size:=uZ G;have M:(0:Int)<=(f:Int):=by omega
 have O:(f:Int)<16:=by omega
 by_cases d:(x.r f).k=2
 ·obtain⟨_,u,t,_,_⟩:=h.s.at f E d;obtain⟨J,Z,ap,T,q⟩:=l.cel (x.at f) t;have V:=q.c4;have o:=q.p7;have a:=uU (h.s.ok.p200 (x.at f) t);have N:J<w.heap.size:=uZ o;obtain⟨n,z⟩:=nM ((x.c (x.at f)).F.length);rw[<-z]at o a;rw[d]at K;rw[u]at D;obtain⟨i,A⟩:=nM (x.at f);rw[<-A]at D t o;have I:(0:Int)<=(i:Int):=by omega
  have H:(i:Int)<(x.A.length:Int):=by omega
  have C:n<=200:=uH a;clear j q l h d u z A a;go_enter func61,ntmps61;go_wp21;go_region;go_wp21;go_ret;exact⟨_,rfl,by omega,by omega,uH y _ ((hO _).alloc _).drew⟩
 have k3:((x.r f).k != 2)=true:=by simpa using d
 clear j l h d;go_enter func61,ntmps61;go_wp21;go_ret;exact⟨_,rfl,by omega,by omega,uH y _ ((hO _).alloc _)⟩
theorem bpairof(B:Nat)(v w:World)(b c g m:Nat)(f:Nat)(p:f<16)(h:Bd B v w b c g m)(y:m<=99999999):
  Calls prog 60 #[pP b,iv f] w λe w'=>b1k B v b c g (m+4) 201 e w':=by
 have Q:=uU (d4z B v w b c g m f p h);go_enter func60,ntmps60;go_wp21;refine Q.mono ?_;rintro e l ⟨n,d,s,u,a⟩;have i:=uH d;subst i;have k:=a.c0;cases t:(n == 0)
 ·have o:1<=n:=by simp at t;omega
  go_wp2_with (go_at_call 17;refine(tL B v _ b c g _ _ a (by omega) (by omega) (by omega)).mono ?_;rintro e l ⟨r,d,x,q,j⟩;have i:=uH d;subst i;have a:=j;have k:=a.c0);all_goals
   go_ret;exact⟨_,rfl,by omega,by omega,a.more (by omega)⟩
 go_wp2;go_ret;exact⟨_,rfl,by omega,by omega,a.more (by omega)⟩
theorem bsize(B:Nat)(v w:World)(b c g m:Nat)(h:Bd B v w b c g m)(o:m<=99999999):
  Calls prog 57 #[pP b] w λe w'=>b1k B v b c g (m+4) 201 e w':=by
 have a:=uU h;have f:=h.c0;go_enter func57,ntmps57;go_wp2_with (go_at_call 17;refine(tL B v _ b c g _ _ a (by omega) (by omega) (by omega)).mono ?_;rintro e k ⟨r,i,n,l,d⟩;have j:=uH i;subst j;have a:=d;have f:=a.c0);all_goals
  go_ret;exact⟨_,rfl,by omega,by omega,a.more (by omega)⟩
theorem a7w(B:Nat)(v w:World)(b c g m:Nat)(h:Bd B v w b c g m)(o:m<=99999999):
  Calls prog 21 #[pP b] w λe w'=>e=.returned (.tuple #[])/\Hid (Bd B v w' b c g (m+6)):=by
 have a:=uU h;have f:=h.c0;go_enter func21,ntmps21;go_wp2_with (first|(go_at_call 17;refine(tL B v _ b c g _ _ a (by omega) (by omega) (by omega)).mono ?_;rintro e j ⟨r,i,n,l,d⟩;have k:=uH i;subst k;have a:=d;have f:=a.c0)|(go_at_call 56;refine(a1e B v _ b c g _ _ _ _ _ (by omega) (by omega) (by omega) (by omega) a).mono ?_;rintro e j ⟨rfl,d⟩;have a:=d;have f:=a.c0));all_goals
  go_end0
  exact⟨rfl,a.more (by omega)⟩
theorem bpairsI(B:Nat)(v w:World)(b c g m:Nat)(f:Int)(a:0<=f)(d:f<16)(h:Bd B v w b c g m):
  Calls prog 61 #[pP b,iv f] w λe w'=>b1k B v b c g m 201 e w':=by
 obtain⟨k,rfl⟩:∃k:Nat,f=k:=⟨f.toNat,by omega⟩;exact d4z B v w b c g m k (by omega) h
theorem c3v(B:Nat)(v w:World)(b c g m:Nat)(f:Int)(d:0<=f)(i:f<16)(h:Bd B v w b c g m)(a:m<=99999999):
  Calls prog 60 #[pP b,iv f] w λe w'=>b1k B v b c g (m+4) 201 e w':=by
 obtain⟨k,rfl⟩:∃k:Nat,f=k:=⟨f.toNat,by omega⟩;exact bpairof B v w b c g m k (by omega) h a
theorem emitI(B:Nat)(v w:World)(b c g m:Nat)(op x y z n:Int)(i:0<=op/\op<=100)(d:0<=x/\x<=100)(j:0<=y/\y<=100)(f:0<=z/\z<=100)(a:-9223372036854775808<=n/\n<=9223372036854775807)(h:Bd B v w b c g m):
  Calls prog 58 #[pP b,.agg #[iv op,iv x,iv y,iv z,iv n]] w λe w'=>e=.returned (.tuple #[])/\Hid (Bd B v w' b c g m):=
 c3u B v w b c g m ⟨op,x,y,z,n⟩ (by refine⟨?_,?_,?_,?_,?_⟩ <;> simp only <;> omega) h
theorem bact(B:Nat)(v w:World)(b c g m:Nat)(h:Bd B v w b c g m)(o:m<=9999999):
  Calls prog 22 #[pP b] w λe w'=>e=.returned (.tuple #[])/\Hid (Bd B v w' b c g (m+14)):=by
 have a:=uU h;have f:=h.c0;go_enter func22,ntmps22;go_wp2_with (first|(go_at_call 17;refine(tL B v _ b c g _ _ a (by omega) (by omega) (by omega)).mono ?_;rintro e k ⟨r,i,l,n,d⟩;have j:=uH i;subst j;have a:=d;have f:=a.c0)|(go_at_call 56;refine(a1e B v _ b c g _ _ _ _ _ (by omega) (by omega) (by omega) (by omega) a).mono ?_;rintro e k ⟨rfl,d⟩;have a:=d;have f:=a.c0)|(go_at_call 57;refine(bsize B v _ b c g _ a (by omega)).mono ?_;rintro e k ⟨r,i,l,n,d⟩;have j:=uH i;subst j;have a:=d;have f:=a.c0)|(go_at_call 60;refine(c3v B v _ b c g _ _ (by omega) (by omega) a (by omega)).mono ?_;rintro e k ⟨r,i,l,n,d⟩;have j:=uH i;subst j;have a:=d;have f:=a.c0)|(go_at_call 61;refine(bpairsI B v _ b c g _ _ (by omega) (by omega) a).mono ?_;rintro e k ⟨r,i,l,n,d⟩;have j:=uH i;subst j;have a:=d;have f:=a.c0)|(go_at_call 59;refine(bwhole B v _ b c g _ a (by omega)).mono ?_;rintro e k ⟨r,i,l,d⟩;have j:=uH i;subst j;have a:=d;have f:=a.c0)|(go_at_call 58;refine(emitI B v _ b c g _ _ _ _ _ _ (by omega) (by omega) (by omega) (by omega) (by omega) a).mono ?_;rintro e k ⟨rfl,d⟩;have a:=d;have f:=a.c0));all_goals
  go_end0
  exact⟨rfl,a.more (by omega)⟩
theorem bchain(B:Nat)(v w:World)(b c g m:Nat)(n:Int)(h:Bd B v w b c g m)(u:m<=9999999)(x:0<=n)(y:n<=5):
  Calls prog 117 #[pP b,iv n] w λe w'=>e=.returned (.tuple #[])/\Hid (Bd B v w' b c g (m+100)):=by
 have a:=uU h;have f:=h.c0;go_enter func117,ntmps117;go_wp2_with (first|(go_at_call 17;refine(tL B v _ b c g _ _ a (by omega) (by omega) (by omega)).mono ?_;rintro e l ⟨r,j,q,p,d⟩;have o:=uH j;subst o;have a:=d;have f:=a.c0)|(go_at_call 56;refine(a1e B v _ b c g _ _ _ _ _ (by omega) (by omega) (by omega) (by omega) a).mono ?_;rintro e l ⟨rfl,d⟩;have a:=d;have f:=a.c0));go_loopw [4] (λi wr=>∃k:Nat,(k:Int)<=n/\i=iv k/\Hid (Bd B v wr b c g (m+4+k*12))) (λi _=>(n-intOf i).toNat)
 case atStart=>exact⟨0,by omega,rfl,a.more (by omega)⟩
 case round=>
  obtain⟨k,t,rfl,a⟩:=hrel;have f:=a.c0;by_cases s:(k:Int)<n
  ·go_wp2_with (first|(go_at_call 17;refine(tL B v _ b c g _ _ a (by omega) (by omega) (by omega)).mono ?_;rintro e l ⟨r,j,q,p,d⟩;have o:=uH j;subst o;have a:=d;have f:=a.c0)|(go_at_call 56;refine(a1e B v _ b c g _ _ _ _ _ (by omega) (by omega) (by omega) (by omega) a).mono ?_;rintro e l ⟨rfl,d⟩;have a:=d;have f:=a.c0)|(go_at_call 21;refine(a7w B v _ b c g _ a (by omega)).mono ?_;rintro e l ⟨rfl,d⟩;have a:=d;have f:=a.c0));all_goals
    go_roundw;exact⟨k+1,by omega,by go_num,a.more (by omega)⟩;simp[intOf];omega
  go_wp2_with (first|(go_at_call 17;refine(tL B v _ b c g _ _ a (by omega) (by omega) (by omega)).mono ?_;rintro e l ⟨r,j,q,p,d⟩;have o:=uH j;subst o;have a:=d;have f:=a.c0)|(go_at_call 56;refine(a1e B v _ b c g _ _ _ _ _ (by omega) (by omega) (by omega) (by omega) a).mono ?_;rintro e l ⟨rfl,d⟩;have a:=d;have f:=a.c0));all_goals
   go_end0
   exact⟨rfl,a.more (by omega)⟩
theorem bweakly(B:Nat)(v w:World)(b c g m:Nat)(h:Bd B v w b c g m)(y:m<=9999999):
  Calls prog 118 #[pP b] w λe w'=>e=.returned (.tuple #[])/\Hid (Bd B v w' b c g (m+100)):=by
 have a:=uU h;have f:=h.c0;go_enter func118,ntmps118;go_wp21;refine(tL B v _ b c g _ _ a (by omega) (by omega) (by omega)).mono ?_;rintro e l ⟨n,j,t,u,d⟩;have o:=uH j;subst o;have a:=d;have f:=a.c0;go_wp2_with (first|(go_at_call 17;refine(tL B v _ b c g _ _ a (by omega) (by omega) (by omega)).mono ?_;rintro e l ⟨r,j,q,p,d⟩;have o:=uH j;subst o;have a:=d;have f:=a.c0)|(go_at_call 56;refine(a1e B v _ b c g _ _ _ _ _ (by omega) (by omega) (by omega) (by omega) a).mono ?_;rintro e l ⟨rfl,d⟩;have a:=d;have f:=a.c0));go_loopw [3,4,5] (λi _x _y wr=>∃k:Nat,(k:Int)<=1+n/\i=iv k/\Hid (Bd B v wr b c g (m+8+k*20))) (λi _x _y _=>(1+n-intOf i).toNat)
 case atStart=>exact⟨0,by omega,rfl,a.more (by omega)⟩
 case round=>
  obtain⟨k,x,rfl,a⟩:=hrel;have f:=a.c0;by_cases s:(k:Int)<1+n
  ·go_wp2_with (first|(go_at_call 17;refine(tL B v _ b c g _ _ a (by omega) (by omega) (by omega)).mono ?_;rintro e l ⟨r,j,q,p,d⟩;have o:=uH j;subst o;have a:=d;have f:=a.c0)|(go_at_call 56;refine(a1e B v _ b c g _ _ _ _ _ (by omega) (by omega) (by omega) (by omega) a).mono ?_;rintro e l ⟨rfl,d⟩;have a:=d;have f:=a.c0)|(go_at_call 21;refine(a7w B v _ b c g _ a (by omega)).mono ?_;rintro e l ⟨rfl,d⟩;have a:=d;have f:=a.c0));all_goals
    go_roundw;exact⟨k+1,by omega,by go_num,a.more (by omega)⟩;simp[intOf];omega
  go_wp2_with (first|(go_at_call 17;refine(tL B v _ b c g _ _ a (by omega) (by omega) (by omega)).mono ?_;rintro e l ⟨r,j,q,p,d⟩;have o:=uH j;subst o;have a:=d;have f:=a.c0)|(go_at_call 56;refine(a1e B v _ b c g _ _ _ _ _ (by omega) (by omega) (by omega) (by omega) a).mono ?_;rintro e l ⟨rfl,d⟩;have a:=d;have f:=a.c0));all_goals
   go_end0
   exact⟨rfl,a.more (by omega)⟩
theorem bring(B:Nat)(v w:World)(b c g m:Nat)(h:Bd B v w b c g m)(t:m<=9999999):
  Calls prog 120 #[pP b] w λe w'=>e=.returned (.tuple #[])/\Hid (Bd B v w' b c g (m+60)):=by
 have a:=uU h;have f:=h.c0;go_enter func120,ntmps120;go_wp2_with (first|(go_at_call 17;refine(tL B v _ b c g _ _ a (by omega) (by omega) (by omega)).mono ?_;rintro e j ⟨r,l,p,o,d⟩;have n:=uH l;subst n;have a:=d;have f:=a.c0)|(go_at_call 56;refine(a1e B v _ b c g _ _ _ _ _ (by omega) (by omega) (by omega) (by omega) a).mono ?_;rintro e j ⟨rfl,d⟩;have a:=d;have f:=a.c0)|(go_at_call 21;refine(a7w B v _ b c g _ a (by omega)).mono ?_;rintro e j ⟨rfl,d⟩;have a:=d;have f:=a.c0));go_loopw [2] (λi wr=>∃k:Nat,k<=4/\i=iv k/\Hid (Bd B v wr b c g (m+8+k*4))) (λi _=>(4-intOf i).toNat)
 case atStart=>exact⟨1,by omega,rfl,a.more (by omega)⟩
 case round=>
  obtain⟨k,s,rfl,a⟩:=hrel;have f:=a.c0;by_cases q:(k:Int)<4
  ·go_wp2_with (first|(go_at_call 17;refine(tL B v _ b c g _ _ a (by omega) (by omega) (by omega)).mono ?_;rintro e j ⟨r,l,p,o,d⟩;have n:=uH l;subst n;have a:=d;have f:=a.c0)|(go_at_call 56;refine(a1e B v _ b c g _ _ _ _ _ (by omega) (by omega) (by omega) (by omega) a).mono ?_;rintro e j ⟨rfl,d⟩;have a:=d;have f:=a.c0)|(go_at_call 21;refine(a7w B v _ b c g _ a (by omega)).mono ?_;rintro e j ⟨rfl,d⟩;have a:=d;have f:=a.c0));all_goals
    go_roundw;exact⟨k+1,by omega,by go_num,a.more (by omega)⟩;simp[intOf];omega
  go_wp2_with (first|(go_at_call 17;refine(tL B v _ b c g _ _ a (by omega) (by omega) (by omega)).mono ?_;rintro e j ⟨r,l,p,o,d⟩;have n:=uH l;subst n;have a:=d;have f:=a.c0)|(go_at_call 56;refine(a1e B v _ b c g _ _ _ _ _ (by omega) (by omega) (by omega) (by omega) a).mono ?_;rintro e j ⟨rfl,d⟩;have a:=d;have f:=a.c0)|(go_at_call 21;refine(a7w B v _ b c g _ a (by omega)).mono ?_;rintro e j ⟨rfl,d⟩;have a:=d;have f:=a.c0));all_goals
   go_end0
   exact⟨rfl,a.more (by omega)⟩
theorem blastly(B:Nat)(v w:World)(b c g m:Nat)(h:Bd B v w b c g m)(u:m<=9999999):
  Calls prog 119 #[pP b] w λe w'=>e=.returned (.tuple #[])/\Hid (Bd B v w' b c g (m+150)):=by
 have a:=uU h;have f:=h.c0;go_enter func119,ntmps119;go_wp2_with (go_at_call 17;refine(tL B v _ b c g _ _ a (by omega) (by omega) (by omega)).mono ?_;rintro e l ⟨r,j,p,o,d⟩;have n:=uH j;subst n;have a:=d;have f:=a.c0);go_loopw [2] (λi wr=>∃k:Nat,k<=3/\i=iv k/\Hid (Bd B v wr b c g (m+2+(3-k)*12))) (λi _=>(intOf i).toNat)
 case atStart=>exact⟨(1+r).toNat,by omega,by rw[mg (by omega)],a.more (by omega)⟩
 case round=>
  obtain⟨k,t,rfl,a⟩:=hrel;have f:=a.c0;by_cases s:(k:Int) > 0
  ·go_wp2_with (first|(go_at_call 17;refine(tL B v _ b c g _ _ a (by omega) (by omega) (by omega)).mono ?_;rintro e l ⟨r,j,p,o,d⟩;have n:=uH j;subst n;have a:=d;have f:=a.c0)|(go_at_call 56;refine(a1e B v _ b c g _ _ _ _ _ (by omega) (by omega) (by omega) (by omega) a).mono ?_;rintro e l ⟨rfl,d⟩;have a:=d;have f:=a.c0)|(go_at_call 21;refine(a7w B v _ b c g _ a (by omega)).mono ?_;rintro e l ⟨rfl,d⟩;have a:=d;have f:=a.c0));all_goals
    go_roundw;exact⟨k-1,by omega,by rw[Int.ofNat_sub (by omega)];rfl,a.more (by omega)⟩;simp[intOf];omega
  have q:k=0:=by omega
  subst q;go_wp2_with (first|(go_at_call 17;refine(tL B v _ b c g _ _ a (by omega) (by omega) (by omega)).mono ?_;rintro e l ⟨r,j,p,o,d⟩;have n:=uH j;subst n;have a:=d;have f:=a.c0)|(go_at_call 56;refine(a1e B v _ b c g _ _ _ _ _ (by omega) (by omega) (by omega) (by omega) a).mono ?_;rintro e l ⟨rfl,d⟩;have a:=d;have f:=a.c0));go_loopw [3,4] (λi _x wr=>∃k:Nat,k<=3/\i=iv k/\Hid (Bd B v wr b c g (m+40+(3-k)*20))) (λi _ _=>(intOf i).toNat)
  case atStart=>exact⟨r.toNat,by omega,by rw[mg (by omega)],a.more (by omega)⟩
  case round=>
   obtain⟨k,t,rfl,a⟩:=hrel;have f:=a.c0;by_cases s:(k:Int) > 0
   ·go_wp2_with (first|(go_at_call 17;refine(tL B v _ b c g _ _ a (by omega) (by omega) (by omega)).mono ?_;rintro e l ⟨r,j,p,o,d⟩;have n:=uH j;subst n;have a:=d;have f:=a.c0)|(go_at_call 56;refine(a1e B v _ b c g _ _ _ _ _ (by omega) (by omega) (by omega) (by omega) a).mono ?_;rintro e l ⟨rfl,d⟩;have a:=d;have f:=a.c0)|(go_at_call 21;refine(a7w B v _ b c g _ a (by omega)).mono ?_;rintro e l ⟨rfl,d⟩;have a:=d;have f:=a.c0)|(go_at_call 60;refine(c3v B v _ b c g _ _ (by omega) (by omega) a (by omega)).mono ?_;rintro e l ⟨r,j,p,o,d⟩;have n:=uH j;subst n;have a:=d;have f:=a.c0));all_goals
     go_roundw;exact⟨k-1,by omega,by rw[Int.ofNat_sub (by omega)];rfl,a.more (by omega)⟩;simp[intOf];omega
   go_wp2_with (first|(go_at_call 17;refine(tL B v _ b c g _ _ a (by omega) (by omega) (by omega)).mono ?_;rintro e l ⟨r,j,p,o,d⟩;have n:=uH j;subst n;have a:=d;have f:=a.c0)|(go_at_call 56;refine(a1e B v _ b c g _ _ _ _ _ (by omega) (by omega) (by omega) (by omega) a).mono ?_;rintro e l ⟨rfl,d⟩;have a:=d;have f:=a.c0));all_goals
    go_end0
    exact⟨rfl,a.more (by omega)⟩
theorem bsome(B:Nat)(v w:World)(b c g m:Nat)(h:Bd B v w b c g m)(t:m<=999999):
  Calls prog 55 #[pP b] w λe w'=>e=.returned (.tuple #[])/\Hid (Bd B v w' b c g (m+300)):=by
 have a:=uU h;have f:=h.c0;go_enter func55,ntmps55;go_wp2_with (first|(go_at_call 17;refine(tL B v _ b c g _ _ a (by omega) (by omega) (by omega)).mono ?_;rintro e j ⟨r,l,s,p,d⟩;have n:=uH l;subst n;have a:=d;have f:=a.c0)|(go_at_call 117;refine(bchain B v _ b c g _ _ a (by omega) (by omega) (by omega)).mono ?_;rintro e j ⟨rfl,d⟩;have a:=d;have f:=a.c0)|(go_at_call 118;refine(bweakly B v _ b c g _ a (by omega)).mono ?_;rintro e j ⟨rfl,d⟩;have a:=d;have f:=a.c0)|(go_at_call 119;refine(blastly B v _ b c g _ a (by omega)).mono ?_;rintro e j ⟨rfl,d⟩;have a:=d;have f:=a.c0)|(go_at_call 120;refine(bring B v _ b c g _ a (by omega)).mono ?_;rintro e j ⟨rfl,d⟩;have a:=d;have f:=a.c0)|(go_at_call 21;refine(a7w B v _ b c g _ a (by omega)).mono ?_;rintro e j ⟨rfl,d⟩;have a:=d;have f:=a.c0));iterate 4
  ·go_end0
   exact⟨rfl,a.more (by omega)⟩
 go_loopw [3] (λi wr=>∃k:Nat,k<=9/\i=iv k/\Hid (Bd B v wr b c g (m+4+(9-k)*20))) (λi _=>(intOf i).toNat)
 case atStart=>exact⟨(2+r).toNat,by omega,by rw[mg (by omega)],a.more (by omega)⟩
 case round=>
  obtain⟨k,q,rfl,a⟩:=hrel;have f:=a.c0;by_cases o:(k:Int) > 0;go_wp2_with (first|(go_at_call 22;refine(bact B v _ b c g _ a (by omega)).mono ?_;rintro e j ⟨rfl,d⟩;have a:=d;have f:=a.c0)|(go_at_call 21;refine(a7w B v _ b c g _ a (by omega)).mono ?_;rintro e j ⟨rfl,d⟩;have a:=d;have f:=a.c0));go_roundw
  ·exact⟨k-1,by omega,by rw[Int.ofNat_sub (by omega)];rfl,a.more (by omega)⟩
  simp[intOf];omega;go_wp2_with (go_at_call 21;refine(a7w B v _ b c g _ a (by omega)).mono ?_;rintro e j ⟨rfl,d⟩;have a:=d;have f:=a.c0);go_end0;exact⟨rfl,a.more (by omega)⟩
def frH(n:Int):Hp:=⟨n,0,0,List.replicate 16 ⟨0,0,0⟩,[],0,0,0,[],0,0,0,0⟩
theorem frH_snd(n:Int)(d:1<=n)(f:n<=4000):Snd (frH n):=by
 have b:(frH n).A=[]:=rfl;refine⟨⟨⟨d,f⟩,by simp[frH],by simp[frH];omega,by simp[frH],by simp[frH],by simp[frH],by simp[frH],by simp[frH],by simp[frH],by simp[frH],by simp[frH],by simp[frH]⟩,⟨λi a=>by simp[b]at a,λi a=>by simp[b]at a⟩,⟨by simp[frH,dH],by simp[frH];omega⟩,⟨λi a=>?_,λi a=>by simp[b]at a⟩,⟨λ_=>rfl,λi a=>by simp[b]at a,λq c=>by simp[frH]at c⟩,⟨λ_=>⟨rfl,rfl⟩,λe=>by simp[frH]at e,λe=>by simp[frH]at e,λ_=>rfl⟩,λ_ i a=>by simp[b]at a,λi a=>by simp[b]at a⟩;have e:(frH n).B[i]=⟨0,0,0⟩:=List.eq_of_mem_replicate (n:=16) (ki a);rw[e];exact⟨.inl ⟨rfl,rfl,rfl⟩,λh=>by cases h⟩
theorem zw_cell(w:World)(t:TypeId)(j:Nat)(a:j<48):(w.alloc (.cells (zw 48) t)).cell? (aA w.heap.size j)=some (iv 0):=by
 have:=heap_alloc_new w (.cells (zw 48) t);unfold World.cell?;simp only[this];simp[zw,a]
theorem b4a(w:World)(c:Array Value)(t:TypeId):Nf1 w.heap.size (w.alloc (.cells c t)):=⟨by simp[go_sem],λj=>by simp[go_sem]⟩
theorem d5a(S:Nat->Prop)(n:Int)(w:World)(y:∀q,S q->q<w.heap.size):GG S w.heap.size ((w.alloc (.cells (zw 48) 86)).alloc (.cells #[iv n,iv 0,iv 0,sS w.heap.size 16 16,.slice none 0 0,iv 0,iv 0,iv 0,.slice none 0 0,iv 0,iv 0,iv 0,iv 0] 27)) (w.heap.size+1) (frH n):=by
 have t:=(hO w).alloc (.cells (zw 48) 86);have p:=b4a w (zw 48) 86;have Z:=λj x=>zw_cell w 86 j x
 obtain⟨c,l⟩:=nM (w.alloc (.cells (zw 48) 86));rw[<-l]at t p Z ⊢;have v:c.heap.size=w.heap.size+1:=by rw[l];simp[go_sem]
 have d:=(hO c).alloc (.cells #[iv n,iv 0,iv 0,sS w.heap.size 16 16,.slice none 0 0,iv 0,iv 0,iv 0,.slice none 0 0,iv 0,iv 0,iv 0,iv 0] 27);have k:=b4a c #[iv n,iv 0,iv 0,sS w.heap.size 16 16,.slice none 0 0,iv 0,iv 0,iv 0,.slice none 0 0,iv 0,iv 0,iv 0,iv 0] 27;have g:=cY.new c (frH n) (sS w.heap.size 16 16) (.slice none 0 0) (.slice none 0 0) 27;rw[v]at k g;obtain⟨f,s⟩:=nM (c.alloc (.cells #[iv n,iv 0,iv 0,sS w.heap.size 16 16,.slice none 0 0,iv 0,iv 0,iv 0,.slice none 0 0,iv 0,iv 0,iv 0,iv 0] 27));have g:cY (c.alloc (.cells #[iv n,iv 0,iv 0,sS w.heap.size 16 16,.slice none 0 0,iv 0,iv 0,iv 0,.slice none 0 0,iv 0,iv 0,iv 0,iv 0] 27)) (w.heap.size+1) (frH n) (sS w.heap.size 16 16) (.slice none 0 0) (.slice none 0 0):=g;rw[<-s]at d k g ⊢;have e:(frH n).B.length=16:=by simp[frH]
 have b:(frH n).A=[]:=rfl;refine⟨λq=>if q<w.heap.size then f.heap[q]? else none,λq a=>?_,some (aA w.heap.size 0),16,none,0,.slice none 0 0,w.heap.size,0,λ_=>0,λ_=>none,λ_=>0,λq=>if q=w.heap.size+1 then 0 else if q=w.heap.size then 2 else 1,?_⟩;have:=y q a;simp only[this,if_true];exact a3b (by have:=d.size;omega);letI:Inhabited uL:=⟨⟨λq=>if q<w.heap.size then f.heap[q]? else none⟩⟩;refine⟨by rw[e];exact g,k,by omega,λ_=>rfl,λh=>by simp[b]at h,⟨λi m=>?_,λq a=>by simp[b]at a,λq a=>by simp[b]at a,λq a=>by simp[b]at a,λq a=>by simp[b]at a,λ_=>⟨p.ext d,hT _⟩,λh=>by simp[b]at h,λh=>by simp[b]at h,λq _ a=>by simp[b]at a,λq a=>by simp[b]at a⟩,.inl ⟨rfl,rfl⟩,⟨if_pos rfl,λ_=>by rw[if_neg (by omega),if_pos rfl],λh=>by simp[b]at h,λq a=>by simp[Value.ownBlock]at a,λq a=>by simp[b]at a⟩,by simp[b],λq o a=>?_,λh=>by omega,λ_ j i=>⟨_,d.keep (Z j i)⟩⟩;have r:i<16:=e ▸ m;have u:(frH n).B[i]=⟨0,0,0⟩:=List.eq_of_mem_replicate (n:=16) (ki m);exact(congrArg (yL f w.heap.size (i*3)) u).mpr ⟨d.keep (Z _ (by omega)),d.keep (Z _ (by omega)),d.keep (Z _ (by omega))⟩;have a:(if q<w.heap.size then f.heap[q]? else none)=some o:=a;split at a;exact⟨by rw[if_neg (by omega),if_neg (by omega)],a⟩
 cases a
theorem d0v(v w:World)(c m:Nat)(h:Cu v w c m)(k:m<=99999):
  Calls prog 54 #[pP c] w λe w'=>∃r:Int,Hid (e=.returned (iv r))/\1<=r/\r<=4000/\Hid (Cu v w' c (m+4)):=by
 have a:=uU h;go_enter func54,ntmps54;go_wp2_with (go_at_call 17;refine(a1u v _ c _ _ a (by omega) (by omega) (by omega)).mono ?_;rintro e g ⟨r,d,j,i,b,o⟩;have f:=uH d;subst f;have a:=b);all_goals
  go_ret;exact⟨_,rfl,by omega,by omega,a⟩
theorem c6j(v w:World)(c m:Nat)(n:Int)(y:1<=n)(x:n<=4000)(h:Cu v w c m):
  Calls prog 53 #[pP c,iv n] w λe w'=>∃b g B,Hid (e=.returned (pP b))/\Hid (Bd B v w' b c g m):=by
 have d:=uU h;have k:=uU (d5a (λq=>q=c) n w (λq e=>by have:=h.2.1.1;omega));have j:=uU (((hO w).alloc (.cells (zw 48) 86)).alloc (.cells #[iv n,iv 0,iv 0,sS w.heap.size 16 16,.slice none 0 0,iv 0,iv 0,iv 0,.slice none 0 0,iv 0,iv 0,iv 0,iv 0] 27));have p:=uU (show((w.alloc (.cells (zw 48) 86)).alloc (.cells #[iv n,iv 0,iv 0,sS w.heap.size 16 16,.slice none 0 0,iv 0,iv 0,iv 0,.slice none 0 0,iv 0,iv 0,iv 0,iv 0] 27)).heap.size=w.heap.size+2 by simp[go_sem]);clear h;have Q:=uU (c3w n w);go_enter func53,ntmps53;go_wp21;refine Q.mono ?_;rintro e i ⟨rfl,o⟩;rw[<-o]at k j p;clear o Q;go_wp21;go_ret;have f:=(hO i).alloc (.cells #[pP c,pP (w.heap.size+1),.slice none 0 0,iv 400] 59);have l:=b4a i #[pP c,pP (w.heap.size+1),.slice none 0 0,iv 400] 59;have t:=d.2.1.1;have u:=d.1.size;have z:=uH p;refine⟨i.heap.size,w.heap.size+1,w.heap.size,rfl,frH n,[],.slice none 0 0,400,⟨frH_snd n y x,λa r=>(by simp at r),by simp,d.blk (d.1.trans (uQ.of_ext (j.trans f))) (by rw[f.block c (by omega)];exact j.block c t),u,by omega,by omega,l,by simp[go_sem],by simp[go_sem],by simp[go_sem],by simp[go_sem],ks _ _ _ _,by simp[Value.ownBlock],by simp[Value.ownBlock],k.more f (λq s=>?_)⟩⟩;obtain e|e|e:=s;exact .inr ⟨by omega,by rw[e];exact l.1⟩;exact .inl e;simp[Value.ownBlock]at e
theorem a1q(h:Bd B v w b c g m):∃p:Int,w.cell? (aA g 5)=some (iv p)/\
  Hid (p≠0->Calls prog 52 #[pP g] w λe w'=>e=.returned (.tuple #[])/\Hid (Bd B v w' b c g m))/\
  Hid (p=0->Calls prog 51 #[pP g] w λe w'=>e=.returned (.tuple #[])/\Hid (Bd B v w' b c g m)/\w'.cell? (aA g 5)=some (iv 1)):=by
 obtain⟨x,L,k,l,h⟩:=h;obtain⟨p,j,d⟩:=h.gg.call;refine⟨x.E,j.box.2.2.1,λe=>?_,λe=>?_⟩;exact(a5q B g x w j h.s e _ (kN.le w B) (kN.ext w B)).mono λ_ w' ⟨f,a,i⟩=>⟨f,_,L,k,l,h.blk (h.cu.1.low h.vB i) h.s.unit (d _ _ a).1 (d _ _ a).2⟩
 exact(a4m B g x w j _ (kN.le w B) (kN.ext w B)).mono λ_ w' ⟨f,a,i⟩=>⟨f,⟨_,L,k,l,h.blk (h.cu.1.low h.vB i) (h.s.begin e) (d _ _ a).1 (d _ _ a).2⟩,a.box.2.2.1⟩
def d5b(v:World)(c:Nat)(e:Ending)(w':World):Prop:=∃b g B m,Hid (e=.returned (.pointer (some ⟨g,0,none⟩)))/\Hid (Bd B v w' b c g m)/\m<=999999
theorem b8t(v w:World)(c m:Nat)(h:Cu v w c m)(T:m<=9999):
  Calls prog 19 #[pP c] w λe w'=>d5b v c e w':=by
 have E:=uU h;go_enter func19,ntmps19;go_wp21;refine(d0v v w c m E (by omega)).mono ?_;rintro e z ⟨n,x,O,L,E⟩;have y:=uH x;subst y;go_wp21;refine(c6j v z c _ n O L E).mono ?_;rintro e R ⟨b,g,B,x,a⟩;have y:=uH x;subst y;have u:=a.c0;have o:=a.c1;obtain⟨p,d,j,l⟩:=a1q a;go_wp21;refine(tL B v _ b c g _ _ a (by omega) (by omega) (by omega)).mono ?_;rintro e z ⟨A,x,N,P,f⟩;have y:=uH x;subst y;have a:=f;have u:=a.c0;have o:=a.c1;obtain⟨p,d,j,l⟩:=a1q a;go_wp2_with (go_at_call 17;refine(tL B v _ b c g _ _ a (by omega) (by omega) (by omega)).mono ?_;rintro e z ⟨r,x,I,H,f⟩;have y:=uH x;subst y;have a:=f;have u:=a.c0;have o:=a.c1;obtain⟨p,d,j,l⟩:=a1q a);go_loopw [5] (λi wr=>∃k:Nat,k<=8/\i=iv k/\Hid (Bd B v wr b c g (m+10+(8-k)*300))) (λi _=>(intOf i).toNat)
 case atStart=>exact⟨(1+r).toNat,by omega,by rw[mg (by omega)],a.more (by omega)⟩
 case round=>
  obtain⟨k,K,rfl,a⟩:=hrel;have u:=a.c0;have o:=a.c1;obtain⟨p,d,j,l⟩:=a1q a;by_cases J:(k:Int) > 0
  ·go_wp2_with (go_at_call 55;refine(bsome B v _ b c g _ a (by omega)).mono ?_;rintro e z ⟨rfl,f⟩;have a:=f;have u:=a.c0;have o:=a.c1;obtain⟨p,d,j,l⟩:=a1q a);go_roundw
   ·exact⟨k-1,by omega,by rw[Int.ofNat_sub (by omega)];rfl,a.more (by omega)⟩
   simp[intOf];omega
  go_upto_if 37 with(go_at_call 17;refine(tL B v _ b c g _ _ a (by omega) (by omega) (by omega)).mono ?_;rintro e z ⟨r,x,I,H,f⟩;have y:=uH x;subst y;have a:=f;have u:=a.c0;have o:=a.c1;obtain⟨p,d,j,l⟩:=a1q a)
  ·go_ret;exact⟨b,g,B,_,rfl,a,by omega⟩
  go_cut [] (λC=>Hid (Bd B v C b c g (m+3000)))
  case first=>
   cases t:(p == 0)
   ·go_wp2;go_meet;exact a.more (by omega)
   go_wp2_with (go_at_call 51;refine(l (by have:=‹(p == 0)=true›;simpa using this)).mono ?_;rintro e z ⟨rfl,f,D⟩;have a:=f;have u:=a.c0;have o:=a.c1;obtain⟨p,d,j,l⟩:=a1q a;have G:p≠0:=by rw[D]at d;simp at d;omega);go_meet;exact a.more (by omega)
  case rest=>
   have a:=hcut;go_wp21;go_loopw [6] (λi wr=>∃k:Nat,k<=20000/\i=iv k/\Hid (Bd B v wr b c g (m+3000))) (λi _=>20000-(intOf i).toNat)
   case atStart=>exact⟨0,by omega,rfl,a⟩
   case round=>
    obtain⟨k,K,rfl,a⟩:=hrel;have u:=a.c0;have o:=a.c1;obtain⟨p,d,j,l⟩:=a1q a;obtain⟨W,M⟩:=nM wr;subst M;go_upto_region 12 with(fail);go_cut [59] (λs C=>C=W/\∃t:Bool,s=.bool t/\Hid (t=true->(k:Int)<20000))
    case first=>
     rcases (show((k:Int)<20000/\(p != A)=true/\A<=6)\/((k:Int)<20000/\(p != A)=true/\¬A<=6)\/((k:Int)<20000/\(p != A)=false)\/¬(k:Int)<20000 by cases (p != A) <;> simp <;> omega) with⟨F,h2,h3⟩|⟨F,h2,h3⟩|⟨F,h2⟩|F;all_goals
      go_wp2;go_meet;exact⟨rfl,_,rfl,λe=>by first|omega|cases e⟩
    case rest=>
     obtain⟨rfl,t,rfl,Q⟩:=hcut;cases t
     ·go_wp2_with (go_at_call 17;refine(tL B v _ b c g _ _ a (by omega) (by omega) (by omega)).mono ?_;rintro e z ⟨r,x,I,H,f⟩;have y:=uH x;subst y;have a:=f;have u:=a.c0;have o:=a.c1;obtain⟨p,d,j,l⟩:=a1q a);go_loopw [7] (λi wr=>∃k:Nat,k<=6/\i=iv k/\Hid (Bd B v wr b c g (m+4000+(6-k)*30))) (λi _=>(intOf i).toNat)
      case atStart=>exact⟨r.toNat,by omega,by rw[mg (by omega)],a.more (by omega)⟩
      case round=>
       obtain⟨k,K,rfl,a⟩:=hrel;have u:=a.c0;have o:=a.c1;obtain⟨p,d,j,l⟩:=a1q a;by_cases J:(k:Int) > 0
       ·go_wp2_with (first|(go_at_call 17;refine(tL B v _ b c g _ _ a (by omega) (by omega) (by omega)).mono ?_;rintro e z ⟨r,x,I,H,f⟩;have y:=uH x;subst y;have a:=f;have u:=a.c0;have o:=a.c1;obtain⟨p,d,j,l⟩:=a1q a)|(go_at_call 22;refine(bact B v _ b c g _ a (by omega)).mono ?_;rintro e z ⟨rfl,f⟩;have a:=f;have u:=a.c0;have o:=a.c1;obtain⟨p,d,j,l⟩:=a1q a)|(go_at_call 52;refine(j (by first|exact G|(have:=‹(p != 0)=true›;simpa using this)|(have:=‹(p == 0)=false›;simpa using this))).mono ?_;rintro e z ⟨rfl,f⟩;have a:=f;have u:=a.c0;have o:=a.c1;obtain⟨p,d,j,l⟩:=a1q a));all_goals
         go_roundw;exact⟨k-1,by omega,by rw[Int.ofNat_sub (by omega)];rfl,a.more (by omega)⟩;simp[intOf];omega
       go_wp2;go_ret;exact⟨b,g,B,_,rfl,a,by omega⟩
     have F:=uH Q rfl;go_upto_if 69 with(fail);go_cut [] (λC=>Hid (Bd B v C b c g (m+3000))/\∃q:Int,C.cell? (aA g 5)=some (iv q)/\q≠0)
     case first=>
      cases t:(p == 0)
      ·go_wp2;go_meet;exact⟨a,p,d,by simpa using t⟩
      go_wp2_with (go_at_call 51;refine(l (by simpa using t)).mono ?_;rintro e z ⟨rfl,f,D⟩);go_meet;exact⟨f,1,D,by omega⟩
     case rest=>
      obtain⟨a,q,D,S⟩:=hcut;have u:=a.c0;have o:=a.c1;obtain⟨p,d,j,l⟩:=a1q a;have G:p≠0:=by rw[D]at d;simp at d;omega
      go_wp2_with (go_at_call 52;refine(j (by first|exact G|(have:=‹(p != 0)=true›;simpa using this)|(have:=‹(p == 0)=false›;simpa using this))).mono ?_;rintro e z ⟨rfl,f⟩;have a:=f;have u:=a.c0;have o:=a.c1;obtain⟨p,d,j,l⟩:=a1q a);go_roundw
      ·exact⟨k+1,by omega,by go_num,a⟩
      simp[intOf];omega
end Go.Proofs.YtolmnenlnpbcfaaGreatDoor
