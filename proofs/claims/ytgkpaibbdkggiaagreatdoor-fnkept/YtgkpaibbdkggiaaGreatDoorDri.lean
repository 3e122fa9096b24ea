import Derived.Test.YtgkpaibbdkggiaaGreatDoorJr
import Derived.Test.YtgkpaibbdkggiaaGreatDoorRby
set_option maxRecDepth 100000
set_option maxHeartbeats 4000000
namespace Go.Proofs.YtgkpaibbdkggiaaGreatDoor
open Go.RowKit Go.Proofs.Tryz
attribute [local go_sem ↓] Go.wp_at_zero Go.wp_at_succ
variable{Y:Yt}{w v w0 W u w':World}{c g B m kc b k kr bc kg i kp F cap br n:Nat}{x:Hp}{S:Nat->Prop}{T U:Tx}{sd z y sq:Int}{ar ac ag pa:Option Addr}{d:Cl}{L:List Ak}{va r vg:Value}{l:List Value}{pb pk role:Nat->Nat}
theorem l5do_gg(S P:Nat->Prop)(B:Nat)(v w:World)(g:Nat)(x:Hp)(A:Ak)(h:GG S B w g x)(s:Snd x)(m:v.heap.size<=B)(e:uZ P v w):
  Calls prog 28 #[pP g,A.v] w λe w'=>∃(y:Hp)(i j:Int)(u:Value),Hid (e=.returned u)/\Hid (gU x A.op A.a A.b A.c A.n y i j)/\Hid (GG S B w' g y)/\Hid (∀q,S q->w'.heap[q]?=w.heap[q]?)/\Hid (uZ P v w'):=by
 obtain⟨p,l,d⟩:=h.call;exact(c2b B g x A.op A.a A.b A.c A.n w l s _ (kL.le w B) (kL.ext w B)).mono λ_ _ ⟨y,o,r,i,k,f,j⟩=>⟨y,o,r,_,i,k,(d _ _ f).1,(d _ _ f).2,e.low m j⟩
theorem infoA:(prog.info? 29).map (λi=>(i.zero,i.size,i.bytes))=some (some (.agg #[iv 0,iv 0,iv 0,iv 0,iv 0]),5,40):=by kernel_rfl
theorem c9j{ops:Array Oper}{o:Oper}{a:Act}{K:Act->World->Prop}{Q:Exit->Act->World->Prop}{E:Prop}(W:World)(C:o.guard=none)(s y:Operand)
  (M:o.op=.call { callee:=.builtin .append,args:=#[s,y],argTypes:=#[64,64] })
          {lf:Nat} (h:Bp Y B v w b c g m z x L va lf) (e:Ext w W) (A:Ak) (ad:Addr) (I:a.eval s=va) (H:a.eval y=.slice (some ad) 1 1) (N:∀j u,(fA A)[j]?=some u->W.cell? (ad.add j)=some u)
  (J:∀q cap w',AppA v.heap.size w va L A q cap w'->K (a.put o.dst (sS q (L.length+1) cap)) w') :
  if Region.wanted o (yielded ops a.tmps)=true then Oper.wp prog o a W K Q else E:=by
 obtain⟨G,t,p,r,l⟩:=info_parts infoA;have R:=h.hl;have O:=e.size;have P:=h.cu.1.size;refine step_append_lies (w:=W) C s y 64 M v.heap.size 29 G (.agg #[iv 0,iv 0,iv 0,iv 0,iv 0]) 5 40 underlying64 t p r l rfl (by decide) va L.length (L.flatMap fA) I (uN h.ow (λq i=>e.block q (h.ow.lt q i).2)) ad 1 1 (fA A) H rfl N (λu D=>?_) (by decide) (by unfold maxLen;omega) (by omega) (by omega) _ rfl (λq cap w' k d n F=>J q cap w' ⟨?_,?_,?_⟩);simp[fA]at D;obtain e|e|e|e|e:=D <;> subst e <;> rfl
 rw[nS];simpa using k;exact(uZ.of_ext e).trans ⟨d.os,d.tape,d.output,d.size,λq i z=>d.block q i (λe=>z e.symm)⟩;obtain f|f:=n
 ·exact .inl f
 exact .inr (by omega)
def EmP(Y:Yt)(B:Nat)(v:World)(b c g:Nat)(T:Tx)(A:Ak)(w:World):Prop:=(T.lf=0/\Bd Y B v w b c g T)\/∃l y i j,T.lf=l+1/\gU T.x A.op A.a A.b A.c A.n y i j/\Bd Y B v w b c g ⟨T.k,T.z,y,T.L++[A],l⟩
theorem b5w(Y:Yt)(B:Nat)(v w:World)(b c g:Nat)(T:Tx)(A:Ak)(hA:a3a A)(h:Bd Y B v w b c g T):
  Calls prog 41 #[.pointer (some ⟨b,0,none⟩),A.v] w λe w'=>e=.returned (.tuple #[])/\Hid (EmP Y B v b c g T A w'):=by
 obtain⟨k0,z,x,L,lf⟩:=T;obtain⟨va,h⟩:=h;have h:Bp Y B v w b c g k0 z x L va lf:=h;have H:=uU h;have b3:=h.b3;have hb:b<w.heap.size:=h.nf.1;have f3:=h.nf.2 3;cases lf with
 | zero=>
  have HE:=uU (λW (e:Ext w W)=>show EmP Y B v b c g ⟨k0,z,x,L,0⟩ A W from .inl ⟨rfl,va,H.ext e⟩);clear h;go_enter func41,ntmps41;go_wp21;refine bodyPost_ret (results_none rfl _ _ _) rfl ?_;exact⟨rfl,uH HE _ ((hO _).alloc _)⟩
 | succ lf=>
  obtain⟨W,hW⟩:=nM ((w.setCell ⟨b,3,none⟩ (iv lf)).alloc (.cells #[iv A.op,iv A.a,iv A.b,iv A.c,iv A.n] 29));have HW:=uU hW;have HP:=uU ((h.left (k:=lf) (by omega)).ext ((hO _).alloc (.cells #[iv A.op,iv A.a,iv A.b,iv A.c,iv A.n] 29)));rw[<-hW]at HP;have HL:=uU (show L.length+lf+1<=400 by have:=h.hl;omega);have ks:(w.setCell ⟨b,3,none⟩ (iv lf)).heap.size=w.heap.size:=by simp[World.setCell]
  obtain⟨k,hk⟩:=nM w.heap.size;have KV:=uU (show va.ownBlock≠some k from λe=>by have:=(h.ow.lt k e).2;omega);have kb:¬k=b:=by omega
  have AC:=uU (show W.cell? ⟨k,0,none⟩=some (iv A.op)/\W.cell? ⟨k,1,none⟩=some (iv A.a)/\W.cell? ⟨k,2,none⟩=some (iv A.b)/\W.cell? ⟨k,3,none⟩=some (iv A.c)/\W.cell? ⟨k,4,none⟩=some (iv A.n) by
   rw[hW,hk,<-ks];simp[go_sem])
  clear h;have e1:((lf+1:Nat):Int)-1=lf:=by omega
  have lb:lf<=400:=by have:=uH HL;omega
  go_enter func41,ntmps41;go_wp21;rw[<-hW,<-hk];have c2:=HP.b2;have g2:=HP.nf.2 2;have hbW:b<W.heap.size:=uQ c2;obtain⟨a0,a1,a2,a3,a4⟩:=uH AC;have hkW:k<W.heap.size:=uQ a0;clear b3 f3 hb hW hk e1 ks;go_region_law (refine c9j _ rfl _ _ rfl HP (by first|exact(hO _).alloc _|exact((hO _).alloc _).drew|exact(hO _).drew.alloc _) A _ (by first|rfl|simp[Act.eval,Act.put]) (by first|rfl|simp[Act.eval,Act.put];rfl) (World.news_of_block (cs:=#[iv A.op,iv A.a,iv A.b,iv A.c,iv A.n]) (by first|exact heap_alloc_new _ _|simp)) ?_;intro q cap w3 hap;have c2':=hap.on.keep HP.n1 c2;have g2':=(a5m HP.nf (hap.on.block b HP.nf.1 HP.n1)).2 2;have hb3:b<w3.heap.size:=uQ c2';have AP:=uU hap;clear hap);all_goals
   obtain⟨W4,hW4⟩:=nM (w3.setCell ⟨b,2,none⟩ (.slice (some ⟨q,0,none⟩) (L.length+1) cap));have PB:=uU (HP.push HL hA AP);have K4:=uU (λ(j:Nat) (u:Value) (e:W.cell? ⟨k,j,none⟩=some u)=>show W4.cell? ⟨k,j,none⟩=some u by rw[hW4,uC _ (.inl (λe=>kb e.symm))];exact AP.on.keep KV e);rw[<-hW4]at PB ⊢;have b0:=uH K4 _ _ a0;have b1:=uH K4 _ _ a1;have b2:=uH K4 _ _ a2;have b3:=uH K4 _ _ a3;have b4:=uH K4 _ _ a4;have c1:=PB.b1;have hk4:k<W4.heap.size:=uQ b0;have hb4:b<W4.heap.size:=uQ c1;have QD:=uU (λW (e:Ext W4 W)=>l5do_gg _ _ B v W g x A (PB.ext e).gg (PB.ext e).s (PB.ext e).vB (PB.ext e).cu.1);have FI:=uU (λ(W w5:World) (e:Ext W4 W) (y:Hp) (i j:Int) (s5:gU x A.op A.a A.b A.c A.n y i j) (g5:GG (λr=>r=b\/r=c\/some q=some r) B w5 g y) (k5:∀r,r=b\/r=c\/some q=some r->w5.heap[r]?=W.heap[r]?) (x5:uZ (λq=>q=c) v w5)=>show EmP Y B v b c g ⟨k0,z,x,L,lf+1⟩ A w5 from .inr ⟨lf,y,i,j,rfl,s5,_,(PB.ext e).blk x5 (gU.snd PB.s s5) g5 k5⟩);clear a0 a1 a2 a3 a4 c2 g2 hbW hkW c2' g2' hb3 hW4 K4 AP AC KV;go_wp21;go_region_with (go_at_call 28;refine(QD _ (by first|exact hO _|exact(hO _).drew)).mono ?_;rintro e w5 ⟨y,i,j,u,he,s5,g5,k5,x5⟩;have e2:=uH he;subst e2;have BD:=uU (FI _ w5 (by first|exact hO _|exact(hO _).drew) y i j s5 g5 k5 x5);clear he s5 g5 k5 x5);all_goals
    go_wp21;go_end0;first|exact⟨rfl,BD⟩|exact⟨rfl,BD.ext (hO _).drew⟩
theorem d3e(A:Ak)(hA:a3a A)(n:Ne Y T):∃U:Tx,U.k=T.k/\Ne Y U/\Tb Y T 41 [A.v] (.tuple #[]) U:=by
 obtain⟨B,v,w,b,c,g,h⟩:=n;obtain⟨_,w',_,⟨_,i⟩,_⟩:=b5w Y B v w b c g T A hA h [];obtain⟨e,i⟩|⟨l,y,p,q,e,d,i⟩:=i;exact⟨T,rfl,⟨B,v,w',b,c,g,i⟩,⟨λB v w b c g h=>(b5w Y B v w b c g T A hA h).mono λ_ _ ⟨a,b⟩=>⟨a,by
  obtain⟨_,b⟩|⟨_,_,_,_,f,_⟩:=b;exact b;omega⟩⟩⟩
 refine⟨⟨T.k,T.z,y,T.L++[A],l⟩,rfl,⟨B,v,w',b,c,g,i⟩,⟨λB v w b c g h=>(b5w Y B v w b c g T A hA h).mono λ_ _ ⟨a,b⟩=>⟨a,?_⟩⟩⟩;obtain⟨f,_⟩|⟨m,x,_,_,f,k,b⟩:=b;omega;obtain⟨va,h⟩:=h;obtain⟨rfl,_⟩:=d.uniq h.s.ok k;have:m=l:=by omega
 subst this;exact b
theorem dN(op x y z:Int)(n:Ne Y T)(ho:0<=op/\op<=100:=by omega)(hx:-1000000000<=x/\x<=1000000000:=by omega)(hy:-1000000000<=y/\y<=1000000000:=by omega)(hz:-1000000000<=z/\z<=1000000000:=by omega):∃U:Tx,U.k=T.k/\Ne Y U/\Tb Y T 39 [iv op,iv x,iv y,iv z] (.tuple #[]) U:=by
 obtain⟨U,e,n,_⟩:=d3e ⟨op,x,y,z,0⟩ (by simp only[a3a];omega) n;refine⟨U,e,n,⟨λB v w b c g h=>?_⟩⟩;have a:=uU h;go_in;go_wp2_with ((with_reducible refine(Tb.go a).mono ?_);rintro e l ⟨rfl,a,_⟩);go_end0;exact⟨rfl,a⟩
theorem pairs_d(f:Nat)(hf:f<16)(n:Ne Y T):∃r:Int,0<=r/\r<201/\Tb Y T 44 [iv f] (iv r) T:=by
 have s:Snd T.x:=by obtain⟨_,_,_,_,_,_,_,h⟩:=n;exact h.s
 obtain⟨k0,z,x,L,lf⟩:=T;simp only at s;clear n;by_cases k2:(x.r f).k=2
 ·obtain⟨_,ea,hi,_,_⟩:=s.at f hf k2;have P:=s.ok.p200 (x.at f) hi;refine⟨(x.c (x.at f)).F.length,by omega,by omega,⟨λB v w b c g h=>?_⟩⟩;have HE:=uU (λW (e:Ext w W)=>h.ext e);have c1:=h.c1;obtain⟨va,h⟩:=h;have h:Bp Y B v w b c g k0 z x L va lf:=h;obtain⟨p,hg,_⟩:=h.gg.call;obtain⟨br,kr,hr⟩:=hg.B h.s.r1.B;have hb:b<w.heap.size:=h.nf.1;have c3:=hr.c3;obtain⟨r0,r1,r2⟩:=hr.r f hf;have hgw:g<w.heap.size:=uQ c3;have hbr:br<w.heap.size:=uQ r0;have hf0:(0:Int)<=(f:Int):=by omega
  have hf1:(f:Int)<16:=by omega
  obtain⟨bc,kc,ap,kp,hc⟩:=hg.cel (x.at f) hi;have c4:=hc.c4;have p7:=hc.p7;have hbc:bc<w.heap.size:=uQ p7;obtain⟨n,hn⟩:=nM ((x.c (x.at f)).F.length);rw[<-hn]at p7 P ⊢;rw[k2]at r0;rw[ea]at r2;obtain⟨i,hI⟩:=nM (x.at f);rw[<-hI]at r2 hi p7;have hi0:(0:Int)<=(i:Int):=by omega
  have hi1:(i:Int)<(x.A.length:Int):=by omega
  clear hr hc hg h k2 ea hn hI;go_in;go_wp21;go_region;go_wp21;go_ret;exact⟨rfl,uH HE _ ((hO _).alloc _).drew⟩
 refine⟨0,by omega,by omega,⟨λB v w b c g h=>?_⟩⟩;have HE:=uU (λW (e:Ext w W)=>h.ext e);have c1:=h.c1;obtain⟨va,h⟩:=h;have h:Bp Y B v w b c g k0 z x L va lf:=h;obtain⟨p,hg,_⟩:=h.gg.call;obtain⟨br,kr,hr⟩:=hg.B h.s.r1.B;have hb:b<w.heap.size:=h.nf.1;have c3:=hr.c3;obtain⟨r0,r1,r2⟩:=hr.r f hf;have hgw:g<w.heap.size:=uQ c3;have hbr:br<w.heap.size:=uQ r0;have hf0:(0:Int)<=(f:Int):=by omega
 have hf1:(f:Int)<16:=by omega
 have k3:((x.r f).k != 2)=true:=by simpa using k2
 clear hr hg h k2;go_in;go_wp21;go_ret;exact⟨rfl,uH HE _ ((hO _).alloc _)⟩
theorem c2c(f:Int)(h0:0<=f)(h1:f<16)(n:Ne Y T):∃r:Int,0<=r/\r<201/\Tb Y T 44 [iv f] (iv r) T:=by
 obtain⟨k,rfl⟩:=km h0;exact pairs_d k (by omega) n
theorem a7q(f:Int)(h0:0<=f)(h1:f<16)(i:Ne Y T)(hk:T.k<=99999999):∃(r:Int)(U:Tx),0<=r/\r<201/\U.k<=T.k+4/\Ne Y U/\Tb Y T 43 [iv f] (iv r) U:=by
 obtain⟨n,n0,n1,_⟩:=c2c f h0 h1 i;by_cases z:n=0;subst z;refine⟨0,T,by omega,by omega,by omega,i,⟨λB v w b c g h=>?_⟩⟩;have a:=uU h;have b0:=h.c0;go_in;go_wp2_with ((with_reducible refine(Tb.go a).mono ?_);rintro e l ⟨rfl,a,b0,_⟩);go_ret;exact⟨rfl,a⟩;have t:(n == 0)=false:=beq_false_of_ne z;obtain⟨q,A,_,_,_,_,j,_⟩:=eY 20 i;by_cases y:q=0;subst y;refine⟨n,A,by omega,by omega,by omega,j,⟨λB v w b c g h=>?_⟩⟩;have a:=uU h;have b0:=h.c0;go_in;go_wp2_with ((with_reducible first|refine(Tb.go a).mono ?_|refine(Tk.go a).mono ?_);rintro e l ⟨rfl,a,b0,_⟩);go_ret;exact⟨rfl,a⟩;have t2:(q == 0)=false:=beq_false_of_ne y;obtain⟨p,D,_,_,_,_,j,_⟩:=eY n j;refine⟨p,D,by omega,by omega,by omega,j,⟨λB v w b c g h=>?_⟩⟩;have a:=uU h;have b0:=h.c0;go_in;go_wp2_with ((with_reducible first|refine(Tb.go a).mono ?_|refine(Tk.go a).mono ?_);rintro e l ⟨rfl,a,b0,_⟩);go_ret;exact⟨rfl,a⟩
theorem d3f(i:Ne Y T)(hk:T.k<=99999999:=by omega):∃(r:Int)(U:Tx),0<=r/\r<201/\U.k<=T.k+4/\Ne Y U/\Tb Y T 40 [] (iv r) U:=by
 obtain⟨q,A,_,_,_,_,j,_⟩:=eY 16 i;by_cases y:q=0;obtain⟨p,D,_,_,_,_,k,_⟩:=eY 201 j;subst y;rotate_left;have t:(q == 0)=false:=beq_false_of_ne y;by_cases z:q=1;obtain⟨p,D,_,_,_,_,k,_⟩:=eY 30 j;subst z;rotate_left;have u:(q == 1)=false:=beq_false_of_ne z;obtain⟨p,D,_,_,_,_,k,_⟩:=eY 4 j;rotate_left;all_goals
  refine⟨p,D,by omega,by omega,by omega,k,⟨λB v w b c g h=>?_⟩⟩
 all_goals
  have a:=uU h;have b0:=h.c0;go_in;go_wp2_with ((with_reducible refine(Tk.go a).mono ?_);rintro e l ⟨rfl,a,b0,_⟩);go_ret;exact⟨rfl,a⟩
theorem a4q(i:Ne Y T)(hk:T.k<=99999999:=by omega):∃U:Tx,U.k<=T.k+6/\Ne Y U/\Tb Y T 16 [] (.tuple #[]) U:=by
 obtain⟨q,A,_,_,_,_,i,_⟩:=eY 14 i;have hr:q=0\/q=1\/q=2\/q=3\/q=4\/q=5\/q=6\/q=7\/q=8\/q=9\/q=10\/q=11\/q=12\/q=13:=by omega
 obtain rfl|rfl|rfl|rfl|rfl|rfl|rfl|rfl|rfl|rfl|rfl|rfl|rfl|rfl:=hr;obtain⟨x,D,_,_,_,_,i,_⟩:=eY 5 i;obtain⟨y,E,_,_,_,_,i,_⟩:=eY 60 i;obtain⟨U,_,i,_⟩:=dN 23 0 x y i;rotate_left;obtain⟨U,_,i,_⟩:=dN 24 0 0 0 i;rotate_left;obtain⟨x,D,_,_,_,_,i,_⟩:=eY 2000 i;obtain⟨U,_,i,_⟩:=dN 22 0 0 x i;rotate_left;iterate 5 (obtain⟨x,D,_,_,_,_,i,_⟩:=eY 40 i;obtain⟨U,_,i,_⟩:=dN 22 0 0 x i;rotate_left)
 all_goals
  refine⟨_,?_,i,⟨λB v w b c g h=>?_⟩⟩;omega;have a:=uU h;have b0:=h.c0;go_in;go_wp2_with ((with_reducible first|refine(Tk.go a).mono ?_|refine(Tb.go a).mono ?_);rintro e l ⟨rfl,a,b0,_⟩);go_end0;exact⟨rfl,a⟩
theorem act_d(i:Ne Y T)(hk:T.k<=9999999:=by omega):∃U:Tx,U.k<=T.k+14/\Ne Y U/\Tb Y T 17 [] (.tuple #[]) U:=by
 obtain⟨r,A,_,_,_,_,i,_⟩:=eY 6 i;obtain⟨s,D,_,_,_,_,i,_⟩:=eY 6 i;obtain⟨q,E,_,_,_,_,i,_⟩:=eY 26 i;have hr:q=0\/q=1\/q=2\/q=3\/q=4\/q=5\/q=6\/q=7\/q=8\/q=9\/q=10\/q=11\/q=12\/q=13\/q=14\/q=15\/q=16\/q=17\/q=18\/q=19\/q=20\/q=21\/q=22\/q=23\/q=24\/q=25:=by omega
 obtain rfl|rfl|rfl|rfl|rfl|rfl|rfl|rfl|rfl|rfl|rfl|rfl|rfl|rfl|rfl|rfl|rfl|rfl|rfl|rfl|rfl|rfl|rfl|rfl|rfl|rfl:=hr;iterate 6 (obtain⟨n,F,_,_,_,i,_⟩:=d3f i;obtain⟨x,G,_,_,_,_,i,_⟩:=eY 4 i;obtain⟨U,_,i,_⟩:=dN 1 r x n i;rotate_left)
 obtain⟨n,F,_,_,i,_⟩:=bwhole i;obtain⟨U,_,i,_⟩:=d3e ⟨2,r,0,0,n⟩ (by refine⟨?_,?_,?_,?_,?_⟩ <;> simp only <;> omega) i;rotate_left;obtain⟨U,_,i,_⟩:=dN 3 r 0 0 i;rotate_left;obtain⟨U,_,i,_⟩:=dN 4 r s 0 i;rotate_left;obtain⟨n,F,_,_,_,i,_⟩:=a7q s (by omega) (by omega) i (by omega);obtain⟨U,_,i,_⟩:=dN 5 r s n i;rotate_left;iterate 2 (obtain⟨n,F,_,_,_,i,_⟩:=a7q s (by omega) (by omega) i (by omega);obtain⟨U,_,i,_⟩:=dN 6 r s n i;rotate_left)
 iterate 2 (obtain⟨n,F,_,_,_,i,_⟩:=a7q r (by omega) (by omega) i (by omega);obtain⟨U,_,i,_⟩:=dN 7 r s n i;rotate_left)
 iterate 3 (obtain⟨n,F,_,_,_,i,_⟩:=a7q r (by omega) (by omega) i (by omega);obtain⟨U,_,i,_⟩:=dN 8 r s n i;rotate_left)
 obtain⟨n,F,_,_,_,i,_⟩:=d3f i;obtain⟨x,G,_,_,_,_,i,_⟩:=eY 3 i;obtain rfl|hx:=(by omega:x=0\/x≠0);obtain⟨p,_,_,_⟩:=c2c r (by omega) (by omega) i;obtain⟨y,H,_,_,_,_,i,_⟩:=eY 3 i;obtain⟨U,_,i,_⟩:=dN 9 r 0 (200-p+y-1) i;rotate_left;have hx:(x == 0)=false:=beq_false_of_ne hx;obtain⟨U,_,i,_⟩:=dN 9 r 0 n i;rotate_left;obtain⟨x,F,_,_,_,_,i,_⟩:=eY 4 i;obtain⟨U,_,i,_⟩:=dN 10 r 0 x i;rotate_left;obtain⟨x,F,_,_,_,_,i,_⟩:=eY 4 i;obtain⟨U,_,i,_⟩:=dN 11 r 0 x i;rotate_left;obtain⟨x,F,_,_,_,_,i,_⟩:=eY 2 i;obtain⟨U,_,i,_⟩:=dN 12 r 0 x i;rotate_left;obtain⟨U,_,i,_⟩:=dN 13 r s 0 i;rotate_left;obtain⟨x,F,_,_,_,_,i,_⟩:=eY 4 i;obtain⟨U,_,i,_⟩:=dN (14+x) r 0 0 i;rotate_left;obtain⟨U,_,i,_⟩:=dN 18 0 0 0 i;rotate_left;obtain⟨U,_,i,_⟩:=dN 19 r 0 0 i;rotate_left;obtain⟨x,F,_,_,_,_,i,_⟩:=eY 2 i;obtain⟨U,_,i,_⟩:=dN (20+x) 0 0 0 i;rotate_left;all_goals
  refine⟨_,?_,i,⟨λB v w b c g h=>?_⟩⟩;omega;have a:=uU h;have b0:=h.c0;go_in;go_wp2_with ((with_reducible first|refine(Tk.go a).mono ?_|refine(Tb.go a).mono ?_);rintro e l ⟨rfl,a,b0,_⟩);go_end0;exact⟨rfl,a⟩
abbrev Pt(Y:Yt)(T:Tx)(a b c d:Int)(U:Tx):Prop:=Tb Y T 39 [iv a,iv b,iv c,iv d] (.tuple #[]) U
abbrev Pk(Y:Yt)(T:Tx)(n r:Int)(U:Tx):Prop:=Tk Y T 12 [iv n] (iv r) U
abbrev Wo(Y:Yt)(T U:Tx):Prop:=Tb Y T 16 [] (.tuple #[]) U
theorem seq{Y:Yt}{P:Nat->Tx->Tx->Prop}(m K N:Nat)(h:∀i T,i<N->Ne Y T->T.k<=K->∃U:Tx,U.k<=T.k+m/\Ne Y U/\P i T U){T:Tx}(t:Ne Y T)(n:Nat)(l:n<=N)(k:T.k+n*m<=K):∃f:Nat->Tx,f 0=T/\(∀i,i<=n->Ne Y (f i)/\(f i).k<=T.k+i*m)/\∀i,i<n->P i (f i) (f (i+1)):=by
 induction n with
 | zero=>exact⟨λ_=>T,rfl,λi j=>⟨t,Nat.le_add_right _ _⟩,λi j=>by omega⟩
 | succ n ih=>
  rw[Nat.succ_mul]at k;obtain⟨f,a,b,c⟩:=ih (by omega) (by omega);obtain⟨U,d,e,p⟩:=h n (f n) (by omega) (b n (hT _)).1 (by have:=(b n (hT _)).2;omega);refine⟨λi=>if i<=n then f i else U,by dsimp only;rw[if_pos (kB _)];exact a,λi j=>?_,λi j=>?_⟩;dsimp only;by_cases l:i<=n
  ·rw[if_pos l];exact b i l
  rw[if_neg l];have:i=n+1:=by omega
  subst this;refine⟨e,?_⟩;have:=(b n (hT _)).2;rw[Nat.succ_mul];omega;dsimp only;rw[if_pos (by omega)];by_cases l:i<n
  ·rw[if_pos (by omega)];exact c i l
  have:i=n:=by omega
  subst this;rw[if_neg (by omega)];exact p
theorem chain_d(n:Nat)(n1:n<=5)(i:Ne Y T)(hk:T.k<=9999999):∃U:Tx,U.k<=T.k+100/\Ne Y U/\Tb Y T 93 [iv n] (.tuple #[]) U:=by
 obtain⟨A,_,i,_⟩:=dN 1 0 1 n i;obtain⟨r,D,_,_,_,_,i,_⟩:=eY 6 i;obtain⟨E,_,i,_⟩:=dN 11 0 0 (1+2*(r/5)) i;obtain⟨F,_,i,_⟩:=dN 1 1 2 0 i;obtain⟨G,_,i,_⟩:=dN 4 3 1 0 i;obtain⟨f,f0,fn,fp⟩:=seq 10 10000999 5 (P:=λj T U=>∃A D E F G r,Wo Y T A/\Pt Y A 7 0 1 j D/\Pk Y D 2 r E/\Pt Y E 1 2 2 r F/\Pt Y F 8 0 2 j G/\Pt Y G 4 1 2 0 U) (λj T l i hk=>by
  obtain⟨A,_,i,a⟩:=a4q i;obtain⟨D,_,i,b⟩:=dN 7 0 1 j i;obtain⟨r,E,_,_,_,_,i,c⟩:=eY 2 i;obtain⟨F,_,i,d⟩:=dN 1 2 2 r i;obtain⟨G,_,i,e⟩:=dN 8 0 2 j i;obtain⟨U,_,i,f⟩:=dN 4 1 2 0 i;exact⟨U,by omega,i,A,D,E,F,G,r,a,b,c,d,e,f⟩) i n n1 (by omega)
 obtain⟨i,_⟩:=fn n (hT _);obtain⟨A,_,i,_⟩:=dN 3 1 0 0 i;obtain⟨A,_,i,_⟩:=dN 3 2 0 0 i;obtain⟨A,_,i,_⟩:=dN 20 0 0 0 i;obtain⟨A,_,i,_⟩:=dN 18 0 0 0 i;obtain⟨q,D,_,_,_,_,i,_⟩:=eY 2 i;obtain rfl|hx:=(by omega:q=0\/q≠0);obtain⟨A,_,i,_⟩:=dN 3 3 0 0 i;obtain⟨A,_,i,_⟩:=dN 18 0 0 0 i;obtain⟨A,_,i,_⟩:=dN 17 0 0 0 i;rotate_left;have hx:(q == 0)=false:=beq_false_of_ne hx;obtain⟨A,_,i,_⟩:=dN 17 0 0 0 i;all_goals
  refine⟨_,?_,i,⟨λB v w b c g h=>?_⟩⟩;omega;have a:=uU h;have b0:=h.c0;go_in;go_wp2_with ((with_reducible first|refine(Tk.go a).mono ?_|refine(Tb.go a).mono ?_);rintro e l ⟨rfl,a,b0,_⟩);go_loopw [4] (λi wr=>∃k:Nat,k<=n/\i=.int .i64 k/\Hid (Bd Y B v wr b c g (f k))) (λi _=>((n:Int)-intOf i).toNat)
  case atStart=>exact⟨0,by omega,rfl,f0▸a⟩
  case round=>
   obtain⟨k,hk,rfl,a⟩:=hrel;have b0:=a.c0;by_cases hlt:k<n;obtain⟨_,_,_,_,_,_,_,_,_,_,_,_⟩:=fp k hlt;have hl:(k:Int)<n:=by omega
   go_wp2_with ((with_reducible first|refine(Tk.go a).mono ?_|refine(Tb.go a).mono ?_);rintro e l ⟨rfl,a,b0,_⟩);go_roundw;exact⟨k+1,by omega,by go_num,a⟩;simp[intOf];omega;have:k=n:=by omega
   subst this;go_wp2_with ((with_reducible first|refine(Tk.go a).mono ?_|refine(Tb.go a).mono ?_);rintro e l ⟨rfl,a,b0,_⟩);go_end0;exact⟨rfl,a⟩
theorem d3h(n:Int)(n0:0<=n)(n1:n<=5)(i:Ne Y T)(hk:T.k<=9999999):∃U:Tx,U.k<=T.k+100/\Ne Y U/\Tb Y T 93 [iv n] (.tuple #[]) U:=by
 obtain⟨k,rfl⟩:=km n0;exact chain_d k (by omega) i hk
theorem d3i(i:Ne Y T)(hk:T.k<=9999999:=by omega):∃U:Tx,U.k<=T.k+100/\Ne Y U/\Tb Y T 94 [] (.tuple #[]) U:=by
 obtain⟨n,A,_,_,_,_,i,_⟩:=eY 4 i;obtain⟨D,_,i,_⟩:=dN 1 4 1 (1+n) i;obtain⟨r,E,_,_,_,_,i,_⟩:=eY 3 i;obtain⟨F,_,i,_⟩:=dN 11 4 0 (1+r) i;obtain⟨m,hm⟩:=km (show 0<=1+n by omega);obtain⟨f,f0,fn,fp⟩:=seq 20 10000999 4 (P:=λj T U=>∃r q s t A D E F G H I,Pk Y T 3 r A/\Pk Y A 2 q D/\Pt Y D 1 r 3 q E/\Pt Y E 7 4 r j F/\Wo Y F G/\Pk Y G 3 s H/\Pk Y H 2 t I/\((t=0/\∃z J K,Pk Y I 3 z J/\Pt Y J 1 s 3 z K/\Pt Y K 8 4 s j U)\/((t == 0)=false/\Pt Y I 8 4 s j U))) (λj T l i hk=>by
  obtain⟨r,A,_,_,_,_,i,a⟩:=eY 3 i;obtain⟨q,D,_,_,_,_,i,b⟩:=eY 2 i;obtain⟨E,_,i,c⟩:=dN 1 r 3 q i;obtain⟨F,_,i,d⟩:=dN 7 4 r j i;obtain⟨G,_,i,e⟩:=a4q i;obtain⟨s,H,_,_,_,_,i,f⟩:=eY 3 i;obtain⟨t,I,_,_,_,_,i,g⟩:=eY 2 i;obtain rfl|ht:=(by omega:t=0\/t≠0);obtain⟨z,J,_,_,_,_,i,h⟩:=eY 3 i;obtain⟨K,_,i,k⟩:=dN 1 s 3 z i;obtain⟨U,_,i,l⟩:=dN 8 4 s j i;exact⟨U,by omega,i,r,q,s,0,A,D,E,F,G,H,I,a,b,c,d,e,f,g,.inl ⟨rfl,z,J,K,h,k,l⟩⟩;obtain⟨U,_,i,l⟩:=dN 8 4 s j i;exact⟨U,by omega,i,r,q,s,t,A,D,E,F,G,H,I,a,b,c,d,e,f,g,.inr ⟨beq_false_of_ne ht,l⟩⟩) i m (by omega) (by omega)
 obtain⟨i,_⟩:=fn m (hT _);obtain⟨A,_,i,_⟩:=dN 18 0 0 0 i;obtain⟨A,_,i,_⟩:=dN 17 4 0 0 i;refine⟨_,?_,i,⟨λB v w b c g h=>?_⟩⟩;omega;have HM:=uU hm;clear hm;have a:=uU h;have b0:=h.c0;clear h;go_in;go_wp2_with ((with_reducible first|refine(Tk.go a).mono ?_|refine(Tb.go a).mono ?_);rintro e l ⟨rfl,a,b0,_⟩);go_loopw [3, 4, 5] (λi _x _y wr=>∃k:Nat,k<=m/\i=.int .i64 k/\Hid (Bd Y B v wr b c g (f k))) (λi _x _y _=>((m:Int)-intOf i).toNat)
 case atStart=>exact⟨0,by omega,rfl,f0▸a⟩
 case round=>
  clear b0 a;obtain⟨k,hk,rfl,a⟩:=hrel;have b0:=a.c0;by_cases hlt:k<m
  ·have hl:(k:Int)<1+n:=by have:=uH HM;omega
   obtain⟨_,_,_,_,_,_,_,_,_,_,_,_,_,_,_,_,_,_,⟨rfl,_,_,_,_,_,_⟩|⟨_,_⟩⟩:=fp k hlt;all_goals
    go_wp2_with ((with_reducible first|refine(Tk.go a).mono ?_|refine(Tb.go a).mono ?_);rintro e l ⟨rfl,a,b0,_⟩);go_roundw;exact⟨k+1,by omega,by go_num,a⟩;simp[intOf];omega
  have:k=m:=by omega
  subst this;have hl:¬(k:Int)<1+n:=by have:=uH HM;omega
  go_wp2_with ((with_reducible first|refine(Tk.go a).mono ?_|refine(Tb.go a).mono ?_);rintro e l ⟨rfl,a,b0,_⟩);go_end0;exact⟨rfl,a⟩
theorem ring_d(i:Ne Y T)(hk:T.k<=9999999:=by omega):∃U:Tx,U.k<=T.k+100/\Ne Y U/\Tb Y T 96 [] (.tuple #[]) U:=by
 obtain⟨A,_,i,_⟩:=dN 1 1 7 2 i;obtain⟨A,_,i,_⟩:=dN 1 2 8 1 i;obtain⟨A,_,i,_⟩:=dN 8 1 2 0 i;obtain⟨A,_,i,_⟩:=dN 7 2 1 0 i;obtain⟨A,_,i,_⟩:=a4q i;obtain⟨A,_,i,_⟩:=dN 6 2 1 0 i;obtain⟨A,_,i,_⟩:=dN 5 3 2 0 i;obtain⟨A,_,i,_⟩:=dN 13 1 3 0 i;obtain⟨f,f0,fn,fp⟩:=seq 4 10000999 3 (P:=λj T U=>∃q A,Pk Y T 3 q A/\((q>0/\Pt Y A 3 (j+1) 0 0 U)\/(q=0/\U=A))) (λj T l i hk=>by
  obtain⟨q,A,_,_,_,_,i,a⟩:=eY 3 i;obtain rfl|hq:=(by omega:q=0\/q>0);exact⟨A,by omega,i,0,A,a,.inr ⟨rfl,rfl⟩⟩;obtain⟨U,_,i,b⟩:=dN 3 (j+1) 0 0 i;exact⟨U,by omega,i,q,A,a,.inl ⟨hq,b⟩⟩) i 3 (by omega) (by omega)
 obtain⟨i,_⟩:=fn 3 (hT _);obtain⟨A,_,i,_⟩:=a4q i;obtain⟨A,_,i,_⟩:=dN 21 0 0 0 i;refine⟨_,?_,i,⟨λB v w b c g h=>?_⟩⟩;omega;have a:=uU h;have b0:=h.c0;go_in;go_wp2_with ((with_reducible first|refine(Tk.go a).mono ?_|refine(Tb.go a).mono ?_);rintro e l ⟨rfl,a,b0,_⟩);go_loopw [2] (λi wr=>∃k:Nat,k<=3/\i=.int .i64 ((k:Int)+1)/\Hid (Bd Y B v wr b c g (f k))) (λi _=>(4-intOf i).toNat)
 case atStart=>exact⟨0,by omega,rfl,f0▸a⟩
 case round=>
  obtain⟨k,hk,rfl,a⟩:=hrel;have b0:=a.c0;by_cases hlt:k<3;have hl:(k:Int)+1<4:=by omega
  obtain⟨q,_,_,⟨_,_⟩|⟨rfl,e⟩⟩:=fp k hlt;go_wp2_with ((with_reducible first|refine(Tk.go a).mono ?_|refine(Tb.go a).mono ?_);rintro e l ⟨rfl,a,b0,_⟩);go_roundw;exact⟨k+1,by omega,by go_num,a⟩;simp[intOf];omega;go_wp2_with ((with_reducible first|refine(Tk.go a).mono ?_|refine(Tb.go a).mono ?_);rintro e l ⟨rfl,a,b0,_⟩);go_roundw;exact⟨k+1,by omega,by go_num,e▸a⟩;simp[intOf];omega;have:k=3:=by omega
  subst this;go_wp2_with ((with_reducible first|refine(Tk.go a).mono ?_|refine(Tb.go a).mono ?_);rintro e l ⟨rfl,a,b0,_⟩);go_end0;exact⟨rfl,a⟩
theorem d3j(i:Ne Y T)(hk:T.k<=9999999:=by omega):∃U:Tx,U.k<=T.k+150/\Ne Y U/\Tb Y T 95 [] (.tuple #[]) U:=by
 obtain⟨n,A,_,_,_,_,i,_⟩:=eY 3 i;obtain⟨m,hm⟩:=km (show 0<=1+n by omega);obtain⟨f,f0,fn,fp⟩:=seq 12 10000999 3 (P:=λj T U=>∀k:Nat,k+j=m->∃r q A D E F G,(0<=r/\r<2)/\Pk Y T 2 r A/\Pt Y A 1 5 (4+(k:Int)) (1+r) D/\Pt Y D 12 5 0 1 E/\Wo Y E F/\Pk Y F 6 q G/\Pt Y G 8 5 q 0 U) (λj T l i hk=>by
  by_cases jm:j<=m;obtain⟨k,hj⟩:=Nat.le.dest jm;obtain⟨r,A,_,_,_,_,i,a⟩:=eY 2 i;obtain⟨D,_,i,b⟩:=dN 1 5 (4+(k:Int)) (1+r) i;obtain⟨E,_,i,c⟩:=dN 12 5 0 1 i;obtain⟨F,_,i,d⟩:=a4q i;obtain⟨q,G,_,_,_,_,i,e⟩:=eY 6 i;obtain⟨U,_,i,f⟩:=dN 8 5 q 0 i;exact⟨U,by omega,i,λp hp=>by obtain rfl:p=k:=(by omega);exact⟨r,q,A,D,E,F,G,⟨by omega,by omega⟩,a,b,c,d,e,f⟩⟩;exact⟨T,by omega,i,λp hp=>by omega⟩) i m (by omega) (by omega)
 obtain⟨i,_⟩:=fn m (hT _);obtain⟨A,_,i,_⟩:=dN 3 5 0 0 i;obtain⟨A,_,i,_⟩:=dN 18 0 0 0 i;obtain⟨t,A,_,_,_,_,i,_⟩:=eY 4 i;obtain⟨o,ho⟩:=km (show 0<=t by omega);obtain⟨g,g0,gn,gp⟩:=seq 20 10000999 3 (P:=λ_ T U=>∃q A D E F G p,Pt Y T 19 5 0 0 A/\Wo Y A D/\Pt Y D 16 5 0 0 E/\Pk Y E 3 q F/\((q=0/\∃x H,Tb Y F 43 [iv 4] (iv x) H/\Pt Y H 8 4 5 x G)\/((q == 0)=false/\G=F))/\∃H,Pk Y G 4 p H/\((p=0/\Pt Y H 12 5 0 1 U)\/((p == 0)=false/\U=H))) (λj T l i hk=>by
  obtain⟨A,_,i,a⟩:=dN 19 5 0 0 i;obtain⟨D,_,i,b⟩:=a4q i;obtain⟨E,_,i,c⟩:=dN 16 5 0 0 i;obtain⟨q,F,_,_,_,_,i,d⟩:=eY 3 i;obtain⟨G,_,i,e⟩:∃G:Tx,G.k<=F.k+4/\Ne Y G/\((q=0/\∃x H,Tb Y F 43 [iv 4] (iv x) H/\Pt Y H 8 4 5 x G)\/((q == 0)=false/\G=F)):=by
   obtain rfl|hq:=(by omega:q=0\/q≠0);obtain⟨x,H,_,_,_,i,_⟩:=a7q 4 (by omega) (by omega) i (by omega);rename_i h;obtain⟨U,_,i,f⟩:=dN 8 4 5 x i;exact⟨U,by omega,i,.inl ⟨rfl,x,H,h,f⟩⟩;exact⟨F,by omega,i,.inr ⟨beq_false_of_ne hq,rfl⟩⟩
  obtain⟨p,H,_,_,_,_,i,f⟩:=eY 4 i;obtain rfl|hp:=(by omega:p=0\/p≠0);obtain⟨U,_,i,g⟩:=dN 12 5 0 1 i;exact⟨U,by omega,i,q,A,D,E,F,G,0,a,b,c,d,e,H,f,.inl ⟨rfl,g⟩⟩;exact⟨H,by omega,i,q,A,D,E,F,G,p,a,b,c,d,e,H,f,.inr ⟨beq_false_of_ne hp,rfl⟩⟩) i o (by omega) (by omega)
 obtain⟨i,_⟩:=gn o (hT _);obtain⟨A,_,i,_⟩:=dN 3 5 0 0 i;refine⟨_,?_,i,⟨λB v w b c d h=>?_⟩⟩;omega;have m3:m<=3:=by omega
 have o3:o<=3:=by omega
 have HM:=uU hm;have HO:=uU ho;clear hm ho;have a:=uU h;have b0:=h.c0;clear h;go_in;go_wp2_with ((with_reducible first|refine(Tk.go a).mono ?_|refine(Tb.go a).mono ?_);rintro e l ⟨rfl,a,b0,_⟩);go_loopw [2] (λi wr=>∃k:Nat,k<=m/\i=.int .i64 k/\Hid (Bd Y B v wr b c d (f (m-k)))) (λi _=>(intOf i).toNat)
 case atStart=>exact⟨m,by omega,by rw[uH HM],by rw[Nat.sub_self,f0];exact a⟩
 case round=>
  clear b0 a;obtain⟨k,hk,rfl,a⟩:=hrel;have b0:=a.c0;by_cases hlt:0<k;have hl:(k:Int)>0:=by omega
  obtain⟨_,_,_,_,_,_,_,⟨_,_⟩,_,_,_,_,_,_⟩:=fp (m-k) (by omega) k (by omega);go_wp2_with ((with_reducible first|refine(Tk.go a).mono ?_|refine(Tb.go a).mono ?_);rintro e l ⟨rfl,a,b0,_⟩);go_roundw;exact⟨k-1,by omega,by rw[Int.ofNat_sub (by omega)];rfl,(show m-(k-1)=m-k+1 by omega)▸a⟩;simp[intOf];omega;have:k=0:=by omega
  subst this;rw[Nat.sub_zero]at a;go_wp2_with ((with_reducible first|refine(Tk.go a).mono ?_|refine(Tb.go a).mono ?_);rintro e l ⟨rfl,a,b0,_⟩);go_loopw [3, 4] (λi _x wr=>∃k:Nat,k<=o/\i=.int .i64 k/\Hid (Bd Y B v wr b c d (g (o-k)))) (λi _ _=>(intOf i).toNat)
  case atStart=>exact⟨o,by omega,by rw[uH HO],by rw[Nat.sub_self,g0];exact a⟩
  case round=>
   clear b0 a;obtain⟨k,hk,rfl,a⟩:=hrel;have b0:=a.c0;by_cases hlt:0<k
   ·have hl:(k:Int)>0:=by omega
    have K:=uU (show m-(k-1)=m-k+1\/o-(k-1)=o-k+1 by omega);obtain⟨_,_,_,_,_,_,_,_,_,_,_,⟨rfl,_,_,_,_⟩|⟨_,rfl⟩,_,_,⟨rfl,_⟩|⟨_,e⟩⟩:=gp (o-k) (by omega);all_goals
     go_wp2_with ((with_reducible first|refine(Tk.go a).mono ?_|refine(Tb.go a).mono ?_);rintro e l ⟨rfl,a,b0,_⟩);go_roundw;exact⟨k-1,by omega,by rw[Int.ofNat_sub (by omega)];rfl,(show o-(k-1)=o-k+1 by omega)▸(by first|exact a|exact e▸a)⟩;simp[intOf];omega
   have:k=0:=by omega
   subst this;rw[Nat.sub_zero]at a;go_wp2_with ((with_reducible first|refine(Tk.go a).mono ?_|refine(Tb.go a).mono ?_);rintro e l ⟨rfl,a,b0,_⟩);go_end0;exact⟨rfl,a⟩
theorem some_d(i:Ne Y T)(hk:T.k<=999999:=by omega):∃U:Tx,U.k<=T.k+300/\Ne Y U/\Tb Y T 38 [] (.tuple #[]) U:=by
 obtain⟨q,A,_,_,_,_,i,_⟩:=eY 7 i;by_cases h4:q<4
 ·have hr:q=0\/q=1\/q=2\/q=3:=by omega
  obtain rfl|rfl|rfl|rfl:=hr;obtain⟨r,D,_,_,_,_,i,_⟩:=eY 5 i;obtain⟨U,_,i,_⟩:=d3h (1+r) (by omega) (by omega) i (by omega);rotate_left;obtain⟨U,_,i,_⟩:=d3i i;rotate_left;obtain⟨U,_,i,_⟩:=d3j i;rotate_left;obtain⟨U,_,i,_⟩:=ring_d i;rotate_left;all_goals
   obtain⟨E,_,i,_⟩:=a4q i;refine⟨_,?_,i,⟨λB v w b c g h=>?_⟩⟩;omega;have a:=uU h;have b0:=h.c0;clear h;go_in;go_wp2_with ((with_reducible first|refine(Tk.go a).mono ?_|refine(Tb.go a).mono ?_);rintro e l ⟨rfl,a,b0,_⟩);go_end0;exact⟨rfl,a⟩
 obtain⟨r,D,_,_,_,_,i,_⟩:=eY 8 i;obtain⟨m,hm⟩:=km (show 0<=2+r by omega);obtain⟨f,f0,fn,fp⟩:=seq 20 9999000 9 (P:=λ_ T U=>∃A,Tb Y T 17 [] (.tuple #[]) A/\Wo Y A U) (λj T l i hk=>by
  obtain⟨A,_,i,a⟩:=act_d i;obtain⟨U,_,i,b⟩:=a4q i;exact⟨U,by omega,i,A,a,b⟩) i m (by omega) (by omega)
 obtain⟨i,_⟩:=fn m (hT _);obtain⟨E,_,i,_⟩:=a4q i;refine⟨_,?_,i,⟨λB v w b c d h=>?_⟩⟩;omega;have m9:m<=9:=by omega
 have q0:(q == 0)=false:=beq_false_of_ne (by omega);have q1:(q == 1)=false:=beq_false_of_ne (by omega);have q2:(q == 2)=false:=beq_false_of_ne (by omega);have q3:(q == 3)=false:=beq_false_of_ne (by omega);have HM:=uU hm;clear hm;have a:=uU h;have b0:=h.c0;clear h;go_in;go_wp2_with ((with_reducible first|refine(Tk.go a).mono ?_|refine(Tb.go a).mono ?_);rintro e l ⟨rfl,a,b0,_⟩);go_loopw [3] (λi wr=>∃k:Nat,k<=m/\i=.int .i64 k/\Hid (Bd Y B v wr b c d (f (m-k)))) (λi _=>(intOf i).toNat)
 case atStart=>exact⟨m,by omega,by rw[uH HM],by rw[Nat.sub_self,f0];exact a⟩
 case round=>
  clear b0 a;obtain⟨k,hk,rfl,a⟩:=hrel;have b0:=a.c0;by_cases hlt:0<k;have hl:(k:Int)>0:=by omega
  obtain⟨_,_,_⟩:=fp (m-k) (by omega);go_wp2_with ((with_reducible first|refine(Tk.go a).mono ?_|refine(Tb.go a).mono ?_);rintro e l ⟨rfl,a,b0,_⟩);go_roundw;exact⟨k-1,by omega,by rw[Int.ofNat_sub (by omega)];rfl,(show m-(k-1)=m-k+1 by omega)▸a⟩;simp[intOf];omega;have:k=0:=by omega
  subst this;rw[Nat.sub_zero]at a;go_wp2_with ((with_reducible first|refine(Tk.go a).mono ?_|refine(Tb.go a).mono ?_);rintro e l ⟨rfl,a,b0,_⟩);go_end0;exact⟨rfl,a⟩
theorem zw_cell(w:World)(t:TypeId)(j:Nat)(a:j<48):(w.alloc (.cells (zw 48) t)).cell? (aA w.heap.size j)=some (iv 0):=by
 have:=heap_alloc_new w (.cells (zw 48) t);unfold World.cell?;simp only[this];simp[zw,a]
theorem b3s(w:World)(c:Array Value)(t:TypeId):Nf1 w.heap.size (w.alloc (.cells c t)):=⟨by simp[go_sem],λj=>by simp[go_sem]⟩
theorem d3k(S:Nat->Prop)(n:Int)(w:World)(y:∀q,S q->q<w.heap.size):GG S w.heap.size ((w.alloc (.cells (zw 48) 48)).alloc (.cells #[iv n,iv 0,iv 0,sS w.heap.size 16 16,.slice none 0 0,iv 0,iv 0,iv 0,.slice none 0 0,iv 0,iv 0,iv 0,iv 0] 27)) (w.heap.size+1) (frH n):=by
 have t:=(hO w).alloc (.cells (zw 48) 48);have p:=b3s w (zw 48) 48;have Z:=λj x=>zw_cell w 48 j x
 obtain⟨c,l⟩:=nM (w.alloc (.cells (zw 48) 48));rw[<-l]at t p Z ⊢;have v:c.heap.size=w.heap.size+1:=by rw[l];simp[go_sem]
 have d:=(hO c).alloc (.cells #[iv n,iv 0,iv 0,sS w.heap.size 16 16,.slice none 0 0,iv 0,iv 0,iv 0,.slice none 0 0,iv 0,iv 0,iv 0,iv 0] 27);have k:=b3s c #[iv n,iv 0,iv 0,sS w.heap.size 16 16,.slice none 0 0,iv 0,iv 0,iv 0,.slice none 0 0,iv 0,iv 0,iv 0,iv 0] 27;have g:=cK.new c (frH n) (sS w.heap.size 16 16) (.slice none 0 0) (.slice none 0 0) 27;rw[v]at k g;obtain⟨f,s⟩:=nM (c.alloc (.cells #[iv n,iv 0,iv 0,sS w.heap.size 16 16,.slice none 0 0,iv 0,iv 0,iv 0,.slice none 0 0,iv 0,iv 0,iv 0,iv 0] 27));have g:cK (c.alloc (.cells #[iv n,iv 0,iv 0,sS w.heap.size 16 16,.slice none 0 0,iv 0,iv 0,iv 0,.slice none 0 0,iv 0,iv 0,iv 0,iv 0] 27)) (w.heap.size+1) (frH n) (sS w.heap.size 16 16) (.slice none 0 0) (.slice none 0 0):=g;rw[<-s]at d k g ⊢;have e:(frH n).B.length=16:=by simp[frH]
 have b:(frH n).A=[]:=rfl;refine⟨λq=>if q<w.heap.size then f.heap[q]? else none,λq a=>?_,some (aA w.heap.size 0),16,none,0,.slice none 0 0,w.heap.size,0,λ_=>0,λ_=>none,λ_=>0,λq=>if q=w.heap.size+1 then 0 else if q=w.heap.size then 2 else 1,?_⟩;have:=y q a;simp only[this,if_true];exact a2x (by have:=d.size;omega);letI:Inhabited uL:=⟨⟨λq=>if q<w.heap.size then f.heap[q]? else none⟩⟩;refine⟨by rw[e];exact g,k,by omega,λ_=>rfl,λh=>by simp[b]at h,⟨λi m=>?_,λq a=>by simp[b]at a,λq a=>by simp[b]at a,λq a=>by simp[b]at a,λq a=>by simp[b]at a,λ_=>⟨p.ext d,hT _⟩,λh=>by simp[b]at h,λh=>by simp[b]at h,λq _ a=>by simp[b]at a,λq a=>by simp[b]at a⟩,.inl ⟨rfl,rfl⟩,⟨if_pos rfl,λ_=>by rw[if_neg (by omega),if_pos rfl],λh=>by simp[b]at h,λq a=>by simp[Value.ownBlock]at a,λq a=>by simp[b]at a⟩,by simp[b],λq o a=>?_,λh=>by omega,λ_ j i=>⟨_,d.keep (Z j i)⟩⟩;have r:i<16:=e ▸ m;have u:(frH n).B[i]=⟨0,0,0⟩:=List.eq_of_mem_replicate (n:=16) (k7 m);exact(congrArg (yD f w.heap.size (i*3)) u).mpr ⟨d.keep (Z _ (by omega)),d.keep (Z _ (by omega)),d.keep (Z _ (by omega))⟩;have a:(if q<w.heap.size then f.heap[q]? else none)=some o:=a;split at a;exact⟨by rw[if_neg (by omega),if_neg (by omega)],a⟩
 cases a
def Nc(Y:Yt)(k:Nat)(s:Int):Prop:=∃v w c,Cu Y v w c k s
theorem Tc.ne{k':Nat}{s s':Int}{x:List Value}(t:Tc Y k s F x r k' s')(n:Nc Y k s):Nc Y k' s':=by
 obtain⟨v,w,c,h⟩:=n;obtain⟨_,w',_,⟨_,i⟩,_⟩:=t.h v w c h [];exact⟨v,w',c,i.1⟩
theorem rooms_d(Y:Yt)(k:Nat)(s:Int)(hk:k<=99999:=by omega):∃(r:Int)(k':Nat)(s':Int),1<=r/\r<=4000/\k'<=k+4/\Tc Y k s 37 [] (iv r) k' s':=by
 obtain⟨q,k1,s1,_,_,_,_⟩:=cV Y k s 6;have hr:q=0\/q=1\/q=2\/q=3\/q=4\/q=5:=by omega
 obtain rfl|rfl|rfl|rfl|rfl|rfl:=hr;obtain⟨p,k2,s2,_,_,_,_⟩:=cV Y k1 s1 30;refine⟨1+p,k2,s2,by omega,by omega,by omega,⟨λv w c h=>?_⟩⟩;rotate_left;obtain⟨p,k2,s2,_,_,_,_⟩:=cV Y k1 s1 1001;refine⟨3000+p,k2,s2,by omega,by omega,by omega,⟨λv w c h=>?_⟩⟩;rotate_left;iterate 4 (obtain⟨p,k2,s2,_,_,_,_⟩:=cV Y k1 s1 160;refine⟨40+p,k2,s2,by omega,by omega,by omega,⟨λv w c h=>?_⟩⟩;rotate_left)
 all_goals
  have a:=h.v;go_in;go_wp2_with ((with_reducible refine(Tc.go a).mono ?_);rintro e l ⟨rfl,a⟩);go_ret;exact⟨rfl,a⟩
theorem b5x(Y:Yt)(v w:World)(c m:Nat)(z n:Int)(h1:1<=n)(h2:n<=4000)(h:Cu Y v w c m z):
  Calls prog 36 #[.pointer (some ⟨c,0,none⟩),iv n] w λe w'=>∃b g B,Hid (e=.returned (.pointer (some ⟨b,0,none⟩)))/\Hid (Bd Y B v w' b c g ⟨m,z,frH n,[],400⟩):=by
 have CU:=uU h;have GF:=uU (d3k (λq=>q=c) n w (λq e=>by have:=h.2.1.1;omega));have XF:=uU (((hO w).alloc (.cells (zw 48) 48)).alloc (.cells #[iv n,iv 0,iv 0,.slice (some ⟨w.heap.size,0,none⟩) 16 16,.slice none 0 0,iv 0,iv 0,iv 0,.slice none 0 0,iv 0,iv 0,iv 0,iv 0] 27));have SF:=uU (show((w.alloc (.cells (zw 48) 48)).alloc (.cells #[iv n,iv 0,iv 0,.slice (some ⟨w.heap.size,0,none⟩) 16 16,.slice none 0 0,iv 0,iv 0,iv 0,.slice none 0 0,iv 0,iv 0,iv 0,iv 0] 27)).heap.size=w.heap.size+2 by simp[go_sem]);clear h;have Q:=uU (c2d n w);go_enter func36,ntmps36;go_wp21;refine Q.mono ?_;rintro e w1 ⟨rfl,hw⟩;rw[<-hw]at GF XF SF;clear hw Q;go_wp21;go_ret;have xb:=(hO w1).alloc (.cells #[.pointer (some ⟨c,0,none⟩),.pointer (some ⟨w.heap.size+1,0,none⟩),.slice none 0 0,iv 400] 66);have nb:=b3s w1 #[.pointer (some ⟨c,0,none⟩),.pointer (some ⟨w.heap.size+1,0,none⟩),.slice none 0 0,iv 400] 66;have hc:=CU.2.1.1;have hv:=CU.1.size;have hs:=uH SF;refine⟨w1.heap.size,w.heap.size+1,w.heap.size,rfl,.slice none 0 0,⟨frH_snd n h1 h2,λa ha=>(by simp at ha),by simp,CU.blk (CU.1.trans (uZ.of_ext (XF.trans xb))) (by rw[xb.block c (by omega)];exact XF.block c hc),hv,by omega,by omega,nb,by simp[go_sem],by simp[go_sem],by simp[go_sem],by simp[go_sem],mB _ _ _ _,by simp[Value.ownBlock],by simp[Value.ownBlock],GF.more xb (λq hq=>?_)⟩⟩;obtain e|e|e:=hq;exact .inr ⟨by omega,by rw[e];exact nb.1⟩;exact .inl e;simp[Value.ownBlock]at e
structure Tg(Y:Yt)(T:Tx)(F:Nat)(U:Tx):Prop where
 h:∀B v w b c g,Bd Y B v w b c g T->Calls prog F #[pP g] w λe w'=>e=.returned (.tuple #[])/\Hid (Bd Y B v w' b c g U)
theorem Tg.go(h:Hid (Bd Y B v w b c g T))(t:Tg Y T F U:=by with_reducible assumption):Calls prog F #[pP g] w λe w'=>e=.returned (.tuple #[])/\Bq Y B v w' b c g U:=(t.h _ _ _ _ _ _ h).mono λ_ _ h=>⟨h.1,h.2.q⟩
theorem Tg.ne(t:Tg Y T F U)(n:Ne Y T):Ne Y U:=by
 obtain⟨B,v,w,b,c,g,h⟩:=n;obtain⟨_,w',_,⟨_,i⟩,_⟩:=t.h B v w b c g h [];exact⟨B,v,w',b,c,g,i⟩
theorem Bd.c5(h:Bd Y B v w b c g T):w.cell? (aA g 5)=some (iv T.x.E):=by
 obtain⟨_,h⟩:=h;obtain⟨p,j,_⟩:=h.gg.call;exact j.box.2.2.1
theorem d3m(Y:Yt)(T:Tx)(e:T.x.E≠0):Tg Y T 35 {T with x:=cJ T.x}:=⟨λB v w b c g h=>by
 obtain⟨k,h⟩:=h;obtain⟨p,j,d⟩:=h.gg.call;exact(a3z B g _ w j h.s e _ (kL.le w B) (kL.ext w B)).mono λ_ w' ⟨f,a,i⟩=>⟨f,k,h.blk (h.cu.1.low h.vB i) h.s.unit (d _ _ a).1 (d _ _ a).2⟩⟩
theorem begin_g(Y:Yt)(T:Tx)(e:T.x.E=0):Tg Y T 34 {T with x:=dC T.x 1 0}:=⟨λB v w b c g h=>by
 obtain⟨k,h⟩:=h;obtain⟨p,j,d⟩:=h.gg.call;exact(a3c B g _ w j _ (kL.le w B) (kL.ext w B)).mono λ_ w' ⟨f,a,i⟩=>⟨f,k,h.blk (h.cu.1.low h.vB i) (h.s.begin e) (d _ _ a).1 (d _ _ a).2⟩⟩
theorem least{p:Nat->Prop}(n:Nat)(h:¬p n):∃k,k<=n/\(∀j,j<k->p j)/\¬p k:=by
 induction n with
 | zero=>exact⟨0,hT _,λj l=>by omega,h⟩
 | succ n ih=>
  by_cases q:∃k,k<=n/\(∀j,j<k->p j)/\¬p k;obtain⟨k,a,b⟩:=q;exact⟨k,by omega,b⟩;have r:p n:=Classical.not_not.1 λe=>q (ih e)
  refine⟨n+1,hT _,λj l=>?_,h⟩;exact Classical.not_not.1 λe=>by
   have:∀m,m<=n->¬p m->False:=λm hm em=>by
    induction m using Nat.strongRecOn with
    | _ m im=>
     exact q ⟨m,hm,λj l=>Classical.not_not.1 λe=>im j l (by omega) e,em⟩
   exact this j (by omega) e
def BgP(Y:Yt)(T A:Tx):Prop:=(T.x.E=0/\Tg Y T 34 A)\/(T.x.E≠0/\A=T)
theorem bg_d(i:Ne Y T):∃A:Tx,A.k=T.k/\Ne Y A/\A.x.E≠0/\BgP Y T A:=by
 by_cases e:T.x.E=0;have b:=begin_g Y T e;exact⟨{T with x:=dC T.x 1 0},rfl,b.ne i,by show(1:Int)≠0;omega,.inl ⟨e,b⟩⟩;exact⟨T,rfl,i,e,.inr ⟨e,rfl⟩⟩
structure Th(Y:Yt)(k:Nat)(s:Int)(F:Nat)(T:Tx):Prop where
 h:∀v w c,Cu Y v w c k s->Calls prog F #[pP c] w λe w'=>∃b g B,Hid (e=.returned (pP g))/\Hid (Bd Y B v w' b c g T)
theorem d3n(Y:Yt)(k:Nat)(s:Int)(n:Nc Y k s)(hk:k<=9999):∃T:Tx,T.k<=k+4000/\Ne Y T/\Th Y k s 14 T:=by
 obtain⟨rm,k1,s1,n1,n2,_,rt⟩:=rooms_d Y k s;have c1:=rt.ne n;obtain⟨T0,e0⟩:=obE (⟨k1,s1,frH rm,[],400⟩:Tx);have t0:T0.k=k1:=by rw[e0]
 have i:Ne Y T0:=by
  obtain⟨v,w,c,h⟩:=c1;obtain⟨_,w',_,⟨b,g,B,_,h⟩,_⟩:=b5x Y v w c k1 s1 rm n1 n2 h [];rw[e0];exact⟨B,v,w',b,c,g,h⟩
 obtain⟨ph,A,_,p8,_,_,i,_⟩:=eY 8 i;obtain⟨q,D,_,_,_,_,i,_⟩:=eY 8 i;obtain⟨m,hm⟩:=km (show 0<=1+q by omega);obtain⟨f,f0,fn,fp⟩:=seq 300 900000 8 (P:=λ_ T U=>Tb Y T 38 [] (.tuple #[]) U) (λj T l i hk=>some_d i) i m (by omega) (by omega);obtain⟨i,fk⟩:=fn m (hT _);obtain⟨r,E,_,_,_,_,i,_⟩:=eY 3 i;have m8:m<=8:=by omega
 obtain⟨F,fe,iF,_,bp⟩:=bg_d i;obtain⟨f2,g0,gn,gp⟩:=seq 0 900000 20000 (P:=λ_ T U=>∃A,A.x.E≠0/\BgP Y T A/\Tg Y A 35 U) (λj T l i hk=>by
  obtain⟨A,e,i,p,b⟩:=bg_d i;have u:=d3m Y A p;exact⟨_,by show A.k<=_;omega,u.ne i,A,p,b,u⟩) iF 20000 (by omega) (by omega)
 obtain⟨K,kl,kb,ke⟩:=least (p:=λj=>j<20000/\(f2 j).x.E≠ph/\ph<=6) 20000 (by omega);obtain⟨i2,k2⟩:=gn K kl;obtain⟨t,G,_,_,_,_,i2,_⟩:=eY 6 i2;obtain⟨o,ho⟩:=km (show 0<=t by omega);obtain⟨f3,h0,hn,hp⟩:=seq 20 900000 6 (P:=λ_ T U=>∃q A D,Pk Y T 2 q A/\((q=0/\Tb Y A 17 [] (.tuple #[]) D)\/((q == 0)=false/\D=A))/\((D.x.E≠0/\Tg Y D 35 U)\/(D.x.E=0/\U=D))) (λj T l i hk=>by
  obtain⟨q,A,_,_,_,_,i,a⟩:=eY 2 i;obtain⟨D,d,i,b⟩:∃D:Tx,D.k<=A.k+14/\Ne Y D/\((q=0/\Tb Y A 17 [] (.tuple #[]) D)\/((q == 0)=false/\D=A)):=by
   obtain rfl|hq:=(by omega:q=0\/q≠0);obtain⟨D,d,i,b⟩:=act_d i;exact⟨D,d,i,.inl ⟨rfl,b⟩⟩;exact⟨A,by omega,i,.inr ⟨beq_false_of_ne hq,rfl⟩⟩
  by_cases e:D.x.E=0;exact⟨D,by omega,i,q,A,D,a,b,.inr ⟨e,rfl⟩⟩;have u:=d3m Y D e;exact⟨_,by show D.k<=_;omega,u.ne i,q,A,D,a,b,.inl ⟨e,u⟩⟩) i2 o (by omega) (by omega)
 obtain⟨i3,_⟩:=hn o (hT _);have o6:o<=6:=by omega
 obtain⟨R,r1,r2,HR⟩:∃R:Tx,R.k<=k+4000/\Ne Y R/\Hid ((r=0/\R=E)\/(r≠0/\R=f3 o)):=by
  by_cases e:r=0;exact⟨E,by omega,i,.inl ⟨e,rfl⟩⟩;exact⟨f3 o,by omega,i3,.inr ⟨e,rfl⟩⟩
 refine⟨R,r1,r2,⟨λv w c h=>?_⟩⟩;have HO:=uU ho;clear ho;have KB:=uU kb;have KE:=uU ke;clear kb ke;have HM:=uU hm;have E0:=uU e0;clear hm e0;have a:=h.v;go_in;go_wp2_with ((with_reducible refine(Tc.go a).mono ?_);rintro e l ⟨rfl,a⟩);refine(b5x Y v _ c k1 s1 rm n1 n2 (uH a).1).mono ?_;rintro e l ⟨b,g,B,he,a⟩;have e2:=uH he;subst e2;clear he;rw[<-uH E0]at a;obtain⟨_,b0,b1,c5⟩:=(uH a).q;go_wp2_with ((with_reducible refine(Tk.go a).mono ?_);rintro e l ⟨rfl,a,b0,b1,c5⟩);go_loopw [5] (λi wr=>∃k:Nat,k<=m/\i=.int .i64 k/\Hid (Bd Y B v wr b c g (f (m-k)))) (λi _=>(intOf i).toNat)
 case atStart=>exact⟨m,by omega,by rw[uH HM],by rw[Nat.sub_self,f0];exact a⟩
 case round=>
  clear b0 b1 c5 a;obtain⟨k,hk,rfl,a⟩:=hrel;obtain⟨_,b0,b1,c5⟩:=a.q;by_cases hlt:0<k
  ·have hl:(k:Int)>0:=by omega
   have:=fp (m-k) (by omega);go_wp2_with ((with_reducible refine(Tb.go a).mono ?_);rintro e l ⟨rfl,a,b0,b1,c5⟩);go_roundw;exact⟨k-1,by omega,by rw[Int.ofNat_sub (by omega)];rfl,(show m-(k-1)=m-k+1 by omega)▸a⟩;simp[intOf];omega
  have:k=0:=by omega
  subst this;rw[Nat.sub_zero]at a;obtain⟨rfl,eR⟩|⟨hr,eR⟩:=uH HR
  ·have ER:=uU eR;clear eR;go_wp2_with ((with_reducible refine(Tk.go a).mono ?_);rintro e l ⟨rfl,a,b0,b1,c5⟩);go_ret;exact⟨b,g,B,rfl,uH ER▸a⟩
  have r0:(r == 0)=false:=beq_false_of_ne hr;have ER:=uU eR;clear eR;go_upto_if 37 with ((with_reducible refine(Tk.go a).mono ?_);rintro e l ⟨rfl,a,b0,b1,c5⟩);go_cut [] (λwx=>Hid (Bd Y B v wx b c g F))
  case first=>
   obtain⟨e,_⟩|⟨e,rfl⟩:=bp
   ·have e1:((E).x.E == 0)=true:=by simp[e]
    go_wp2_with ((with_reducible refine(Tg.go a).mono ?_);rintro e l ⟨rfl,a,b0,b1,c5⟩);go_meet;exact a
   have e1:((F).x.E == 0)=false:=by simp[e]
   go_wp21;go_meet;exact a
  case rest=>
   clear b0 b1 c5 a;have a:=hcut;go_wp21;go_loopw [6] (λi wr=>∃k:Nat,k<=K/\i=.int .i64 k/\Hid (Bd Y B v wr b c g (f2 k))) (λi _=>20000-(intOf i).toNat)
   case atStart=>exact⟨0,by omega,rfl,g0▸a⟩
   case round=>
    clear a;obtain⟨k,hk,rfl,a⟩:=hrel;obtain⟨_,b0,b1,c5⟩:=a.q;obtain⟨W,hW⟩:=nM wr;subst hW;go_upto_region 12 with(fail);go_cut [59] (λs wx=>wx=W/\s=.bool (decide (k<K)))
    case first=>
     by_cases hlt:k<K
     ·obtain⟨h1,h2,h3⟩:=KB k hlt;have h1:(k:Int)<20000:=by omega
      have e1:((f2 k).x.E != ph)=true:=by simpa using h2
      go_wp21;go_meet;exact⟨rfl,by simp[hlt]⟩
     have:k=K:=by omega
     subst this;rcases (show((k:Int)<20000/\((f2 k).x.E != ph)=true/\¬ph<=6)\/((k:Int)<20000/\((f2 k).x.E != ph)=false)\/¬(k:Int)<20000 by have:=uH KE;cases e:((f2 k).x.E != ph) <;> simp at e ⊢ <;> omega) with⟨h1,h2,h3⟩|⟨h1,h2⟩|h1;all_goals
      go_wp21;go_meet;exact⟨rfl,by simp⟩
    case rest=>
     obtain⟨rfl,rfl⟩:=hcut;by_cases hlt:k<K
     ·rw[decide_eq_true hlt];obtain⟨A,pn,bp,_⟩:=gp k (by omega);go_upto_if 69 with(fail);go_cut [] (λwx=>Hid (Bd Y B v wx b c g A))
      case first=>
       obtain⟨e,_⟩|⟨e,rfl⟩:=bp
       ·have e1:((f2 k).x.E == 0)=true:=by simp[e]
        go_wp2_with ((with_reducible refine(Tg.go a).mono ?_);rintro e l ⟨rfl,a,b0,b1,c5⟩);go_meet;exact a
       have e1:((f2 k).x.E == 0)=false:=by simp[e]
       go_wp21;go_meet;exact a
      case rest=>
       clear b0 b1 c5 a;have a:=hcut;obtain⟨_,b0,b1,c5⟩:=(uH a).q;go_wp2_with ((with_reducible refine(Tg.go a).mono ?_);rintro e l ⟨rfl,a,b0,b1,c5⟩);go_roundw
       ·exact⟨k+1,by omega,by go_num,a⟩
       simp[intOf];omega
     rw[decide_eq_false hlt];have:k=K:=by omega
     subst this;go_wp2_with ((with_reducible refine(Tk.go a).mono ?_);rintro e l ⟨rfl,a,b0,b1,c5⟩);go_loopw [7] (λi wr=>∃k:Nat,k<=o/\i=.int .i64 k/\Hid (Bd Y B v wr b c g (f3 (o-k)))) (λi _=>(intOf i).toNat)
     case atStart=>exact⟨o,by omega,by rw[uH HO],by rw[Nat.sub_self,h0];exact a⟩
     case round=>
      clear b0 b1 c5 a;obtain⟨k,hk,rfl,a⟩:=hrel;obtain⟨_,b0,b1,c5⟩:=a.q;by_cases hlt:0<k
      ·have hl:(k:Int)>0:=by omega
       obtain⟨_,_,D,_,⟨rfl,_⟩|⟨_,rfl⟩,⟨e,_⟩|⟨e,eU⟩⟩:=hp (o-k) (by omega);all_goals
        have e1:(D.x.E != 0)=(decide (D.x.E≠0)):=by by_cases y:D.x.E=0 <;> simp[y]
        simp only[e,decide_true,decide_false,ne_eq,not_true_eq_false,not_false_eq_true]at e1;go_wp2_with ((with_reducible first|refine(Tk.go a).mono ?_|refine(Tb.go a).mono ?_|refine(Tg.go a).mono ?_);rintro e l ⟨rfl,a,b0,b1,c5⟩);go_roundw;exact⟨k-1,by omega,by rw[Int.ofNat_sub (by omega)];rfl,(show o-(k-1)=o-k+1 by omega)▸(by first|exact a|exact eU▸a)⟩;simp[intOf];omega
      have:k=0:=by omega
      subst this;rw[Nat.sub_zero]at a;go_wp21;go_ret;exact⟨b,g,B,rfl,uH ER▸a⟩
theorem Bd.at(h:Bd Y B v w b c g T):Snd T.x/\GG (λq=>q=c) B w g T.x/\v.heap.size<=B/\Cu Y v w c T.k T.z:=by
 obtain⟨_,h⟩:=h;exact⟨h.s,h.gg.more (hO w) (λq e=>.inl (.inr (.inl e))),h.vB,h.cu⟩
def Bnd(x:Hp):Prop:=x.B.length<=1048576/\x.A.length<=1048576/\(∀q,q<x.A.length->(x.c q).F.length<=200)/\x.D.length<=1048576
def Bns(x:Hp):Prop:=x.B.length=16/\x.A.length<=8000/\(∀q,q<x.A.length->(x.c q).F.length<=200)/\x.D.length<=8000
theorem Snd.bns(s:Snd x):Bns x:=
 ⟨s.r1.B,by have:=s.ok.n8;omega,λq h=>s.ok.p200 q h,by have:=s.r1.D;have:=s.ok.n8;omega⟩
theorem Bns.bnd(s:Bns x):x.B.length=16/\x.A.length<=8000/\(∀q,q<x.A.length->(x.c q).F.length<=200)/\x.D.length<=8000:=s
theorem Bns.bd(s:Bns x):Bnd x:=have⟨a,b,c,d⟩:=s;⟨by omega,by omega,c,by omega⟩
structure Sp(Y:Yt)(S:Nat->Prop)(B:Nat)(v w0 w:World)(c g m:Nat)(z:Int)(x:Hp):Prop where
 sc:S c
 vB:v.heap.size<=B
 cu:Cu Y v w c m z
 gg:GG S B w g x
 s:Bns x
 o:∀q,S q->q≠c->w.heap[q]?=w0.heap[q]?
 l:∀q,S q->q<w0.heap.size
 zl:w0.heap.size<=w.heap.size
theorem Sp.read(h:Sp Y S B v w0 w c g m z x)(o:uZ (λq=>q=c) w w')(u:Cu Y v w' c k y):Sp Y S B v w0 w' c g k y x:=
 ⟨h.sc,h.vB,u,h.gg.poke o (λ_ e=>e▸h.sc),h.s,λq i j=>(o.block q (h.gg.lt i) j).trans (h.o q i j),h.l,kA h.zl o.size⟩
def SpE(Y:Yt)(S:Nat->Prop)(B:Nat)(v w0:World)(c g m:Nat)(z:Int)(y:Hp)(w:World):Prop:=Cu Y v w c m z/\(∀q,S q->q≠c->w.heap[q]?=w0.heap[q]?)/\GG S B w g y/\Bnd y
theorem Sp.call(h:Sp Y S B v w0 w c g m z x):∃p:Inhabited uL,@GOk p B w g x/\g≠c/\∀W y,@GOk p B W g y->Bnd y->uZ (λq=>B<=q) w W->SpE Y S B v w0 c g m z y W:=by
 obtain⟨p,a,b⟩:=h.gg.call;refine⟨p,a,λe=>?_,λW y d e o=>?_⟩;obtain⟨z,i,k⟩:=h.gg;obtain⟨o,j⟩:=i c h.sc;obtain⟨_,_,_,_,_,_,_,_,_,_,r,_,_,_,_,_,_,_,s,_,k,_⟩:=k;have:=(k c o j).1;have:=s.g;rw[e]at this;omega;obtain⟨f,k⟩:=b W y d;exact⟨h.cu.blk (h.cu.1.pst o (λq i=>kA h.vB i)) (k c h.sc),λq i j=>(k q i).trans (h.o q i j),f,e⟩
def Bx(w:World)(g:Nat)(x:Hp)(ar:Option Addr)(kr:Nat)(ac:Option Addr)(kc:Nat)(ag:Option Addr)(kg:Nat):Prop:=cK w g x (.slice ar x.B.length kr) (.slice ac x.A.length kc) (.slice ag x.D.length kg)
theorem Sp.bx(h:Sp Y S B v w0 w c g m z x):∃ar kr ac kc ag kg,Bx w g x ar kr ac kc ag kg/\Nf1 g w:=by
 obtain⟨p,⟨_,_,_,_,_,_,_,_,_,_,_,h⟩,_⟩:=h.call;obtain⟨_,_,e⟩:=h.gr.form;have b:=h.bx;rw[e]at b;exact⟨_,_,_,_,_,_,b,h.nf⟩
def SpO(Y:Yt)(S:Nat->Prop)(B:Nat)(v w0:World)(c g m:Nat)(z:Int)(x:Hp)(ar:Option Addr)(kr:Nat)(ac:Option Addr)(kc:Nat)(ag:Option Addr)(kg:Nat)(w:World):Prop:=Hid (Sp Y S B v w0 w c g m z x)/\Hid (Bx w g x ar kr ac kc ag kg)/\Nf1 g w
theorem Sp.go(h:Sp Y S B v w0 w c g m z x)(b:Bx w g x ar kr ac kc ag kg)(o:uZ (λq=>q=c) w w')(u:Cu Y v w' c k y):SpO Y S B v w0 c g k y x ar kr ac kc ag kg w':=by
 have H:=h.read o u;obtain⟨_,_,n,_⟩:=h.call;obtain⟨_,_,_,_,_,_,_,f⟩:=H.bx;exact⟨H,b.only o n,f⟩
theorem Sp.tc(h:Hid (Sp Y S B v w0 w c g m z x))(b:Hid (Bx w g x ar kr ac kc ag kg))(e:Ext w W)(t:Tc Y m z F l r k y:=by with_reducible assumption):Calls prog F (pP c::l).toArray W λe w'=>e=.returned r/\SpO Y S B v w0 c g k y x ar kr ac kc ag kg w':=
 (t.h v W c (h.cu.ext e)).mono λ_ _ ⟨a,q⟩=>⟨a,h.go b ((uZ.of_ext e).trans q.2) q.1⟩
theorem Sp.fld{u:Int}(h:Sp Y S B v w0 w c g m z x)(k:Nat)(y:Int->Hp)(e:∀vr vc vg,hbL (y u) vr vc vg=(hbL x vr vc vg).set k (iv u)/\(y u).B=x.B/\(y u).A=x.A/\(y u).D=x.D):SpE Y S B v w0 c g m z (y u) (w.setCell (aA g k) (iv u)):=by
 obtain⟨p,⟨_,_,_,_,_,_,_,_,_,_,_,a⟩,_,b⟩:=h.call;obtain⟨e,n,f,l⟩:=e _ _ _;refine b _ (y u) ⟨_,_,_,_,_,_,_,_,_,_,_,a.boxed (uZ.setCell (S:=λq=>q=g) (uZ.refl _ w) (p:=aA g k) rfl _) (a.nf.set _ _) n f l (a.bx.st k _ e)⟩ ?_ (uZ.setCell (S:=λq=>B<=q) (uZ.refl _ w) (p:=aA g k) a.lo _);have:=h.s.bd;unfold Bnd at *;rw[n,l,f];simpa only[Hp.c,f]using this
theorem Sp.tail{Y:Yt}{z:Int}{S:Nat->Prop}{B:Nat}{v w0 w:World}{c g m:Nat}{x:Hp}{ar:Option Addr}{kr:Nat}{ac:Option Addr}{kc:Nat}{ag:Option Addr}{kg:Nat}(h:Sp Y S B v w0 w c g m z x)(b:Bx w g x ar kr ac kc ag kg)(l:0<x.D.length):(kg=1->SpE Y S B v w0 c g m z {x with D:=x.D.tail} (w.setCell (aA g 8) (.slice ag (x.D.length-1) (kg-1))))/\(kg≠1->SpE Y S B v w0 c g m z {x with D:=x.D.tail} (w.setCell (aA g 8) (.slice (ag.map λx=>⟨x.block,x.off+1,none⟩) (x.D.length-1) (kg-1)))):=by
 obtain⟨p,⟨_,_,_,_,_,_,_,_,_,_,_,a⟩,_,f⟩:=h.call;have e:=a.bx.2.2.2.2.2.2.2.2.1.symm.trans b.2.2.2.2.2.2.2.2.1;cases e;have k:=a.gr;have z:=h.s.bd;cases d:x.D with
 | nil=>simp[d]at l
 | cons y G=>
  have n:Bnd {x with D:=G}:=⟨z.1,z.2.1,z.2.2.1,by have:=z.2.2.2;rw[d]at this;simp at this ⊢;omega⟩;have o:=λv=>uZ.setCell (S:=λq=>B<=q) (uZ.refl _ w) (p:=aA g 8) a.lo v;rw[d]at k;obtain⟨_,e⟩|⟨gb,go,cap,cur,e,k⟩:=k
  cases e
  cases e;have k:Grw w B (sO gb go (G.length+1) kg) (y::G):=.inr ⟨gb,go,kg,cur,rfl,k⟩;exact⟨λe=>by subst e;exact f _ _ (a.gtail k.tail1 rfl) n (o _),λe=>f _ _ (a.gtail k.tail rfl) n (o _)⟩
theorem Sp.gr(h:Sp Y S B v w0 w c g m z x)(b:Bx w g x ar kr ac kc ag kg)(W:World)(e:Ext w W):Grw W B (.slice ag x.D.length kg) x.D/\B<=W.heap.size:=by
 obtain⟨p,⟨_,_,_,_,_,_,_,_,_,_,_,a⟩,_⟩:=h.call;have d:=a.bx.2.2.2.2.2.2.2.2.1.symm.trans b.2.2.2.2.2.2.2.2.1;cases d;exact⟨(a.ext e).gr,by have:=a.lo;have:=a.nf.1;have:=e.size;omega⟩
theorem Sp.push{w5:World}{gb go:Nat}(h:Sp Y S B v w0 w c g m z x)(b:Bx w g x ar kr ac kc ag kg)(e:Ext w W)(C:Grw w5 B (sO gb go (x.D.length+1) cap) (x.D++[y]))(D:W.grownBy w5 (Value.slice ag x.D.length kg).ownBlock)(O:(Value.slice ag x.D.length kg).ownBlock=some gb\/gb=W.heap.size):Hid (SpE Y S B v w0 c g m z {x with D:=x.D++[y]} (w5.setCell (aA g 8) (sO gb go (x.D.length+1) cap)))/\w5.cell? (aA g 8)=some (.slice ag x.D.length kg)/\Nf1 g w5:=by
 obtain⟨p,⟨_,_,_,_,_,_,_,_,_,_,r,a⟩,_,f⟩:=h.call;have d:=a.bx.2.2.2.2.2.2.2.2.1.symm.trans b.2.2.2.2.2.2.2.2.1;cases d;have z:=h.s.bd;have a:=a.ext e;have k:=D.block g a.nf.1 (λe=>by have:=a.sp.y _ e.symm;have:=a.sp.g;omega);refine⟨f _ _ ⟨_,_,_,_,_,_,_,_,_,_,_,a.push D C O⟩ ⟨z.1,z.2.1,z.2.2.1,?_⟩ (uZ.setCell (S:=λq=>B<=q) ?_ (p:=aA g 8) a.lo _),(cOb g 8 k).trans a.bx.2.2.2.2.2.2.2.2.1,uY a.nf k D.size⟩;have:=h.s.bnd.2.2.2;simp;omega;exact(uZ.of_ext e).trans ⟨D.os,D.tape,D.output,D.size,λq l n=>D.block q l (λe=>n (a.gr.lt q e.symm).1)⟩
theorem Sp.reg(h:Sp Y S B v w0 w c g m z x)(b:Bx w g x ar kr ac kc ag kg):∃br,ar=some (aA br 0)/\x.B.length=16/\(∀i,i<16->yD w br (i*3) (x.r i))/\(∀j,w.frozen? (aA br j)=false)/\br<w.heap.size/\∀W i y,Ext w W->i<16->SpE Y S B v w0 c g m z (regTo x i y) (cX W br (i*3) y):=by
 have n:=h.s.bnd;obtain⟨p,a,_,f⟩:=h.call;obtain⟨br,k,R⟩:=a.B n.1;have e:=R.c3.symm.trans b.2.2.2.1;have e:(sS br 16 k)=.slice ar x.B.length kr:=Option.some.inj e;injection e with e _ _;refine⟨br,e.symm,n.1,R.r,R.f,R.lo.2.1,λW i y d l=>f _ _ (R.set W i y d l) ?_ ((uZ.of_ext d).trans ((cD W br _ y).mono λq e=>e▸R.lo.1))⟩;have:=h.s.bd;exact⟨by simp[regTo];omega,this.2⟩
theorem GAt.newr[qr]{pa:Nat->Option Addr}(h:GAt B w g x ar kr ac kc vg br bc pb pa pk role)(n:0<x.B.length)(L:List Wd)(c E:Nat)(z:w.heap.size<=w'.heap.size)(a:c=br\/w.heap.size<=c)(b:∀q,q<w.heap.size->q≠g->q≠c->w'.heap[q]?=w.heap[q]?)(i:Nf1 g w')(H:cK w' g {x with B:=L} (sS c L.length E) (.slice ac x.A.length kc) vg)(N:Nf1 c w')(k:B<=c)(r:∀i (u:i<L.length),yD w' c (i*3) L[i])(C:∀j,j<E*3->∃v,w'.cell? (aA c j)=some v):
  GAt B w' g {x with B:=L} (some (aA c 0)) E ac kc vg c bc pb pa pk (λd=>if d=c then 2 else role d):=by
 have Q:∀d,d<w.heap.size->role d≠2->d≠c:=λd m l e=>by
  obtain i|i:=a;exact l (by rw[e,i];exact h.sp.r n);omega
 have f:∀q,q<w.heap.size->role q≠0->role q≠2->w'.heap[q]?=w.heap[q]?:=λq m i j=>b q m (λe=>i (e▸h.sp.g)) (Q q m j)
 have R:∀d,d<w.heap.size->role d≠2->(if d=c then 2 else role d)=role d:=λd m l=>if_neg (Q d m l)
 have P:∀q,q<x.A.length->0<pk q->w'.heap[pb q]?=w.heap[pb q]?/\pb q≠c/\(if pb q=c then 2 else role (pb q))=6+q:=λq m l=>by have s:=h.sp.p q m l;have t:=(h.rw.pl q m l).2.1.1;exact⟨f _ t (by omega) (by omega),Q _ t (by omega),(R _ t (by omega)).trans s⟩
 have M:0<x.A.length->w'.heap[bc]?=w.heap[bc]?/\bc≠c/\(if bc=c then 2 else role bc)=3:=λm=>by have s:=h.sp.c m;have t:=(h.rw.nc m).1.1;exact⟨f _ t (by omega) (by omega),Q _ t (by omega),(R _ t (by omega)).trans s⟩
 refine⟨H,i,h.lo,λ_=>rfl,h.hc,⟨r,λq m=>(h.rw.s q m).of λ_ _=>cOb bc _ (M (by have:q<x.A.length:=m;omega)).1,λq m=>(cOb bc _ (M (by have:q<x.A.length:=m;omega)).1).trans (h.rw.p7 q m),λq m k l=>(h.rw.p q m k l).of λ_ _=>cOb (pb q) _ (P q m (h.rw.pw m (by have:k<(x.c q).F.length:=l;omega))).1,λq m l=>have⟨d,e,o,s⟩:=h.rw.pl q m l;⟨d,eN e (P q m l).1 z,⟨(P q m l).2.1,o.2⟩,s⟩,λ_=>⟨N,k⟩,λm=>⟨uY (h.rw.nc m).1 (M m).1 z,(h.rw.nc m).2⟩,λm e=>(M m).2.1 e.symm,h.rw.dp,h.rw.kp⟩,h.gr.block (λq m=>f q (h.gr.lt q m).2 (by rw[h.sp.y q m];omega) (by rw[h.sp.y q m];omega)),⟨(R g h.nf.1 (by rw[h.sp.g];omega)).trans h.sp.g,λ_=>if_pos rfl,λm=>(M m).2.2,λq m=>(R q (h.gr.lt q m).2 (by rw[h.sp.y q m];omega)).trans (h.sp.y q m),λq m l=>(P q m l).2.2⟩,h.kl,h.pr.of (λq m d=>f q m (by rw[d];omega) (by rw[d];omega)) (λq m d=>(R q m (by rw[d];omega)).trans d),λm=>(h.cc m).block (R bc (h.cc m).nf.1 (by rw[(h.cc m).ro];omega)) (f bc (h.cc m).nf.1 (by rw[(h.cc m).ro];omega) (by rw[(h.cc m).ro];omega)) z,λ_=>C⟩
theorem Sp.rapp{Y:Yt}{sd:Int}{S:Nat->Prop}{B:Nat}{v w0 w W:World}{c g m:Nat}{x:Hp}{ar:Option Addr}{kr:Nat}{ac:Option Addr}{kc:Nat}{ag:Option Addr}{kg:Nat}(h:Sp Y S B v w0 w c g m sd x)(b:Bx w g x ar kr ac kc ag kg)(e:Ext w W)(ty:TypeId)(ad:Addr)(d:Nat)(z:∀j u,[iv 0,iv 0,iv 0][j]?=some u->W.cell? (ad.add j)=some u):
  ∃b' k' w',(Builtin.append_ #[23,23] ty #[.slice ar x.B.length kr,.slice (some ad) 1 d]).run prog W=.ok (sS b' (x.B.length+1) k') w'/\Hid (SpE Y S B v w0 c g m sd {x with B:=x.B++[Wd0]} (w'.setCell (aA g 3) (sS b' (x.B.length+1) k')))/\(∃u,w'.cell? (aA g 3)=some u)/\Nf1 g w':=by
 obtain⟨p,⟨_,_,_,_,_,br,bc,pb,pa,pk,role,a⟩,_,f⟩:=h.call;have t:=a.bx.2.2.2.1.symm.trans b.2.2.2.1;cases t;have n:=h.s.bnd.1;have n0:0<x.B.length:=by omega
 have a:=a.ext e;have R:=a.ha n0;obtain⟨i0,O,zz,E,V⟩:=info_parts b0z;have gr:g≠br:=λe=>by have t:=a.sp.r n0;have y:=a.sp.g;rw[e]at y;omega
 have K:∃b' k' w',(Builtin.append_ #[23,23] ty #[.slice ar x.B.length kr,.slice (some ad) 1 d]).run prog W=.ok (sS b' (x.B.length+1) k') w'/\(∀i (hi:i<(x.B++[Wd0]).length),yD w' b' (i*3) (x.B++[Wd0])[i])/\(∀j,j<k'*3->∃v,w'.cell? (aA b' j)=some v)/\Nf1 b' w'/\B<=b'/\g≠b'/\(b'=br\/W.heap.size<=b')/\uZ (λq=>q=b') W w':=by
  by_cases r:x.B.length+1<=kr;have A:=run_append_room_cells (P:=prog) W 23 ty 48 i0 underlying23 O br 0 x.B.length kr ad 1 d [iv 0,iv 0,iv 0] (by rw[E];rfl) z (by simp;rfl) r (λj t=>by
   have t:j<3:=t;obtain⟨u,k⟩:=a.rc n0 (0+x.B.length*i0.size+j) (by rw[E];omega);rw[k];rfl) (λj _=>(a.rw.nr n0).1.2 _)
  rw[E,kO]at A;refine⟨br,kr,_,by rw[R];exact A,λi l=>?_,λj l=>?_,(a.rw.nr n0).1.put,(a.rw.nr n0).2,gr,.inl rfl,a1d (S:=λq=>q=br) rfl (uZ.refl _ W)⟩;by_cases k:i<x.B.length
  ·rw[List.getElem_append_left k];exact(a.rw.r i k).of λj t=>a1v br _ _ _ W (by simp;omega)
  obtain rfl:i=x.B.length:=by simp at l;omega
  have q:=λj t=>a4p br [iv 0,iv 0,iv 0] (x.B.length*3) j W (λi y=>a.rc n0 _ (by simp at y;omega)) t
  rw[List.getElem_append_right (hT _)];simp only[Nat.sub_self,List.getElem_cons_zero];exact⟨q 0 (by simp),q 1 (by simp),q 2 (by simp)⟩;obtain⟨u,k⟩:=a.rc n0 j l;by_cases y:j<x.B.length*3\/x.B.length*3+3<=j;exact⟨u,(a1v br _ _ _ W (by simpa using y)).trans k⟩;have q:=a4p br [iv 0,iv 0,iv 0] (x.B.length*3) (j-x.B.length*3) W (λi y=>a.rc n0 _ (by simp at y;omega)) (by simp;omega);rw[show x.B.length*3+(j-x.B.length*3)=j by omega]at q;rw[q];exact⟨_,ma (by simp;omega)⟩;obtain⟨r',w',A,o,D⟩:=run_append_arg_grows (P:=prog) W 23 ty 48 i0 _ 3 24 underlying23 O zz E V rfl (by decide) (aA br 0) x.B.length kr (x.B.flatMap fW) (a3r fW 3 (λ_=>rfl) _) (b1b fW 3 (by omega) (λ_=>rfl) x.B br 0 (λi l j t=>by
   rw[kO];obtain⟨k,y,q⟩:=a.rw.r i l;match j,t with
   | 0,_=>exact k
   | 1,_=>exact y
   | 2,_=>exact q)) ad 1 d [iv 0,iv 0,iv 0] rfl z (by omega) (by unfold maxLen;omega) (by omega)
  have y:w'.ownsRow W.heap.size 48 3 r' (x.B++[Wd0]).length ((x.B++[Wd0]).flatMap fW):=by rw[ko,nS];exact o
  have q:=a6i (f:=fW) (λ_=>rfl) y;obtain⟨o1,o2,o3,o4,o5⟩:=b8k o (by have:=b3x o;omega);have k:=a.lo;have t:=a.nf.1;refine⟨qW r',kQ r',w',by rw[R,A];exact congrArg (Result.ok · _) (by have:=(a0d o).1;rw[o1]at this;exact this),λi l=>⟨q i l 0 (by omega),q i l 1 (by omega),q i l 2 (by omega)⟩,o4,o3,by omega,λe=>by omega,.inr o5,⟨D.os,D.tape,D.output,D.size,λk l _=>D.block k l (by simp)⟩⟩
 obtain⟨b',k',w',A,M,C,N,k,gb,q,o⟩:=K;have F:=o.block g a.nf.1 gb;refine⟨b',k',w',A,f _ {x with B:=x.B++[Wd0]} ⟨_,_,_,_,_,_,_,_,_,_,_,a.newr n0 (x.B++[Wd0]) b' k' (by have:=o.size;simp only[World.setCell,Array.size_modify];exact this) q (λq l y t=>(kP _ _ _ _ y).trans (o.block q l t)) ((uY a.nf F o.size).set _ _) ?_ (N.set _ _) k (λi l=>(M i l).of λj _=>uC _ (.inl gb)) (λj l=>have⟨u,y⟩:=C j l;⟨u,(uC _ (.inl gb)).trans y⟩)⟩ ?_ ?_,⟨_,(cOb g 3 F).trans a.bx.2.2.2.1⟩,uY a.nf F o.size⟩;have:=(a.bx.block F).set3 (sS b' (x.B.length+1) k');rw[show (x.B++[Wd0]).length=x.B.length+1 by simp];exact this;have z:=h.s.bd;exact⟨by simp;omega,z.2⟩;exact uZ.setCell (S:=λq=>B<=q) ((uZ.of_ext e).trans (o.mono λq e=>e▸k)) (p:=aA g 3) a.lo _
theorem Sp.lapp(h:Sp Y S B v w0 w c g m sd x)(b:Bx w g x ar kr ac kc ag kg)(e:Ext w W){ops:Array Oper}{rest:List Oper}{o:Oper}{a:Act}{Q:Exit->Act->World->Prop}(q:o.guard=none)(s y:Operand)(r:o.op=.call {callee:=.builtin .append,args:=#[s,y],argTypes:=#[23,23]})(ad:Addr)(A:a.eval s=.slice ar x.B.length kr)(D:a.eval y=.slice (some ad) 1 1)(z:∀j u,[iv 0,iv 0,iv 0][j]?=some u->W.cell? (ad.add j)=some u)(F:∀b' k' w',Hid (SpE Y S B v w0 c g m sd {x with B:=x.B++[Wd0]} (w'.setCell (aA g 3) (sS b' (x.B.length+1) k')))->(∃u,w'.cell? (aA g 3)=some u)->Nf1 g w'->wpList prog ops Q rest (a.put o.dst (sS b' (x.B.length+1) k')) w'):wpList prog ops Q (o::rest) a W:=by
 refine wpList_plain q λK k=>?_;obtain⟨b',k',w',l,n⟩:=h.rapp b e o.type ad 1 z;unfold Oper.wp execOp;simp only[r,resolve,invoke,builtin,Sem.run_bind,Sem.run_pure,Result.andThen_ok,List.map_toArray,List.map_cons,List.map_nil,A,D,l];exact k _ _ (F _ _ _ n.1 n.2.1 n.2.2)
theorem Sp.stepC(h:Sp Y S B v w0 w c g m sd x)(b:Bx w g x ar kr ac kc ag kg)(e:Ext w W){ops:Array Oper}{o:Oper}{a:Act}{K:Act->World->Prop}{Q:Exit->Act->World->Prop}{E:Prop}(q:o.guard=none)(s y:Operand)(r:o.op=.call {callee:=.builtin .append,args:=#[s,y],argTypes:=#[24,24]})(d:Cl)(hd:d.F=[])(l:Nat)(np:a6f w W l 0)(ad:Addr)(A:a.eval s=.slice ac x.A.length kc)(D:a.eval y=.slice (some ad) 1 1)(z:∀j u,(fC (d,.slice none 0 0))[j]?=some u->W.cell? (ad.add j)=some u)(F:∀b' k' w',Hid (SpE Y S B v w0 c g m sd (a9d x x.A.length d) (w'.setCell (aA g 4) (sS b' (x.A.length+1) k')))->(∃u,w'.cell? (aA g 4)=some u)->Nf1 g w'->K (a.put o.dst (sS b' (x.A.length+1) k')) w'):if Region.wanted o (yielded ops a.tmps)=true then Oper.wp prog o a W K Q else E:=by
 obtain⟨p,⟨_,_,_,_,_,_,_,_,_,_,_,G⟩,_,f⟩:=h.call;have t:=G.bx.2.2.2.2.1.symm.trans b.2.2.2.2.1;cases t;have n:=h.s.bnd;refine b7o W q s y r G (by omega) n.2.1 d 0 (by simpa using hd) l none (λz=>absurd z (by omega)) e np ad 1 A D z (kL w B) (kL.le w B) (kL.ext w B) (λb' k' w' k=>F b' k' w' (f _ _ (k.gk w' (hO _)) ?_ (uZ.setCell (S:=λq=>B<=q) ?_ (p:=aA g 4) G.lo _)) ⟨_,(cOb g 4 k.far).trans G.bx.2.2.2.2.1⟩ (uY G.nf k.far k.sz));have L:(yC x x.A.length d).length=x.A.length+1:=by rw[a3n,if_neg (by omega)]
 refine⟨by show x.B.length<=_;omega,by show(yC x x.A.length d).length<=_;omega,λq l=>?_,by show x.D.length<=_;omega⟩;rw[d1w x _ d (hT _)];split;rw[hd];simp;exact n.2.2.1 q (by have l:q<(yC x x.A.length d).length:=l;omega);have u:=k.ex;exact⟨u.os,u.tape,u.output,k.sz,λq l n=>have t:q<(kL w B).heap.size:=by simp[kL];omega
  (u.block q t).trans ((kL.ext w B).block q t).symm⟩
theorem Sp.stepN{a1 a2:Int}{t:TypeId}(h:Sp Y S B v w0 w c g m sd x)(b:Bx w g x ar kr ac kc ag kg)(e:W=w.alloc (.cells #[iv a1,iv 0,iv 0,iv 0,iv 0,iv 0,iv a2,.slice none 0 0] t)){ops:Array Oper}{o:Oper}{a:Act}{K:Act->World->Prop}{Q:Exit->Act->World->Prop}{E:Prop}(q:o.guard=none)(s y:Operand)(r:o.op=.call {callee:=.builtin .append,args:=#[s,y],argTypes:=#[24,24]})(A:a.eval s=.slice ac x.A.length kc)(D:a.eval y=.slice (some (aA w.heap.size 0)) 1 1)(F:∀b' k' w',Hid (SpE Y S B v w0 c g m sd (a9d x x.A.length ⟨a1,0,0,0,0,0,a2,[]⟩) (w'.setCell (aA g 4) (sS b' (x.A.length+1) k')))->(∃u,w'.cell? (aA g 4)=some u)->Nf1 g w'->K (a.put o.dst (sS b' (x.A.length+1) k')) w'):if Region.wanted o (yielded ops a.tmps)=true then Oper.wp prog o a W K Q else E:=by
 subst e;have n:=heap_alloc_new w (.cells #[iv a1,iv 0,iv 0,iv 0,iv 0,iv 0,iv a2,.slice none 0 0] t);exact h.stepC b (eAl _ _) q s y r ⟨a1,0,0,0,0,0,a2,[]⟩ rfl w.heap.size ⟨hT _,⟨by simp,λ_=>by simp[go_sem],λj l=>by omega⟩,λk l=>by omega⟩ (aA w.heap.size 0) A D (λj u k=>by rw[show(aA w.heap.size 0).add j=aA w.heap.size j by unfold Addr.add;split <;> simp_all,cell_of_row _ w.heap.size j _ _ (0,0) n];simpa[fC]using k) F
def prT(t:Bool)(p:Pr)(y:Wd):Pr:=bif t then {p with key:=y} else {p with val:=y}
theorem Sp.base(h:Sp Y S B v w0 w c g m sd x):Sp Y S B v w w c g m sd x:=
 ⟨h.sc,h.vB,h.cu,h.gg,h.s,λ_ _ _=>rfl,λ_ i=>h.gg.lt i,hT _⟩
theorem Sp.end_(h:Sp Y S B v w0 w c g m sd x):SpE Y S B v w0 c g m sd x w:=⟨h.cu,h.o,h.gg,h.s.bd⟩
theorem Sp.inn(h:Sp Y S B v w0 w c g m sd x):∃p:Inhabited uL,(∀q,S q->∃o,(@default uL p).z q=some o)/\@GOk p B w g x/\∀W y,@GOk p B W g y->GG S B W g y/\∀q,S q->W.heap[q]?=w.heap[q]?:=by
 obtain⟨z,a,k⟩:=h.gg;exact⟨⟨⟨z⟩⟩,a,k,λW y b=>⟨⟨z,a,b⟩,λq d=>by obtain⟨o,c⟩:=a q d;rw[b.prt c,k.prt c]⟩⟩
theorem Sp.own(h:Sp Y S B v w0 w c g m sd x)(f:∀q,S q->W.heap[q]?=w.heap[q]?)(o:uZ (λq=>B<=q) w W):Cu Y v W c m sd/\∀q,S q->q≠c->W.heap[q]?=w0.heap[q]?:=
 ⟨h.cu.blk (h.cu.1.pst o (λ_ i=>kA h.vB i)) (f c h.sc),λq i j=>(f q i).trans (h.o q i j)⟩
theorem c7c(s:Bns x)(i:Nat)(l:i<x.A.length)(d:Cl)(e:d.F.length<=200):Bns {x with A:=x.A.set i d}:=by
 refine⟨s.1,by simp;exact s.2.1,λq k=>?_,s.2.2.2⟩;have k:q<x.A.length:=by simpa using k
 rw[Hp.c_set x i d l];split;exact e;exact s.2.2.1 q k
theorem Sp.cel(h:Sp Y S B v w0 w c g m sd x)(b:Bx w g x ar kr ac kc ag kg)(i:Nat)(l:i<x.A.length):∃bc pa kp,ac=some (aA bc 0)/\S7 w bc (i*8) (x.c i)/\w.cell? (aA bc (i*8+7))=some (.slice pa (x.c i).F.length kp)/\Nf1 bc w/\∀q,S q->q≠bc:=by
 obtain⟨p,z,⟨_,_,_,_,_,br,bc,pb,pa,pk,role,a⟩,_⟩:=h.inn;have t:=a.bx.2.2.2.2.1.symm.trans b.2.2.2.2.1;cases t;have n:0<x.A.length:=by omega
 exact⟨bc,pa i,pk i,a.hc n,a.rw.s i l,a.rw.p7 i l,(a.rw.nc n).1,λq e f=>by obtain⟨o,e⟩:=z q e;have:=(a.pr q o e).1;have:=a.sp.c n;rw[f]at *;omega⟩
theorem Sp.fin{u:Value}(h:Sp Y S B v w0 w c g m sd x)(c4:w.cell? (aA g 4)=some (.slice (some (aA bc 0)) x.A.length kc))(l:i<x.A.length)(e:Ext w W)(q7:w.cell? (aA bc (i*8+7))=some u)(t:d.F=(x.c i).F):SpE Y S B v w0 c g m sd {x with A:=x.A.set i d} (eK W bc (i*8) d u):=by
 obtain⟨p,z,⟨_,_,_,_,_,br,b2,pb,pa,pk,role,a⟩,f⟩:=h.inn;have n:0<x.A.length:=by omega
 have r:=a.bx.2.2.2.2.1.symm.trans c4;rw[a.hc n]at r;cases r;have y:=a.ext e;have q7:=e.keep q7;have o:=a0a W bc (i*8) d u;obtain⟨s,s7⟩:=a3y W bc (i*8) d (x.c i) u u (y.rw.s i l) q7;obtain⟨F,G⟩:=f (eK W bc (i*8) d u) _ ⟨_,_,_,_,_,_,_,_,_,_,_,y.setc l t o s (λk r=>by
  by_cases r7:k=i*8+7;rw[r7,s7,q7];exact a1k W bc _ d u k (by omega)) (a3b (y.rw.nc n).1 _ _ _)⟩
 have O:uZ (λq=>B<=q) w (eK W bc (i*8) d u):=(uZ.of_ext e).trans (o.mono λq e=>e▸(a.rw.nc n).2);have K:=h.own G O;exact⟨K.1,K.2,F,(c7c h.s i l d (by rw[t];exact h.s.2.2.1 i l)).bd⟩
theorem Sp.prw(h:Sp Y S B v w0 w c g m sd x)(c4:w.cell? (aA g 4)=some (.slice (some (aA bc 0)) x.A.length kc))(l:i<x.A.length)(q7:w.cell? (aA bc (i*8+7))=some (.slice pa (x.c i).F.length kp))(n:k<(x.c i).F.length):∃bp,pa=some (aA bp 0)/\qY w bp (k*6) ((x.c i).p k)/\Nf1 bp w/\bp≠bc/\bp≠g/\(∀q,S q->q≠bp)/\∀W y u t,Ext w W->(t=true/\u=cX W bp (k*6) y\/t=false/\u=cX W bp (k*6+3) y)->uZ (λq=>q=bp) w u/\Sp Y S B v u u c g m sd {x with A:=x.A.set i {x.c i with F:=(x.c i).F.set k (prT t ((x.c i).p k) y)}}:=by
 obtain⟨p,z,⟨_,_,_,_,_,br,b2,pb,qa,pk,role,a⟩,f⟩:=h.inn;have n0:0<x.A.length:=by omega
 have r:=a.bx.2.2.2.2.1.symm.trans c4;rw[a.hc n0]at r;cases r;have r:=(a.rw.p7 i l).symm.trans q7;cases r;have kp:=a.rw.pw l (by omega);have L:=a.rw.pl i l kp;have P:=a.rw.p i l k n;have N:Nf1 (pb i) w:=⟨L.2.1.1,L.2.1.nf⟩;refine⟨pb i,L.1,P,N,L.2.2.1.2,λe=>by have:=a.sp.p i l kp;have:=a.sp.g;rw[e]at *;omega,λq e f=>by obtain⟨o,e⟩:=z q e;have:=(a.pr q o e).1;have:=a.sp.p i l kp;rw[f]at *;omega,λW y u s e t=>?_⟩;obtain⟨o,hz,X⟩:∃_:uZ (λq=>q=pb i) W u,∃_:qY u (pb i) (k*6) (prT s ((x.c i).p k) y),(∀j,(j<k*6\/k*6+6<=j)->u.cell? (aA (pb i) j)=W.cell? (aA (pb i) j))/\Nf1 (pb i) u:=by
  obtain⟨rfl,rfl⟩|⟨rfl,rfl⟩:=t;exact⟨cD _ _ _ _,b8d W (pb i) (k*6) _ y (P.ext e),λj d=>dL _ _ _ _ _ (by omega),a2g (N.ext e) _ _⟩;exact⟨cD _ _ _ _,b8e W (pb i) (k*6) _ y (P.ext e),λj d=>dL _ _ _ _ _ (by omega),a2g (N.ext e) _ _⟩
 have O:uZ (λq=>q=pb i) w u:=(uZ.of_ext e).trans o;obtain⟨F,G⟩:=f u _ ⟨_,_,_,_,_,_,_,_,_,_,_,(a.ext e).setp i l k n _ o X.2 hz X.1⟩;have K:=h.own G (O.mono λq e=>e▸L.2.2.2);exact⟨O,h.sc,h.vB,K.1,F,c7c h.s i l _ (by simp;exact h.s.2.2.1 i l),λ_ _ _=>rfl,λ_ i=>F.lt i,hT _⟩
def Cl.fld(d:Cl)(k:Nat)(u:Int):Cl:=match k with
 | 0=>{d with st:=u}
 | 1=>{d with kind:=u}
 | 2=>{d with T:=u}
 | 3=>{d with U:=u}
 | 4=>{d with born:=u}
 | 5=>{d with J:=u}
 | _=>⟨d.st,d.kind,d.T,d.U,d.born,d.J,u,d.F⟩
theorem Cl.fld_prs(d:Cl)(k:Nat)(u:Int):(d.fld k u).F=d.F:=by unfold Cl.fld;split <;> rfl
theorem S7_fld(h:S7 w b 0 d)(n:Nf1 b w)(k:Nat)(u:Int)(l:k<7):S7 (w.setCell (aA b k) (iv u)) b 0 (d.fld k u):=by
 have c:∀y,w.cell? (aA b k)=some y->(w.setCell (aA b k) (iv u)).cell? (aA b k)=some (iv u):=λy e=>yQ.same ⟨⟨_,e⟩,n.2 k⟩ _
 have a:∀j y,j≠k->w.cell? (aA b j)=some y->(w.setCell (aA b k) (iv u)).cell? (aA b j)=some y:=λj y n e=>(uC _ (.inr (by omega))).trans e
 obtain⟨p,m,f,q,g,o,i⟩:=h;rcases (by omega:k=0\/k=1\/k=2\/k=3\/k=4\/k=5\/k=6) with rfl|rfl|rfl|rfl|rfl|rfl|rfl<;>refine⟨?_,?_,?_,?_,?_,?_,?_⟩<;>first|exact c _ ‹_›|exact a _ _ (by omega) ‹_›
structure Sc(Y:Yt)(S:Nat->Prop)(B:Nat)(v w0 w:World)(c g m:Nat)(sd:Int)(x:Hp)(i b bc kc:Nat)(d:Cl)(pa:Option Addr)(kp:Nat):Prop where
 sp:Sp Y (λq=>S q\/q=b) B v w w c g m sd x
 o:∀q,S q->q≠c->w.heap[q]?=w0.heap[q]?
 l:∀q,S q->q<w0.heap.size
 hi:i<x.A.length
 bw:w0.heap.size<=b
 vb:v.heap.size<=b
 hb:b≠c
 s7:S7 w b 0 d
 p7:w.cell? (aA b 7)=some (.slice pa (x.c i).F.length kp)
 nf:Nf1 b w
 c4:w.cell? (aA g 4)=some (.slice (some (aA bc 0)) x.A.length kc)
 q7:w.cell? (aA bc (i*8+7))=some (.slice pa (x.c i).F.length kp)
 nc:Nf1 bc w
 sc:S7 w bc (i*8) (x.c i)
 nb:∀q,(S q\/q=b)->q≠bc
 hd:d.F=(x.c i).F
theorem Sc.gc(h:Sc Y S B v w0 w c g m sd x i b bc kc d pa kp):g≠c/\b≠g/\bc≠c/\b≠bc/\S c:=by
 obtain⟨_,_,n,_⟩:=h.sp.call;obtain⟨p,z,⟨_,_,_,_,_,_,_,_,_,_,r,a⟩,_⟩:=h.sp.inn;refine⟨n,λe=>?_,λe=>h.nb c h.sp.sc e.symm,λe=>h.nb b (.inr rfl) e,h.sp.sc.resolve_right λe=>h.hb e.symm⟩;obtain⟨o,k⟩:=z b (.inr rfl);have:=(a.pr b o k).1;have:=a.sp.g;rw[e]at *;omega
theorem Sc.read(h:Sc Y S B v w0 w c g m sd x i b bc kc d pa kp)(o:uZ (λq=>q=c) w w')(u:Cu Y v w' c k sq):Sc Y S B v w0 w' c g k sq x i b bc kc d pa kp:=by
 obtain⟨n1,n2,n3,n4,n5⟩:=h.gc;have eb:=o.block b h.nf.1 h.hb;have ec:=o.block bc h.nc.1 n3;exact⟨(h.sp.read o u).base,λq i j=>(o.block q (h.sp.gg.lt (.inl i)) j).trans (h.o q i j),h.l,h.hi,h.bw,h.vb,h.hb,h.s7.of λj _=>cOb b _ eb,(cOb b _ eb).trans h.p7,uY h.nf eb o.size,o.keep n1 h.c4,(cOb bc _ ec).trans h.q7,uY h.nc ec o.size,h.sc.of λj _=>cOb bc _ ec,h.nb,h.hd⟩
theorem Sc.put(h:Sc Y S B v w0 w c g m sd x i b bc kc d pa kp)(k:Nat)(l:k<7)(u:Int):Sc Y S B v w0 (w.setCell (aA b k) (iv u)) c g m sd x i b bc kc (d.fld k u) pa kp:=by
 obtain⟨n1,n2,n3,n4,n5⟩:=h.gc;have o:uZ (λq=>q=b) w (w.setCell (aA b k) (iv u)):=uZ.setCell (S:=λq=>q=b) (uZ.refl _ w) (p:=aA b k) rfl _;have gl:g<w.heap.size:=cLt h.c4;have ec:=o.block c h.sp.cu.2.1.1 λe=>h.hb e.symm;have eg:=o.block g gl λe=>n2 e.symm;have eb:=o.block bc h.nc.1 λe=>n4 e.symm;have gg:=h.sp.gg.poke o λq e=>.inr e
 exact⟨⟨h.sp.sc,h.sp.vB,h.sp.cu.blk (h.sp.cu.1.pst o λq e=>e▸h.vb) ec,gg,h.sp.s,λ_ _ _=>rfl,λ_ i=>gg.lt i,hT _⟩,λq i j=>(o.block q (h.sp.gg.lt (.inl i)) λe=>by have:=h.l q i;have:=h.bw;omega).trans (h.o q i j),h.l,h.hi,h.bw,h.vb,h.hb,S7_fld h.s7 h.nf k u l,(uC _ (.inr (by omega))).trans h.p7,h.nf.set _ _,(cOb g 4 eg).trans h.c4,(cOb bc _ eb).trans h.q7,uY h.nc eb o.size,h.sc.of λj _=>cOb bc _ eb,h.nb,(d.fld_prs k u).trans h.hd⟩
theorem SpE.drew{y:Hp}(h:SpE Y S B v w0 c g m sd y w):SpE Y S B v w0 c g m sd y w.drew:=have⟨a,b,d,e⟩:=h;⟨a.drew,b,d.more (eDr _) λ_ i=>.inl i,e⟩
theorem Sc.fin(h:Sc Y S B v w0 w c g m sd x i b bc kc d pa kp):SpE Y S B v w0 c g m sd {x with A:=x.A.set i d} (eK w bc (i*8) d (.slice pa (x.c i).F.length kp)).drew:=by
 obtain⟨a,f,z,n⟩:=h.sp.fin h.c4 h.hi (hO _) h.q7 h.hd;exact SpE.drew ⟨a,λq i j=>(f q (.inl i) j).trans (h.o q i j),z.more (hO _) λq i=>.inl (.inl i),n⟩
theorem Sc.prw(h:Sc Y S B v w0 w c g m sd x i b bc kc d pa kp)(n:k<(x.c i).F.length):∃bp,pa=some (aA bp 0)/\qY w bp (k*6) ((x.c i).p k)/\Nf1 bp w/\∀W y u t,Ext w W->(t=true/\u=cX W bp (k*6) y\/t=false/\u=cX W bp (k*6+3) y)->Hid (Sc Y S B v w0 u c g m sd {x with A:=x.A.set i {x.c i with F:=(x.c i).F.set k (prT t ((x.c i).p k) y)}} i b bc kc {d with F:=(x.c i).F.set k (prT t ((x.c i).p k) y)} pa kp):=by
 obtain⟨bp,e,f,nf,n1,n2,n3,F⟩:=h.sp.prw h.c4 h.hi h.q7 n;refine⟨bp,e,f,nf,λW y u a X t=>?_⟩;obtain⟨o,s⟩:=F W y u a X t;obtain⟨z,hz⟩:=obE (prT a ((x.c i).p k) y);rw[<-hz]at s ⊢;have C:=Hp.c_set x i {x.c i with F:=(x.c i).F.set k z} h.hi i;rw[if_pos rfl]at C;have L:({x with A:=x.A.set i {x.c i with F:=(x.c i).F.set k z}}:Hp).A.length=x.A.length:=by simp
 have M:(({x with A:=x.A.set i {x.c i with F:=(x.c i).F.set k z}}:Hp).c i).F.length=(x.c i).F.length:=by rw[C];simp
 have gl:g<w.heap.size:=cLt h.c4;have eb:=o.block b h.nf.1 (n3 b (.inr rfl));have eg:=o.block g gl (λe=>n2 e.symm);have ec:=o.block bc h.nc.1 (λe=>n1 e.symm);refine⟨s,λq i j=>(o.block q (h.sp.gg.lt (.inl i)) (n3 q (.inl i))).trans (h.o q i j),h.l,by rw[L];exact h.hi,h.bw,h.vb,h.hb,h.s7.of λj _=>cOb b _ eb,by rw[M];exact(cOb b _ eb).trans h.p7,uY h.nf eb o.size,by rw[L];exact(cOb g 4 eg).trans h.c4,by rw[M];exact(cOb bc _ ec).trans h.q7,uY h.nc ec o.size,?_,h.nb,by rw[C]⟩;rw[C];exact h.sc.of λj _=>cOb bc _ ec
theorem Sc.tc(h:Hid (Sc Y S B v w0 w c g m sd x i b bc kc d pa kp))(e:Ext w W)(t:Tc Y m sd F l r k sq:=by with_reducible assumption):Calls prog F (pP c::l).toArray W λe w'=>e=.returned r/\Hid (Sc Y S B v w0 w' c g k sq x i b bc kc d pa kp):=
 (t.h v W c (h.sp.cu.ext e)).mono λ_ _ ⟨a,q⟩=>⟨a,h.read ((uZ.of_ext e).trans q.2) q.1⟩
theorem Sp.sc_(h:Sp Y S B v w0 w c g m sd x)(b:Bx w g x ar kr ac kc ag kg)(i:Nat)(l:i<x.A.length):∃bc pa kp,ac=some (aA bc 0)/\S7 w bc (i*8) (x.c i)/\w.cell? (aA bc (i*8+7))=some (.slice pa (x.c i).F.length kp)/\Nf1 bc w/\Hid (Sc Y S B v w0 (w.alloc (.cells (fC (x.c i,.slice pa (x.c i).F.length kp)).toArray 51)) c g m sd x i w.heap.size bc kc (x.c i) pa kp):=by
 obtain⟨bc,pa,kp,rfl,s,p,n,f⟩:=h.cel b i l;refine⟨bc,pa,kp,rfl,s,p,n,?_⟩;have e:=eAl w (.cells (fC (x.c i,.slice pa (x.c i).F.length kp)).toArray 51);have G:GG (λq=>S q\/q=w.heap.size) B _ g x:=h.gg.more e λq i=>i.imp_right λe=>by simp[e]
 have C:∀j u,(fC (x.c i,.slice pa (x.c i).F.length kp))[j]?=some u->(w.alloc (.cells (fC (x.c i,.slice pa (x.c i).F.length kp)).toArray 51)).cell? (aA w.heap.size j)=some u:=λj u q=>by rw[cell_of_row _ w.heap.size j _ _ (0,0) (heap_alloc_new w _)];simpa using q
 exact⟨⟨.inl h.sc,h.vB,h.cu.ext e,G,h.s,λ_ _ _=>rfl,λ_ i=>G.lt i,hT _⟩,λq i j=>(e.block q (h.gg.lt i)).trans (h.o q i j),h.l,l,h.zl,h.cu.1.size,λe=>by have:=h.gg.lt h.sc;omega,⟨C 0 _ rfl,C 1 _ rfl,C 2 _ rfl,C 3 _ rfl,C 4 _ rfl,C 5 _ rfl,C 6 _ rfl⟩,C 7 _ rfl,⟨by simp,λj=>by simp[go_sem]⟩,e.keep b.2.2.2.2.1,e.keep p,n.ext e,s.of λj _=>(cE e).1 bc _ n.1,λq k e=>k.elim (λk=>f q k e) (λk=>by have:=n.1;omega),rfl⟩
theorem Sc.bx(h:Sc Y S B v w0 w c g m sd x i b bc kc d pa kp):(w.cell? (aA b 0)=some (iv d.st)/\w.cell? (aA b 1)=some (iv d.kind)/\w.cell? (aA b 2)=some (iv d.T)/\w.cell? (aA b 3)=some (iv d.U)/\w.cell? (aA b 4)=some (iv d.born)/\w.cell? (aA b 5)=some (iv d.J)/\w.cell? (aA b 6)=some (iv d.to)/\w.cell? (aA b 7)=some (.slice pa (x.c i).F.length kp))/\Nf1 b w:=
 have⟨a,b,c,d,e,f,g⟩:=h.s7;⟨⟨a,b,c,d,e,f,g,h.p7⟩,h.nf⟩
theorem Cu.link(h:Cu Y v w c k y)(d:Cu Y w W c m z):Cu Y v W c m z:=by
 obtain⟨e,_,ad,p,g,_,_,hx,hl⟩:=h;obtain⟨f,nf,_,_,j,a,s,_,l⟩:=d;cases g.symm.trans l;exact⟨e.trans f,nf,ad,p,j,a,s,hx,hl⟩
theorem Cu.here(h:Cu Y v w c k y):Cu Y w w c k y:=by
 obtain⟨e,nf,ad,p,g,a,s,hx,_⟩:=h;exact⟨uZ.refl _ _,nf,ad,p,g,a,s,λj l=>have⟨b,o,f,d,y⟩:=hx j l;⟨b,o,f,d,e.keep d y⟩,g⟩
theorem GAt.gg{p:Inhabited uL}{pa:Nat->Option Addr}(h:@GAt p B w g x ar kr ac kc vg br bc pb pa pk role)(k:∀q,S q->q<B/\q<w.heap.size):GG S B w g x:=by
 have t:∀q,B<=q->(λq=>if q<B then 1 else role q) q=role q:=λq l=>if_neg (by omega)
 obtain⟨a,b,l,f,d,r,y,s,n,_,o,e⟩:=h;letI:Inhabited uL:=⟨⟨λq=>if q<B then w.heap[q]? else none⟩⟩;refine⟨λq=>if q<B then w.heap[q]? else none,λq i=>?_,ar,kr,ac,kc,vg,br,bc,pb,pa,pk,λq=>if q<B then 1 else role q,a,b,l,f,d,r,y,⟨(t g l).trans s.g,λl=>(t _ (r.nr l).2).trans (s.r l),λl=>(t _ (r.nc l).2).trans (s.c l),λq l=>(t _ (y.lt q l).1).trans (s.y q l),λq i l=>(t _ (r.pl q i l).2.2.2).trans (s.p q i l)⟩,n,λq o j=>?_,λl=>(o l).block (t _ (o l).lo) rfl (hT _),e⟩;obtain⟨a,b⟩:=k q i;exact⟨w.heap[q],by simp[a,b]⟩;change(if q<B then w.heap[q]? else none)=some o at j;split at j;rename_i l;exact⟨if_pos l,j⟩
 cases j
theorem Bd.copy(h:Cu Y u u c k z)(s:Snd x)(G:GG (λq=>q=c) u.heap.size w g x)(e:Ext u w):Bd Y u.heap.size u (w.alloc (.cells #[pP c,pP g,.slice none 0 0,iv 1] 66)) w.heap.size c g ⟨k,z,x,[],1⟩:=by
 have b:=(hO w).alloc (.cells #[pP c,pP g,.slice none 0 0,iv 1] 66);have n:=b3s w #[pP c,pP g,.slice none 0 0,iv 1] 66;have zz:=e.size;have l:=h.2.1.1;refine⟨.slice none 0 0,s,λa i=>(by simp at i),by simp,h.ext (e.trans b),hT _,zz,by omega,n,by simp[go_sem],by simp[go_sem],by simp[go_sem],by simp[go_sem],mB _ _ _ _,by simp[Value.ownBlock],by simp[Value.ownBlock],G.more b (λq i=>?_)⟩;obtain i|i|i:=i;exact .inr ⟨by omega,by rw[i];exact n.1⟩;exact .inl i;simp[Value.ownBlock]at i
theorem GG.out(h:GG S B w g x)(n:Bnd x):∃ar kr ac kc ag kg,Bx w g x ar kr ac kc ag kg/\Hid (∀W,uZ (λq=>q<B) w W->HV W x ar kr ac kc ag kg)/\B<=g:=by
 obtain⟨z,_,f,i,p,j,D,O,F,I,C,K,d,u,G,y,M,E,N,A,P,J,_,Q,V⟩:=h;letI:Inhabited uL:=⟨⟨λ_=>none⟩⟩;obtain⟨a,l,rfl⟩:∃a k,D=.slice a x.D.length k:=A.form;have r:GAt B w g x f i p j (.slice a x.D.length l) O F I C K d:=⟨u,G,y,M,E,N,A,P,J,(λq o H=>by cases H),Q,V⟩;refine⟨f,i,p,j,a,l,u,λW o=>?_,y⟩;have h:=GAt.low (λ_=>rfl) r o (λq e=>e);refine⟨h.rd n.1 n.2.1 n.2.2.1 n.2.2.2,λi e m t s l c d b=>.inl ?_⟩;have k:0<x.A.length:=by omega
 rw[h.hc k]at d;simp only[Option.some.injEq,Addr.mk.injEq]at d;obtain⟨rfl,rfl,_⟩:=d;rw[kO,h.rw.p7 i e]at b;simp only[Option.some.injEq,Value.slice.injEq]at b;obtain⟨_,rfl,rfl⟩:=b;exact h.rw.kp i e
structure Ds(Y:Yt)(u w:World)(b c m:Nat)(z:Int)(va:Value)(L:List Ak):Prop where
 cu:Cu Y u w c m z
 ub:u.heap.size<=b
 bc:b≠c
 b2:w.cell? (aA b 2)=some va
 ow:w.ownsRow u.heap.size 29 5 va L.length (L.flatMap fA)
 n1:va.ownBlock≠some b
 n2:va.ownBlock≠some c
 hL:∀a,a∈L->a3a a
theorem Bd.ds(h:Bd Y B v w b c g T):∃va,Ds Y v w b c T.k T.z va T.L:=by
 obtain⟨va,h⟩:=h;exact⟨va,h.cu,h.vb,h.bc,h.b2,h.ow,h.n1,h.n2,h.hL⟩
theorem Ds.read(h:Ds Y u w b c m y va L)(o:uZ (λq=>q=c) w W)(d:Cu Y u W c k z):Ds Y u W b c k z va L:=by
 have e:=o.block b (uQ h.b2) h.bc;exact⟨d,h.ub,h.bc,(dE e).trans h.b2,uN h.ow (λq i=>o.block q (h.ow.lt q i).2 (λe=>h.n2 (by rw[<-e];exact i))),h.n1,h.n2,h.hL⟩
theorem Ds.ext(h:Ds Y u w b c m y va L)(e:Ext w W):Ds Y u W b c m y va L:=h.read (uZ.of_ext e) (h.cu.ext e)
theorem Ds.form(h:Ds Y u w b c m y va L):∃ad cap,va=.slice ad L.length cap/\(0<L.length->∃g,ad=some ⟨g,0,none⟩):=by
 obtain⟨a,d⟩|⟨g,cap,cur,a,_⟩:=h.ow.2;exact⟨none,0,by rw[a,d],λe=>by omega⟩;exact⟨_,cap,a,λ_=>⟨g,rfl⟩⟩
theorem b9t(h:w.ownsRow B 29 5 (sS g n cap) L.length (L.flatMap fA))(l:0<L.length):(w.cell? (aA g 0)=some (iv L[0].op)/\w.cell? (aA g 1)=some (iv L[0].a)/\w.cell? (aA g 2)=some (iv L[0].b)/\w.cell? (aA g 3)=some (iv L[0].c)/\w.cell? (aA g 4)=some (iv L[0].n))/\∀i,w.frozen? (aA g i)=false:=by
 obtain⟨j,k,e,_,f⟩:=b1a (f:=fA) (λ_=>rfl) h;obtain⟨p,d,_,_,r⟩:=f 0 l;simp only[Value.slice.injEq]at e;rw[d]at e;simp only[Option.some.injEq,Addr.mk.injEq,and_true]at e;obtain⟨rfl,_⟩:=e;refine⟨⟨by have:=r 0 (by omega);simpa[fA]using this,by have:=r 1 (by omega);simpa[fA]using this,by have:=r 2 (by omega);simpa[fA]using this,by have:=r 3 (by omega);simpa[fA]using this,by have:=r 4 (by omega);simpa[fA]using this⟩,λi=>?_⟩;obtain⟨a,b⟩|⟨q,_,_,a,_,e,_⟩:=h.2;omega;simp only[Value.slice.injEq,Option.some.injEq,Addr.mk.injEq,and_true]at a;obtain⟨rfl,_⟩:=a;simp[World.frozen?,e]
theorem Ds.put{p:Nat}(h:Ds Y u w b c m y (.slice (some ⟨p,0,none⟩) n cap) L)(l:0<L.length)(A:Ak)(a:a3a A):Ds Y u (w.setCells p 0 (fA A)) b c m y (.slice (some ⟨p,0,none⟩) n cap) (L.set 0 A):=by
 have e:n=L.length:=by obtain⟨_,_,e,_⟩:=h.form;simp only[Value.slice.injEq]at e;exact e.2.1
 subst e;have o:uZ (λq=>q=p) w (w.setCells p 0 (fA A)):=a1d (S:=λq=>q=p) rfl (uZ.refl _ _);have i:p≠b:=λe=>h.n1 (by rw[<-e];rfl)
 have j:p≠c:=λe=>h.n2 (by rw[<-e];rfl)
 have k:=(h.ow.lt p rfl).1;refine⟨h.cu.blk (h.cu.1.pst o (λq e=>by omega)) (o.block c h.cu.2.1.1 (by omega)),h.ub,h.bc,(dE (o.block b (uQ h.b2) (by omega))).trans h.b2,?_,h.n1,h.n2,λy q=>?_⟩;have:=c7d (fA A) (0*5) w (L.flatMap fA) h.ow;rw[c7e A L 0 l]at this;rw[List.length_set];exact this;obtain q|q:=List.mem_or_eq_of_mem_set q
 ·exact h.hL y q
 rw[q];exact a
def dsS(c b:Nat)(va:Value)(q:Nat):Prop:=q=c\/q=b\/va.ownBlock=some q
theorem Ds.sp(h:Ds Y u w b c m y va L)(d:Cu Y v u c k z)(G:GG (λq=>q=c) B u g x)(s:Bns x)(l:v.heap.size<=B):Sp Y (dsS c b va) B v w w c g m y x:=
 ⟨.inl rfl,l,d.link h.cu,G.turn h.cu.1 (λq e=>by
  obtain e|e|e:=e;exact .inl e;have:=h.ub;have:b<w.heap.size:=uQ h.b2;exact .inr ⟨by omega,by omega⟩;exact .inr (h.ow.lt q e)),s,λ_ _ _=>rfl,λq e=>by
  obtain e|e|e:=e;rw[e];exact h.cu.2.1.1;rw[e];exact uQ h.b2;exact(h.ow.lt q e).2,hT _⟩
