import Derived.Test.YtddkhnclmeikfaaGreatTo2
import Derived.Test.YtddkhnclmeikfaaGreatOw
set_option maxRecDepth 100000
set_option maxHeartbeats 4000000
namespace Go.Proofs.YtddkhnclmeikfaaGreat
open Go.RowKit
attribute [local go_sem ↓] Go.wp_at_zero Go.wp_at_succ
variable{B b C kr br kc kg U bc bg:Nat}{w w':World}{x:Hp}{pa:Nat->Option Addr}{pk pb:Nat->Nat}{S:Nat->Prop}{ar:Option Addr}
theorem b8n(p:Nat->Bool)(h:Nat):∀d,(List.range (h+d)).filter (λi=>p i && decide ((i:Int)<(h:Int)))=(List.range h).filter p
 | 0=>by
  refine List.filter_congr λi hi=>?_
  have:=List.mem_range.1 hi;have e:decide ((i:Int)<(h:Int))=true:=by simp;omega
  rw[e,Bool.and_true]
 | d+1=>by
  rw[<-Nat.add_assoc,List.range_succ,List.filter_append,b8n p h d,List.filter_cons_of_neg (by simp;intro _;omega),List.filter_nil,List.append_nil]
theorem c4w(x:Hp)(k:Nat):(a7n x k).length<=k:=a2q _ _ _
theorem SOwn.soq[Inhabited uN](hz:∀q,(default:uN).z q=none)(h:SOwn B w b x)(s:Snd x):SOq 24000 B w b x:=by
 obtain⟨ar,kr,a4,n4,k4,a8,m8,k8,br,cB,cO,bn,pb,pa,pk,kn,hd,vf,F,vk,role,hst,ho,pm,hk⟩:=h;have hh:=s.r1.hand;have n8:=s.ok.n8;have cc:=s.r1.cells;refine⟨ar,kr,a4,n4,k4,a8,m8,k8,br,cB,cO,bn,pb,pa,pk,kn,hd,vf,F,vk,_,role,hst,⟨ho,λi hi h0=>?_,λv hv=>?_,?_,λh3=>?_,λh4=>?_,λh3 h4=>?_⟩,by omega,hz bn⟩
 ·exact pm.mem_iff.2 ((a4t x _ _).2 ⟨i,hi,h0,rfl⟩)
 ·obtain⟨i,_,_,e⟩:=(a4t x _ _).1 (pm.mem_iff.1 hv);omega
 ·have l1:=pm.length_eq;have l2:=c4w x x.cells.length
  have l3:yN x<=16000:=by
   unfold yN
   split
   ·omega
   split
   ·omega
   split
   ·omega
   split
   ·omega
   ·omega
  omega
 ·have e:x.cells.length=x.hand.toNat+(x.cells.length-x.hand.toNat):=by omega
  have e2:qW x x.cells.length=(List.range x.cells.length).filter (λi=>((x.c i).st == 1) && decide ((i:Int)<(x.hand.toNat:Int))):=by
   unfold qW;refine List.filter_congr λi _=>?_
   have:a1f x i=decide ((i:Int)<(x.hand.toNat:Int)):=by
    unfold a1f;rw[h3,show((x.hand.toNat:Nat):Int)=x.hand by omega];simp
   rw[this]
  rw[e2,e,b8n (λi=>(x.c i).st == 1) x.hand.toNat _];refine⟨List.pairwise_lt_range.filter _,λi hi=>?_,λi hi h1 hn=>?_⟩
  ·obtain⟨a,b⟩:=List.mem_filter.1 hi;exact⟨List.mem_range.1 a,by simpa using b⟩
  ·exact absurd (List.mem_filter.2 ⟨List.mem_range.2 hi,by simpa using h1⟩) hn
 ·have e2:qW x x.cells.length=(List.range x.cells.length).filter (λi=>(x.c i).st == 1):=by
   unfold qW;refine List.filter_congr λi _=>?_
   have:a1f x i=true:=by unfold a1f;simp [h4]
   rw[this,Bool.and_true]
  rw[e2];refine⟨List.pairwise_lt_range.filter _,λi hi=>?_,λi hi h1 hn=>?_⟩
  ·obtain⟨a,b⟩:=List.mem_filter.1 hi;exact⟨List.mem_range.1 a,by simpa using b⟩
  ·exact absurd (List.mem_filter.2 ⟨List.mem_range.2 hi,by simpa using h1⟩) hn
 ·unfold qW;refine List.filter_eq_nil_iff.2 λi _=>?_
  have:a1f x i=false:=by unfold a1f;simp [h3,h4]
  simp [this]
theorem SOq.wide[Inhabited uN]{D:Nat}(h:SOq C B w b x)(hd:C<=D):SOq D B w b x:=by
 obtain⟨ar,kr,a4,n4,k4,a8,m8,k8,br,cB,cO,bn,pb,pa,pk,kn,hd,vf,F,vk,K,role,h,i,k⟩:=h;exact⟨ar,kr,a4,n4,k4,a8,m8,k8,br,cB,cO,bn,pb,pa,pk,kn,hd,vf,F,vk,K,role,h,i.wide (by assumption),k⟩
theorem c4x[Inhabited uN](h:SOq C B w b x)(hp:x.phase=0)(a:World)(ha:a.heap.size<=B)(hx:Ext a w):
  Calls Tryz.prog 143 #[.pointer (some ⟨b,0,none⟩)] w λe w'=>e=.returned (zV 1 b)/\Hid (SOq (C+16000) B w' b (dD x 1 0))/\Ext a w':=by
 obtain⟨ar,kr,a4,n4,k4,a8,m8,k8,br,cB,cO,bn,pb,pa,pk,kn,hd,vf,F,vk,K,role,h,i,k⟩:=h;refine(a6n h 0 hp rfl rfl (by omega) a ha hx).mono ?_;rintro e w' ⟨rfl,h2,x2⟩;exact⟨rfl,⟨ar,kr,a4,n4,k4,a8,m8,k8,br,cB,cO,bn,pb,pa,pk,kn,hd,vf,F,vk,K,role,h2,inv0 i hp,k⟩,x2⟩
structure a8e(B U:Nat)(w:World)(x:Hp)(br kr bc kc bg kg:Nat)(pb:Nat->Nat)(pa:Nat->Option Addr)(pk:Nat->Nat):Prop where
 r:SlW w (.slice (some ⟨br,0,none⟩) x.regs.length kr) x.regs
 s:∀q,q<x.cells.length->w.cell? ⟨bc,q*8,none⟩=some (iv (x.c q).st)/\w.cell? ⟨bc,q*8+1,none⟩=some (iv (x.c q).kind)/\w.cell? ⟨bc,q*8+2,none⟩=some (iv (x.c q).weak)/\w.cell? ⟨bc,q*8+3,none⟩=some (iv (x.c q).last)/\w.cell? ⟨bc,q*8+4,none⟩=some (iv (x.c q).born)/\w.cell? ⟨bc,q*8+5,none⟩=some (iv (x.c q).color)/\w.cell? ⟨bc,q*8+6,none⟩=some (iv (x.c q).to)
 p:∀q,q<x.cells.length->SlP w (.slice (pa q) (x.c q).prs.length (pk q)) (x.c q).prs
 g:SlI w (.slice (some ⟨bg,0,none⟩) x.gray.length kg) x.gray
 p7:∀q,q<x.cells.length->w.cell? ⟨bc,q*8+7,none⟩=some (.slice (pa q) (x.c q).prs.length (pk q))
 pl:∀q,q<x.cells.length->0<(x.c q).prs.length->pa q=some ⟨pb q,0,none⟩/\Nf1 (pb q) w/\(pb q≠br/\pb q≠bc/\pb q≠bg)/\B<=pb q/\pb q<U
 nr:Nf1 br w
 nc:Nf1 bc w
 ng:Nf1 bg w
 d:br≠bc/\br≠bg/\bc≠bg
 dp:∀q q',q<x.cells.length->q'<x.cells.length->q≠q'->0<(x.c q).prs.length->0<(x.c q').prs.length->pb q≠pb q'
 b:(B<=br/\br<U)/\(B<=bc/\bc<U)/\(B<=bg/\bg<U)
 l:x.regs.length<=100/\x.cells.length<=8000/\x.gray.length<=8000/\∀q,q<x.cells.length->(x.c q).prs.length<=200
 k:∀q,q<x.cells.length->(x.c q).prs.length<=pk q
theorem a9j(h:Nf1 B w)(k:uX S w w')(hs:¬S B):Nf1 B w':=⟨Nat.lt_of_lt_of_le h.1 k.size,λj=>by rw[k.frozen h.1 hs];exact h.2 j⟩
theorem a8e.ext(h:a8e B U w x br kr bc kc bg kg pb pa pk)(e:Ext w w'):a8e B U w' x br kr bc kc bg kg pb pa pk:=
 ⟨SlW.ext e h.r,λq hq=>let ⟨a0,a1,a2,a3,a4,a5,a6⟩:=h.s q hq;⟨e.keep a0,e.keep a1,e.keep a2,e.keep a3,e.keep a4,e.keep a5,e.keep a6⟩,λq hq=>SlP.ext e (h.p q hq),SlI.ext e h.g,λq hq=>e.keep (h.p7 q hq),λq hq hl=>let ⟨a,b,c⟩:=h.pl q hq hl;⟨a,b.ext e,c⟩,h.nr.ext e,h.nc.ext e,h.ng.ext e,h.d,h.dp,h.b,h.l,h.k⟩
theorem a8e.only(h:a8e B U w x br kr bc kc bg kg pb pa pk)(e:uX S w w')(hs:∀q,B<=q->q<U->¬S q):a8e B U w' x br kr bc kc bg kg pb pa pk:=by
 have nr:=hs _ h.b.1.1 h.b.1.2;have nc:=hs _ h.b.2.1.1 h.b.2.1.2;have ng:=hs _ h.b.2.2.1 h.b.2.2.2;refine⟨tV.mono2 h.r λb o n c z o' y hy=>?_,λq hq=>let ⟨a0,a1,a2,a3,a4,a5,a6⟩:=h.s q hq;⟨e.keep nc a0,e.keep nc a1,e.keep nc a2,e.keep nc a3,e.keep nc a4,e.keep nc a5,e.keep nc a6⟩,λq hq=>?_,tV.mono2 h.g λb o n c z o' y hy=>?_,λq hq=>e.keep nc (h.p7 q hq),λq hq hl=>let ⟨a,b,c⟩:=h.pl q hq hl;⟨a,a9j b e (hs _ c.2.1 c.2.2),c⟩,a9j h.nr e nr,a9j h.nc e nc,a9j h.ng e ng,h.d,h.dp,h.b,h.l,h.k⟩
 ·simp only [Value.slice.injEq,Option.some.injEq,Addr.mk.injEq] at z;obtain⟨⟨rfl,_,_⟩,_,_⟩:=z;exact⟨e.keep nr hy.1,e.keep nr hy.2.1,e.keep nr hy.2.2⟩
 ·rcases Nat.eq_zero_or_pos (x.c q).prs.length with z | z
  ·have z2:(x.c q).prs=[]:=List.eq_nil_of_length_eq_zero z;rw[z2];exact tV.nil
  ·obtain⟨a,_,c⟩:=h.pl q hq z;refine c5b e (λb o n k e2=>?_) (h.p q hq);rw[a] at e2;simp only [Value.slice.injEq,Option.some.injEq,Addr.mk.injEq] at e2;rw[<-e2.1.1];exact hs _ c.2.1 c.2.2
 ·simp only [Value.slice.injEq,Option.some.injEq,Addr.mk.injEq] at z;obtain⟨⟨rfl,_,_⟩,_,_⟩:=z;exact e.keep ng hy
theorem a8e.cs(h:a8e B U w x br kr bc kc bg kg pb pa pk):SlC w (.slice (some ⟨bc,0,none⟩) x.cells.length kc) x.cells:=by
 refine⟨_,_,rfl,by have:=h.l.2.1;omega,λi hi=>⟨bc,0,rfl,?_⟩⟩;have e:x.c i=x.cells[i]:=(Hp.c_eq x i hi).symm;obtain⟨a0,a1,a2,a3,a4,a5,a6⟩:=h.s i hi;have hp:=h.p i hi;have h7:=h.p7 i hi;rw[e] at a0 a1 a2 a3 a4 a5 a6 hp h7;rw[Nat.zero_add];exact⟨_,a0,a1,a2,a3,a4,a5,a6,h7,hp⟩
theorem c0q(b bn hd n:Nat)(G:List Int)(w:World)(h:RAt w b bn hd G)(hn:∀i,i<n->w.cell? ⟨bn,i*2,none⟩=some (iv i))(hG:∀g,g∈G->0<=g/\g<n):
  Calls Tryz.prog 100 #[.pointer (some ⟨b,15,none⟩)] w λe w'=>e=.returned (.slice (some ⟨w.heap.size,0,none⟩) G.length G.length)/\SlI w' (.slice (some ⟨w.heap.size,0,none⟩) G.length G.length) G/\Nf1 w.heap.size w'/\Ext w w':=by
 have r1:=h.r1;have hl:=h.hl;have H:=uU h;have HN:=uU hn;have HG:=uU hG;obtain⟨z,hmk⟩:=mkInts G.length (by omega) w;clear h hn hG;go_enter Tryz.func100,Tryz.ntmps100;go_wp2_with fail;go_loopw [12] (λi wr=>∃(k:Nat),k<=G.length/\i=.int .i64 k/\Hid ((∀j (hj:j<G.length),j<k->yQ wr w.heap.size (0+j*1) G[j])/\(∀j,j<G.length*1->yU wr w.heap.size j)/\Ext w wr/\Nf1 w.heap.size wr)) (λi _=>G.length-(intOf i).toNat)
 case atStart=>exact⟨0,Nat.zero_le _,rfl,(λj _ h=>by omega),(λj hj=>a6t _ _ _ _ _ (by omega)),(Ext.refl w).alloc _,Nf1.made _ _ _ _⟩
 case round=>
  clear hmk r1;obtain⟨k,hk,rfl,hinv⟩:=hrel;by_cases hlt:k<G.length
  ·have hx:=hinv.2.2.1;obtain⟨m,hm⟩:∃m,m=(hd+k) % 4000:=⟨_,rfl⟩;have hm4:m<4000:=by rw[hm];exact Nat.mod_lt _ (by omega)
   have hr:((hd:Int)+(k:Int)).tmod 4000=(m:Int):=by have:=b2x (hd+k);rw[<-hm] at this;simpa using this
   have m0:(0:Int)<=(m:Int):=by omega
   have m1:(m:Int)<4000:=by omega
   have hg:=uH HG G[k] (List.getElem_mem hlt);obtain⟨j,hj⟩:∃j:Nat,G[k]=(j:Int):=⟨G[k].toNat,by omega⟩;have hjn:j<n:=by omega
   have c0:=hx.keep H.r0;have h0:=H.h0;have cm:=hx.keep (H.rg k hlt);rw[<-hm,hj] at cm;have cm:wr.cell? ⟨b,15+m,none⟩=some (.pointer (some ⟨bn,j*2,none⟩)):=cm;have cj:=hx.keep (HN j hjn);have R:=uU (c4y (w:=w) (wr:=wr) (xs:=G) (k:=k) hlt hinv.1 hinv.2.1 hx hinv.2.2.2);rw[hj] at R;obtain⟨⟨u,cu⟩,fu⟩:=hinv.2.1 k (by omega);have k0:(0:Int)<=(k:Int):=by omega
   have k1:(k:Int)<(G.length:Int):=by omega
   have nb1:¬w.heap.size=b:=λe=>by have:=uL H.r0;simp only at this;omega
   have nb2:¬b=w.heap.size:=λe=>nb1 e.symm
   clear hg hj hm;go_wp2_with fail
   go_region
   all_goals
    go_wp2_with fail;go_roundw
    case rel=>
     have d:=(Ext.refl (wr.setCell ⟨w.heap.size,k,none⟩ (iv j))).drew;exact⟨k+1,by omega,by go_num,λj hj hk=>(R.1 j hj hk).ext d,λj hj=>(R.2.1 j hj).ext d,R.2.2.1.drew,R.2.2.2.ext d⟩
    case measure=>simp [intOf];omega
  ·have hk2:k=G.length:=by omega
   have HM:=uU (show SlI wr (.slice (some ⟨w.heap.size,0,none⟩) G.length G.length) G from⟨_,_,rfl,by omega,λi hi=>⟨_,_,rfl,hinv.1 i hi (by omega)⟩⟩);clear hk2;go_wp2_with fail;go_ret;exact⟨rfl,HM,hinv.2.2.2,hinv.2.2.1⟩
theorem uX.setNew{a:World}(h:uX S a w){p:Addr}(hp:a.heap.size<=p.block)(u:Value):uX S a (w.setCell p u):=
 ⟨h.os,h.tape,h.output,by have:=h.size;simpa [World.setCell] using this,λk hk hs=>(Below.heap_setCell _ _ _ _ (by omega)).trans (h.block k hk hs)⟩
structure Tdl(w1 wr:World)(x:Hp)(t bN:Nat)(vr vc vg:Value)(pa:Nat->Option Addr)(pk:Nat->Nat)(k:Nat):Prop where
 bx:dW wr t x vr vc vg
 s:∀q,q<x.cells.length->q<k->S7 wr bN (q*8) (x.c q)/\wr.cell? ⟨bN,q*8+7,none⟩=some (.slice (pa q) (x.c q).prs.length (pk q))
 o:∀j,j<x.cells.length*8->yU wr bN j
 nf:Nf1 bN wr
 on:uX (λq=>q=t) w1 wr
 lt:t<w1.heap.size/\w1.heap.size<=bN
theorem Tdl.step{w1 wr:World}{t bN:Nat}{vr vc vg:Value}{k:Nat}(h:Tdl w1 wr x t bN vr vc vg pa pk k)(hk:k<x.cells.length):
  Tdl w1 ((((((((wr.setCell ⟨bN,k*8,none⟩ (iv (x.c k).st)).setCell ⟨bN,k*8+1,none⟩ (iv (x.c k).kind)).setCell ⟨bN,k*8+2,none⟩ (iv (x.c k).weak)).setCell ⟨bN,k*8+3,none⟩ (iv (x.c k).last)).setCell ⟨bN,k*8+4,none⟩ (iv (x.c k).born)).setCell ⟨bN,k*8+5,none⟩ (iv (x.c k).color)).setCell ⟨bN,k*8+6,none⟩ (iv (x.c k).to)).setCell ⟨bN,k*8+7,none⟩ (.slice (pa k) (x.c k).prs.length (pk k))).drew x t bN vr vc vg pa pk (k+1):=by
 have hl:=h.lt;have o0:yU wr bN (k*8):=h.o (k*8) (by omega);have o1:=h.o (k*8+1) (by omega);have o2:=h.o (k*8+2) (by omega);have o3:=h.o (k*8+3) (by omega);have o4:=h.o (k*8+4) (by omega);have o5:=h.o (k*8+5) (by omega);have o6:=h.o (k*8+6) (by omega);have o7:=h.o (k*8+7) (by omega)
 have oth:∀b o,(b≠bN\/o<k*8\/k*8+8<=o)->(((((((((wr.setCell ⟨bN,k*8,none⟩ (iv (x.c k).st)).setCell ⟨bN,k*8+1,none⟩ (iv (x.c k).kind)).setCell ⟨bN,k*8+2,none⟩ (iv (x.c k).weak)).setCell ⟨bN,k*8+3,none⟩ (iv (x.c k).last)).setCell ⟨bN,k*8+4,none⟩ (iv (x.c k).born)).setCell ⟨bN,k*8+5,none⟩ (iv (x.c k).color)).setCell ⟨bN,k*8+6,none⟩ (iv (x.c k).to)).setCell ⟨bN,k*8+7,none⟩ (.slice (pa k) (x.c k).prs.length (pk k))).drew).cell? ⟨b,o,none⟩=wr.cell? ⟨b,o,none⟩:=λb o hb=>by
  rw[a0w,uC _ (by omega),uC _ (by omega),uC _ (by omega),uC _ (by omega),uC _ (by omega),uC _ (by omega),uC _ (by omega),uC _ (by omega)]
 have opn:∀b o,yU wr b o->yU ((((((((wr.setCell ⟨bN,k*8,none⟩ (iv (x.c k).st)).setCell ⟨bN,k*8+1,none⟩ (iv (x.c k).kind)).setCell ⟨bN,k*8+2,none⟩ (iv (x.c k).weak)).setCell ⟨bN,k*8+3,none⟩ (iv (x.c k).last)).setCell ⟨bN,k*8+4,none⟩ (iv (x.c k).born)).setCell ⟨bN,k*8+5,none⟩ (iv (x.c k).color)).setCell ⟨bN,k*8+6,none⟩ (iv (x.c k).to)).setCell ⟨bN,k*8+7,none⟩ (.slice (pa k) (x.c k).prs.length (pk k))).drew b o:=λb o hb=>((((((((hb.set _ _).set _ _).set _ _).set _ _).set _ _).set _ _).set _ _).set _ _).ext ((Ext.refl _).drew)
 refine⟨h.bx.of λo _=>oth t o (.inl (by omega)),λq hq hqk=>?_,λj hj=>opn bN j (h.o j hj),((((((((h.nf.set _ _).set _ _).set _ _).set _ _).set _ _).set _ _).set _ _).set _ _).ext ((Ext.refl _).drew),?_,hl⟩
 ·by_cases e:q=k
  ·subst e;refine⟨⟨?_,?_,?_,?_,?_,?_,?_⟩,?_⟩
   ·rw[a0w,uC _ (by omega),uC _ (by omega),uC _ (by omega),uC _ (by omega),uC _ (by omega),uC _ (by omega),uC _ (by omega)];exact o0.same _
   ·rw[a0w,uC _ (by omega),uC _ (by omega),uC _ (by omega),uC _ (by omega),uC _ (by omega),uC _ (by omega)];exact(o1.set _ _).same _
   ·rw[a0w,uC _ (by omega),uC _ (by omega),uC _ (by omega),uC _ (by omega),uC _ (by omega)];exact((o2.set _ _).set _ _).same _
   ·rw[a0w,uC _ (by omega),uC _ (by omega),uC _ (by omega),uC _ (by omega)];exact(((o3.set _ _).set _ _).set _ _).same _
   ·rw[a0w,uC _ (by omega),uC _ (by omega),uC _ (by omega)];exact((((o4.set _ _).set _ _).set _ _).set _ _).same _
   ·rw[a0w,uC _ (by omega),uC _ (by omega)];exact(((((o5.set _ _).set _ _).set _ _).set _ _).set _ _).same _
   ·rw[a0w,uC _ (by omega)];exact((((((o6.set _ _).set _ _).set _ _).set _ _).set _ _).set _ _).same _
   ·rw[a0w];exact(((((((o7.set _ _).set _ _).set _ _).set _ _).set _ _).set _ _).set _ _).same _
  ·have hx:=h.s q hq (by omega);exact⟨hx.1.of λj hj=>oth bN _ (.inr (by omega)),(oth bN _ (.inr (by omega))).trans hx.2⟩
 ·exact((((((((h.on.setNew (p:=⟨bN,k*8,none⟩) hl.2 _).setNew (p:=⟨bN,k*8+1,none⟩) hl.2 _).setNew (p:=⟨bN,k*8+2,none⟩) hl.2 _).setNew (p:=⟨bN,k*8+3,none⟩) hl.2 _).setNew (p:=⟨bN,k*8+4,none⟩) hl.2 _).setNew (p:=⟨bN,k*8+5,none⟩) hl.2 _).setNew (p:=⟨bN,k*8+6,none⟩) hl.2 _).setNew (p:=⟨bN,k*8+7,none⟩) hl.2 _).drew
theorem c8k[Inhabited uN]{a4:Option Addr}{n4 k4:Nat}{a8:Option Addr}{n8 k8:Nat}{bn:Nat}{cB cO:Nat->Nat}{kn hd:Nat}{vf:Value}{F:List Int}{vk:Value}{K:List Nat}{role:Nat->Nat}(w:World)
  (h:SAt B w b x ar kr (.slice a4 n4 k4) (.slice a8 n8 k8) br cB cO bn pb pa pk kn hd vf F vk K role) (hG:∀g,g∈x.gray->0<=g/\g<x.cells.length) (hr:0<x.regs.length) (l:x.regs.length<=100/\x.cells.length<=8000/\x.gray.length<=8000/\∀q,q<x.cells.length->(x.c q).prs.length<=200) (hB:B<=w.heap.size) :
  Calls Tryz.prog 59 #[.pointer (some ⟨b,0,none⟩)] w λe w'=>∃bcN bgN,e=.returned (x.v (.slice (some ⟨br,0,none⟩) x.regs.length kr) (.slice (some ⟨bcN,0,none⟩) x.cells.length x.cells.length) (.slice (some ⟨bgN,0,none⟩) x.gray.length x.gray.length))/\Hid (a8e B w'.heap.size w' x br kr bcN x.cells.length bgN x.gray.length pb pa pk)/\Ext w w':=by
 have H:=uU h;obtain⟨c0,c1,c2,c3,c4,c5,c6,c7,c8,c9,c10,c11,c12⟩:=h.sb.bx;rw[h.sb.ha hr] at c3;have AR:=uU (h.sb.ha hr);have hb:=h.sb.nb.1;have l2:=l.2.1;have HG:=uU hG;have HL:=uU l;clear h hG l;have xa:=((Ext.refl w).alloc (.cells #[iv 0,iv 0,iv 0,.slice none 0 0,.slice none 0 0,iv 0,iv 0,iv 0,.slice none 0 0,iv 0,iv 0,iv 0,iv 0] 34)).alloc (.cells #[iv x.room,iv x.used,iv x.born,.slice (some ⟨br,0,none⟩) x.regs.length kr,.slice a4 n4 k4,iv x.phase,iv x.hand,iv x.sub,.slice a8 n8 k8,iv x.per,iv x.start,iv x.rounds,iv x.forced] 34);have B1:=dW.new (w.alloc (.cells #[iv 0,iv 0,iv 0,.slice none 0 0,.slice none 0 0,iv 0,iv 0,iv 0,.slice none 0 0,iv 0,iv 0,iv 0,iv 0] 34)) x (.slice (some ⟨br,0,none⟩) x.regs.length kr) (.slice a4 n4 k4) (.slice a8 n8 k8) 34;have hs1:(w.alloc (.cells #[iv 0,iv 0,iv 0,.slice none 0 0,.slice none 0 0,iv 0,iv 0,iv 0,.slice none 0 0,iv 0,iv 0,iv 0,iv 0] 34)).heap.size=w.heap.size+1:=by simp
 rw[hs1] at B1;have hs2:((w.alloc (.cells #[iv 0,iv 0,iv 0,.slice none 0 0,.slice none 0 0,iv 0,iv 0,iv 0,.slice none 0 0,iv 0,iv 0,iv 0,iv 0] 34)).alloc (.cells #[iv x.room,iv x.used,iv x.born,.slice (some ⟨br,0,none⟩) x.regs.length kr,.slice a4 n4 k4,iv x.phase,iv x.hand,iv x.sub,.slice a8 n8 k8,iv x.per,iv x.start,iv x.rounds,iv x.forced] 34)).heap.size=w.heap.size+2:=by simp
 go_enter Tryz.func59,Tryz.ntmps59;go_wp2_with fail;refine(c0q b bn hd x.cells.length x.gray _ (H.ext xa).sb.rg (λi hi=>((H.ext xa).sb.nd i hi).1) HG).mono ?_;rintro e w1 ⟨rfl,hgs,hgn,q1⟩;rw[hs2] at hgs hgn ⊢;have hz1:w.heap.size+2<w1.heap.size:=hgn.1;have BX1:=uU (B1.ext q1);have X1:=xa.trans q1;have GS:=uU (And.intro hgs hgn);have d8:=BX1.2.2.2.2.2.2.2.2.1;have d4:=BX1.2.2.2.2.1;have fz:∀o,w1.frozen? ⟨w.heap.size+1,o,none⟩=false:=λo=>((cZ q1).2 (w.heap.size+1) o (by rw[hs2];omega)).trans (by simp [go_sem])
 have g8:=fz 8;have g4:=fz 4;have rc:=uU (show ∀o v,((w.alloc (.cells #[iv 0,iv 0,iv 0,.slice none 0 0,.slice none 0 0,iv 0,iv 0,iv 0,.slice none 0 0,iv 0,iv 0,iv 0,iv 0] 34)).alloc (.cells #[iv x.room,iv x.used,iv x.born,.slice (some ⟨br,0,none⟩) x.regs.length kr,.slice a4 n4 k4,iv x.phase,iv x.hand,iv x.sub,.slice a8 n8 k8,iv x.per,iv x.start,iv x.rounds,iv x.forced] 34)).cell? ⟨w.heap.size,o,none⟩=some v->w1.cell? ⟨w.heap.size,o,none⟩=some v from λo v h=>q1.keep h);have RF:=uU (show ∀o,w1.frozen? ⟨w.heap.size,o,none⟩=false from λo=>((cZ q1).2 w.heap.size o (by rw[hs2];omega)).trans (by simp [go_sem]));have n13:=(H.ext X1).sb.n13;have nb1:¬b=w.heap.size+1:=by omega
 have nb2:¬w.heap.size+1=b:=by omega
 obtain⟨z,hmk⟩:=mkCells x.cells.length (by omega) (w1.setCell ⟨w.heap.size+1,8,none⟩ (.slice (some ⟨w.heap.size+2,0,none⟩) x.gray.length x.gray.length));have hsz:(w1.setCell ⟨w.heap.size+1,8,none⟩ (.slice (some ⟨w.heap.size+2,0,none⟩) x.gray.length x.gray.length)).heap.size=w1.heap.size:=by simp [World.setCell]
 rw[hsz] at hmk;have hbw:b<w1.heap.size:=by omega
 have htw:w.heap.size+1<w1.heap.size:=by omega
 clear hgs hgn B1 fz q1 c0 c1 c2 c3 c4 c5 c6 c7 c8 c9 c10 c11 c12;go_wp2_with fail
 have ST:=uU (show Tdl w1 (((w1.setCell ⟨w.heap.size+1,8,none⟩ (.slice (some ⟨w.heap.size+2,0,none⟩) x.gray.length x.gray.length)).setCell ⟨w.heap.size+1,4,none⟩ (.slice (some ⟨w1.heap.size,0,none⟩) x.cells.length x.cells.length)).alloc (.cells (madeCells z (x.cells.length*8)) 62)) x (w.heap.size+1) w1.heap.size (.slice (some ⟨br,0,none⟩) x.regs.length kr) (.slice (some ⟨w1.heap.size,0,none⟩) x.cells.length x.cells.length) (.slice (some ⟨w.heap.size+2,0,none⟩) x.gray.length x.gray.length) pa pk 0 from by
  have hs:((w1.setCell ⟨w.heap.size+1,8,none⟩ (.slice (some ⟨w.heap.size+2,0,none⟩) x.gray.length x.gray.length)).setCell ⟨w.heap.size+1,4,none⟩ (.slice (some ⟨w1.heap.size,0,none⟩) x.cells.length x.cells.length)).heap.size=w1.heap.size:=by simp [World.setCell]
  refine⟨((BX1.set8 _).set4 _).ext ((Ext.refl _).alloc _),λq _ h=>by omega,λj hj=>?_,?_,?_,⟨htw,Nat.le_refl _⟩⟩
  ·have:=a6t ((w1.setCell ⟨w.heap.size+1,8,none⟩ (.slice (some ⟨w.heap.size+2,0,none⟩) x.gray.length x.gray.length)).setCell ⟨w.heap.size+1,4,none⟩ (.slice (some ⟨w1.heap.size,0,none⟩) x.cells.length x.cells.length)) z (x.cells.length*8) 62 j hj;rw[hs] at this;exact this
  ·have:=Nf1.made ((w1.setCell ⟨w.heap.size+1,8,none⟩ (.slice (some ⟨w.heap.size+2,0,none⟩) x.gray.length x.gray.length)).setCell ⟨w.heap.size+1,4,none⟩ (.slice (some ⟨w1.heap.size,0,none⟩) x.cells.length x.cells.length)) z (x.cells.length*8) 62;rw[hs] at this;exact this
  ·exact(uX.setCell (S:=λq=>q=w.heap.size+1) (uX.setCell (S:=λq=>q=w.heap.size+1) (uX.refl _ w1) (p:=⟨w.heap.size+1,8,none⟩) rfl _) (p:=⟨w.heap.size+1,4,none⟩) rfl _).trans (uX.of_ext ((Ext.refl _).alloc _)))
 clear d8 d4 g8 g4 n13 hmk;go_loopw [29] (λi wr=>∃(k:Nat),k<=x.cells.length/\i=.int .i64 k/\Hid (Tdl w1 wr x (w.heap.size+1) w1.heap.size (.slice (some ⟨br,0,none⟩) x.regs.length kr) (.slice (some ⟨w1.heap.size,0,none⟩) x.cells.length x.cells.length) (.slice (some ⟨w.heap.size+2,0,none⟩) x.gray.length x.gray.length) pa pk k)) (λi _=>x.cells.length-(intOf i).toNat)
 case atStart=>exact⟨0,Nat.zero_le _,rfl,ST⟩
 case round=>
  clear ST;obtain⟨k,hk,rfl,hinv⟩:=hrel;have XR:Ext w wr:=hinv.on.ext X1 (λq hq e=>by omega);by_cases hlt:k<x.cells.length
  ·have R:=uU (hinv.step hlt);have c4:=hinv.bx.2.2.2.2.1;have n13:=(H.ext XR).sb.n13;obtain⟨m0,m1⟩:=(H.ext XR).sb.nd k hlt;obtain⟨p0,p1,p2,p3,p4,p5,p6⟩:=(H.ext XR).rw.s k hlt;have p7:=(H.ext XR).rw.p7 k hlt;obtain⟨⟨u0,o0⟩,f0⟩:yU wr w1.heap.size (k*8):=hinv.o (k*8) (by omega);obtain⟨⟨u1,o1⟩,f1⟩:=hinv.o (k*8+1) (by omega);obtain⟨⟨u2,o2⟩,f2⟩:=hinv.o (k*8+2) (by omega);obtain⟨⟨u3,o3⟩,f3⟩:=hinv.o (k*8+3) (by omega);obtain⟨⟨u4,o4⟩,f4⟩:=hinv.o (k*8+4) (by omega);obtain⟨⟨u5,o5⟩,f5⟩:=hinv.o (k*8+5) (by omega);obtain⟨⟨u6,o6⟩,f6⟩:=hinv.o (k*8+6) (by omega);obtain⟨⟨u7,o7⟩,f7⟩:=hinv.o (k*8+7) (by omega);have k0:(0:Int)<=(k:Int):=by omega
   have k1:(k:Int)<(x.cells.length:Int):=by omega
   clear m0;go_wp2_with fail
   go_region
   all_goals
    go_wp2_with fail;go_roundw
    case rel=>exact⟨k+1,by omega,by go_num,R⟩
    case measure=>simp [intOf];omega
  ·have hk2:k=x.cells.length:=by omega
   subst hk2;have WB:∀q,q<w1.heap.size->q≠w.heap.size+1->wr.heap[q]?=w1.heap[q]?:=λq hq hne=>hinv.on.block q hq hne
   have SR:=uU (H.ext XR)
   have GR:=uU (show SlI wr (.slice (some ⟨w.heap.size+2,0,none⟩) x.gray.length x.gray.length) x.gray/\Nf1 (w.heap.size+2) wr from by
    have e:=WB (w.heap.size+2) (by omega) (by omega);refine⟨tV.mono2 GS.1 λb' o n c z o' y hy=>?_,hY GS.2 e hinv.on.size⟩;simp only [Value.slice.injEq,Option.some.injEq,Addr.mk.injEq] at z;obtain⟨⟨rfl,_,_⟩,_,_⟩:=z;exact(World.cell?_of_block (a:=⟨w.heap.size+2,o',none⟩) e).trans hy)
   have RW:=uU (show ∀W,uX (λq=>q=w.heap.size) wr W->a8e B W.heap.size W x br kr w1.heap.size x.cells.length (w.heap.size+2) x.gray.length pb pa pk from λW o=>by
    have rw:=SR.rw;have hB2:=hB;have lr:=H.rw.nr hr;have lp:=λq hq hl=>H.rw.pl q hq hl
    have hsz:=o.size;have hws:=hinv.nf.1;have rw2:=rw.only o (λhl e=>by have:=lr.1.1;omega) (λq hq e=>by have:=(H.rw.nc q hq).1.1;omega) (λq hq hl e=>by have:=(lp q hq hl).2.1.1;omega);refine⟨rw2.slW kr (λ_=>rfl) (by have:=HL.1;omega),λq hq=>?_,λq hq=>?_,?_,λq hq=>?_,λq hq hl=>?_,(rw2.nr hr).1,?_,?_,⟨by have:=lr.1.1;omega,by have:=lr.1.1;omega,by omega⟩,λq q' hq hq' hne h1 h2=>rw2.dp q q' hq hq' hne (rw2.pw hq h1) (rw2.pw hq' h2),⟨⟨lr.2,by have:=lr.1.1;have:=XR.size;omega⟩,⟨by omega,by omega⟩,⟨by omega,by omega⟩⟩,HL,rw2.kp⟩
    ·exact(hinv.s q hq hq).1.of λj _=>World.cell?_of_block (a:=⟨w1.heap.size,_,none⟩) (o.block w1.heap.size hws (by omega))
    ·refine⟨_,_,rfl,by have:=HL.2.2.2 q hq;omega,λk hk=>⟨pb q,0,(rw2.pl q hq (rw2.pw hq (by omega))).1,?_⟩⟩;rw[Nat.zero_add,Cl.p_eq _ _ hk];exact rw2.p q hq k hk
    ·refine tV.mono2 GR.1 λb' o2 n c z o' y hy=>?_
     simp only [Value.slice.injEq,Option.some.injEq,Addr.mk.injEq] at z;obtain⟨⟨rfl,_,_⟩,_,_⟩:=z;exact o.keep (by omega) hy
    ·exact o.keep (by omega) (hinv.s q hq hq).2
    ·obtain⟨a1,a2,a3,a4⟩:=rw2.pl q hq (rw2.pw hq hl);have:=(lp q hq (rw2.pw hq hl)).2.1.1;exact⟨a1,a2.n1,⟨a3.1,by omega,by omega⟩,a4,by have:=XR.size;omega⟩
    ·exact hY hinv.nf (o.block w1.heap.size hws (by omega)) hsz
    ·exact hY GR.2 (o.block (w.heap.size+2) GR.2.1 (by omega)) hsz)
   have rcell:∀o v,((w.alloc (.cells #[iv 0,iv 0,iv 0,.slice none 0 0,.slice none 0 0,iv 0,iv 0,iv 0,.slice none 0 0,iv 0,iv 0,iv 0,iv 0] 34)).alloc (.cells #[iv x.room,iv x.used,iv x.born,.slice (some ⟨br,0,none⟩) x.regs.length kr,.slice a4 n4 k4,iv x.phase,iv x.hand,iv x.sub,.slice a8 n8 k8,iv x.per,iv x.start,iv x.rounds,iv x.forced] 34)).cell? ⟨w.heap.size,o,none⟩=some v->wr.cell? ⟨w.heap.size,o,none⟩=some v:=λo v h=>(World.cell?_of_block (a:=⟨w.heap.size,o,none⟩) (WB w.heap.size (by omega) (by omega))).trans (rc o v h)
   have rfz:∀o,wr.frozen? ⟨w.heap.size,o,none⟩=false:=λo=>(World.frozen?_of_block (a:=⟨w.heap.size,o,none⟩) (WB w.heap.size (by omega) (by omega))).trans (RF o)
   have r0:=rcell 0 (iv 0) (by simp [go_sem]);have r1:=rcell 1 (iv 0) (by simp [go_sem]);have r2:=rcell 2 (iv 0) (by simp [go_sem]);have r3:=rcell 3 (.slice none 0 0) (by simp [go_sem]);have r4:=rcell 4 (.slice none 0 0) (by simp [go_sem]);have r5:=rcell 5 (iv 0) (by simp [go_sem]);have r6:=rcell 6 (iv 0) (by simp [go_sem]);have r7:=rcell 7 (iv 0) (by simp [go_sem]);have r8:=rcell 8 (.slice none 0 0) (by simp [go_sem]);have r9:=rcell 9 (iv 0) (by simp [go_sem]);have r10:=rcell 10 (iv 0) (by simp [go_sem]);have r11:=rcell 11 (iv 0) (by simp [go_sem]);have r12:=rcell 12 (iv 0) (by simp [go_sem]);have f0:=rfz 0;have f1:=rfz 1;have f2:=rfz 2;have f3:=rfz 3;have f4:=rfz 4;have f5:=rfz 5;have f6:=rfz 6;have f7:=rfz 7;have f8:=rfz 8;have f9:=rfz 9;have f10:=rfz 10;have f11:=rfz 11;have f12:=rfz 12;obtain⟨b0,b1,b2,b3,b4,b5,b6,b7,b8,b9,b10,b11,b12⟩:=hinv.bx;have hb0:w.heap.size+1<wr.heap.size:=uL b0;have hr0:w.heap.size<wr.heap.size:=uL r0;clear hinv rcell rfz WB;go_wp2_with fail;refine bodyPost_ret (v:=x.v (.slice (some ⟨br,0,none⟩) x.regs.length kr) (.slice (some ⟨w1.heap.size,0,none⟩) x.cells.length x.cells.length) (.slice (some ⟨w.heap.size+2,0,none⟩) x.gray.length x.gray.length)) (by simp [results,Tryz.results59,go_sem,r0,r1,r2,r3,r4,r5,r6,r7,r8,r9,r10,r11,r12]) rfl ⟨_,_,rfl,?_⟩;refine(λ(F:uX (λq=>q=w.heap.size) wr _)=>⟨uH RW _ F,F.ext XR (λq hq e=>by omega)⟩) ?_
   repeat (first | refine uX.setCell ?_ (by simp) _ | exact uX.refl _ _)
theorem a8e.grow{V:Nat}(h:a8e B U w x br kr bc kc bg kg pb pa pk)(hU:U<=V)(hC:C<=B):a8e C V w x br kr bc kc bg kg pb pa pk:=
 ⟨h.r,h.s,h.p,h.g,h.p7,λq hq hl=>let ⟨a,b,c,d,e⟩:=h.pl q hq hl;⟨a,b,c,Nat.le_trans hC d,Nat.lt_of_lt_of_le e hU⟩,h.nr,h.nc,h.ng,h.d,h.dp,⟨⟨Nat.le_trans hC h.b.1.1,Nat.lt_of_lt_of_le h.b.1.2 hU⟩,⟨Nat.le_trans hC h.b.2.1.1,Nat.lt_of_lt_of_le h.b.2.1.2 hU⟩,⟨Nat.le_trans hC h.b.2.2.1,Nat.lt_of_lt_of_le h.b.2.2.2 hU⟩⟩,h.l,h.k⟩
def HA(B U:Nat)(w:World)(y:Hp)(ar:Option Addr)(kr:Nat)(ac:Option Addr)(kc:Nat)(ag:Option Addr)(kg:Nat):Prop:=(y=Hp0/\ar=none/\kr=0/\ac=none/\kc=0/\ag=none/\kg=0)\/∃br bc bg pb pa pk,ar=some ⟨br,0,none⟩/\ac=some ⟨bc,0,none⟩/\ag=some ⟨bg,0,none⟩/\a8e B U w y br kr bc kc bg kg pb pa pk
theorem HA.zero(B U:Nat)(w:World):HA B U w Hp0 none 0 none 0 none 0:=.inl ⟨rfl,rfl,rfl,rfl,rfl,rfl,rfl⟩
theorem eJ.r16(h:eJ x 0):0<x.regs.length/\x.regs.length<=100:=by have:=h.all.1.regs;omega
theorem c8m[Inhabited uN]{y:Hp}(h:SOq C B w b y)(s:Snd y)(hB:B<=w.heap.size):
  Calls Tryz.prog 59 #[.pointer (some ⟨b,0,none⟩)] w λe w'=>∃br kr bcN bgN pb pa pk,e=.returned (y.v (.slice (some ⟨br,0,none⟩) y.regs.length kr) (.slice (some ⟨bcN,0,none⟩) y.cells.length y.cells.length) (.slice (some ⟨bgN,0,none⟩) y.gray.length y.gray.length))/\Hid (a8e B w'.heap.size w' y br kr bcN y.cells.length bgN y.gray.length pb pa pk)/\Ext w w':=by
 obtain⟨ar,kr,a4,n4,k4,a8,m8,k8,br,cB,cO,bn,pb,pa,pk,kn,hd,vf,F,vk,K,role,h,_,_⟩:=h;have h1:=s.r1.gray;have h2:=s.ok.n8;refine(c8k w h s.r5.2.2 s.ok.r16.1 ⟨s.ok.r16.2,h2,by omega,s.ok.p200⟩ hB).mono ?_;rintro e w' ⟨bcN,bgN,rfl,h6,x6⟩;exact⟨br,kr,bcN,bgN,pb,pa,pk,rfl,h6,x6⟩
theorem c8n[Inhabited uN](n:Nat)(h:SOq C B w b x)(hC:C+16000<=1000000000)(s:Snd x)(n1:n<=100000)(a:World)(ha:a.heap.size<=B)(hx:Ext a w):
  Calls Tryz.prog 80 #[.pointer (some ⟨b,0,none⟩),.int .i64 n] w λe w'=>∃k:Nat,e=.returned (.int .i64 k)/\Hid (a2n (stepH x n) n k)/\Hid (SOq (C+16000) B w' b (itU k (stepH x n)))/\Ext a w':=by
 have c5:=h.box.1;have hb:b<w.heap.size:=h.box.2.2.2;have H:=uU h;have S:=uU s;by_cases hn:n=0
 ·have e:stepH x n=x:=by unfold stepH;rw[if_neg (λh=>h.2 hn)]
  rw[e];have g0:¬(n:Int) > 0:=by omega
  clear h s e hn;go_enter Tryz.func80,Tryz.ntmps80;go_wp2_with fail;refine(a9i n (H.wide (show C<=C+16000 by omega)) hC S a ha hx).mono ?_;rintro e w1 ⟨k,rfl,st,h1,x1⟩;go_wp2_with fail;go_ret;exact⟨k,rfl,st,h1,x1⟩
 ·have g0:(n:Int) > 0:=by omega
  by_cases hp:x.phase=0
  ·have e:stepH x n=dD x 1 0:=by unfold stepH;rw[if_pos ⟨hp,hn⟩]
   rw[e];rw[hp] at c5;have QB:=uU (c4x h hp a ha hx);have S1:=uU (s.begin hp);clear h s e hn hp;go_enter Tryz.func80,Tryz.ntmps80;go_wp2_with fail;refine QB.mono ?_;rintro e w1 ⟨rfl,h1,x1⟩;go_wp2_with fail;refine(a9i n h1 hC S1 a ha x1).mono ?_;rintro e w2 ⟨k,rfl,st,h2,x2⟩;go_wp2_with fail;go_ret;exact⟨k,rfl,st,h2,x2⟩
  ·have e:stepH x n=x:=by unfold stepH;rw[if_neg (λh=>hp h.1)]
   rw[e];have pb:(x.phase == 0)=false:=by simpa using hp
   clear h s e hn hp;go_enter Tryz.func80,Tryz.ntmps80;go_wp2_with fail;refine(a9i n (H.wide (show C<=C+16000 by omega)) hC S a ha hx).mono ?_;rintro e w1 ⟨k,rfl,st,h1,x1⟩;go_wp2_with fail;go_ret;exact⟨k,rfl,st,h1,x1⟩
theorem a9k(x:Hp)(n:Int)(w:World){ac:Option Addr}{ag:Option Addr}(hR:SlW w (.slice ar x.regs.length kr) x.regs)(hC:SlC w (.slice ac x.cells.length kc) x.cells)(hG:SlI w (.slice ag x.gray.length kg) x.gray)(hcap:a4d w x ac):
  Calls Tryz.prog 30 #[x.v (.slice ar x.regs.length kr) (.slice ac x.cells.length kc) (.slice ag x.gray.length kg),.int .i64 n] w λe w'=>∃(y:Hp) (k:Nat) (ar:Option Addr) (kr:Nat) (ac:Option Addr) (kc:Nat) (ag:Option Addr) (kg:Nat),Hid (e=.returned (b3f y k (.slice ar y.regs.length kr) (.slice ac y.cells.length kc) (.slice ag y.gray.length kg)))/\Hid (tK x n y k)/\Hid (HA w.heap.size w'.heap.size w' y ar kr ac kc ag kg)/\Ext w w':=by
 obtain⟨pin,HZ⟩:∃i:Inhabited uN,Hid (∀q,(@default uN i).z q=none):=⟨⟨⟨λ_=>none⟩⟩,λ_=>rfl⟩;have x1:Ext w ((w.alloc (.cells #[iv x.room,iv x.used,iv x.born,.slice ar x.regs.length kr,.slice ac x.cells.length kc,iv x.phase,iv x.hand,iv x.sub,.slice ag x.gray.length kg,iv x.per,iv x.start,iv x.rounds,iv x.forced] 34)).alloc (.cells #[iv 0,iv 0,iv 0,.slice none 0 0,.slice none 0 0,iv 0,iv 0,iv 0,.slice none 0 0,iv 0,iv 0,iv 0,iv 0,iv 0] 56)):=((Ext.refl w).alloc _).alloc _;have S1:=uU (SlW.ext x1 hR);have S2:=uU (SlC.ext x1 hC);have S3:=uU (SlI.ext x1 hG);have S4:=uU (hcap.extS hC x1);have hs2:((w.alloc (.cells #[iv x.room,iv x.used,iv x.born,.slice ar x.regs.length kr,.slice ac x.cells.length kc,iv x.phase,iv x.hand,iv x.sub,.slice ag x.gray.length kg,iv x.per,iv x.start,iv x.rounds,iv x.forced] 34)).alloc (.cells #[iv 0,iv 0,iv 0,.slice none 0 0,.slice none 0 0,iv 0,iv 0,iv 0,.slice none 0 0,iv 0,iv 0,iv 0,iv 0,iv 0] 56)).heap.size=w.heap.size+2:=by simp
 clear hR hC hG hcap;go_enter Tryz.func30,Tryz.ntmps30;go_wp2_with fail;refine(b4j x _ S1 S2 S3 S4).mono ?_;rintro e w2 ⟨hq,hor⟩;have x2:=x1.trans hq;have RC:=uU (show ∀o v,((w.alloc (.cells #[iv x.room,iv x.used,iv x.born,.slice ar x.regs.length kr,.slice ac x.cells.length kc,iv x.phase,iv x.hand,iv x.sub,.slice ag x.gray.length kg,iv x.per,iv x.start,iv x.rounds,iv x.forced] 34)).alloc (.cells #[iv 0,iv 0,iv 0,.slice none 0 0,.slice none 0 0,iv 0,iv 0,iv 0,.slice none 0 0,iv 0,iv 0,iv 0,iv 0,iv 0] 56)).cell? ⟨w.heap.size+1,o,none⟩=some v->w2.cell? ⟨w.heap.size+1,o,none⟩=some v from λo v h=>hq.keep h);have RCF:=uU (show ∀o,w2.frozen? ⟨w.heap.size+1,o,none⟩=false from λo=>((cZ hq).2 (w.heap.size+1) o (by rw[hs2];omega)).trans (by simp [go_sem]));have hz2:w.heap.size+2<=w2.heap.size:=by have:=hq.size;omega
 have rc:=uH RC;have rcF:=uH RCF;have r0:=rc 0 (iv 0) (by simp [go_sem]);have r1:=rc 1 (iv 0) (by simp [go_sem]);have r2:=rc 2 (iv 0) (by simp [go_sem]);have r3:=rc 3 (.slice none 0 0) (by simp [go_sem]);have r4:=rc 4 (.slice none 0 0) (by simp [go_sem]);have r5:=rc 5 (iv 0) (by simp [go_sem]);have r6:=rc 6 (iv 0) (by simp [go_sem]);have r7:=rc 7 (iv 0) (by simp [go_sem]);have r8:=rc 8 (.slice none 0 0) (by simp [go_sem]);have r9:=rc 9 (iv 0) (by simp [go_sem]);have r10:=rc 10 (iv 0) (by simp [go_sem]);have r11:=rc 11 (iv 0) (by simp [go_sem]);have r12:=rc 12 (iv 0) (by simp [go_sem]);have r13:=rc 13 (iv 0) (by simp [go_sem]);have f0:=rcF 0;have f1:=rcF 1;have f2:=rcF 2;have f3:=rcF 3;have f4:=rcF 4;have f5:=rcF 5;have f6:=rcF 6;have f7:=rcF 7;have f8:=rcF 8;have f9:=rcF 9;have f10:=rcF 10;have f11:=rcF 11;have f12:=rcF 12;have f13:=rcF 13;have hr0:w.heap.size+1<w2.heap.size:=uL r0;clear hq rc rcF;rcases uH hor with⟨hn,rfl⟩ | ⟨hok,b,an,kn,rfl,hv,han⟩
 ·have N:=uU (show tK x n Hp0 0 from .inr ⟨λh=>hn h.1,rfl,rfl⟩);clear hor hn;go_wp2_with fail;refine bodyPost_ret (v:=b3f Hp0 0 (.slice none 0 0) (.slice none 0 0) (.slice none 0 0)) (by simp [results,Tryz.results30,go_sem,Hp0,r0,r1,r2,r3,r4,r5,r6,r7,r8,r9,r10,r11,r12,r13]) rfl ⟨Hp0,0,none,0,none,0,none,0,rfl,N,HA.zero _ _ _,?_⟩;refine(λ(F:uX (λq=>q=w.heap.size+1) w2 _)=>F.ext x2 (λq hq e=>by omega)) ?_
  repeat (first | refine uX.setCell ?_ (by simp) _ | exact uX.refl _ _)
 ·have OK:=uU hok;have V:=uU hv;clear hor hok hv han;go_wp2_with fail;by_cases hin:0<=n/\n<=100000
  ·obtain⟨m,hm⟩:∃m:Nat,n=(m:Int):=⟨n.toNat,by omega⟩;subst hm;have hm1:m<=100000:=by omega
   refine(b3s (m:Int) 0 100000 _ (by omega) (by omega)).mono ?_;rintro e w3 ⟨rfl,rfl⟩;have OKS:=uU (show StOk x (m:Int) from⟨OK,by omega,by omega⟩);have GF:=uU (a2v OK);have SN:=uU OK.snd;clear hin;go_wp2_with fail;refine(b4r HZ x b _ V OK.all.1 OK.all.2.1 OK.r5 GF.1).mono ?_;rintro e w4 ⟨s,rfl,hs,x4⟩;have ST:=uU (hs.soq HZ SN);clear hs;go_wp2_with fail;refine(c8n m ST (by omega) SN hm1 w3 (Nat.le_refl _) x4).mono ?_;rintro e w5 ⟨k,rfl,st,h5,x5⟩;have SY:=uU (show Snd (itU k (stepH x m)) from(show Snd (stepH x m) by unfold stepH;split;exact SN.begin (by rename_i h;exact h.1);exact SN).itU k);have IS:=uU (show tK x (m:Int) (itU k (stepH x m)) k from .inl ⟨OKS,by simpa using uH st,by simp⟩);obtain⟨y,hy⟩:∃y,y=itU k (stepH x m):=⟨_,rfl⟩;rw[<-hy] at h5 SY IS;have QT:=uU (c8m h5 SY x5.size);clear hy st ST;go_wp2_with fail;refine QT.mono ?_;rintro e w6 ⟨br,kr4,bcN,bgN,pb,pa,pk,rfl,h6,x6⟩;have X36:=x5.trans x6;have X6:=x2.trans X36;have e0:=X36.keep r0;have e1:=X36.keep r1;have e2:=X36.keep r2;have e3:=X36.keep r3;have e4:=X36.keep r4;have e5:=X36.keep r5;have e6:=X36.keep r6;have e7:=X36.keep r7;have e8:=X36.keep r8;have e9:=X36.keep r9;have e10:=X36.keep r10;have e11:=X36.keep r11;have e12:=X36.keep r12;have e13:=X36.keep r13;have g0:=((cZ X36).2 (w.heap.size+1) 0 hr0).trans f0;have g1:=((cZ X36).2 (w.heap.size+1) 1 hr0).trans f1;have g2:=((cZ X36).2 (w.heap.size+1) 2 hr0).trans f2;have g3:=((cZ X36).2 (w.heap.size+1) 3 hr0).trans f3;have g4:=((cZ X36).2 (w.heap.size+1) 4 hr0).trans f4;have g5:=((cZ X36).2 (w.heap.size+1) 5 hr0).trans f5;have g6:=((cZ X36).2 (w.heap.size+1) 6 hr0).trans f6;have g7:=((cZ X36).2 (w.heap.size+1) 7 hr0).trans f7;have g8:=((cZ X36).2 (w.heap.size+1) 8 hr0).trans f8;have g9:=((cZ X36).2 (w.heap.size+1) 9 hr0).trans f9;have g10:=((cZ X36).2 (w.heap.size+1) 10 hr0).trans f10;have g11:=((cZ X36).2 (w.heap.size+1) 11 hr0).trans f11;have g12:=((cZ X36).2 (w.heap.size+1) 12 hr0).trans f12;have g13:=((cZ X36).2 (w.heap.size+1) 13 hr0).trans f13;have hr4:w.heap.size+1<w6.heap.size:=uL e0
   have RW:=uU (show ∀W,uX (λq=>q=w.heap.size+1) w6 W->HA w.heap.size W.heap.size W y (some ⟨br,0,none⟩) kr4 (some ⟨bcN,0,none⟩) y.cells.length (some ⟨bgN,0,none⟩) y.gray.length from λW o=>by
    have:=(h6.only o (λq h1 h2 e=>by omega)).grow (Nat.le_trans (Nat.le_refl _) o.size) (show w.heap.size<=w3.heap.size by omega);exact .inr ⟨_,_,_,_,_,_,rfl,rfl,rfl,this⟩)
   clear h6 r0 r1 r2 r3 r4 r5 r6 r7 r8 r9 r10 r11 r12 r13 f0 f1 f2 f3 f4 f5 f6 f7 f8 f9 f10 f11 f12 f13;go_wp2_with fail;refine bodyPost_ret (v:=b3f y k (.slice (some ⟨br,0,none⟩) y.regs.length kr4) (.slice (some ⟨bcN,0,none⟩) y.cells.length y.cells.length) (.slice (some ⟨bgN,0,none⟩) y.gray.length y.gray.length)) (by simp [results,Tryz.results30,go_sem,e0,e1,e2,e3,e4,e5,e6,e7,e8,e9,e10,e11,e12,e13]) rfl ⟨y,k,_,_,_,_,_,_,rfl,IS,?_⟩;refine(λ(F:uX (λq=>q=w.heap.size+1) w6 _)=>⟨uH RW _ F,F.ext X6 (λq hq e=>by omega)⟩) ?_
   repeat (first | refine uX.setCell ?_ (by simp) _ | exact uX.refl _ _)
  ·refine(b1d n 0 100000 _ (by omega)).mono ?_;rintro e w3 ⟨rfl,rfl⟩;have N:=uU (show tK x n Hp0 0 from .inr ⟨λh=>hin ⟨h.2.1,h.2.2⟩,rfl,rfl⟩);go_wp2_with fail;refine bodyPost_ret (v:=b3f Hp0 0 (.slice none 0 0) (.slice none 0 0) (.slice none 0 0)) (by simp [results,Tryz.results30,go_sem,Hp0,r0,r1,r2,r3,r4,r5,r6,r7,r8,r9,r10,r11,r12,r13]) rfl ⟨Hp0,0,none,0,none,0,none,0,rfl,N,HA.zero _ _ _,?_⟩;refine(λ(F:uX (λq=>q=w.heap.size+1) w3 _)=>F.ext x2 (λq hq e=>by omega)) ?_
   repeat (first | refine uX.setCell ?_ (by simp) _ | exact uX.refl _ _)
theorem c0r[Inhabited uN](h:SOq C B w b x)(hC:C<=1000000000)(s:Snd x)(a:World)(ha:a.heap.size<=B)(hx:Ext a w):
  Calls Tryz.prog 85 #[.pointer (some ⟨b,0,none⟩)] w λe w'=>∃k:Nat,e=.returned (.int .i64 k)/\Hid (a8n x k)/\Hid (SOq C B w' b (itU k x))/\Ext a w':=by
 have Q:=uU (a9i 9223372036854775807 h hC s a ha hx);have S:=uU s;clear h s;go_enter Tryz.func85,Tryz.ntmps85;go_wp2_with fail;refine Q.mono ?_;rintro e w1 ⟨k,rfl,st,h1,x1⟩
 have E:=uU (show a8n x k by
  obtain⟨r,_,e⟩:=st;refine⟨?_,r⟩;rcases e with e | e
  ·have:=r.le S;omega
  ·exact e)
 clear st Q;go_wp2_with fail;go_ret;exact⟨k,rfl,E,h1,x1⟩
end Go.Proofs.YtddkhnclmeikfaaGreat
