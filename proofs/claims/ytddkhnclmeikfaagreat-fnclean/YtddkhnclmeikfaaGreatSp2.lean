import Derived.Test.YtddkhnclmeikfaaGreatMp
import Derived.Test.YtddkhnclmeikfaaGreatOw
import Derived.Ground.SlgcProg
import Derived.Ground.SlsfProg
import Derived.Shelf.SlSortCmp.Whole1
import Derived.Shelf.SlicesG.Cmp
set_option maxRecDepth 100000
set_option maxHeartbeats 4000000
namespace Go.Proofs.YtddkhnclmeikfaaGreat
open Go.RowKit
attribute [local go_sem ↓] Go.wp_at_zero Go.wp_at_succ
variable{x:Hp}{w w' w1 a w2:World}{Mt St Mt' St' Ls:List Nat}{B bw r1 bn on kr bv b base n C br kc kg i U bc bg kn j cap:Nat}{v v':Value}{pa ac:Nat->Option Addr}{pk pb:Nat->Nat}{y:Wd}{ar g:Option Addr}{S:Nat->Prop}
theorem c0c(p:Nat->Bool)(h:Nat):∀d,(List.range (h+d)).filter (λi=>p i && decide ((i:Int)<(h:Int)))=(List.range h).filter p
 | 0=>by
  refine List.filter_congr λi hi=>?_
  have:=List.mem_range.1 hi;have e:decide ((i:Int)<(h:Int))=true:=by simp;omega
  rw[e,Bool.and_true]
 | d+1=>by
  rw[<-Nat.add_assoc,List.range_succ,List.filter_append,c0c p h d,List.filter_cons_of_neg (by simp;intro _;omega),List.filter_nil,List.append_nil]
theorem c6s(x:Hp)(k:Nat):(a7w x k).length<=k:=a2q _ _ _
theorem SOwn.soq[Inhabited uQ](hz:∀q,(default:uQ).z q=none)(h:SOwn B w b x)(s:Snd x):SOq 24000 B w b x:=by
 obtain⟨ar,kr,a4,n4,k4,a8,m8,k8,br,cB,cO,bn,pb,pa,pk,kn,hd,vf,F,vk,role,hst,ho,pm,hk⟩:=h;have hh:=s.r1.I;have n8:=s.ok.n8;have cc:=s.r1.A;refine⟨ar,kr,a4,n4,k4,a8,m8,k8,br,cB,cO,bn,pb,pa,pk,kn,hd,vf,F,vk,_,role,hst,⟨ho,λi hi h0=>?_,λv hv=>?_,?_,λh3=>?_,λh4=>?_,λh3 h4=>?_⟩,by omega,hz bn⟩
 ·exact pm.mem_iff.2 ((a4w x _ _).2 ⟨i,hi,h0,rfl⟩)
 ·obtain⟨i,_,_,e⟩:=(a4w x _ _).1 (pm.mem_iff.1 hv);omega
 ·have l1:=pm.length_eq;have l2:=c6s x x.A.length
  have l3:yY x<=16000:=by
   unfold yY
   split
   ·omega
   split
   ·omega
   split
   ·omega
   split
   ·omega
   ·omega
  omega
 ·have e:x.A.length=x.I.toNat+(x.A.length-x.I.toNat):=by omega
  have e2:qW x x.A.length=(List.range x.A.length).filter (λi=>((x.c i).st == 1) && decide ((i:Int)<(x.I.toNat:Int))):=by
   unfold qW;refine List.filter_congr λi _=>?_
   have:a1j x i=decide ((i:Int)<(x.I.toNat:Int)):=by
    unfold a1j;rw[h3,show((x.I.toNat:Nat):Int)=x.I by omega];simp
   rw[this]
  rw[e2,e,c0c (λi=>(x.c i).st == 1) x.I.toNat _];refine⟨List.pairwise_lt_range.filter _,λi hi=>?_,λi hi h1 hn=>?_⟩
  ·obtain⟨a,b⟩:=List.mem_filter.1 hi;exact⟨List.mem_range.1 a,by simpa using b⟩
  ·exact absurd (List.mem_filter.2 ⟨List.mem_range.2 hi,by simpa using h1⟩) hn
 ·have e2:qW x x.A.length=(List.range x.A.length).filter (λi=>(x.c i).st == 1):=by
   unfold qW;refine List.filter_congr λi _=>?_
   have:a1j x i=true:=by unfold a1j;simp [h4]
   rw[this,Bool.and_true]
  rw[e2];refine⟨List.pairwise_lt_range.filter _,λi hi=>?_,λi hi h1 hn=>?_⟩
  ·obtain⟨a,b⟩:=List.mem_filter.1 hi;exact⟨List.mem_range.1 a,by simpa using b⟩
  ·exact absurd (List.mem_filter.2 ⟨List.mem_range.2 hi,by simpa using h1⟩) hn
 ·unfold qW;refine List.filter_eq_nil_iff.2 λi _=>?_
  have:a1j x i=false:=by unfold a1j;simp [h3,h4]
  simp [this]
theorem c6t[Inhabited uQ](h:SOq C B w b x)(hp:x.E=0)(a:World)(ha:a.heap.size<=B)(hx:Ext a w):
  Calls Tryz.prog 143 #[.pointer (some ⟨b,0,none⟩)] w λe w'=>e=.returned (zK 1 b)/\Hid (SOq (C+16000) B w' b (dN x 1 0))/\Ext a w':=by
 obtain⟨ar,kr,a4,n4,k4,a8,m8,k8,br,cB,cO,bn,pb,pa,pk,kn,hd,vf,F,vk,K,role,h,i,k⟩:=h;refine(a6v h 0 hp rfl rfl (by omega) a ha hx).mono ?_;rintro e w' ⟨rfl,h2,x2⟩;exact⟨rfl,⟨ar,kr,a4,n4,k4,a8,m8,k8,br,cB,cO,bn,pb,pa,pk,kn,hd,vf,F,vk,K,role,h2,inv0 i hp,k⟩,x2⟩
structure a8s(B U:Nat)(w:World)(x:Hp)(br kr bc kc bg kg:Nat)(pb:Nat->Nat)(pa:Nat->Option Addr)(pk:Nat->Nat):Prop where
 r:SlW w (.slice (some ⟨br,0,none⟩) x.B.length kr) x.B
 s:∀q,q<x.A.length->w.cell? ⟨bc,q*8,none⟩=some (iv (x.c q).st)/\w.cell? ⟨bc,q*8+1,none⟩=some (iv (x.c q).kind)/\w.cell? ⟨bc,q*8+2,none⟩=some (iv (x.c q).T)/\w.cell? ⟨bc,q*8+3,none⟩=some (iv (x.c q).U)/\w.cell? ⟨bc,q*8+4,none⟩=some (iv (x.c q).born)/\w.cell? ⟨bc,q*8+5,none⟩=some (iv (x.c q).J)/\w.cell? ⟨bc,q*8+6,none⟩=some (iv (x.c q).to)
 p:∀q,q<x.A.length->SlP w (.slice (pa q) (x.c q).F.length (pk q)) (x.c q).F
 g:SlI w (.slice (some ⟨bg,0,none⟩) x.D.length kg) x.D
 p7:∀q,q<x.A.length->w.cell? ⟨bc,q*8+7,none⟩=some (.slice (pa q) (x.c q).F.length (pk q))
 pl:∀q,q<x.A.length->0<(x.c q).F.length->pa q=some ⟨pb q,0,none⟩/\Nf1 (pb q) w/\(pb q≠br/\pb q≠bc/\pb q≠bg)/\B<=pb q/\pb q<U
 nr:Nf1 br w
 nc:Nf1 bc w
 ng:Nf1 bg w
 d:br≠bc/\br≠bg/\bc≠bg
 dp:∀q q',q<x.A.length->q'<x.A.length->q≠q'->0<(x.c q).F.length->0<(x.c q').F.length->pb q≠pb q'
 b:(B<=br/\br<U)/\(B<=bc/\bc<U)/\(B<=bg/\bg<U)
 l:x.B.length<=100/\x.A.length<=8000/\x.D.length<=8000/\∀q,q<x.A.length->(x.c q).F.length<=200
 k:∀q,q<x.A.length->(x.c q).F.length<=pk q
theorem a9y(h:Nf1 B w)(k:uZ S w w')(hs:¬S B):Nf1 B w':=⟨Nat.lt_of_lt_of_le h.1 k.size,λj=>by rw[k.frozen h.1 hs];exact h.2 j⟩
theorem a8s.ext(h:a8s B U w x br kr bc kc bg kg pb pa pk)(e:Ext w w'):a8s B U w' x br kr bc kc bg kg pb pa pk:=
 ⟨SlW.ext e h.r,λq hq=>let ⟨a0,a1,a2,a3,a4,a5,a6⟩:=h.s q hq;⟨e.keep a0,e.keep a1,e.keep a2,e.keep a3,e.keep a4,e.keep a5,e.keep a6⟩,λq hq=>SlP.ext e (h.p q hq),SlI.ext e h.g,λq hq=>e.keep (h.p7 q hq),λq hq hl=>let ⟨a,b,c⟩:=h.pl q hq hl;⟨a,b.ext e,c⟩,h.nr.ext e,h.nc.ext e,h.ng.ext e,h.d,h.dp,h.b,h.l,h.k⟩
theorem a8s.only(h:a8s B U w x br kr bc kc bg kg pb pa pk)(e:uZ S w w')(hs:∀q,B<=q->q<U->¬S q):a8s B U w' x br kr bc kc bg kg pb pa pk:=by
 have nr:=hs _ h.b.1.1 h.b.1.2;have nc:=hs _ h.b.2.1.1 h.b.2.1.2;have ng:=hs _ h.b.2.2.1 h.b.2.2.2;refine⟨yU.mono2 h.r λb o n c z o' y hy=>?_,λq hq=>let ⟨a0,a1,a2,a3,a4,a5,a6⟩:=h.s q hq;⟨e.keep nc a0,e.keep nc a1,e.keep nc a2,e.keep nc a3,e.keep nc a4,e.keep nc a5,e.keep nc a6⟩,λq hq=>?_,yU.mono2 h.g λb o n c z o' y hy=>?_,λq hq=>e.keep nc (h.p7 q hq),λq hq hl=>let ⟨a,b,c⟩:=h.pl q hq hl;⟨a,a9y b e (hs _ c.2.1 c.2.2),c⟩,a9y h.nr e nr,a9y h.nc e nc,a9y h.ng e ng,h.d,h.dp,h.b,h.l,h.k⟩
 ·simp only [Value.slice.injEq,Option.some.injEq,Addr.mk.injEq] at z;obtain⟨⟨rfl,_,_⟩,_,_⟩:=z;exact⟨e.keep nr hy.1,e.keep nr hy.2.1,e.keep nr hy.2.2⟩
 ·rcases Nat.eq_zero_or_pos (x.c q).F.length with z | z
  ·have z2:(x.c q).F=[]:=List.eq_nil_of_length_eq_zero z;rw[z2];exact yU.nil
  ·obtain⟨a,_,c⟩:=h.pl q hq z;refine c7e e (λb o n k e2=>?_) (h.p q hq);rw[a] at e2;simp only [Value.slice.injEq,Option.some.injEq,Addr.mk.injEq] at e2;rw[<-e2.1.1];exact hs _ c.2.1 c.2.2
 ·simp only [Value.slice.injEq,Option.some.injEq,Addr.mk.injEq] at z;obtain⟨⟨rfl,_,_⟩,_,_⟩:=z;exact e.keep ng hy
theorem a8s.cs(h:a8s B U w x br kr bc kc bg kg pb pa pk):SlC w (.slice (some ⟨bc,0,none⟩) x.A.length kc) x.A:=by
 refine⟨_,_,rfl,by have:=h.l.2.1;omega,λi hi=>⟨bc,0,rfl,?_⟩⟩;have e:x.c i=x.A[i]:=(Hp.c_eq x i hi).symm;obtain⟨a0,a1,a2,a3,a4,a5,a6⟩:=h.s i hi;have hp:=h.p i hi;have h7:=h.p7 i hi;rw[e] at a0 a1 a2 a3 a4 a5 a6 hp h7;rw[Nat.zero_add];exact⟨_,a0,a1,a2,a3,a4,a5,a6,h7,hp⟩
theorem c2n(b bn hd n:Nat)(G:List Int)(w:World)(h:RAt w b bn hd G)(hn:∀i,i<n->w.cell? ⟨bn,i*2,none⟩=some (iv i))(hG:∀g,g∈G->0<=g/\g<n):
  Calls Tryz.prog 100 #[.pointer (some ⟨b,15,none⟩)] w λe w'=>e=.returned (.slice (some ⟨w.heap.size,0,none⟩) G.length G.length)/\SlI w' (.slice (some ⟨w.heap.size,0,none⟩) G.length G.length) G/\Nf1 w.heap.size w'/\Ext w w':=by
 have r1:=h.r1;have hl:=h.hl;have H:=uU h;have HN:=uU hn;have HG:=uU hG;obtain⟨z,hmk⟩:=mkInts G.length (by omega) w;clear h hn hG;go_enter Tryz.func100,Tryz.ntmps100;go_wp2_with fail;go_loopw [12] (λi wr=>∃(k:Nat),k<=G.length/\i=.int .i64 k/\Hid ((∀j (hj:j<G.length),j<k->yD wr w.heap.size (0+j*1) G[j])/\(∀j,j<G.length*1->yN wr w.heap.size j)/\Ext w wr/\Nf1 w.heap.size wr)) (λi _=>G.length-(intOf i).toNat)
 case atStart=>exact⟨0,Nat.zero_le _,rfl,(λj _ h=>by omega),(λj hj=>a7d _ _ _ _ _ (by omega)),(Ext.refl w).alloc _,Nf1.made _ _ _ _⟩
 case round=>
  clear hmk r1;obtain⟨k,hk,rfl,hinv⟩:=hrel;by_cases hlt:k<G.length
  ·have hx:=hinv.2.2.1;obtain⟨m,hm⟩:∃m,m=(hd+k) % 4000:=⟨_,rfl⟩;have hm4:m<4000:=by rw[hm];exact Nat.mod_lt _ (by omega)
   have hr:((hd:Int)+(k:Int)).tmod 4000=(m:Int):=by have:=b3u (hd+k);rw[<-hm] at this;simpa using this
   have m0:(0:Int)<=(m:Int):=by omega
   have m1:(m:Int)<4000:=by omega
   have hg:=uH HG G[k] (List.getElem_mem hlt);obtain⟨j,hj⟩:∃j:Nat,G[k]=(j:Int):=⟨G[k].toNat,by omega⟩;have hjn:j<n:=by omega
   have c0:=hx.keep H.r0;have h0:=H.h0;have cm:=hx.keep (H.rg k hlt);rw[<-hm,hj] at cm;have cm:wr.cell? ⟨b,15+m,none⟩=some (.pointer (some ⟨bn,j*2,none⟩)):=cm;have cj:=hx.keep (HN j hjn);have R:=uU (c6u (w:=w) (wr:=wr) (xs:=G) (k:=k) hlt hinv.1 hinv.2.1 hx hinv.2.2.2);rw[hj] at R;obtain⟨⟨u,cu⟩,fu⟩:=hinv.2.1 k (by omega);have k0:(0:Int)<=(k:Int):=by omega
   have k1:(k:Int)<(G.length:Int):=by omega
   have nb1:¬w.heap.size=b:=λe=>by have:=uL H.r0;simp only at this;omega
   have nb2:¬b=w.heap.size:=λe=>nb1 e.symm
   clear hg hj hm;go_wp2_with fail
   go_region
   all_goals
    go_wp2_with fail;go_roundw
    case rel=>
     have d:=(Ext.refl (wr.setCell ⟨w.heap.size,k,none⟩ (iv j))).drew;exact⟨k+1,by omega,by go_num,λj hj hk=>(R.1 j hj hk).ext d,λj hj=>(R.2.1 j hj).ext d,R.2.2.1.drew,R.2.2.2.ext d⟩
    case measure=>simp [intOf];omega
  ·have hk2:k=G.length:=by omega
   have HM:=uU (show SlI wr (.slice (some ⟨w.heap.size,0,none⟩) G.length G.length) G from⟨_,_,rfl,by omega,λi hi=>⟨_,_,rfl,hinv.1 i hi (by omega)⟩⟩);clear hk2;go_wp2_with fail;go_ret;exact⟨rfl,HM,hinv.2.2.2,hinv.2.2.1⟩
theorem uZ.setNew(h:uZ S a w){p:Addr}(hp:a.heap.size<=p.block)(u:Value):uZ S a (w.setCell p u):=
 ⟨h.os,h.tape,h.output,by have:=h.size;simpa [World.setCell] using this,λk hk hs=>(Below.heap_setCell _ _ _ _ (by omega)).trans (h.block k hk hs)⟩
structure Tdl(w1 wr:World)(x:Hp)(t bN:Nat)(vr vc vg:Value)(pa:Nat->Option Addr)(pk:Nat->Nat)(k:Nat):Prop where
 bx:dE wr t x vr vc vg
 s:∀q,q<x.A.length->q<k->S7 wr bN (q*8) (x.c q)/\wr.cell? ⟨bN,q*8+7,none⟩=some (.slice (pa q) (x.c q).F.length (pk q))
 o:∀j,j<x.A.length*8->yN wr bN j
 nf:Nf1 bN wr
 on:uZ (λq=>q=t) w1 wr
 lt:t<w1.heap.size/\w1.heap.size<=bN
theorem Tdl.step{wr:World}{t bN:Nat}{vr vc vg:Value}{k:Nat}(h:Tdl w1 wr x t bN vr vc vg pa pk k)(hk:k<x.A.length):
  Tdl w1 ((((((((wr.setCell ⟨bN,k*8,none⟩ (iv (x.c k).st)).setCell ⟨bN,k*8+1,none⟩ (iv (x.c k).kind)).setCell ⟨bN,k*8+2,none⟩ (iv (x.c k).T)).setCell ⟨bN,k*8+3,none⟩ (iv (x.c k).U)).setCell ⟨bN,k*8+4,none⟩ (iv (x.c k).born)).setCell ⟨bN,k*8+5,none⟩ (iv (x.c k).J)).setCell ⟨bN,k*8+6,none⟩ (iv (x.c k).to)).setCell ⟨bN,k*8+7,none⟩ (.slice (pa k) (x.c k).F.length (pk k))).drew x t bN vr vc vg pa pk (k+1):=by
 have hl:=h.lt;have o0:yN wr bN (k*8):=h.o (k*8) (by omega);have o1:=h.o (k*8+1) (by omega);have o2:=h.o (k*8+2) (by omega);have o3:=h.o (k*8+3) (by omega);have o4:=h.o (k*8+4) (by omega);have o5:=h.o (k*8+5) (by omega);have o6:=h.o (k*8+6) (by omega);have o7:=h.o (k*8+7) (by omega)
 have oth:∀b o,(b≠bN\/o<k*8\/k*8+8<=o)->(((((((((wr.setCell ⟨bN,k*8,none⟩ (iv (x.c k).st)).setCell ⟨bN,k*8+1,none⟩ (iv (x.c k).kind)).setCell ⟨bN,k*8+2,none⟩ (iv (x.c k).T)).setCell ⟨bN,k*8+3,none⟩ (iv (x.c k).U)).setCell ⟨bN,k*8+4,none⟩ (iv (x.c k).born)).setCell ⟨bN,k*8+5,none⟩ (iv (x.c k).J)).setCell ⟨bN,k*8+6,none⟩ (iv (x.c k).to)).setCell ⟨bN,k*8+7,none⟩ (.slice (pa k) (x.c k).F.length (pk k))).drew).cell? ⟨b,o,none⟩=wr.cell? ⟨b,o,none⟩:=λb o hb=>by
  rw[a0y,uC _ (by omega),uC _ (by omega),uC _ (by omega),uC _ (by omega),uC _ (by omega),uC _ (by omega),uC _ (by omega),uC _ (by omega)]
 have opn:∀b o,yN wr b o->yN ((((((((wr.setCell ⟨bN,k*8,none⟩ (iv (x.c k).st)).setCell ⟨bN,k*8+1,none⟩ (iv (x.c k).kind)).setCell ⟨bN,k*8+2,none⟩ (iv (x.c k).T)).setCell ⟨bN,k*8+3,none⟩ (iv (x.c k).U)).setCell ⟨bN,k*8+4,none⟩ (iv (x.c k).born)).setCell ⟨bN,k*8+5,none⟩ (iv (x.c k).J)).setCell ⟨bN,k*8+6,none⟩ (iv (x.c k).to)).setCell ⟨bN,k*8+7,none⟩ (.slice (pa k) (x.c k).F.length (pk k))).drew b o:=λb o hb=>((((((((hb.set _ _).set _ _).set _ _).set _ _).set _ _).set _ _).set _ _).set _ _).ext ((Ext.refl _).drew)
 refine⟨h.bx.of λo _=>oth t o (.inl (by omega)),λq hq hqk=>?_,λj hj=>opn bN j (h.o j hj),((((((((h.nf.set _ _).set _ _).set _ _).set _ _).set _ _).set _ _).set _ _).set _ _).ext ((Ext.refl _).drew),?_,hl⟩
 ·by_cases e:q=k
  ·subst e;refine⟨⟨?_,?_,?_,?_,?_,?_,?_⟩,?_⟩
   ·rw[a0y,uC _ (by omega),uC _ (by omega),uC _ (by omega),uC _ (by omega),uC _ (by omega),uC _ (by omega),uC _ (by omega)];exact o0.same _
   ·rw[a0y,uC _ (by omega),uC _ (by omega),uC _ (by omega),uC _ (by omega),uC _ (by omega),uC _ (by omega)];exact(o1.set _ _).same _
   ·rw[a0y,uC _ (by omega),uC _ (by omega),uC _ (by omega),uC _ (by omega),uC _ (by omega)];exact((o2.set _ _).set _ _).same _
   ·rw[a0y,uC _ (by omega),uC _ (by omega),uC _ (by omega),uC _ (by omega)];exact(((o3.set _ _).set _ _).set _ _).same _
   ·rw[a0y,uC _ (by omega),uC _ (by omega),uC _ (by omega)];exact((((o4.set _ _).set _ _).set _ _).set _ _).same _
   ·rw[a0y,uC _ (by omega),uC _ (by omega)];exact(((((o5.set _ _).set _ _).set _ _).set _ _).set _ _).same _
   ·rw[a0y,uC _ (by omega)];exact((((((o6.set _ _).set _ _).set _ _).set _ _).set _ _).set _ _).same _
   ·rw[a0y];exact(((((((o7.set _ _).set _ _).set _ _).set _ _).set _ _).set _ _).set _ _).same _
  ·have hx:=h.s q hq (by omega);exact⟨hx.1.of λj hj=>oth bN _ (.inr (by omega)),(oth bN _ (.inr (by omega))).trans hx.2⟩
 ·exact((((((((h.on.setNew (p:=⟨bN,k*8,none⟩) hl.2 _).setNew (p:=⟨bN,k*8+1,none⟩) hl.2 _).setNew (p:=⟨bN,k*8+2,none⟩) hl.2 _).setNew (p:=⟨bN,k*8+3,none⟩) hl.2 _).setNew (p:=⟨bN,k*8+4,none⟩) hl.2 _).setNew (p:=⟨bN,k*8+5,none⟩) hl.2 _).setNew (p:=⟨bN,k*8+6,none⟩) hl.2 _).setNew (p:=⟨bN,k*8+7,none⟩) hl.2 _).drew
theorem d0v[Inhabited uQ]{a4:Option Addr}{n4 k4:Nat}{a8:Option Addr}{n8 k8:Nat}{cB cO:Nat->Nat}{hd:Nat}{vf:Value}{F:List Int}{vk:Value}{K:List Nat}{role:Nat->Nat}(w:World)
  (h:SAt B w b x ar kr (.slice a4 n4 k4) (.slice a8 n8 k8) br cB cO bn pb pa pk kn hd vf F vk K role) (hG:∀g,g∈x.D->0<=g/\g<x.A.length) (hr:0<x.B.length) (l:x.B.length<=100/\x.A.length<=8000/\x.D.length<=8000/\∀q,q<x.A.length->(x.c q).F.length<=200) (hB:B<=w.heap.size) :
  Calls Tryz.prog 59 #[.pointer (some ⟨b,0,none⟩)] w λe w'=>∃bcN bgN,e=.returned (x.v (.slice (some ⟨br,0,none⟩) x.B.length kr) (.slice (some ⟨bcN,0,none⟩) x.A.length x.A.length) (.slice (some ⟨bgN,0,none⟩) x.D.length x.D.length))/\Hid (a8s B w'.heap.size w' x br kr bcN x.A.length bgN x.D.length pb pa pk)/\Ext w w':=by
 have H:=uU h;obtain⟨c0,c1,c2,c3,c4,c5,c6,c7,c8,c9,c10,c11,c12⟩:=h.sb.bx;rw[h.sb.ha hr] at c3;have AR:=uU (h.sb.ha hr);have hb:=h.sb.nb.1;have l2:=l.2.1;have HG:=uU hG;have HL:=uU l;clear h hG l;have xa:=((Ext.refl w).alloc (.cells #[iv 0,iv 0,iv 0,.slice none 0 0,.slice none 0 0,iv 0,iv 0,iv 0,.slice none 0 0,iv 0,iv 0,iv 0,iv 0] 34)).alloc (.cells #[iv x.M,iv x.K,iv x.born,.slice (some ⟨br,0,none⟩) x.B.length kr,.slice a4 n4 k4,iv x.E,iv x.I,iv x.sub,.slice a8 n8 k8,iv x.per,iv x.V,iv x.Q,iv x.S] 34);have B1:=dE.new (w.alloc (.cells #[iv 0,iv 0,iv 0,.slice none 0 0,.slice none 0 0,iv 0,iv 0,iv 0,.slice none 0 0,iv 0,iv 0,iv 0,iv 0] 34)) x (.slice (some ⟨br,0,none⟩) x.B.length kr) (.slice a4 n4 k4) (.slice a8 n8 k8) 34;have hs1:(w.alloc (.cells #[iv 0,iv 0,iv 0,.slice none 0 0,.slice none 0 0,iv 0,iv 0,iv 0,.slice none 0 0,iv 0,iv 0,iv 0,iv 0] 34)).heap.size=w.heap.size+1:=by simp
 rw[hs1] at B1;have hs2:((w.alloc (.cells #[iv 0,iv 0,iv 0,.slice none 0 0,.slice none 0 0,iv 0,iv 0,iv 0,.slice none 0 0,iv 0,iv 0,iv 0,iv 0] 34)).alloc (.cells #[iv x.M,iv x.K,iv x.born,.slice (some ⟨br,0,none⟩) x.B.length kr,.slice a4 n4 k4,iv x.E,iv x.I,iv x.sub,.slice a8 n8 k8,iv x.per,iv x.V,iv x.Q,iv x.S] 34)).heap.size=w.heap.size+2:=by simp
 go_enter Tryz.func59,Tryz.ntmps59;go_wp2_with fail;refine(c2n b bn hd x.A.length x.D _ (H.ext xa).sb.rg (λi hi=>((H.ext xa).sb.nd i hi).1) HG).mono ?_;rintro e w1 ⟨rfl,hgs,hgn,q1⟩;rw[hs2] at hgs hgn ⊢;have hz1:w.heap.size+2<w1.heap.size:=hgn.1;have BX1:=uU (B1.ext q1);have X1:=xa.trans q1;have GS:=uU (And.intro hgs hgn);have d8:=BX1.2.2.2.2.2.2.2.2.1;have d4:=BX1.2.2.2.2.1;have fz:∀o,w1.frozen? ⟨w.heap.size+1,o,none⟩=false:=λo=>((cD q1).2 (w.heap.size+1) o (by rw[hs2];omega)).trans (by simp [go_sem])
 have g8:=fz 8;have g4:=fz 4;have rc:=uU (show ∀o v,((w.alloc (.cells #[iv 0,iv 0,iv 0,.slice none 0 0,.slice none 0 0,iv 0,iv 0,iv 0,.slice none 0 0,iv 0,iv 0,iv 0,iv 0] 34)).alloc (.cells #[iv x.M,iv x.K,iv x.born,.slice (some ⟨br,0,none⟩) x.B.length kr,.slice a4 n4 k4,iv x.E,iv x.I,iv x.sub,.slice a8 n8 k8,iv x.per,iv x.V,iv x.Q,iv x.S] 34)).cell? ⟨w.heap.size,o,none⟩=some v->w1.cell? ⟨w.heap.size,o,none⟩=some v from λo v h=>q1.keep h);have RF:=uU (show ∀o,w1.frozen? ⟨w.heap.size,o,none⟩=false from λo=>((cD q1).2 w.heap.size o (by rw[hs2];omega)).trans (by simp [go_sem]));have n13:=(H.ext X1).sb.n13;have nb1:¬b=w.heap.size+1:=by omega
 have nb2:¬w.heap.size+1=b:=by omega
 obtain⟨z,hmk⟩:=mkCells x.A.length (by omega) (w1.setCell ⟨w.heap.size+1,8,none⟩ (.slice (some ⟨w.heap.size+2,0,none⟩) x.D.length x.D.length));have hsz:(w1.setCell ⟨w.heap.size+1,8,none⟩ (.slice (some ⟨w.heap.size+2,0,none⟩) x.D.length x.D.length)).heap.size=w1.heap.size:=by simp [World.setCell]
 rw[hsz] at hmk;have hbw:b<w1.heap.size:=by omega
 have htw:w.heap.size+1<w1.heap.size:=by omega
 clear hgs hgn B1 fz q1 c0 c1 c2 c3 c4 c5 c6 c7 c8 c9 c10 c11 c12;go_wp2_with fail
 have ST:=uU (show Tdl w1 (((w1.setCell ⟨w.heap.size+1,8,none⟩ (.slice (some ⟨w.heap.size+2,0,none⟩) x.D.length x.D.length)).setCell ⟨w.heap.size+1,4,none⟩ (.slice (some ⟨w1.heap.size,0,none⟩) x.A.length x.A.length)).alloc (.cells (madeCells z (x.A.length*8)) 62)) x (w.heap.size+1) w1.heap.size (.slice (some ⟨br,0,none⟩) x.B.length kr) (.slice (some ⟨w1.heap.size,0,none⟩) x.A.length x.A.length) (.slice (some ⟨w.heap.size+2,0,none⟩) x.D.length x.D.length) pa pk 0 from by
  have hs:((w1.setCell ⟨w.heap.size+1,8,none⟩ (.slice (some ⟨w.heap.size+2,0,none⟩) x.D.length x.D.length)).setCell ⟨w.heap.size+1,4,none⟩ (.slice (some ⟨w1.heap.size,0,none⟩) x.A.length x.A.length)).heap.size=w1.heap.size:=by simp [World.setCell]
  refine⟨((BX1.set8 _).set4 _).ext ((Ext.refl _).alloc _),λq _ h=>by omega,λj hj=>?_,?_,?_,⟨htw,Nat.le_refl _⟩⟩
  ·have:=a7d ((w1.setCell ⟨w.heap.size+1,8,none⟩ (.slice (some ⟨w.heap.size+2,0,none⟩) x.D.length x.D.length)).setCell ⟨w.heap.size+1,4,none⟩ (.slice (some ⟨w1.heap.size,0,none⟩) x.A.length x.A.length)) z (x.A.length*8) 62 j hj;rw[hs] at this;exact this
  ·have:=Nf1.made ((w1.setCell ⟨w.heap.size+1,8,none⟩ (.slice (some ⟨w.heap.size+2,0,none⟩) x.D.length x.D.length)).setCell ⟨w.heap.size+1,4,none⟩ (.slice (some ⟨w1.heap.size,0,none⟩) x.A.length x.A.length)) z (x.A.length*8) 62;rw[hs] at this;exact this
  ·exact(uZ.setCell (S:=λq=>q=w.heap.size+1) (uZ.setCell (S:=λq=>q=w.heap.size+1) (uZ.refl _ w1) (p:=⟨w.heap.size+1,8,none⟩) rfl _) (p:=⟨w.heap.size+1,4,none⟩) rfl _).trans (uZ.of_ext ((Ext.refl _).alloc _)))
 clear d8 d4 g8 g4 n13 hmk;go_loopw [29] (λi wr=>∃(k:Nat),k<=x.A.length/\i=.int .i64 k/\Hid (Tdl w1 wr x (w.heap.size+1) w1.heap.size (.slice (some ⟨br,0,none⟩) x.B.length kr) (.slice (some ⟨w1.heap.size,0,none⟩) x.A.length x.A.length) (.slice (some ⟨w.heap.size+2,0,none⟩) x.D.length x.D.length) pa pk k)) (λi _=>x.A.length-(intOf i).toNat)
 case atStart=>exact⟨0,Nat.zero_le _,rfl,ST⟩
 case round=>
  clear ST;obtain⟨k,hk,rfl,hinv⟩:=hrel;have XR:Ext w wr:=hinv.on.ext X1 (λq hq e=>by omega);by_cases hlt:k<x.A.length
  ·have R:=uU (hinv.step hlt);have c4:=hinv.bx.2.2.2.2.1;have n13:=(H.ext XR).sb.n13;obtain⟨m0,m1⟩:=(H.ext XR).sb.nd k hlt;obtain⟨p0,p1,p2,p3,p4,p5,p6⟩:=(H.ext XR).rw.s k hlt;have p7:=(H.ext XR).rw.p7 k hlt;obtain⟨⟨u0,o0⟩,f0⟩:yN wr w1.heap.size (k*8):=hinv.o (k*8) (by omega);obtain⟨⟨u1,o1⟩,f1⟩:=hinv.o (k*8+1) (by omega);obtain⟨⟨u2,o2⟩,f2⟩:=hinv.o (k*8+2) (by omega);obtain⟨⟨u3,o3⟩,f3⟩:=hinv.o (k*8+3) (by omega);obtain⟨⟨u4,o4⟩,f4⟩:=hinv.o (k*8+4) (by omega);obtain⟨⟨u5,o5⟩,f5⟩:=hinv.o (k*8+5) (by omega);obtain⟨⟨u6,o6⟩,f6⟩:=hinv.o (k*8+6) (by omega);obtain⟨⟨u7,o7⟩,f7⟩:=hinv.o (k*8+7) (by omega);have k0:(0:Int)<=(k:Int):=by omega
   have k1:(k:Int)<(x.A.length:Int):=by omega
   clear m0;go_wp2_with fail
   go_region
   all_goals
    go_wp2_with fail;go_roundw
    case rel=>exact⟨k+1,by omega,by go_num,R⟩
    case measure=>simp [intOf];omega
  ·have hk2:k=x.A.length:=by omega
   subst hk2;have WB:∀q,q<w1.heap.size->q≠w.heap.size+1->wr.heap[q]?=w1.heap[q]?:=λq hq hne=>hinv.on.block q hq hne
   have SR:=uU (H.ext XR)
   have GR:=uU (show SlI wr (.slice (some ⟨w.heap.size+2,0,none⟩) x.D.length x.D.length) x.D/\Nf1 (w.heap.size+2) wr from by
    have e:=WB (w.heap.size+2) (by omega) (by omega);refine⟨yU.mono2 GS.1 λb' o n c z o' y hy=>?_,uV GS.2 e hinv.on.size⟩;simp only [Value.slice.injEq,Option.some.injEq,Addr.mk.injEq] at z;obtain⟨⟨rfl,_,_⟩,_,_⟩:=z;exact(World.cell?_of_block (a:=⟨w.heap.size+2,o',none⟩) e).trans hy)
   have RW:=uU (show ∀W,uZ (λq=>q=w.heap.size) wr W->a8s B W.heap.size W x br kr w1.heap.size x.A.length (w.heap.size+2) x.D.length pb pa pk from λW o=>by
    have rw:=SR.rw;have hB2:=hB;have lr:=H.rw.nr hr;have lp:=λq hq hl=>H.rw.pl q hq hl
    have hsz:=o.size;have hws:=hinv.nf.1;have rw2:=rw.only o (λhl e=>by have:=lr.1.1;omega) (λq hq e=>by have:=(H.rw.nc q hq).1.1;omega) (λq hq hl e=>by have:=(lp q hq hl).2.1.1;omega);refine⟨rw2.slW kr (λ_=>rfl) (by have:=HL.1;omega),λq hq=>?_,λq hq=>?_,?_,λq hq=>?_,λq hq hl=>?_,(rw2.nr hr).1,?_,?_,⟨by have:=lr.1.1;omega,by have:=lr.1.1;omega,by omega⟩,λq q' hq hq' hne h1 h2=>rw2.dp q q' hq hq' hne (rw2.pw hq h1) (rw2.pw hq' h2),⟨⟨lr.2,by have:=lr.1.1;have:=XR.size;omega⟩,⟨by omega,by omega⟩,⟨by omega,by omega⟩⟩,HL,rw2.kp⟩
    ·exact(hinv.s q hq hq).1.of λj _=>World.cell?_of_block (a:=⟨w1.heap.size,_,none⟩) (o.block w1.heap.size hws (by omega))
    ·refine⟨_,_,rfl,by have:=HL.2.2.2 q hq;omega,λk hk=>⟨pb q,0,(rw2.pl q hq (rw2.pw hq (by omega))).1,?_⟩⟩;rw[Nat.zero_add,Cl.p_eq _ _ hk];exact rw2.p q hq k hk
    ·refine yU.mono2 GR.1 λb' o2 n c z o' y hy=>?_
     simp only [Value.slice.injEq,Option.some.injEq,Addr.mk.injEq] at z;obtain⟨⟨rfl,_,_⟩,_,_⟩:=z;exact o.keep (by omega) hy
    ·exact o.keep (by omega) (hinv.s q hq hq).2
    ·obtain⟨a1,a2,a3,a4⟩:=rw2.pl q hq (rw2.pw hq hl);have:=(lp q hq (rw2.pw hq hl)).2.1.1;exact⟨a1,a2.n1,⟨a3.1,by omega,by omega⟩,a4,by have:=XR.size;omega⟩
    ·exact uV hinv.nf (o.block w1.heap.size hws (by omega)) hsz
    ·exact uV GR.2 (o.block (w.heap.size+2) GR.2.1 (by omega)) hsz)
   have rcell:∀o v,((w.alloc (.cells #[iv 0,iv 0,iv 0,.slice none 0 0,.slice none 0 0,iv 0,iv 0,iv 0,.slice none 0 0,iv 0,iv 0,iv 0,iv 0] 34)).alloc (.cells #[iv x.M,iv x.K,iv x.born,.slice (some ⟨br,0,none⟩) x.B.length kr,.slice a4 n4 k4,iv x.E,iv x.I,iv x.sub,.slice a8 n8 k8,iv x.per,iv x.V,iv x.Q,iv x.S] 34)).cell? ⟨w.heap.size,o,none⟩=some v->wr.cell? ⟨w.heap.size,o,none⟩=some v:=λo v h=>(World.cell?_of_block (a:=⟨w.heap.size,o,none⟩) (WB w.heap.size (by omega) (by omega))).trans (rc o v h)
   have rfz:∀o,wr.frozen? ⟨w.heap.size,o,none⟩=false:=λo=>(World.frozen?_of_block (a:=⟨w.heap.size,o,none⟩) (WB w.heap.size (by omega) (by omega))).trans (RF o)
   have r0:=rcell 0 (iv 0) (by simp [go_sem]);have r1:=rcell 1 (iv 0) (by simp [go_sem]);have r2:=rcell 2 (iv 0) (by simp [go_sem]);have r3:=rcell 3 (.slice none 0 0) (by simp [go_sem]);have r4:=rcell 4 (.slice none 0 0) (by simp [go_sem]);have r5:=rcell 5 (iv 0) (by simp [go_sem]);have r6:=rcell 6 (iv 0) (by simp [go_sem]);have r7:=rcell 7 (iv 0) (by simp [go_sem]);have r8:=rcell 8 (.slice none 0 0) (by simp [go_sem]);have r9:=rcell 9 (iv 0) (by simp [go_sem]);have r10:=rcell 10 (iv 0) (by simp [go_sem]);have r11:=rcell 11 (iv 0) (by simp [go_sem]);have r12:=rcell 12 (iv 0) (by simp [go_sem]);have f0:=rfz 0;have f1:=rfz 1;have f2:=rfz 2;have f3:=rfz 3;have f4:=rfz 4;have f5:=rfz 5;have f6:=rfz 6;have f7:=rfz 7;have f8:=rfz 8;have f9:=rfz 9;have f10:=rfz 10;have f11:=rfz 11;have f12:=rfz 12;obtain⟨b0,b1,b2,b3,b4,b5,b6,b7,b8,b9,b10,b11,b12⟩:=hinv.bx;have hb0:w.heap.size+1<wr.heap.size:=uL b0;have hr0:w.heap.size<wr.heap.size:=uL r0;clear hinv rcell rfz WB;go_wp2_with fail;refine bodyPost_ret (v:=x.v (.slice (some ⟨br,0,none⟩) x.B.length kr) (.slice (some ⟨w1.heap.size,0,none⟩) x.A.length x.A.length) (.slice (some ⟨w.heap.size+2,0,none⟩) x.D.length x.D.length)) (by simp [results,Tryz.results59,go_sem,r0,r1,r2,r3,r4,r5,r6,r7,r8,r9,r10,r11,r12]) rfl ⟨_,_,rfl,?_⟩;refine(λ(F:uZ (λq=>q=w.heap.size) wr _)=>⟨uH RW _ F,F.ext XR (λq hq e=>by omega)⟩) ?_
   repeat (first | refine uZ.setCell ?_ (by simp) _ | exact uZ.refl _ _)
theorem a8s.grow{V:Nat}(h:a8s B U w x br kr bc kc bg kg pb pa pk)(hU:U<=V)(hC:C<=B):a8s C V w x br kr bc kc bg kg pb pa pk:=
 ⟨h.r,h.s,h.p,h.g,h.p7,λq hq hl=>let ⟨a,b,c,d,e⟩:=h.pl q hq hl;⟨a,b,c,Nat.le_trans hC d,Nat.lt_of_lt_of_le e hU⟩,h.nr,h.nc,h.ng,h.d,h.dp,⟨⟨Nat.le_trans hC h.b.1.1,Nat.lt_of_lt_of_le h.b.1.2 hU⟩,⟨Nat.le_trans hC h.b.2.1.1,Nat.lt_of_lt_of_le h.b.2.1.2 hU⟩,⟨Nat.le_trans hC h.b.2.2.1,Nat.lt_of_lt_of_le h.b.2.2.2 hU⟩⟩,h.l,h.k⟩
def HA(B U:Nat)(w:World)(y:Hp)(ar:Option Addr)(kr:Nat)(ac:Option Addr)(kc:Nat)(ag:Option Addr)(kg:Nat):Prop:=(y=Hp0/\ar=none/\kr=0/\ac=none/\kc=0/\ag=none/\kg=0)\/∃br bc bg pb pa pk,ar=some ⟨br,0,none⟩/\ac=some ⟨bc,0,none⟩/\ag=some ⟨bg,0,none⟩/\a8s B U w y br kr bc kc bg kg pb pa pk
theorem HA.zero(B U:Nat)(w:World):HA B U w Hp0 none 0 none 0 none 0:=.inl ⟨rfl,rfl,rfl,rfl,rfl,rfl,rfl⟩
theorem eQ.r16(h:eQ x 0):0<x.B.length/\x.B.length<=100:=by have:=h.all.1.B;omega
theorem d0w[Inhabited uQ]{y:Hp}(h:SOq C B w b y)(s:Snd y)(hB:B<=w.heap.size):
  Calls Tryz.prog 59 #[.pointer (some ⟨b,0,none⟩)] w λe w'=>∃br kr bcN bgN pb pa pk,e=.returned (y.v (.slice (some ⟨br,0,none⟩) y.B.length kr) (.slice (some ⟨bcN,0,none⟩) y.A.length y.A.length) (.slice (some ⟨bgN,0,none⟩) y.D.length y.D.length))/\Hid (a8s B w'.heap.size w' y br kr bcN y.A.length bgN y.D.length pb pa pk)/\Ext w w':=by
 obtain⟨ar,kr,a4,n4,k4,a8,m8,k8,br,cB,cO,bn,pb,pa,pk,kn,hd,vf,F,vk,K,role,h,_,_⟩:=h;have h1:=s.r1.D;have h2:=s.ok.n8;refine(d0v w h s.r5.2.2 s.ok.r16.1 ⟨s.ok.r16.2,h2,by omega,s.ok.p200⟩ hB).mono ?_;rintro e w' ⟨bcN,bgN,rfl,h6,x6⟩;exact⟨br,kr,bcN,bgN,pb,pa,pk,rfl,h6,x6⟩
theorem b4a[Inhabited uQ](h:SOq C B w b x)(hC:C<=1000000000)(s:Snd x)(a:World)(ha:a.heap.size<=B)(hx:Ext a w):
  Calls Tryz.prog 85 #[.pointer (some ⟨b,0,none⟩)] w λe w'=>∃k:Nat,e=.returned (.int .i64 k)/\Hid (a9g x k)/\Hid (SOq C B w' b (itU k x))/\Ext a w':=by
 have Q:=uU (d0q 9223372036854775807 h hC s a ha hx);have S:=uU s;clear h s;go_enter Tryz.func85,Tryz.ntmps85;go_wp2_with fail;refine Q.mono ?_;rintro e w1 ⟨k,rfl,st,h1,x1⟩
 have E:=uU (show a9g x k by
  obtain⟨r,_,e⟩:=st;refine⟨?_,r⟩;rcases e with e | e
  ·have:=r.le S;omega
  ·exact e)
 clear st Q;go_wp2_with fail;go_ret;exact⟨k,rfl,E,h1,x1⟩
def EndH(x:Hp)(y:Hp):Prop:=∃k,a9g x k/\y=itU k x
theorem EndH.snd{y:Hp}(s:Snd x)(h:EndH x y):Snd y/\y.E=0:=by
 obtain⟨k,a,b⟩:=h;rw[b];exact⟨s.itU k,a.1⟩
theorem c6w[Inhabited uQ](h:SOq C B w b x)(hC:C+16000<=1000000000)(s:Snd x)(a:World)(ha:a.heap.size<=B)(hx:Ext a w):
  Calls Tryz.prog 81 #[.pointer (some ⟨b,0,none⟩)] w λe w'=>∃y z,e=.returned (.tuple #[])/\Hid (EndH x y/\EndH (dN y 1 0) z)/\Hid (SOq (C+16000) B w' b z)/\Ext a w':=by
 have H:=uU h;have S:=uU s;clear h s;go_enter Tryz.func81,Tryz.ntmps81;go_wp2_with fail;refine(b4a H (by omega) S a ha hx).mono ?_;rintro e w1 ⟨k,rfl,he,h1,x1⟩;obtain⟨y,hy⟩:∃y,y=itU k x:=⟨_,rfl⟩;rw[<-hy] at h1;have EY:=uU (show EndH x y from⟨k,he,hy⟩);clear he hy;go_wp2_with fail;refine(c6t h1 (EY.snd S).2 a ha x1).mono ?_;rintro e w2 ⟨rfl,h2,x2⟩;go_wp2_with fail;refine(b4a h2 hC ((EY.snd S).1.begin (EY.snd S).2) a ha x2).mono ?_;rintro e w3 ⟨k2,rfl,he,h3,x3⟩;have EZ:=uU (show EndH (dN y 1 0) (itU k2 (dN y 1 0)) from⟨k2,he,rfl⟩);clear he;go_wp2_with fail
 go_end0
 exact⟨y,_,rfl,⟨EY,EZ⟩,h3,x3⟩
theorem b4p(x:Hp)(w:World){ac:Option Addr}{ag:Option Addr}(hR:SlW w (.slice ar x.B.length kr) x.B)(hC:SlC w (.slice ac x.A.length kc) x.A)(hG:SlI w (.slice ag x.D.length kg) x.D)(hcap:a4g w x ac):
  Calls Tryz.prog 31 #[x.v (.slice ar x.B.length kr) (.slice ac x.A.length kc) (.slice ag x.D.length kg)] w λe w'=>∃y ar kr ac kc ag kg,Hid (e=.returned (y.v (.slice ar y.B.length kr) (.slice ac y.A.length kc) (.slice ag y.D.length kg)))/\Hid (b2z x y)/\Hid (HA w.heap.size w'.heap.size w' y ar kr ac kc ag kg)/\Ext w w':=by
 obtain⟨pin,HZ⟩:∃i:Inhabited uQ,Hid (∀q,(@default uQ i).z q=none):=⟨⟨⟨λ_=>none⟩⟩,λ_=>rfl⟩;have x1:Ext w ((w.alloc (.cells #[iv x.M,iv x.K,iv x.born,.slice ar x.B.length kr,.slice ac x.A.length kc,iv x.E,iv x.I,iv x.sub,.slice ag x.D.length kg,iv x.per,iv x.V,iv x.Q,iv x.S] 34)).alloc (.cells #[iv 0,iv 0,iv 0,.slice none 0 0,.slice none 0 0,iv 0,iv 0,iv 0,.slice none 0 0,iv 0,iv 0,iv 0,iv 0] 34)):=((Ext.refl w).alloc _).alloc _;have S1:=uU (SlW.ext x1 hR);have S2:=uU (SlC.ext x1 hC);have S3:=uU (SlI.ext x1 hG);have S4:=uU (hcap.extS hC x1);have hs2:((w.alloc (.cells #[iv x.M,iv x.K,iv x.born,.slice ar x.B.length kr,.slice ac x.A.length kc,iv x.E,iv x.I,iv x.sub,.slice ag x.D.length kg,iv x.per,iv x.V,iv x.Q,iv x.S] 34)).alloc (.cells #[iv 0,iv 0,iv 0,.slice none 0 0,.slice none 0 0,iv 0,iv 0,iv 0,.slice none 0 0,iv 0,iv 0,iv 0,iv 0] 34)).heap.size=w.heap.size+2:=by simp
 clear hR hC hG hcap;go_enter Tryz.func31,Tryz.ntmps31;go_wp2_with fail;refine(b5r x _ S1 S2 S3 S4).mono ?_;rintro e w2 ⟨hq,hor⟩;have x2:=x1.trans hq;have RC:=uU (show ∀o v,((w.alloc (.cells #[iv x.M,iv x.K,iv x.born,.slice ar x.B.length kr,.slice ac x.A.length kc,iv x.E,iv x.I,iv x.sub,.slice ag x.D.length kg,iv x.per,iv x.V,iv x.Q,iv x.S] 34)).alloc (.cells #[iv 0,iv 0,iv 0,.slice none 0 0,.slice none 0 0,iv 0,iv 0,iv 0,.slice none 0 0,iv 0,iv 0,iv 0,iv 0] 34)).cell? ⟨w.heap.size+1,o,none⟩=some v->w2.cell? ⟨w.heap.size+1,o,none⟩=some v from λo v h=>hq.keep h);have RCF:=uU (show ∀o,w2.frozen? ⟨w.heap.size+1,o,none⟩=false from λo=>((cD hq).2 (w.heap.size+1) o (by rw[hs2];omega)).trans (by simp [go_sem]));have hz2:w.heap.size+2<=w2.heap.size:=by have:=hq.size;omega
 have rc:=uH RC;have rcF:=uH RCF;have r0:=rc 0 (iv 0) (by simp [go_sem]);have r1:=rc 1 (iv 0) (by simp [go_sem]);have r2:=rc 2 (iv 0) (by simp [go_sem]);have r3:=rc 3 (.slice none 0 0) (by simp [go_sem]);have r4:=rc 4 (.slice none 0 0) (by simp [go_sem]);have r5:=rc 5 (iv 0) (by simp [go_sem]);have r6:=rc 6 (iv 0) (by simp [go_sem]);have r7:=rc 7 (iv 0) (by simp [go_sem]);have r8:=rc 8 (.slice none 0 0) (by simp [go_sem]);have r9:=rc 9 (iv 0) (by simp [go_sem]);have r10:=rc 10 (iv 0) (by simp [go_sem]);have r11:=rc 11 (iv 0) (by simp [go_sem]);have r12:=rc 12 (iv 0) (by simp [go_sem]);have f0:=rcF 0;have f1:=rcF 1;have f2:=rcF 2;have f3:=rcF 3;have f4:=rcF 4;have f5:=rcF 5;have f6:=rcF 6;have f7:=rcF 7;have f8:=rcF 8;have f9:=rcF 9;have f10:=rcF 10;have f11:=rcF 11;have f12:=rcF 12;have hr0:w.heap.size+1<w2.heap.size:=uL r0;clear hq rc rcF;rcases uH hor with⟨hn,rfl⟩ | ⟨hok,b,an,kn,rfl,hv,han⟩
 ·have N:=uU (show b2z x Hp0 from .inr ⟨λh=>hn h,rfl⟩);clear hor hn;go_wp2_with fail;refine bodyPost_ret (v:=Hp0.v (.slice none 0 0) (.slice none 0 0) (.slice none 0 0)) (by simp [results,Tryz.results31,go_sem,Hp0,r0,r1,r2,r3,r4,r5,r6,r7,r8,r9,r10,r11,r12]) rfl ⟨Hp0,none,0,none,0,none,0,rfl,N,HA.zero _ _ _,?_⟩;refine(λ(F:uZ (λq=>q=w.heap.size+1) w2 _)=>F.ext x2 (λq hq e=>by omega)) ?_
  repeat (first | refine uZ.setCell ?_ (by simp) _ | exact uZ.refl _ _)
 ·have OK:=uU hok;have V:=uU hv;have GF:=uU (a4n hok);have SN:=uU hok.snd;clear hor hok hv han;go_wp2_with fail;refine(c6r HZ x b _ V OK.all.1 OK.all.2.1 OK.r5 GF.1).mono ?_;rintro e w4 ⟨s,rfl,hs,x4⟩;have ST:=uU (hs.soq HZ SN);clear hs;go_wp2_with fail;refine(c6w ST (by omega) SN w2 (Nat.le_refl _) x4).mono ?_;rintro e w5 ⟨z,y,rfl,st,h5,x5⟩;have SY:=uU (show Snd y from(st.2.snd ((st.1.snd SN).1.begin (st.1.snd SN).2)).1);have IS:=uU (show b2z x y from .inl ⟨OK,z,st.1,st.2⟩);have QT:=uU (d0w h5 SY x5.size);clear st ST;go_wp2_with fail;refine QT.mono ?_;rintro e w6 ⟨br,kr4,bcN,bgN,pb,pa,pk,rfl,h6,x6⟩;have X36:=x5.trans x6;have X6:=x2.trans X36;have e0:=X36.keep r0;have e1:=X36.keep r1;have e2:=X36.keep r2;have e3:=X36.keep r3;have e4:=X36.keep r4;have e5:=X36.keep r5;have e6:=X36.keep r6;have e7:=X36.keep r7;have e8:=X36.keep r8;have e9:=X36.keep r9;have e10:=X36.keep r10;have e11:=X36.keep r11;have e12:=X36.keep r12;have g0:=((cD X36).2 (w.heap.size+1) 0 hr0).trans f0;have g1:=((cD X36).2 (w.heap.size+1) 1 hr0).trans f1;have g2:=((cD X36).2 (w.heap.size+1) 2 hr0).trans f2;have g3:=((cD X36).2 (w.heap.size+1) 3 hr0).trans f3;have g4:=((cD X36).2 (w.heap.size+1) 4 hr0).trans f4;have g5:=((cD X36).2 (w.heap.size+1) 5 hr0).trans f5;have g6:=((cD X36).2 (w.heap.size+1) 6 hr0).trans f6;have g7:=((cD X36).2 (w.heap.size+1) 7 hr0).trans f7;have g8:=((cD X36).2 (w.heap.size+1) 8 hr0).trans f8;have g9:=((cD X36).2 (w.heap.size+1) 9 hr0).trans f9;have g10:=((cD X36).2 (w.heap.size+1) 10 hr0).trans f10;have g11:=((cD X36).2 (w.heap.size+1) 11 hr0).trans f11;have g12:=((cD X36).2 (w.heap.size+1) 12 hr0).trans f12;have hr4:w.heap.size+1<w6.heap.size:=uL e0
  have RW:=uU (show ∀W,uZ (λq=>q=w.heap.size+1) w6 W->HA w.heap.size W.heap.size W y (some ⟨br,0,none⟩) kr4 (some ⟨bcN,0,none⟩) y.A.length (some ⟨bgN,0,none⟩) y.D.length from λW o=>by
   have:=(h6.only o (λq h1 h2 e=>by omega)).grow (Nat.le_trans (Nat.le_refl _) o.size) (show w.heap.size<=w2.heap.size by omega);exact .inr ⟨_,_,_,_,_,_,rfl,rfl,rfl,this⟩)
  clear h6 r0 r1 r2 r3 r4 r5 r6 r7 r8 r9 r10 r11 r12 f0 f1 f2 f3 f4 f5 f6 f7 f8 f9 f10 f11 f12;go_wp2_with fail;refine bodyPost_ret (v:=y.v (.slice (some ⟨br,0,none⟩) y.B.length kr4) (.slice (some ⟨bcN,0,none⟩) y.A.length y.A.length) (.slice (some ⟨bgN,0,none⟩) y.D.length y.D.length)) (by simp [results,Tryz.results31,go_sem,e0,e1,e2,e3,e4,e5,e6,e7,e8,e9,e10,e11,e12]) rfl ⟨y,_,_,_,_,_,_,rfl,IS,?_⟩;refine(λ(F:uZ (λq=>q=w.heap.size+1) w6 _)=>⟨uH RW _ F,F.ext X6 (λq hq e=>by omega)⟩) ?_
  repeat (first | refine uZ.setCell ?_ (by simp) _ | exact uZ.refl _ _)
theorem b1k:∃et,Tryz.prog.underlying 110=some (.map 126 et)/\∀w,(zeroValue et).run Tryz.prog w=.ok (.agg #[]) w:=⟨_,Tryz.underlying110,λ_=>by kernel_rfl⟩
theorem c0e:Tryz.prog.underlying 126=some (.pointer 124):=Tryz.underlying126
theorem b5x:(Tryz.prog.info? 126).map (λi=>(i.zero,i.size,i.bytes))=some (some (.pointer none),1,8):=by kernel_rfl
theorem c3k(r bn p:Nat)(Q:List Nat)(w:World)(h:a4a w r bn Q):
  Calls Tryz.prog 118 #[.map (some r),ptr bn p] w λe w'=>e=.returned (.bool (decide (p∈Q)))/\Ext w w':=by
 obtain⟨et,hu,hz⟩:=b1k;obtain⟨i0,hi,_,hz1,_⟩:=info_parts b0t;have hlk:=h.lookup hu c0e hi (by rw[hz1];omega) hz p;clear hu hz hi hz1 h;obtain⟨ans,ha⟩:∃a,decide (p∈Q)=a:=⟨_,rfl⟩;rw[ha] at hlk ⊢;clear ha;go_enter Tryz.func118,Tryz.ntmps118;go_wp2_with fail;go_ret;exact⟨rfl,(Ext.refl w).alloc _⟩
structure zV(w:World)(base bw bv r1 bn on n:Nat)(v:Value)(Mt St:List Nat):Prop where
 c0:w.cell? ⟨bw,0,none⟩=some (.pointer (some ⟨bv,0,none⟩))
 c1:w.cell? ⟨bw,1,none⟩=some (.map (some r1))
 c2:w.cell? ⟨bw,2,none⟩=some v
 f2:w.frozen? ⟨bw,2,none⟩=false
 m:a4a w r1 bn (Mt.map (λi=>on+i*2))
 s:w.ownsRow base 126 1 v St.length (St.map (λi=>ptr bn (on+i*2)))
 a1:v.ownBlock≠some bw
 a2:v.ownBlock≠some r1
 a3:bw≠r1
 b1:base<=bw
 b2:base<=r1
 sub:∀i,i∈St->i∈Mt
 nd:Mt.Nodup
 nds:St.Nodup
 rg:∀i,i∈Mt->i<n
structure KFr(bw r1:Nat)(v v':Value)(w w':World):Prop where
 os:w'.os=w.os
 tape:w'.tape=w.tape
 output:w'.output=w.output
 size:w.heap.size<=w'.heap.size
 block:∀k:Nat,k<w.heap.size->k≠bw->k≠r1->v.ownBlock≠some k->w'.heap[k]?=w.heap[k]?
 own:v'.ownBlock=v.ownBlock\/∃g,v'.ownBlock=some g/\w.heap.size<=g
 keep:∀o u,o≠2->w.cell? ⟨bw,o,none⟩=some u->w'.cell? ⟨bw,o,none⟩=some u
theorem KFr.of_ext(e:Ext w w'):KFr bw r1 v v w w':=⟨e.os,e.tape,e.output,e.size,λk hk _ _ _=>e.block k hk,.inl rfl,λ_ _ _ h=>e.keep h⟩
theorem KFr.trans{v1 v2:Value}(h:KFr bw r1 v v1 w w1)(k:KFr bw r1 v1 v2 w1 w2):KFr bw r1 v v2 w w2:=
 ⟨k.os.trans h.os,k.tape.trans h.tape,k.output.trans h.output,Nat.le_trans h.size k.size,
  λi hi h1 h2 hv=>(k.block i (Nat.lt_of_lt_of_le hi h.size) h1 h2 (λe=>by
   rcases h.own with q | ⟨g,q,hg⟩
   ·rw[q] at e;exact hv e
   ·rw[q] at e;cases e;omega)).trans (h.block i hi h1 h2 hv),by
   rcases k.own with q | ⟨g,q,hg⟩
   ·rcases h.own with q2 | ⟨g,q2,hg⟩
    ·exact .inl (q.trans q2)
    ·exact .inr ⟨g,q.trans q2,hg⟩
   ·exact .inr ⟨g,q,Nat.le_trans h.size hg⟩,λo u ho hc=>k.keep o u ho (h.keep o u ho hc)⟩
theorem zV.rlt(h:zV w base bw bv r1 bn on n v Mt St):bw<w.heap.size/\r1<w.heap.size:=by
 refine⟨uL h.c0,?_⟩;obtain⟨es,c,h1,_⟩:=h.m.m;rcases Nat.lt_or_ge r1 w.heap.size with q | q
 ·exact q
 ·rw[Array.getElem?_eq_none q] at h1;cases h1
theorem zV.ext(h:zV w base bw bv r1 bn on n v Mt St)(e:Ext w w'):zV w' base bw bv r1 bn on n v Mt St:=
 ⟨e.keep h.c0,e.keep h.c1,e.keep h.c2,by rw[e.frozen (p:=⟨bw,2,none⟩) h.rlt.1];exact h.f2,h.m.block (e.block r1 h.rlt.2),uN h.s (λk hk=>e.block k (h.s.lt k hk).2),h.a1,h.a2,h.a3,h.b1,h.b2,h.sub,h.nd,h.nds,h.rg⟩
theorem zV.kext(h:zV w a.heap.size bw bv r1 bn on n v Mt St)(q:KFr bw r1 v v' w w')(e:Ext a w):Ext a w':=
 Below.trans e ⟨q.os,q.tape,q.output,q.size,λk hk=>q.block k (Nat.lt_of_lt_of_le hk e.size) (by have:=h.b1;omega) (by have:=h.b2;omega) (λf=>by have:=(h.s.lt k f).1;omega)⟩
theorem zV.len(h:zV w base bw bv r1 bn on n v Mt St):Mt.length<=n/\St.length<=n:=by
 have key:∀L:List Nat,L.Nodup->(∀i,i∈L->i<n)->L.length<=n:=λL hn hr=>by
  have:=List.Nodup.length_le_of_subset hn (λz hz=>List.mem_range.2 (hr z hz))
  simpa using this
 exact⟨key _ h.nd h.rg,key _ h.nds (λi hi=>h.rg i (h.sub i hi))⟩
theorem b1x:on+i*2∈Mt.map (λi=>on+i*2)↔i∈Mt:=by
 simp only [List.mem_map];constructor
 ·rintro⟨j,hj,e⟩;have:j=i:=by omega
  rw[<-this];exact hj
 ·intro h;exact⟨i,h,rfl⟩
theorem zV.add{g:Nat}{o:Obj}(h:zV w base bw bv r1 bn on n v Mt St)(hi:i<n)(hm:¬i∈Mt)
  (hm1:a4a w1 r1 bn (Mt.map (λi=>on+i*2)++[on+i*2])) (hos:w1.os=w.os) (ht:w1.tape=w.tape) (hou:w1.output=w.output) (hsz:w1.heap.size=w.heap.size) (hbl:∀k:Nat,k≠r1->w1.heap[k]?=w.heap[k]?)
  (hown:w2.ownsRow base 126 1 (.slice (some ⟨g,0,none⟩) (St.length+1) cap) (St.length+1) (St.map (λi=>ptr bn (on+i*2))++[ptr bn (on+i*2)])) (hg:(w1.alloc o).grownBy w2 v.ownBlock) (hat:v.ownBlock=some g\/g=w1.heap.size+1) :
  zV (w2.setCell ⟨bw,2,none⟩ (.slice (some ⟨g,0,none⟩) (St.length+1) cap)) base bw bv r1 bn on n (.slice (some ⟨g,0,none⟩) (St.length+1) cap) (Mt++[i]) (St++[i])/\
  KFr bw r1 v (.slice (some ⟨g,0,none⟩) (St.length+1) cap) w (w2.setCell ⟨bw,2,none⟩ (.slice (some ⟨g,0,none⟩) (St.length+1) cap))/\w2.cell? ⟨bw,2,none⟩=some v/\w2.frozen? ⟨bw,2,none⟩=false:=by
 have hr:=h.rlt;have hs1:w1.heap.size+1<=w2.heap.size:=by have:=hg.size;simpa using this
 have blk:∀k:Nat,k<w1.heap.size->v.ownBlock≠some k->w2.heap[k]?=w1.heap[k]?:=λk hk hv=>(hg.block k (by simp;omega) (λe=>hv e.symm)).trans (Below.heap_alloc w1 o k hk)
 have hbw:w2.heap[bw]?=w.heap[bw]?:=(blk bw (by omega) h.a1).trans (hbl bw h.a3)
 have hgb:g≠bw/\g≠r1:=by
  rcases hat with e | e
  ·exact⟨λq=>h.a1 (q ▸ e),λq=>h.a2 (q ▸ e)⟩
  ·omega
 have cc:∀o' v',w.cell? ⟨bw,o',none⟩=some v'->w2.cell? ⟨bw,o',none⟩=some v':=λo' v' hc=>(World.cell?_of_block (a:=⟨bw,o',none⟩) hbw).trans hc
 have hc2:=cc 2 _ h.c2;have hf2:w2.frozen? ⟨bw,2,none⟩=false:=(World.frozen?_of_block (a:=⟨bw,2,none⟩) hbw).trans h.f2;refine⟨⟨?_,?_,World.cell?_setCell_same _ _ _ hc2,by rw[World.frozen?_setCell];exact hf2,?_,?_,λe=>hgb.1 (by simpa [Value.ownBlock] using e),λe=>hgb.2 (by simpa [Value.ownBlock] using e),h.a3,h.b1,h.b2,?_,?_,?_,?_⟩,⟨?_,?_,?_,?_,λk hk h1 h2 h3=>?_,?_,λo u ho hc=>(uC _ (.inr (λe=>ho e.symm))).trans (cc o u hc)⟩,hc2,hf2⟩
 ·rw[uC _ (.inr (by omega))];exact cc 0 _ h.c0
 ·rw[uC _ (.inr (by omega))];exact cc 1 _ h.c1
 ·refine a4a.block (w:=w1) (by simpa using hm1) ?_;rw[Below.heap_setCell _ _ _ _ (show r1≠bw from λe=>h.a3 e.symm)];exact blk r1 (by omega) h.a2
 ·refine uN (by simpa using hown) (λk hk=>Below.heap_setCell _ _ _ _ ?_);simp [Value.ownBlock] at hk;show k≠bw;omega
 ·intro j hj;rcases List.mem_append.1 hj with q | q
  ·exact List.mem_append_left _ (h.sub j q)
  ·exact List.mem_append_right _ q
 ·rw[List.nodup_append];exact⟨h.nd,by simp,λa ha b hb=>by simp at hb;rw[hb];intro e;exact hm (e ▸ ha)⟩
 ·rw[List.nodup_append];exact⟨h.nds,by simp,λa ha b hb=>by simp at hb;rw[hb];intro e;exact hm (e ▸ h.sub a ha)⟩
 ·intro j hj;rcases List.mem_append.1 hj with q | q
  ·exact h.rg j q
  ·simp at q;omega
 ·exact(hg.os.trans rfl).trans hos
 ·exact(hg.tape.trans rfl).trans ht
 ·exact(hg.output.trans rfl).trans hou
 ·have:(w2.setCell ⟨bw,2,none⟩ (.slice (some ⟨g,0,none⟩) (St.length+1) cap)).heap.size=w2.heap.size:=by simp [World.setCell]
  omega
 ·rw[Below.heap_setCell _ _ _ _ (show k≠bw from h1),blk k (by omega) h3];exact hbl k h2
 ·rcases hat with e | e
  ·exact .inl e.symm
  ·exact .inr ⟨g,rfl,by omega⟩
theorem d0x(bw:Nat)(w:World):
  Calls Tryz.prog 121 #[.pointer (some ⟨bw,0,none⟩),.pointer none] w λe w'=>e=.returned (.tuple #[])/\w'=w:=by
 go_enter Tryz.func121,Tryz.ntmps121;go_wp2_with fail
 try simp only [Exit.inBlock,Exit.then]
 refine bodyPost_ret (results_none rfl _ _ _) rfl ?_;exact⟨rfl,rfl⟩
theorem c0f(base bw bv r1 bn on n i:Nat)(v:Value)(Mt St:List Nat)(w:World)(h:zV w base bw bv r1 bn on n v Mt St)(hi:i<n)(hb:base<=w.heap.size)(hn8:n<=8000):
  Calls Tryz.prog 121 #[.pointer (some ⟨bw,0,none⟩),ptr bn (on+i*2)] w λe w'=>e=.returned (.tuple #[])/\∃v' Mt' St',zV w' base bw bv r1 bn on n v' Mt' St'/\Hid ((i∈Mt/\Mt'=Mt/\St'=St)\/(¬i∈Mt/\Mt'=Mt++[i]/\St'=St++[i]))/\KFr bw r1 v v' w w':=by
 obtain⟨et,hu,hz⟩:=b1k;obtain⟨i1,hi1,_,hz1,_⟩:=info_parts b0t;obtain⟨i0,hi0,hy0,hy1,hy2⟩:=info_parts b5x;have hlen:=h.len.2;have c1:=h.c1;have c2:=h.c2;have HW:=uU h;have HU:=uU hu;have HN:=uU hi1;have HZ:=uU hz1;clear h hu hz hi1 hz1;go_enter Tryz.func121,Tryz.ntmps121;go_wp2_with fail;refine(c3k r1 bn (on+i*2) _ _ HW.m).mono ?_;rintro e w1 ⟨rfl,hq⟩;have W1:=uU (HW.ext hq);have d1:=hq.keep c1;have d2:=hq.keep c2;clear c1 c2;by_cases hm:i∈Mt
 ·have E:decide (on+i*2∈Mt.map (λi=>on+i*2))=true:=decide_eq_true (b1x.2 hm);rw[E];clear E;have K:=uU (KFr.of_ext (bw:=bw) (r1:=r1) (v:=v) hq);clear hq;go_wp2_with fail
  try simp only [Exit.inBlock,Exit.then]
  refine bodyPost_ret (results_none rfl _ _ _) rfl ?_;exact⟨rfl,v,Mt,St,W1,.inl ⟨hm,rfl,rfl⟩,K⟩
 ·have E:decide (on+i*2∈Mt.map (λi=>on+i*2))=false:=decide_eq_false (λf=>hm (b1x.1 f));rw[E];clear E;obtain⟨wU,hUp,m1,hos,ht,hou,hsz,hbl⟩:=a4a.update W1.m HU c0e HN (by rw[uH HZ];omega) (on+i*2) (λf=>hm (b1x.1 f));have K:=uU (KFr.of_ext (bw:=bw) (r1:=r1) (v:=v) hq);have dU:wU.cell? ⟨bw,2,none⟩=some v:=(World.cell?_of_block (w:=w1) (a:=⟨bw,2,none⟩) (hbl bw W1.a3)).trans d2;have OW:=uU (show wU.ownsRow base 126 1 v St.length (St.map (λi=>ptr bn (on+i*2))) from uN W1.s (λk hk=>hbl k (λe=>W1.a2 (e ▸ hk))));have AD:=uU (And.intro m1 (And.intro hos (And.intro ht (And.intro hou (And.intro hsz hbl)))));have hbU:base<=wU.heap.size:=by have:=hq.size;omega
  clear m1 hos ht hou hsz hbl hq;go_wp2_with (at_builtin;refine wpList_append_lies _ rfl _ _ 130 rfl base 126 i0 (.pointer none) 1 8 Tryz.underlying130 hi0 hy0 hy1 hy2 rfl (by decide) v St.length (St.map (λi=>ptr bn (on+i*2))) rfl (OW.alloc _) _ 1 1 [ptr bn (on+i*2)] rfl rfl ?c1 ?c2 (by decide) ?c3 ?c4 ?c5 _ rfl ?_)
  case c1=>
   intro j u hj
   match j,hj with
   | 0,hj=>simp at hj;subst hj;simp [Addr.add]
  case c2=>intro u hu;simp at hu;subst hu;rfl
  case c3=>unfold maxLen;omega
  case c4=>omega
  case c5=>simp;omega
  intro g cap w2 hown hgrow hat hglt;obtain⟨q1,q2,q3,q4⟩:=zV.add W1 hi hm AD.1 AD.2.1 AD.2.2.1 AD.2.2.2.1 AD.2.2.2.2.1 AD.2.2.2.2.2 hown hgrow (by simpa using hat);have FIN:=uU (And.intro q1 (K.trans q2));clear q1 q2 hown hgrow hat dU;go_wp2_with fail
  go_end0
  exact⟨rfl,_,Mt++[i],St++[i],FIN.1,.inr ⟨hm,rfl,rfl⟩,FIN.2⟩
theorem c6x(base bw bv r1 bn on n:Nat)(v:Value)(Mt:List Nat)(w:World)(h:zV w base bw bv r1 bn on n v Mt []):
  Calls Tryz.prog 122 #[.pointer (some ⟨bw,0,none⟩)] w λe w'=>e=.returned (.pointer none)/\w'=w:=by
 obtain⟨ad,cap,rfl⟩:∃ad cap,v=.slice ad 0 cap:=by
  rcases h.s.2 with⟨h1,_⟩ | ⟨g,cap,cur,h1,_⟩
  ·exact⟨none,0,h1⟩
  ·exact⟨_,_,h1⟩
 have c2:=h.c2;clear h;go_enter Tryz.func122,Tryz.ntmps122;go_wp2_with fail;go_ret;exact⟨rfl,rfl⟩
theorem zV.pop{g m:Nat}(h:zV w base bw bv r1 bn on n (.slice (some ⟨g,0,none⟩) (m+1) cap) Mt (St++[j]))(hm:St.length=m):
  zV (w.setCell ⟨bw,2,none⟩ (.slice (some ⟨g,0,none⟩) m cap)) base bw bv r1 bn on n (.slice (some ⟨g,0,none⟩) m cap) Mt St/\KFr bw r1 (.slice (some ⟨g,0,none⟩) (m+1) cap) (.slice (some ⟨g,0,none⟩) m cap) w (w.setCell ⟨bw,2,none⟩ (.slice (some ⟨g,0,none⟩) m cap)):=by
 have hgb:g≠bw:=λe=>h.a1 (by rw[e];rfl)
 have hs:=h.s;simp only [List.length_append,List.length_singleton,List.map_append,List.map_cons,List.map_nil,hm] at hs;have how:=ownsRow_pop (by simp [hm]) hs;refine⟨⟨?_,?_,World.cell?_setCell_same _ _ _ h.c2,by rw[World.frozen?_setCell];exact h.f2,?_,?_,h.a1,h.a2,h.a3,h.b1,h.b2,λi hi=>h.sub i (List.mem_append_left _ hi),h.nd,?_,h.rg⟩,⟨rfl,rfl,rfl,by simp [World.setCell],λk _ h1 _ _=>Below.heap_setCell _ _ _ _ (show k≠bw from h1),.inl rfl,λo u ho hc=>(uC _ (.inr (λe=>ho e.symm))).trans hc⟩⟩
 ·rw[uC _ (.inr (by omega))];exact h.c0
 ·rw[uC _ (.inr (by omega))];exact h.c1
 ·exact h.m.block (Below.heap_setCell _ _ _ _ (show r1≠bw from λe=>h.a3 e.symm))
 ·rw[hm];refine uN how (λk hk=>Below.heap_setCell _ _ _ _ ?_);simp [Value.ownBlock] at hk;show k≠bw;omega
 ·have:=h.nds;rw[List.nodup_append] at this;exact this.1
theorem c6y(base bw bv r1 bn on n j:Nat)(v:Value)(Mt St:List Nat)(w:World)(h:zV w base bw bv r1 bn on n v Mt (St++[j]))(hn8:n<=8000):
  Calls Tryz.prog 122 #[.pointer (some ⟨bw,0,none⟩)] w λe w'=>e=.returned (ptr bn (on+j*2))/\∃v',zV w' base bw bv r1 bn on n v' Mt St/\KFr bw r1 v v' w w':=by
 have hl:=h.len.2;obtain⟨m,hm⟩:∃m,St.length=m:=⟨_,rfl⟩
 obtain⟨g,cap,hv,hc⟩:∃g cap,v=.slice (some ⟨g,0,none⟩) (m+1) cap/\m+1<=cap:=by
  rcases h.s.2 with⟨_,h1⟩ | ⟨g,cap,cur,h1,_,_,hcap,_⟩
  ·simp at h1
  ·simp only [List.length_append,List.length_singleton,hm] at h1 hcap;exact⟨g,cap,h1,hcap⟩
 subst hv;have hs:=h.s;simp only [List.length_append,List.length_singleton,List.map_append,List.map_cons,List.map_nil,hm] at hs hl
 have cj:w.cell? ⟨g,m,none⟩=some (ptr bn (on+j*2)):=by
  have:=World.ownsRow.cellAt hs m (by omega);rw[this,List.getElem?_append_right (by simp [hm])];simp [hm]
 have c2:=h.c2;have f2:=h.f2;have FIN:=uU (h.pop hm);have i0:(0:Int)<=(m:Int):=by omega
 have i1:(m:Int)<(m:Int)+1:=by omega
 have i2:(m:Int)<=(cap:Int):=by omega
 clear h hs hm;go_enter Tryz.func122,Tryz.ntmps122;go_wp2_with fail;go_ret;exact⟨rfl,_,FIN.1,FIN.2⟩
def b4b(x:Hp)(y:Wd)(Mt Mt' St St':List Nat):Prop:=(y.k≠2/\Mt'=Mt/\St'=St)\/(y.k=2/\((tgt x y∈Mt/\Mt'=Mt/\St'=St)\/(¬tgt x y∈Mt/\Mt'=Mt++[tgt x y]/\St'=St++[tgt x y])))
theorem b4b.sub(h:b4b x y Mt Mt' St St'):(∀i,i∈Mt->i∈Mt')/\(∀i,i∈St->i∈St'):=by
 rcases h with⟨_,e,f⟩ | ⟨_,⟨_,e,f⟩ | ⟨_,e,f⟩⟩
 ·exact⟨λi hi=>by rw[e];exact hi,λi hi=>by rw[f];exact hi⟩
 ·exact⟨λi hi=>by rw[e];exact hi,λi hi=>by rw[f];exact hi⟩
 ·exact⟨λi hi=>by rw[e];exact List.mem_append_left _ hi,λi hi=>by rw[f];exact List.mem_append_left _ hi⟩
theorem b4b.has(h:b4b x y Mt Mt' St St')(hk:y.k=2):tgt x y∈Mt':=by
 rcases h with⟨n,_⟩ | ⟨_,⟨m,e,_⟩ | ⟨_,e,_⟩⟩
 ·exact(n hk).elim
 ·rw[e];exact m
 ·rw[e];simp
theorem b4b.new(h:b4b x y Mt Mt' St St')(hi:i∈Mt'):i∈Mt\/(y.k=2/\i=tgt x y/\i∈St'):=by
 rcases h with⟨_,e,_⟩ | ⟨k,⟨_,e,_⟩ | ⟨_,e,f⟩⟩
 ·rw[e] at hi;exact .inl hi
 ·rw[e] at hi;exact .inl hi
 ·rw[e] at hi;rcases List.mem_append.1 hi with q | q
  ·exact .inl q
  ·have:i=tgt x y:=by simpa using q
   exact .inr ⟨k,this,by rw[f,this];simp⟩
theorem b4b.weigh(h:b4b x y Mt Mt' St St'):2*Mt.length+St'.length<=2*Mt'.length+St.length/\Mt.length<=Mt'.length:=by
 rcases h with⟨_,e,f⟩ | ⟨_,⟨_,e,f⟩ | ⟨_,e,f⟩⟩
 ·rw[e,f];omega
 ·rw[e,f];omega
 ·rw[e,f];simp;omega
theorem lead_eq(x:Hp)(i:Nat):eY x i=zH x i:=rfl
theorem a8u(x:Hp)(y:Wd)(b:Nat)(w:World)(bn on:Nat)(h:FwAt w b x ac (some ⟨bn,on,none⟩) kn)(r2:R2 x)(hy:a1w x y):
  Calls Tryz.prog 123 #[.pointer (some ⟨b,0,none⟩),y.v] w λe w'=>∃t,Hid (e=.returned t)/\((y.k≠2/\t=.pointer none)\/(y.k=2/\t=ptr bn (on+tgt x y*2)))/\Ext w w':=by
 cases k2:(y.k == 2)
 ·exact(a6x y b w k2).mono λ_ _ ⟨he,hx⟩=>⟨_,he,.inl ⟨by simpa using k2,rfl⟩,hx⟩
 ·have hk:y.k=2:=by simpa using k2
  obtain⟨_,a0,a1,_,_⟩:=hy hk;obtain⟨i,hi⟩:∃i:Nat,y.a=(i:Int):=⟨y.a.toNat,by omega⟩;have:=b9k x y b i w h r2 k2 (by omega) bn on rfl;rw[<-hi] at this;exact this.mono λ_ _ ⟨he,hx⟩=>⟨_,he,.inr ⟨hk,by unfold tgt;rw[hi,lead_eq];simp⟩,hx⟩
theorem b0y(x:Hp)(y:Wd)(base bw bv r1 bn on:Nat)(t v:Value)(Mt St:List Nat)(w:World)(h:zV w base bw bv r1 bn on x.A.length v Mt St)(hy:a1w x y)(ht:(y.k≠2/\t=.pointer none)\/(y.k=2/\t=ptr bn (on+tgt x y*2)))(hb:base<=w.heap.size)(hn8:x.A.length<=8000):
  Calls Tryz.prog 121 #[.pointer (some ⟨bw,0,none⟩),t] w λe w'=>e=.returned (.tuple #[])/\∃v' Mt' St',zV w' base bw bv r1 bn on x.A.length v' Mt' St'/\Hid (b4b x y Mt Mt' St St')/\KFr bw r1 v v' w w':=by
 rcases ht with⟨k,rfl⟩ | ⟨k,rfl⟩
 ·exact(d0x bw w).mono λ_ _ ⟨he,hw⟩=>by subst hw;exact⟨he,v,Mt,St,h,.inl ⟨k,rfl,rfl⟩,KFr.of_ext (Ext.refl _)⟩
 ·exact(c0f base bw bv r1 bn on x.A.length (tgt x y) v Mt St w h (hy k).2.2.2.2.1 hb hn8).mono λ_ _ ⟨he,v',M',S',hw,ha,hk⟩=>⟨he,v',M',S',hw,.inr ⟨k,ha⟩,hk⟩
def a5w(x:Hp)(Mt:List Nat):Prop:=∀i,i∈Mt->uY x i
def b5y(x:Hp)(k:Nat)(Mt:List Nat):Prop:=∀j (h:j<x.B.length),j<k->x.B[j].k=2->tgt x x.B[j]∈Mt
theorem a5w.add(h:a5w x Mt)(a:b4b x y Mt Mt' St St')(hy:y.k=2->uY x (tgt x y)):a5w x Mt':=λi hi=>by
 rcases a.new hi with q | ⟨k,e,_⟩
 ·exact h i q
 ·rw[e];exact hy k
theorem zV.V(w:World)(bv bn on n:Nat)(t:TypeId):zV (((w.alloc (.map #[] 0)).alloc (.map #[] 0)).alloc (.cells #[.pointer (some ⟨bv,0,none⟩),.map (some w.heap.size),.slice none 0 0,.map (some (w.heap.size+1))] t)) w.heap.size (w.heap.size+2) bv w.heap.size bn on n (.slice none 0 0) [] []:=by
 have hm:(((w.alloc (.map #[] 0)).alloc (.map #[] 0)).alloc (.cells #[.pointer (some ⟨bv,0,none⟩),.map (some w.heap.size),.slice none 0 0,.map (some (w.heap.size+1))] t)).heap[w.heap.size]?=some (.map #[] 0):=by
  rw[Below.heap_alloc _ _ _ (by simp;omega),Below.heap_alloc _ _ _ (by simp)];exact heap_alloc_new w _
 refine⟨by simp [go_sem],by simp [go_sem],by simp [go_sem],by simp [go_sem],⟨#[],0,hm,by simp [b1w]⟩,World.ownsRow_nil _ _ _ _,by simp [Value.ownBlock],by simp [Value.ownBlock],by omega,by omega,Nat.le_refl _,λi hi=>hi,List.nodup_nil,List.nodup_nil,λi hi=>by cases hi⟩
theorem d0y(x:Hp)(b:Nat)(w:World)(bn on:Nat)(h:VNt w b x ar kr ac (some ⟨bn,on,none⟩) kn)(r2:R2 x)(r4:R4 x)(hn8:x.A.length<=8000):
  Calls Tryz.prog 120 #[.pointer (some ⟨b,0,none⟩)] w λe w'=>e=.returned (.pointer (some ⟨w.heap.size+2,0,none⟩))/\∃v Mt St,zV w' w.heap.size (w.heap.size+2) b w.heap.size bn on x.A.length v Mt St/\Hid (a5w x Mt/\b5y x x.B.length Mt/\∀i,i∈Mt->i∈St)/\Ext w w':=by
 have c3:=h.H.c3;have lr:=h.H.lr;have hb:b<w.heap.size:=uL c3;have HV:=uU h;have Q2:=uU r2;have Q4:=uU r4;have hmm:∀(t:TypeId) (w:World),(Instr.makeMap t none).run Tryz.prog w=.ok (.map (some w.heap.size)) (w.alloc (.map #[] 0)):=λ_ _=>rfl
 clear h r2 r4;have c4:=((((Ext.refl w).alloc (.map #[] 0)).alloc (.map #[] 0)).alloc (.cells #[.pointer (some ⟨b,0,none⟩),.map (some w.heap.size),.slice none 0 0,.map (some (w.heap.size+1))] 172)).keep c3;have S0:=uU (zV.V w b bn on x.A.length 172);go_enter Tryz.func120,Tryz.ntmps120;go_wp2_with fail;go_loopw [17] (λi wr=>∃(k:Nat) (v:Value) (Mt St:List Nat),k<=x.B.length/\i=.int .i64 k/\zV wr w.heap.size (w.heap.size+2) b w.heap.size bn on x.A.length v Mt St/\Hid (a5w x Mt/\b5y x k Mt/\∀i,i∈Mt->i∈St)/\Ext w wr) (λi _=>x.B.length-(intOf i).toNat)
 case atStart=>exact⟨0,_,[],[],Nat.zero_le _,rfl,S0,⟨(λi hi=>by cases hi),(λj _ hj=>by omega),λi hi=>hi⟩,(((Ext.refl w).alloc _).alloc _).alloc _⟩
 case round=>
  clear S0 c3 c4 hmm;obtain⟨k,v,Mt,St,hk,rfl,hw,hinv,hbl⟩:=hrel;have HW:=uU hw;clear hw;by_cases hlt:k<x.B.length
  ·have hh:=HV.ext hbl;obtain⟨b',o,rfl,p0,p1,p2⟩:=hh.H.R k hlt;have hb':b'<wr.heap.size:=uL p0;have hk0:(0:Int)<=(k:Int):=by omega
   have hk1:(k:Int)<(x.B.length:Int):=by omega
   have xa:=(Ext.refl wr).alloc (.cells #[iv x.B[k].k,iv x.B[k].n,iv x.B[k].a] 152);have MY:=uU (a7c Q2 Q4 k hlt);clear hh;go_wp2_with fail;refine(a8u x x.B[k] b _ bn on (HV.ext (hbl.trans xa)).f Q2 MY).mono ?_;rintro e w2 ⟨t,rfl,ht,hq⟩;have x2:=xa.trans hq;have HT:=uU ht;clear ht;go_wp2_with fail;refine(b0y x x.B[k] w.heap.size (w.heap.size+2) b w.heap.size bn on t v Mt St _ (HW.ext x2) MY HT (hbl.trans x2).size hn8).mono ?_;rintro e w3 ⟨rfl,v',M',S',hw3,ha,hkf⟩
   have R:=uU (show zV w3 w.heap.size (w.heap.size+2) b w.heap.size bn on x.A.length v' M' S'/\(a5w x M'/\b5y x (k+1) M'/\∀i,i∈M'->i∈S')/\Ext w w3 from
    ⟨hw3,⟨hinv.1.add ha (λe=>uY.reg k hlt e),λj hj hjk e=>by
     by_cases q:j=k
     ·subst q;exact ha.has e
     ·exact ha.sub.1 _ (hinv.2.1 j hj (by omega) e),λi hi=>by
     rcases ha.new hi with q | ⟨_,_,q⟩
     ·exact ha.sub.2 i (hinv.2.2 i q)
     ·exact q⟩,(HW.ext x2).kext hkf (hbl.trans x2)⟩)
   clear hw3 ha hkf;go_wp2_with fail;go_roundw
   case rel=>exact⟨k+1,v',M',S',by omega,by go_num,R.1,R.2.1,R.2.2⟩
   case measure=>simp [intOf];omega
  ·have hk2:k=x.B.length:=by omega
   subst hk2;go_wp2_with fail;go_ret;exact⟨rfl,v,Mt,St,HW,hinv,hbl⟩
def b7e(w:World)(g:Option Addr)(bw r1:Nat)(v:Value)(bn on:Nat)(Ls:List Nat):Prop:=∀k (h:k<Ls.length),∃gb go,g=some ⟨gb,go,none⟩/\w.cell? ⟨gb,go+k,none⟩=some (ptr bn (on+Ls[k]*2))/\gb≠bw/\gb≠r1/\v.ownBlock≠some gb
theorem b7e.ext(h:b7e w g bw r1 v bn on Ls)(e:Ext w w'):b7e w' g bw r1 v bn on Ls:=λk hk=>by
 obtain⟨gb,go,a,c,d⟩:=h k hk;exact⟨gb,go,a,e.keep c,d⟩
theorem b7e.step(h:b7e w g bw r1 v bn on Ls)(f:KFr bw r1 v v' w w'):b7e w' g bw r1 v' bn on Ls:=λk hk=>by
 obtain⟨gb,go,a,c,d1,d2,d3⟩:=h k hk;have hl:gb<w.heap.size:=uL c;refine⟨gb,go,a,(World.cell?_of_block (a:=⟨gb,go+k,none⟩) (f.block gb hl d1 d2 d3)).trans c,d1,d2,λe=>?_⟩;rcases f.own with q | ⟨y,q,hy⟩
 ·rw[q] at e;exact d3 e
 ·rw[q] at e;cases e;omega
def c0g(x:Hp)(w w':World)(g:Option Addr)(bn on:Nat)(Ls:List Nat):Prop:=(∀k (h:k<Ls.length),∃gb go,g=some ⟨gb,go,none⟩/\w'.cell? ⟨gb,go+k,none⟩=some (ptr bn (on+Ls[k]*2))/\w.heap.size<=gb)/\Ls.length<=8000/\(∀i,i∈Ls↔i<x.A.length/\cU (x.c i))
theorem c0g.at(h:c0g x w w' g bn on Ls)(k:zV w base bw bv r1 bn on x.A.length v Mt St):b7e w' g bw r1 v bn on Ls:=λi hi=>by
 obtain⟨gb,go,a,c,d⟩:=h.1 i hi;have:=k.rlt;exact⟨gb,go,a,c,by omega,by omega,λe=>by have:=(k.s.lt gb e).2;omega⟩
theorem c0h(base bw bv r1 bn on n:Nat)(v:Value)(Mt St:List Nat)(w:World)(h:zV w base bw bv r1 bn on n v Mt St)(hn8:n<=8000):
  Calls Tryz.prog 122 #[.pointer (some ⟨bw,0,none⟩)] w λe w'=>∃t v' St',Hid (e=.returned t)/\zV w' base bw bv r1 bn on n v' Mt St'/\Hid ((t=.pointer none/\St=[]/\St'=[])\/∃j,t=ptr bn (on+j*2)/\St=St'++[j])/\KFr bw r1 v v' w w':=by
 rcases St.eq_nil_or_concat with q | ⟨S,j,q⟩
 ·subst q;exact(c6x base bw bv r1 bn on n v Mt w h).mono λ_ _ ⟨he,hw⟩=>by subst hw;exact⟨_,v,[],he,h,.inl ⟨rfl,rfl,rfl⟩,KFr.of_ext (Ext.refl _)⟩
 ·rw[List.concat_eq_append] at q;subst q;exact(c6y base bw bv r1 bn on n j v Mt S w h hn8).mono λ_ _ ⟨he,v',hw,hk⟩=>⟨_,v',S,he,hw,.inr ⟨j,rfl,rfl⟩,hk⟩
def LastN(x:Hp)(Mt:List Nat):Prop:=∀i,i<x.A.length->cU (x.c i)->i∈Mt
def a3o(x:Hp)(Mt:List Nat)(i l:Nat):Prop:=∀p,p<(x.c i).F.length->p<l->(((x.c i).p p).key.k=2->tgt x ((x.c i).p p).key∈Mt)/\(((x.c i).p p).val.k=2->tgt x ((x.c i).p p).val∈Mt)
def b7f(x:Hp)(Mt:List Nat)(i:Nat):Prop:=a3o x Mt i (x.c i).F.length
theorem a3o.sub{l:Nat}(h:a3o x Mt i l)(s:∀i,i∈Mt->i∈Mt'):a3o x Mt' i l:=λp h1 h2=>⟨λe=>s _ ((h p h1 h2).1 e),λe=>s _ ((h p h1 h2).2 e)⟩
structure a7t(x:Hp)(Mt St:List Nat)(cur:Option Nat):Prop where
 only:a5w x Mt
 B:b5y x x.B.length Mt
 U:LastN x Mt
 part:∀i,i∈Mt->i∈St\/cur=some i\/b7f x Mt i
theorem a7t.done(h:a7t x Mt [] none)(i:Nat):i∈Mt↔uY x i:=by
 constructor
 ·exact h.only i
 ·intro r
  have cl:∀j,j∈Mt->b7f x Mt j:=λj hj=>by
   rcases h.part j hj with q | q | q
   ·cases q
   ·cases q
   ·exact q
  exact r (λi=>i∈Mt) (λk hk hk2=>h.B k hk hk hk2) (λi hi _ hsp=>h.U i hi hsp) (λj p ih hp hk=>(cl j ih p hp hp).1 hk) (λj p ih hp hk=>(cl j ih p hp hp).2 hk)
theorem a7t.add{cur:Option Nat}(h:a7t x Mt St cur)(a:b4b x y Mt Mt' St St')(hy:y.k=2->uY x (tgt x y)):a7t x Mt' St' cur:=
 ⟨h.only.add a hy,λj hj hjk e=>a.sub.1 _ (h.B j hj hjk e),λi hi hs=>a.sub.1 _ (h.U i hi hs),λi hi=>by
  rcases a.new hi with q | ⟨_,_,q⟩
  ·rcases h.part i q with r | r | r
   ·exact .inl (a.sub.2 i r)
   ·exact .inr (.inl r)
   ·exact .inr (.inr (r.sub a.sub.1))
  ·exact .inl q⟩
theorem a7t.shut(h:a7t x Mt St (some j))(c:b7f x Mt j):a7t x Mt St none:=
 ⟨h.only,h.B,h.U,λi hi=>by
  rcases h.part i hi with r | r | r
  ·exact .inl r
  ·cases r;exact .inr (.inr c)
  ·exact .inr (.inr r)⟩
theorem a7t.take(h:a7t x Mt (St++[j]) none):a7t x Mt St (some j):=
 ⟨h.only,h.B,h.U,λi hi=>by
  rcases h.part i hi with r | r | r
  ·rcases List.mem_append.1 r with q | q
   ·exact .inl q
   ·simp at q;exact .inr (.inl (by rw[q]))
  ·cases r
  ·exact .inr (.inr r)⟩
theorem a5w.meet(h:a5w x Mt)(hi:uY x i)(a:(i∈Mt/\Mt'=Mt/\St'=St)\/(¬i∈Mt/\Mt'=Mt++[i]/\St'=St++[i])):a5w x Mt'/\(∀j,j∈Mt->j∈Mt')/\i∈Mt'/\((∀i,i∈Mt->i∈St)->(∀i,i∈Mt'->i∈St')):=by
 rcases a with⟨m,rfl,rfl⟩ | ⟨m,rfl,rfl⟩
 ·exact⟨h,λj hj=>hj,m,λq=>q⟩
 ·refine⟨λj hj=>?_,λj hj=>List.mem_append_left _ hj,by simp,λq j hj=>?_⟩
  ·rcases List.mem_append.1 hj with q | q
   ·exact h j q
   ·simp at q;rw[q];exact hi
  ·rcases List.mem_append.1 hj with r | r
   ·exact List.mem_append_left _ (q j r)
   ·exact List.mem_append_right _ r
def Cur(x:Hp)(n:Nat)(t:Value)(bn on gk:Nat)(Mt St:List Nat):Prop:=(t=.pointer none/\St=[]/\a7t x Mt [] none)\/∃j,t=ptr bn (on+j*2)/\j∈Mt/\a7t x Mt St (some j)/\2*(n-Mt.length)+St.length+1<=gk
theorem c0i(x:Hp)(b:Nat)(w:World)(bn on:Nat)(h:VNt w b x ar kr ac (some ⟨bn,on,none⟩) kn)(r2:R2 x)(r4:R4 x)(hn8:x.A.length<=8000)(h200:∀i,i<x.A.length->(x.c i).F.length<=200)
  (hsp:∀w1,VNt w1 b x ar kr ac (some ⟨bn,on,none⟩) kn->Calls Tryz.prog 102 #[.pointer (some ⟨b,0,none⟩)] w1 λe w'=>∃(g:Option Addr) (cap:Nat) (Ls:List Nat),Hid (e=.returned (.slice g Ls.length cap))/\Hid (c0g x w1 w' g bn on Ls)/\Ext w1 w') :
  Calls Tryz.prog 71 #[.pointer (some ⟨b,0,none⟩)] w λe w'=>e=.returned (Value.map (some w.heap.size))/\∃Mt:List Nat,a4a w' w.heap.size bn (Mt.map (λi=>on+i*2))/\w.heap.size<w'.heap.size/\Hid (∀i,i∈Mt↔uY x i)/\Ext w w':=by
 have HV:=uU h;have Q2:=uU r2;have Q4:=uU r4;have SP:=uU hsp;clear h r2 r4 hsp;go_enter Tryz.func71,Tryz.ntmps71;go_wp2_with fail;refine(d0y x b _ bn on HV Q2 Q4 hn8).mono ?_;rintro e w1 ⟨rfl,v1,M1,S1,hw1,i1,x1⟩;have W1:=uU hw1;clear hw1;go_wp2_with fail;refine(SP _ (HV.ext x1)).mono ?_;rintro e w2 ⟨g,cap,Ls,rfl,hans,x12⟩;have x2:=x1.trans x12;have A0:=uU (And.intro (W1.ext x12) (hans.at W1));have hLs:Ls.length<=8000:=hans.2.1;have LI:=uU hans.2.2;clear W1 hans x12;go_wp2_with fail;go_loopw [14] (λi wr=>∃(k:Nat) (v:Value) (Mt St:List Nat),k<=Ls.length/\i=.int .i64 k/\zV wr w.heap.size (w.heap.size+2) b w.heap.size bn on x.A.length v Mt St/\Hid (a5w x Mt/\b5y x x.B.length Mt/\(∀i,i∈Mt->i∈St)/\∀j (h:j<Ls.length),j<k->Ls[j]∈Mt)/\Hid (b7e wr g (w.heap.size+2) w.heap.size v bn on Ls)/\Ext w wr) (λi _=>Ls.length-(intOf i).toNat)
 case atStart=>exact⟨0,v1,M1,S1,Nat.zero_le _,rfl,A0.1,⟨i1.1,i1.2.1,i1.2.2,λj _ hj=>by omega⟩,A0.2,x2⟩
 case round=>
  clear A0 i1 x1 x2;obtain⟨k,v,Mt,St,hk,rfl,hw,hinv,hsa,hbl⟩:=hrel;have HW:=uU hw;clear hw;by_cases hlt:k<Ls.length
  ·obtain⟨gb,go,hg,gc,g1,g2,g3⟩:=hsa k hlt;subst hg;have hk0:(0:Int)<=(k:Int):=by omega
   have hk1:(k:Int)<(Ls.length:Int):=by omega
   have HI:=uU ((LI Ls[k]).1 (List.getElem_mem hlt));clear g1 g2 g3;go_wp2_with fail;refine(c0f w.heap.size (w.heap.size+2) b w.heap.size bn on x.A.length Ls[k] v Mt St _ HW HI.1 hbl.size hn8).mono ?_;rintro e w3 ⟨rfl,v',M',S',hw3,ha,hkf⟩
   have R:=uU (show zV w3 w.heap.size (w.heap.size+2) b w.heap.size bn on x.A.length v' M' S'/\(a5w x M'/\b5y x x.B.length M'/\(∀i,i∈M'->i∈S')/\∀j (h:j<Ls.length),j<k+1->Ls[j]∈M')/\b7e w3 (some ⟨gb,go,none⟩) (w.heap.size+2) w.heap.size v' bn on Ls/\Ext w w3 from by
    have hq:=hinv.1.meet (uY.U Ls[k] HI.1 (a1b Q2 _ HI.1 HI.2) HI.2) ha;refine⟨hw3,⟨hq.1,λj hj hjk e=>hq.2.1 _ (hinv.2.1 j hj hjk e),hq.2.2.2 hinv.2.2.1,λj hj hjk=>?_⟩,hsa.step hkf,HW.kext hkf hbl⟩;by_cases q:j=k
    ·subst q;exact hq.2.2.1
    ·exact hq.2.1 _ (hinv.2.2.2 j hj (by omega)))
   clear hw3 ha hkf gc;go_wp2_with fail;go_roundw
   case rel=>exact⟨k+1,v',M',S',by omega,by go_num,R.1,R.2.1,R.2.2.1,R.2.2.2⟩
   case measure=>simp [intOf];omega
  ·have hk2:k=Ls.length:=by omega
   have I0:=uU (show a7t x Mt St none from⟨hinv.1,hinv.2.1,λi hi hs=>by
    obtain⟨j,hj,e⟩:=List.getElem_of_mem ((LI i).2 ⟨hi,hs⟩);have:=hinv.2.2.2 j hj (by omega);rw[e] at this;exact this,λi hi=>.inl (hinv.2.2.1 i hi)⟩)
   clear hinv hsa LI hk2;go_wp2_with fail;refine(c0h w.heap.size (w.heap.size+2) b w.heap.size bn on x.A.length v Mt St _ HW hn8).mono ?_;rintro e w3 ⟨t,v3,S3,rfl,hw3,ht,hkf⟩;have hle:=HW.len
   have R:=uU (show zV w3 w.heap.size (w.heap.size+2) b w.heap.size bn on x.A.length v3 Mt S3/\Cur x x.A.length t bn on (3*x.A.length+1) Mt S3/\Ext w w3 from by
    refine⟨hw3,?_,HW.kext hkf hbl⟩;rcases uH ht with⟨e,e1,e2⟩ | ⟨j,e,e1⟩
    ·have:=uH I0;rw[e1] at this;exact .inl ⟨e,e2,this⟩
    ·have hI:=uH I0;rw[e1] at hI;have hl:=hw3.len;exact .inr ⟨j,e,HW.sub j (by rw[e1];simp),hI.take,by omega⟩)
   clear hw3 ht hkf HW I0 hle hbl;go_wp2_with fail
   go_loopg [6] (3*x.A.length+1) (λgk t wr=>∃(v:Value) (Mt St:List Nat),zV wr w.heap.size (w.heap.size+2) b w.heap.size bn on x.A.length v Mt St/\Hid (Cur x x.A.length t bn on gk Mt St)/\Ext w wr)
   case atStart=>exact⟨v3,Mt,S3,R.1,R.2.1,R.2.2⟩
   case round=>
    clear R;obtain⟨v,Mt,St,hw,hcur,hbl⟩:=hrel;have HW:=uU hw;rcases uH hcur with⟨rfl,rfl,hI⟩ | ⟨j,rfl,hj,hI,hgk⟩
    ·have c1:=hw.c1;have F:=uU (And.intro hw.m (And.intro hw.rlt.2 hI.done));clear hw hcur hI;go_wp2_with fail;go_ret;exact⟨rfl,Mt,F.1,F.2.1,F.2.2,hbl⟩
    ·have hjn:j<x.A.length:=hw.rg j hj;have GD:=uU ((hI.only j hj).good Q2 Q4);have RJ:=uU (hI.only j hj);obtain⟨bc,oc,ap,kp,e1,C⟩:=HV.H.cell j hjn;obtain⟨bn',on',bc',oc',e2,e3,m0,m1'⟩:=HV.N j hjn;rw[e1] at e3;cases e2;cases e3;have p7:=hbl.keep C.p7;have m1:=hbl.keep m1';have lp:=C.lp;have h2:=h200 j hjn;have HP:=uU C.P;have I1:=uU (And.intro hI hgk);have B0:=uU hbl;obtain⟨WO,hWO⟩:∃W,W=wr:=⟨_,rfl⟩;subst hWO;clear C m0 m1' hw hcur hI hgk e1 hbl;go_wp2_with fail;go_loopw [36] (λi wi=>∃(l:Nat) (v:Value) (Mt St:List Nat),l<=(x.c j).F.length/\i=.int .i64 l/\zV wi w.heap.size (w.heap.size+2) b w.heap.size bn on x.A.length v Mt St/\Hid (a7t x Mt St (some j)/\a3o x Mt j l/\2*(x.A.length-Mt.length)+St.length+1<=gk)/\Ext w wi) (λi _=>(x.c j).F.length-(intOf i).toNat)
     case atStart=>exact⟨0,v,Mt,St,Nat.zero_le _,rfl,HW,⟨I1.1,(λp _ h=>by omega),I1.2⟩,B0⟩
     case round=>
      clear HW I1 B0 p7 m1 hj;clear v Mt St;obtain⟨l,v,Mt,St,hl,rfl,hw,hinv,hbl⟩:=hrel;have HW:=uU hw;clear hw;by_cases hl2:l<(x.c j).F.length
      ·obtain⟨b2,o2,rfl,q0,q1,q2,q3,q4,q5⟩:=uH HP l hl2;have e0:=hbl.keep q0;have e1:=hbl.keep q1;have e2:=hbl.keep q2;have e3:=hbl.keep q3;have e4:=hbl.keep q4;have e5:=hbl.keep q5;have hb2:b2<wr.heap.size:=uL e0;clear q0 q1 q2 q3 q4 q5;have hl0:(0:Int)<=(l:Int):=by omega
       have hl1:(l:Int)<((x.c j).F.length:Int):=by omega
       have xa:=(Ext.refl wr).alloc (.cells #[.int .i64 ((x.c j).p l).key.k,.int .i64 ((x.c j).p l).key.n,.int .i64 ((x.c j).p l).key.a,.int .i64 ((x.c j).p l).val.k,.int .i64 ((x.c j).p l).val.n,.int .i64 ((x.c j).p l).val.a] 154);have MK:=uU (a1u Q2 Q4 j l GD hl2);go_wp2_with fail;refine(a8u x ((x.c j).p l).key b _ bn on (HV.ext (hbl.trans xa)).f Q2 MK.1).mono ?_;rintro e w2 ⟨t2,rfl,ht2,hq2⟩;have x2:=xa.trans hq2;have HT:=uU ht2;have u:=λ(o:Nat) (v:Value) (hc:(wr.alloc (.cells #[.int .i64 ((x.c j).p l).key.k,.int .i64 ((x.c j).p l).key.n,.int .i64 ((x.c j).p l).key.a,.int .i64 ((x.c j).p l).val.k,.int .i64 ((x.c j).p l).val.n,.int .i64 ((x.c j).p l).val.a] 154)).cell? ⟨wr.heap.size,o,none⟩=some v)=>hq2.keep hc
       have u3:=u 3 _ (by simp [go_sem];rfl);have u4:=u 4 _ (by simp [go_sem];rfl);have u5:=u 5 _ (by simp [go_sem];rfl);clear u ht2 e0 e1 e2 e3 e4 e5 hq2;go_wp2_with fail;refine(b0y x ((x.c j).p l).key w.heap.size (w.heap.size+2) b w.heap.size bn on t2 v Mt St _ (HW.ext x2) MK.1 HT (hbl.trans x2).size hn8).mono ?_;rintro e w3 ⟨rfl,v3,M3,S3,hw3,ha3,hk3⟩;have hlt2:wr.heap.size<w2.heap.size:=uL u3
       have sep:wr.heap.size≠w.heap.size+2/\wr.heap.size≠w.heap.size/\v.ownBlock≠some wr.heap.size:=by
        have:=HW.rlt;exact⟨by omega,by omega,λe=>by have:=(HW.s.lt _ e).2;omega⟩
       have kb:=hk3.block wr.heap.size hlt2 sep.1 sep.2.1 sep.2.2;have y3:=(World.cell?_of_block (a:=⟨wr.heap.size,3,none⟩) kb).trans u3;have y4:=(World.cell?_of_block (a:=⟨wr.heap.size,4,none⟩) kb).trans u4;have y5:=(World.cell?_of_block (a:=⟨wr.heap.size,5,none⟩) kb).trans u5;have B3:=(HW.ext x2).kext hk3 (hbl.trans x2);have W3:=uU hw3;have A3:=uU (And.intro (hinv.1.add ha3 (λe=>uY.key j l RJ hl2 e)) (And.intro (hinv.2.1.sub ha3.sub.1) (And.intro (ha3.has) (show 2*(x.A.length-M3.length)+S3.length+1<=gk by have:=ha3.weigh;have:=hinv.2.2;have:=hw3.len;omega))));clear hw3 ha3 hk3 u3 u4 u5 kb sep hlt2 hinv HW HT x2 xa;go_wp2_with fail;refine(a8u x ((x.c j).p l).val b _ bn on (HV.ext B3).f Q2 MK.2).mono ?_;rintro e w4 ⟨t4,rfl,ht4,hq4⟩;have HT:=uU ht4;clear ht4;go_wp2_with fail;refine(b0y x ((x.c j).p l).val w.heap.size (w.heap.size+2) b w.heap.size bn on t4 v3 M3 S3 _ (W3.ext hq4) MK.2 HT (B3.trans hq4).size hn8).mono ?_;rintro e w5 ⟨rfl,v5,M5,S5,hw5,ha5,hk5⟩;have B5:=(W3.ext hq4).kext hk5 (B3.trans hq4);have W5:=uU hw5
       have A5:=uU (show a7t x M5 S5 (some j)/\a3o x M5 j (l+1)/\2*(x.A.length-M5.length)+S5.length+1<=gk from
        ⟨A3.1.add ha5 (λe=>uY.val j l RJ hl2 e),λp hp hpl=>by
         by_cases q:p=l
         ·subst q;exact⟨λe=>ha5.sub.1 _ (A3.2.2.1 e),ha5.has⟩
         ·exact(A3.2.1.sub ha5.sub.1) p hp (by omega),by have:=ha5.weigh;have:=A3.2.2.2;have:=hw5.len;omega⟩)
       clear hw5 ha5 hk5 y3 y4 y5 A3 W3 hq4 B3 HT;go_wp2_with fail;go_roundw
       case rel=>exact⟨l+1,v5,M5,S5,by omega,by go_num,W5,A5,B5⟩
       case measure=>simp [intOf];omega
      ·have hl3:l=(x.c j).F.length:=by omega
       have I2:=uU (And.intro (hinv.1.shut (by have:=hinv.2.1;rw[hl3] at this;exact this)) hinv.2.2);clear hl3 hinv;go_wp2_with fail;refine(c0h w.heap.size (w.heap.size+2) b w.heap.size bn on x.A.length v Mt St _ HW hn8).mono ?_;rintro e w3 ⟨t,v3,S3,rfl,hw3,ht,hkf⟩;obtain⟨gk',hgk⟩:∃g,gk=g+1:=⟨gk-1,by have:=I2.2;omega⟩
       have R:=uU (show zV w3 w.heap.size (w.heap.size+2) b w.heap.size bn on x.A.length v3 Mt S3/\Cur x x.A.length t bn on gk' Mt S3/\Ext w w3 from by
        refine⟨hw3,?_,HW.kext hkf hbl⟩;have hI:=uH I2;rcases uH ht with⟨e,e1,e2⟩ | ⟨j,e,e1⟩
        ·rw[e1] at hI;exact .inl ⟨e,e2,hI.1⟩
        ·have hm:j∈Mt:=HW.sub j (by rw[e1];simp);rw[e1] at hI;have hl:=hI.2;simp only [List.length_append,List.length_singleton] at hl;exact .inr ⟨j,e,hm,hI.1.take,by omega⟩)
       have G:=uU hgk;clear hw3 ht hkf HW I2 hbl hgk;go_wp2_with fail
       go_roundg gk'
       case measure=>have:=uH G;omega
       case rel=>exact⟨v3,Mt,S3,R.1,R.2.1,R.2.2⟩
end Go.Proofs.YtddkhnclmeikfaaGreat
namespace Go.Proofs.YtddkhnclmeikfaaGreat
open Go.Shelf
attribute [local go_sem ↓] Go.wp_at_zero Go.wp_at_succ
def Tryz.sortL_ren:Go.Shelf.Ren:=⟨λ| 6=>167 | 15=>225 | 14=>224 | 28=>247 | 29=>248 | 20=>239 | 21=>240 | 22=>241 | 23=>242 | 24=>243 | 25=>244 | 26=>245 | 27=>246 | 46=>255 | 47=>256 | 48=>257 | 49=>258 | 50=>259 | 57=>264 | n=>n,λ| 22=>130 | 24=>126 | 25=>198 | 3=>3 | 39=>191 | 0=>0 | 53=>249 | 55=>77 | 4=>4 | 46=>243 | 45=>242 | 50=>228 | 5=>5 | 9=>9 | 66=>252 | 70=>256 | 76=>259 | 77=>137 | n=>n,λ| n=>n⟩
theorem Tryz.sortL:Go.Proofs.SlLaysF.n6 Tryz.prog Tryz.sortL_ren:={
 mixed:=by kernel_rfl
 f6:=⟨Tryz.f167.name,by decide,Tryz.func167.trans (congrArg some (by kernel_rfl))⟩
 f14:=⟨Tryz.f224.name,by decide,Tryz.func224.trans (congrArg some (by kernel_rfl))⟩
 f15:=Tryz.func225.trans (congrArg some (by kernel_rfl))
 f20:=⟨Tryz.f239.name,by decide,Tryz.func239.trans (congrArg some (by kernel_rfl))⟩
 f21:=⟨Tryz.f240.name,by decide,Tryz.func240.trans (congrArg some (by kernel_rfl))⟩
 f22:=⟨Tryz.f241.name,by decide,Tryz.func241.trans (congrArg some (by kernel_rfl))⟩
 f23:=⟨Tryz.f242.name,by decide,Tryz.func242.trans (congrArg some (by kernel_rfl))⟩
 f24:=⟨Tryz.f243.name,by decide,Tryz.func243.trans (congrArg some (by kernel_rfl))⟩
 f25:=⟨Tryz.f244.name,by decide,Tryz.func244.trans (congrArg some (by kernel_rfl))⟩
 f26:=⟨Tryz.f245.name,by decide,Tryz.func245.trans (congrArg some (by kernel_rfl))⟩
 f27:=⟨Tryz.f246.name,by decide,Tryz.func246.trans (congrArg some (by kernel_rfl))⟩
 f28:=Tryz.func247.trans (congrArg some (by kernel_rfl))
 f29:=Tryz.func248.trans (congrArg some (by kernel_rfl))
 f46:=⟨Tryz.f255.name,by decide,Tryz.func255.trans (congrArg some (by kernel_rfl))⟩
 f47:=Tryz.func256.trans (congrArg some (by kernel_rfl))
 f48:=Tryz.func257.trans (congrArg some (by kernel_rfl))
 f49:=⟨Tryz.f258.name,by decide,Tryz.func258.trans (congrArg some (by kernel_rfl))⟩
 f50:=⟨Tryz.f259.name,by decide,Tryz.func259.trans (congrArg some (by kernel_rfl))⟩
 f57:=⟨Tryz.f264.name,by decide,Tryz.func264.trans (congrArg some (by kernel_rfl))⟩
 t0:=Tryz.underlying0
 a0:=Tryz.isAgg0
 z0:=Tryz.sizeOf0
 v0:=Tryz.zeroValue0
 t3:=Tryz.underlying3
 a3:=Tryz.isAgg3
 z3:=Tryz.sizeOf3
 v3:=Tryz.zeroValue3
 t4:=Tryz.underlying4
 a4:=Tryz.isAgg4
 z4:=Tryz.sizeOf4
 v4:=Tryz.zeroValue4
 t5:=Tryz.underlying5
 a5:=Tryz.isAgg5
 z5:=Tryz.sizeOf5
 v5:=Tryz.zeroValue5
 t9:=Tryz.underlying9
 a9:=Tryz.isAgg9
 z9:=Tryz.sizeOf9
 v9:=Tryz.zeroValue9
 t22:=Tryz.underlying130
 a22:=Tryz.isAgg130
 z22:=Tryz.sizeOf130
 v22:=Tryz.zeroValue130
 a24:=Tryz.isAgg126
 z24:=Tryz.sizeOf126
 t25:=Tryz.underlying198
 a25:=Tryz.isAgg198
 z25:=Tryz.sizeOf198
 v25:=Tryz.zeroValue198
 t39:=Tryz.underlying191
 a39:=Tryz.isAgg191
 z39:=Tryz.sizeOf191
 v39:=Tryz.zeroValue191
 t45:=Tryz.underlying242
 a45:=Tryz.isAgg242
 z45:=Tryz.sizeOf242
 v45:=Tryz.zeroValue242
 t46:=Tryz.underlying243
 a46:=Tryz.isAgg243
 z46:=Tryz.sizeOf243
 v46:=Tryz.zeroValue243
 t50:=Tryz.underlying228
 a50:=Tryz.isAgg228
 z50:=Tryz.sizeOf228
 v50:=Tryz.zeroValue228
 t53:=Tryz.underlying249
 a53:=Tryz.isAgg249
 z53:=Tryz.sizeOf249
 v53:=Tryz.zeroValue249
 t55:=Tryz.underlying77
 a55:=Tryz.isAgg77
 z55:=Tryz.sizeOf77
 v55:=Tryz.zeroValue77
 t66:=Tryz.underlying252
 a66:=Tryz.isAgg252
 z66:=Tryz.sizeOf252
 v66:=Tryz.zeroValue252
 t70:=Tryz.underlying256
 a70:=Tryz.isAgg256
 z70:=Tryz.sizeOf256
 v70:=Tryz.zeroValue256
 t76:=Tryz.underlying259
 a76:=Tryz.isAgg259
 z76:=Tryz.sizeOf259
 v76:=Tryz.zeroValue259
 t77:=Tryz.underlying137
 a77:=Tryz.isAgg137
 z77:=Tryz.sizeOf137
 v77:=Tryz.zeroValue137 }
def Tryz.cmpL_ren:Go.Shelf.Ren:=⟨λ| 5=>169 | 7=>226 | n=>n,λ| 22=>3 | 3=>3 | 4=>4 | n=>n,λ| n=>n⟩
theorem Tryz.cmpL:Go.Proofs.SlLaysC2.n5 Tryz.prog Tryz.cmpL_ren:={
 mixed:=by kernel_rfl
 f5:=⟨Tryz.f169.name,by decide,Tryz.func169.trans (congrArg some (by kernel_rfl))⟩
 f7:=⟨Tryz.f226.name,by decide,Tryz.func226.trans (congrArg some (by kernel_rfl))⟩
 t3:=Tryz.underlying3
 a3:=Tryz.isAgg3
 z3:=Tryz.sizeOf3
 v3:=Tryz.zeroValue3
 t4:=Tryz.underlying4
 a4:=Tryz.isAgg4
 z4:=Tryz.sizeOf4
 v4:=Tryz.zeroValue4
 t22:=Tryz.underlying3
 a22:=Tryz.isAgg3
 z22:=Tryz.sizeOf3
 v22:=Tryz.zeroValue3 }
end Go.Proofs.YtddkhnclmeikfaaGreat
namespace Go.Proofs.YtddkhnclmeikfaaGreat
open Go.RowKit
attribute [local go_sem ↓] Go.wp_at_zero Go.wp_at_succ
theorem c0j(x y:Int)(bn q1 q2 bc bd r1 r2:Nat)(W:World)(m1:W.cell? ⟨bn,q1+1,none⟩=some (ptr bc r1))(c1:W.cell? ⟨bc,r1+4,none⟩=some (iv x))(m2:W.cell? ⟨bn,q2+1,none⟩=some (ptr bd r2))(c2:W.cell? ⟨bd,r2+4,none⟩=some (iv y)):
  Calls Tryz.prog 168 #[ptr bn q1,ptr bn q2] W λe w'=>e=.returned (.int .i64 (Lib.compareInt x y))/\∃q,w'=W.drewN q:=by
 have hcon:=λW=>AnyG.cmp_Compare_int Tryz.cmpL x y W
 change ∀W,Calls Tryz.prog 169 _ _ _ at hcon;generalize Lib.compareInt x y=r at hcon ⊢;have HC:=uU hcon;clear hcon;go_enter Tryz.func168,Tryz.ntmps168;go_wp2_with fail;go_quiet ((go_at_call 169;exact Calls.quiet_of_same (HC _)));go_wp2_with fail;go_ret;exact⟨rfl,_,rfl⟩
end Go.Proofs.YtddkhnclmeikfaaGreat
namespace Go.Proofs.YtddkhnclmeikfaaGreat
open Go.RowKit Go.Lib Go.Sort Go.Shelf
attribute [local go_sem ↓] Go.wp_at_zero Go.wp_at_succ
variable{n i:Nat}
def clN(n i:Nat):Nat:=if i<n then i else 0
theorem b7g(h:i<n):clN n i=i:=by simp [clN,h]
theorem c2o(h:0<n):clN n i<n:=by unfold clN;split <;> omega
def c0k(bn on n i:Nat):Value:=ptr bn (on+clN n i*2)
def cfN(x:Hp)(i j:Nat):Int:=Lib.compareInt (x.c (clN x.A.length i)).born (x.c (clN x.A.length j)).born
theorem ltN(x:Hp)(i j:Nat):ltOf (cfN x) i j=decide ((x.c (clN x.A.length i)).born<(x.c (clN x.A.length j)).born):=by
 unfold ltOf cfN Lib.compareInt;by_cases h1:(x.c (clN x.A.length i)).born<(x.c (clN x.A.length j)).born
 ·simp [h1]
 ·by_cases h2:(x.c (clN x.A.length j)).born<(x.c (clN x.A.length i)).born <;> simp [h1,h2]
theorem swoN(x:Hp):SWO (ltOf (cfN x)):={
 irrefl:=λi=>by rw[ltN];simp
 trans:=λi j k h1 h2=>by rw[ltN] at *;simp at *;omega
 ntrans:=λi j k h1 h2=>by rw[ltN] at *;simp at *;omega }
theorem a8v{α:Type}[Inhabited α](enc:α->Value)(w:World)(blk off m k:Nat)(d:Array α)(os:Array Obj)(hk:k≠blk)(hks:k<w.heap.size):(sortWorld enc w blk off m d os).heap[k]?=w.heap[k]?:=by
 have hs:(putRow enc (Sort.ahead w m) blk off d).heap.size=w.heap.size:=by simp [putRow,mapBlock,Sort.ahead]
 show((putRow enc (Sort.ahead w m) blk off d).heap++os)[k]?=w.heap[k]?;rw[Array.getElem?_append_left (by omega)];show(w.heap.modify blk _)[k]?=w.heap[k]?;rw[Array.getElem?_modify,if_neg (by omega)]
theorem c2p{α:Type}[Inhabited α](enc:α->Value)(w:World)(blk off m base:Nat)(d:Array α)(os:Array Obj)(hb:base<=blk)(hbs:base<=w.heap.size):Go.RowKit.Below base w (sortWorld enc w blk off m d os):=by
 have hs:(putRow enc (Sort.ahead w m) blk off d).heap.size=w.heap.size:=by simp [putRow,mapBlock,Sort.ahead]
 refine⟨rfl,rfl,rfl,?_,λk hk=>a8v enc w blk off m k d os (by omega) (by omega)⟩;simp [sortWorld,grow,hs]
def SrtN(x:Hp)(L:List Nat):Prop:=∀i j (hi:i<L.length) (hj:j<L.length),i<j->(x.c L[i]).born<=(x.c L[j]).born
theorem c6z(x:Hp)(b base g cap:Nat)(Ls:List Nat)(w:World){ar:Option Addr}{kr:Nat}{ac:Nat->Option Addr}{kn:Nat}(bn on:Nat)(h:VNt w b x ar kr ac (some ⟨bn,on,none⟩) kn)(hbn:∀i,i<x.A.length->∃bc oc,ac i=some ⟨bc,oc,none⟩/\bc<base/\bn<base)(hL:∀i,i∈Ls->i<x.A.length)(hne:0<x.A.length)(h8:Ls.length<=8000)
  (hc:∀j (hj:j<Ls.length),w.cell? ⟨g,j,none⟩=some (ptr bn (on+Ls[j]*2))/\w.frozen? ⟨g,j,none⟩=false) (hg:base<=g) (hgs:g<w.heap.size) (hbs:base<=w.heap.size) :
  Calls Tryz.prog 167 #[.slice (some ⟨g,0,none⟩) Ls.length cap,.func (.func 168) #[] #[]] w λe w'=>e=.returned (.tuple #[])/\∃Ls',Hid (List.Perm Ls' Ls)/\Hid (∀j (hj:j<Ls'.length),w'.cell? ⟨g,j,none⟩=some (ptr bn (on+Ls'[j]*2)))/\Hid (SrtN x Ls')/\Go.RowKit.Below base w w':=by
 have eg:∀args w,(callFunc 168 args).run Tryz.prog w=.ok (.enter 168 args) w:=enters_of Tryz.func168 (by kernel_rfl) rfl
 have hH:Holds (c0k bn on x.A.length) w g 0 Ls.toArray:=λj hj=>by
  have hj':j<Ls.length:=by simpa using hj
  have:=hc j hj';rw[getElem!_pos _ j hj];simp only [Nat.zero_add,c0k,List.getElem_toArray];rw[b7g (hL _ (List.getElem_mem hj'))];exact this
 have hR:CmpReads Tryz.prog 168 #[] (c0k bn on x.A.length) (cfN x) g 0 Ls.toArray.size w:=λm os dk hdk i j=>by
  have key:∀i,∃bc oc,(sortWorld (c0k bn on x.A.length) w g 0 m dk os).cell? ⟨bn,on+clN x.A.length i*2+1,none⟩=some (ptr bc oc)/\(sortWorld (c0k bn on x.A.length) w g 0 m dk os).cell? ⟨bc,oc+4,none⟩=some (iv (x.c (clN x.A.length i)).born):=λi=>by
   obtain⟨bc,oc,e0,l1,l2⟩:=hbn _ (c2o (i:=i) hne);obtain⟨bn',on',bc',oc',a1,a2,_,a3⟩:=h.N _ (c2o (i:=i) hne);obtain⟨bc2,oc2,ap,kp,a4,C⟩:=h.H.cell _ (c2o (i:=i) hne);rw[e0] at a2 a4;cases a1;cases a2;cases a4;exact⟨bc,oc,(World.cell?_of_block (w:=w) (a:=⟨bn,_,none⟩) (a8v _ _ _ _ _ bn _ _ (by omega) (by omega))).trans a3,(World.cell?_of_block (w:=w) (a:=⟨bc,_,none⟩) (a8v _ _ _ _ _ bc _ _ (by omega) (by omega))).trans C.p4⟩
  obtain⟨bc,oc,k1,k2⟩:=key i;obtain⟨bd,od,k3,k4⟩:=key j;exact c0j _ _ bn _ _ bc bd _ _ _ k1 k2 k3 k4
 have hS:=Any.slices_SortFunc Tryz.sortL (c0k bn on x.A.length) (λ_=>rfl) (cfN x) (swoN x) 168 #[] g 0 cap Ls.toArray w eg hR.lays hH hgs (by simp;omega);change Calls Tryz.prog 167 _ _ _ at hS;refine hS.mono λe w' ⟨he,d',n,os,hp,hsd,hw⟩=>⟨he,d'.toList,?_,?_,?_,?_⟩
 ·obtain⟨q1,_,q3⟩:=hp;have e1:d'.extract 0 Ls.toArray.size=d':=by rw[<-q1];simp
  have e2:Ls.toArray.extract 0 Ls.toArray.size=Ls.toArray:=by simp
  rw[e1,e2] at q3;exact q3
 ·obtain⟨q1,_,q3⟩:=hp;have e1:d'.extract 0 Ls.toArray.size=d':=by rw[<-q1];simp
  have e2:Ls.toArray.extract 0 Ls.toArray.size=Ls.toArray:=by simp
  rw[e1,e2] at q3;intro j hj;have hj':j<d'.size:=by simpa using hj
  have:=(holds_sortWorld (c0k bn on x.A.length) w g 0 n Ls.toArray d' os hgs hH q1 j hj').1;rw[getElem!_pos _ j hj',<-hw] at this;simp only [Nat.zero_add,c0k] at this;rw[b7g (hL _ (q3.mem_iff.1 (Array.getElem_mem_toList hj')))] at this
  simpa using this
 ·obtain⟨q1,_,q3⟩:=hp;have e1:d'.extract 0 Ls.toArray.size=d':=by rw[<-q1];simp
  have e2:Ls.toArray.extract 0 Ls.toArray.size=Ls.toArray:=by simp
  rw[e1,e2] at q3;intro i j hi hj hij;have hi':i<d'.size:=by simpa using hi
  have hj':j<d'.size:=by simpa using hj
  have:=hsd i j (Nat.zero_le _) hij (by omega);rw[getElem!_pos _ i hi',getElem!_pos _ j hj',ltN,b7g (hL _ (q3.mem_iff.1 (Array.getElem_mem_toList hi'))),b7g (hL _ (q3.mem_iff.1 (Array.getElem_mem_toList hj')))] at this;simp at this
  simpa using this
 ·rw[hw];exact c2p _ _ _ _ _ _ _ _ hg hbs
end Go.Proofs.YtddkhnclmeikfaaGreat
