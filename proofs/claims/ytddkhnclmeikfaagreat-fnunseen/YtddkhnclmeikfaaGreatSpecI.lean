import Derived.Test.YtddkhnclmeikfaaGreatVn
import Derived.Test.YtddkhnclmeikfaaGreatWx
import Derived.Test.YtddkhnclmeikfaaGreatSr
import Derived.Test.YtddkhnclmeikfaaGreatSpecH4
set_option maxRecDepth 100000
set_option maxHeartbeats 4000000
namespace Go.Proofs.YtddkhnclmeikfaaGreat
open Go.RowKit Tryz
attribute [local go_sem ↓] Go.wp_at_zero Go.wp_at_succ
variable{g kr kc kg B br bc:Nat}{x:Hp}{ar ac ag:Option Addr}{pb pk role:Nat->Nat}{pa:Nat->Option Addr}{y:Wd}
theorem b4m[Inhabited uQ](y:Wd)(w:World)(h:GAt B w g x ar kr ac kc (.slice ag x.D.length kg) br bc pb pa pk role)(hy:y.k=2->0<=y.a/\y.a<x.A.length)(n2:x.A.length<=8000)(n4:x.D.length<=8000)(a:World)(ha:a.heap.size<=B)(hx:Ext a w)(hB:B<=w.heap.size):
  Calls prog 232 #[pP g,y.v] w λe w'=>e=.returned (.bool (a6x x y))/\Hid (∃ag' kg' role',GAt B w' g (a5w x y) ar kr ac kc (.slice ag' (a5w x y).D.length kg') br bc pb pa pk role')/\Ext a w'/\Hid (∀q,q<w.heap.size->q≠g->q≠bc->(∀b o n,ag=some ⟨b,o,n⟩->b≠q)->w'.heap[q]?=w.heap[q]?):=by
 obtain⟨j,f⟩:∃W,W=w.alloc (.cells #[iv y.k,iv y.n,iv y.a] 152):=⟨_,rfl⟩;have xa:Ext w j:=by rw[f];exact(Ext.refl w).alloc _
 have A:=uU (show ∀n q,q<w.heap.size->(j.drewN n).heap[q]?=w.heap[q]? from λn q t=>(xa.trans ((Ext.refl j).drewN n)).block q t);have H:=uU (h.ext xa);have aq:g<w.heap.size:=uL h.bx.1;have P:=uU (hx.trans xa);have N:=H.bx.2.2.2.2.2.1;have y0:j.cell? (aA w.heap.size 0)=some (iv y.k):=by rw[f];simp [go_sem]
 have y2:j.cell? (aA w.heap.size 2)=some (iv y.a):=by rw[f];simp [go_sem]
 have al:w.heap.size<j.heap.size:=uL y0;have Y:=uU (λn r (hr:mkB x=r)=>show Calls prog 250 #[pP g] (j.drewN n) (λe w'=>e=.returned (.bool r)/\w'=j.drewN n) from hr ▸ a9a x g (j.drewN n) (((Ext.refl j).drewN n).keep N));cases K:mkB x
 ·have E:=uU (show a6x x y=false/\a5w x y=x by simp [a5w,a6x,K]);clear h N;go_enter func232,ntmps232;go_wp2_with fail;rw[<-f];clear f;go_quiet ((go_at_call 250;exact Calls.quiet_of_same (Y _ _ K)));go_wp2_with fail;go_ret;exact⟨by rw[E.1];rfl,by rw[E.2];exact⟨_,_,_,H.ext ((Ext.refl j).drewN _)⟩,P.drewN _,λq t _ _ _=>uH A _ q t⟩
 ·cases L:(y.k == 2)
  ·have E:=uU (show a6x x y=false/\a5w x y=x by simp [a5w,a6x,L]);have af:(y.k != 2)=true:=by simpa using L
   clear h N;go_enter func232,ntmps232;go_wp2_with fail;rw[<-f];clear f;go_quiet ((go_at_call 250;exact Calls.quiet_of_same (Y _ _ K)));go_wp2_with fail;go_ret;exact⟨by rw[E.1];rfl,by rw[E.2];exact⟨_,_,_,H.ext ((Ext.refl j).drewN _)⟩,P.drewN _,λq t _ _ _=>uH A _ q t⟩
  ·have af:(y.k != 2)=false:=by simpa using L
   obtain⟨i,V⟩:∃i:Nat,y.a=(i:Int):=⟨y.a.toNat,by have:=(hy (by simpa using L)).1;omega⟩;have I:i<x.A.length:=by have:=(hy (by simpa using L)).2;omega
   have M:0<x.A.length:=by omega
   have u:y.a.toNat=i:=by omega
   rw[V] at y2;have d4:=H.bx.2.2.2.2.1;rw[H.hc M] at d4;have s5:=(H.rw.s i I).2.2.2.2.2.1;have f5:=(H.rw.nc M).1.2 (i*8+5);have an:bc<w.heap.size:=(h.rw.nc M).1.1;have i0:(0:Int)<=(i:Int):=by omega
   have i1:(i:Int)<(x.A.length:Int):=by omega
   cases Q:((x.c i).J == 0)
   ·have E:=uU (show a6x x y=false/\a5w x y=x by simp [a5w,a6x,u,Q]);have aj:((x.c i).J != 0)=true:=by simpa using Q
    clear h N V u;go_enter func232,ntmps232;go_wp2_with fail;rw[<-f];clear f;go_quiet ((go_at_call 250;exact Calls.quiet_of_same (Y _ _ K)));go_wp2_with fail;go_ret;exact⟨by rw[E.1];rfl,by rw[E.2];exact⟨_,_,_,H.ext ((Ext.refl j).drewN _)⟩,P.drewN _,λq t _ _ _=>uH A _ q t⟩
   ·have aj:((x.c i).J != 0)=false:=by simpa using Q
    have E:=uU (show a6x x y=true/\a5w x y={ x with A:=x.A.set i (tQ (x.c i)),D:=x.D++[(i:Int)] } by
     have hb:a6x x y=true:=by simp [a6x,u,K,L,Q]
     refine⟨hb,?_⟩;unfold a5w;rw[if_pos hb,u,V])
    clear h N V u;go_enter func232,ntmps232;go_wp2_with fail;rw[<-f];clear f;go_quiet ((go_at_call 250;exact Calls.quiet_of_same (Y _ _ K)));go_wp2_with fail
    go_region
    all_goals
     go_wp2_with fail;obtain⟨m,l⟩:∃W,W=(j.drewN (nq+1)).setCell (aA bc (i*8+5)) (iv 1):=⟨_,rfl⟩;have U:=uU (H.ext ((Ext.refl j).drewN (nq+1)))
     have z:=uU (show GAt B m g { x with A:=x.A.set i (tQ (x.c i)) } ar kr ac kc (.slice ag x.D.length kg) br bc pb pa pk role by
      rw[l];refine U.setc I rfl (uX.setCell (S:=λq=>q=bc) (uX.refl _ (j.drewN (nq+1))) (p:=(aA bc (i*8+5))) rfl _) ?_ (λk hk=>uC _ (.inr (by omega))) ((U.rw.nc M).1.set _ _);obtain⟨a0,a1,a2,a3,a4,a5,a6⟩:=U.rw.s i I;refine⟨?_,?_,?_,?_,?_,World.cell?_setCell_same _ _ _ a5,?_⟩
      ·rw[uC _ (.inr (by omega))];exact a0
      ·rw[uC _ (.inr (by omega))];exact a1
      ·rw[uC _ (.inr (by omega))];exact a2
      ·rw[uC _ (.inr (by omega))];exact a3
      ·rw[uC _ (.inr (by omega))];exact a4
      ·rw[uC _ (.inr (by omega))];exact a6)
     have X2:Ext a m:=by rw[l];exact(P.drewN _).setCell (show a.heap.size<=bc from Nat.le_trans ha (H.rw.nc M).2) _
     have z2:m.cell? (aA w.heap.size 2)=some (iv i):=by
      rw[l,uC _ (.inl (by omega))];exact((Ext.refl j).drewN (nq+1)).keep y2
     have c8:=z.bx.2.2.2.2.2.2.2.2.1;have f8:=z.nf.2 8;have ak:g<m.heap.size:=uL c8;have ao:B<=m.heap.size:=by have X:m.heap.size=j.heap.size:=(by rw[l];simp [World.setCell]);omega
     obtain⟨ii,ae,ab,ai,u⟩:=info_parts b4j;have G:=uU (show ∀q,q<w.heap.size->q≠bc->m.heap[q]?=w.heap[q]?/\q<m.heap.size from λq t ah=>⟨by rw[l,Below.heap_setCell _ _ _ _ ah];exact A _ q t,by have X:m.heap.size=j.heap.size:=(by rw[l];simp [World.setCell]);omega⟩);rw[<-l];clear l U;have F:=uU (show ∀W,Ext m W->Grw W B (.slice ag x.D.length kg) x.D from λW e=>z.gr.block (λq t=>e.block q (z.gr.lt q t).2));go_region_law (refine c6t _ rfl _ _ 32 rfl ii (iv 0) B (.slice ag x.D.length kg) x.D underlying32 ae ab ai u rfl (by first | rfl | simp [Act.eval,Act.put]) (by first | exact F _ ((Ext.refl m).alloc _) | exact F _ ((Ext.refl m).alloc _).drew | exact F _ ((Ext.refl m).drew.alloc _)) _ 1 i (by first | rfl | simp [Act.eval,Act.put];rfl) (by simp [go_sem]) (by omega) (by simp;omega) ?_;intro Z go D w3 C d O am;have J:=Ext.trans ((Ext.refl m).alloc (.cells #[iv i] 3)) ((Ext.refl (m.alloc (.cells #[iv i] 3))).drew);have R:=uU ((z.ext J).push d C (by simpa using O));have eb:w3.heap[g]?=m.heap[g]?:=(d.block g (by simp;omega) (λe=>by have X:=z.sp.y _ e.symm;have T:=z.sp.g;omega)).trans (J.block g ak);have e8:=(World.cell?_of_block (a:=(aA g 8)) eb).trans c8;have ap:=(World.frozen?_of_block (a:=(aA g 8)) eb).trans f8;have X3:=uU (show Ext a (w3.setCell (aA g 8) (sO Z go (x.D.length+1) D)) from(Below.trans (X2.trans J) ⟨d.os,d.tape,d.output,d.size,λk hk=>d.block k (Nat.lt_of_lt_of_le hk (X2.trans J).size) (λe=>by have:=(z.gr.lt k e.symm).1;omega)⟩).setCell (Nat.le_trans ha z.lo) _);have aa:=uU (show ∀q,q<w.heap.size->q≠g->q≠bc->(∀b o n,ag=some ⟨b,o,n⟩->b≠q)->(w3.setCell (aA g 8) (sO Z go (x.D.length+1) D)).heap[q]?=w.heap[q]? from λq t X T h3=>(Below.heap_setCell _ _ _ _ X).trans ((d.block q (by have:=(G q t T).2;simp;omega) (λe=>by cases ag with | none=>simp [Value.ownBlock] at e | some ad=>obtain⟨b,o,n⟩:=ad;simp [Value.ownBlock] at e;exact h3 b o n rfl e.symm)).trans ((J.block q (G q t T).2).trans (G q t T).1)));clear C d O eb J)
     all_goals
      go_wp2_with fail;go_ret;exact⟨by rw[E.1];rfl,by rw[E.2];exact⟨some (aA Z go),D,_,by rw[List.length_append];exact uH R⟩,X3,aa⟩
theorem a7c[Inhabited uQ](y:Wd)(w:World)(h:GAt B w g x ar kr ac kc (.slice ag x.D.length kg) br bc pb pa pk role)(f:y.k=2->0<=y.a/\y.a<x.A.length)(l:x.A.length<=8000)(j:x.D.length<=8000)(a:World)(n:a.heap.size<=B)(m:Ext a w)(i:B<=w.heap.size):
  Calls prog 232 #[pP g,y.v] w λe w'=>e=.returned (.bool (a6x x y))/\Hid (∃ag' kg' role',GAt B w' g (a5w x y) ar kr ac kc (.slice ag' (a5w x y).D.length kg') br bc pb pa pk role')/\Ext a w':=
 (b4m y w h f l j a n m i).mono λ_ _ ⟨d,c,b,_⟩=>⟨d,c,b⟩
theorem b9f(b:dQ x y)(c:y.k=2->0<=y.a):a5w x y=shadeW x y:=by grind [dQ,a5w,shadeW,a6x,eQ,whB,uD]
theorem b5p[Inhabited uQ](B g:Nat)(x:Hp)(y:Wd)(w:World)(h:GOk B w g x)(s:Snd x)(j:dQ x y)(f:y.k=2->0<=y.a)(a:World)(r:a.heap.size<=B)(q:Ext a w)(p:B<=w.heap.size):
  Calls prog 232 #[pP g,y.v] w λe w'=>e=.returned (.bool (a6x x y))/\GOk B w' g (shadeW x y)/\Ext a w':=by
 obtain⟨t,E,H,D,z,G,A,C,u,F,i,h⟩:=h;obtain⟨I,J,rfl⟩:=h.gr.form;refine(a7c y w h (λc=>⟨f c,by have:=(j c).1;have:=f c;omega⟩) s.ok.n8 (by have:=s.r1.D;have:=s.ok.n8;omega) a r q p).mono ?_;rintro e w' ⟨o,b,n⟩;obtain⟨l,m,d,b⟩:=b;rw[b9f j f] at b;exact⟨o,⟨_,_,_,_,_,_,_,_,_,_,_,b⟩,n⟩
theorem a1h[Inhabited uQ](B g:Nat)(x:Hp)(p b:Int)(w:World)(h:GOk B w g x)(a:World)(F:a.heap.size<=B)(i:Ext a w):
  Calls prog 186 #[pP g,iv p,iv b] w λe w'=>e=.returned (.tuple #[])/\GOk B w' g (cZ x p b)/\Ext a w':=by
 obtain⟨j,u,C,s,m,A,n,r,k,y,d,h⟩:=h;have H:=uU h;obtain⟨_,_,_,_,_,v,D,z,_⟩:=h.bx;have l:=h.nf.2 5;have t:=h.nf.2 6;have E:=h.nf.2 7;clear h;go_enter func186,ntmps186;go_wp2_with fail
 go_end0
 have f:=((H.bx.set5 p).set6 b).set7 0;have c:=uX.setCell (S:=λq=>q=g) (uX.setCell (S:=λq=>q=g) (uX.setCell (S:=λq=>q=g) (uX.refl _ w) (p:=(aA g 5)) rfl (iv p)) (p:=(aA g 6)) rfl (iv b)) (p:=(aA g 7)) rfl (iv 0);exact⟨rfl,⟨_,_,_,_,_,_,_,_,_,_,_,H.boxed (x':=cZ x p b) c (((H.nf.set _ _).set _ _).set _ _) rfl rfl rfl f⟩,c.ext i (λq o e=>by have:=H.lo;omega)⟩
theorem a0t(w:World)(n:Nat)(cs:Array Value)(t:TypeId)(j:Nat):((w.drewN n).alloc (.cells cs t)).cell? (aA w.heap.size j)=cs[j]?:=by
 have e:(w.drewN n).heap.size=w.heap.size:=by simp
 have:=heap_alloc_new (w.drewN n) (.cells cs t);rw[e] at this;exact cell_of_row _ w.heap.size j _ _ (0,0) this
theorem a4j(w:World)(n:Nat)(o:Obj)(b j:Nat)(h:b<w.heap.size):((w.drewN n).alloc o).cell? (aA b j)=w.cell? (aA b j):=by
 have x:=((Ext.refl w).drewN n).alloc o;exact x.cell (p:=(aA b j)) h
theorem a3y(w:World)(n:Nat)(cs:Array Value)(t:TypeId)(j:Nat):((w.drewN n).alloc (.cells cs t)).frozen? (aA w.heap.size j)=false:=by
 have e:(w.drewN n).heap.size=w.heap.size:=by simp
 have a:∀W:World,(W.alloc (.cells cs t)).frozen? (aA W.heap.size j)=false:=λW=>by simp [go_sem]
 have:=a (w.drewN n);rw[e] at this;exact this
theorem c1r[Inhabited uQ](B g:Nat)(x:Hp)(w:World)(h:GOk B w g x)(s:Snd x)(a:World)(Q:a.heap.size<=B)(I:Ext a w)(hB:B<=w.heap.size):
  Calls prog 187 #[pP g] w λe w'=>e=.returned (.tuple #[])/\GOk B w' g (dC x)/\Ext a w':=by
 obtain⟨ar,kr,ac,kc,vg,br,bc,pb,pa,pk,aa,h⟩:=h;have G:=uU (show GOk B w g x from⟨_,_,_,_,_,_,_,_,_,_,_,h⟩);have H:=uU h;have U:=h.bx.2.2.2.2.1;have X:=h.bx.2.2.2.2.2.2.1;have L:g<w.heap.size:=uL U;have lo:=h.lo;have n8:=s.ok.n8;have S:=uU s;have hh:=s.r1.I;clear h;by_cases v:x.I=x.A.length
 ·have E:=uU (show dC x=cZ x 2 0 by unfold dC;rw[if_pos v]);have z:(x.I == (x.A.length:Int))=true:=by simpa using v
  clear v;go_enter func187,ntmps187;go_wp2_with fail;go_quiet (fail);go_wp2_with fail;refine(a1h B g x 2 0 _ (G.ext ((Ext.refl w).drewN _)) a Q (I.drewN _)).mono ?_;rintro e w2 ⟨rfl,V,x2⟩;have H2:=uU V;clear V;go_wp2_with fail
  try simp only [Exit.inBlock,Exit.then]
  refine bodyPost_ret (results_none rfl _ _ _) rfl ?_;exact⟨rfl,by rw[uH E];exact uH H2,x2⟩
 ·obtain⟨i,O⟩:∃i:Nat,x.I=(i:Int):=⟨x.I.toNat,by omega⟩;have d:i<x.A.length:=by omega
  have z:(x.I == (x.A.length:Int))=false:=by simpa using v
  rw[O] at z X;have hn:0<x.A.length:=by omega
  rw[H.hc hn] at U;obtain⟨p0,p1,p2,p3,p4,p5,p6⟩:=H.rw.s i d;have p7:=H.rw.p7 i d;have ab:bc<w.heap.size:=uL p0;have Z:(0:Int)<=(i:Int):=by omega
  have i1:(i:Int)<(x.A.length:Int):=by omega
  have T:x.I.toNat=i:=by omega
  have K:=uU (show dC x={ (if yZ (x.c i)=true then uD x i else x) with I:=x.I+1 } by unfold dC;rw[if_neg v,T]);have u:=uU O;have R:=λn j=>a0t w n #[iv 0,iv 0,iv 0,iv 0,iv 0,iv 0,iv 0,.slice none 0 0] 62 j
  have zf:=λn j=>a3y w n #[iv 0,iv 0,iv 0,iv 0,iv 0,iv 0,iv 0,.slice none 0 0] 62 j
  have zo:=λn o b j (h:b<w.heap.size)=>a4j w n o b j h
  clear v O T hh;go_enter func187,ntmps187;go_wp2_with fail;go_quiet (fail);go_wp2_with fail
  go_region
  all_goals
   obtain⟨M,l⟩:∃W,W=(((((((((w.drewN (nq+1)).alloc (.cells #[iv 0,iv 0,iv 0,iv 0,iv 0,iv 0,iv 0,.slice none 0 0] 62)).setCell (aA w.heap.size 0) (iv (x.c i).st)).setCell (aA w.heap.size 1) (iv (x.c i).kind)).setCell (aA w.heap.size 2) (iv (x.c i).T)).setCell (aA w.heap.size 3) (iv (x.c i).U)).setCell (aA w.heap.size 4) (iv (x.c i).born)).setCell (aA w.heap.size 5) (iv (x.c i).J)).setCell (aA w.heap.size 6) (iv (x.c i).to)).setCell (aA w.heap.size 7) (.slice (pa i) (x.c i).F.length (pk i)):=⟨_,rfl⟩
   have k:Ext w M:=by
    rw[l];exact(((((((((Ext.refl w).drewN (nq+1)).alloc _).setCell (Nat.le_refl _) _).setCell (Nat.le_refl _) _).setCell (Nat.le_refl _) _).setCell (Nat.le_refl _) _).setCell (Nat.le_refl _) _).setCell (Nat.le_refl _) _).setCell (Nat.le_refl _) _ |>.setCell (Nat.le_refl _) _
   have l3:M.cell? (aA w.heap.size 3)=some (iv (x.c i).U):=by
    rw[l,uC _ (.inr (by omega)),uC _ (.inr (by omega)),uC _ (.inr (by omega)),uC _ (.inr (by omega))];exact World.cell?_setCell_same _ _ _ (by rw[uC _ (.inr (by omega)),uC _ (.inr (by omega)),uC _ (.inr (by omega)),R];rfl)
   rw[<-l];clear l R zf zo;have d6:=k.keep X;have f6:M.frozen? (aA g 6)=false:=((uK k).2 g 6 L).trans (H.nf.2 6);cases Y:((x.c i).U == 1)
   ·cases l2:((x.c i).U == 2)
    ·have y:=uU (show dC x={ x with I:=x.I+1 } by rw[uH K,if_neg (by simp [yZ,Y,l2])]);have r:=uU ((G.ext k).set6 (x.I+1));have m:=uU ((I.trans k).setCell (p:=(aA g 6)) (show a.heap.size<=g by omega) (iv (x.I+1)));rw[uH u] at r m y;go_wp2_with fail
     go_end0
     exact⟨rfl,by rw[uH y];exact uH r,m⟩
    ·
     have F:=uU (show yZ (x.c i)=true by simp [yZ,l2])
     have J:=uU (show dQ x ⟨2,0,i⟩ from λ_=>⟨by simpa using d,by
      have f:=(a7o _).1 F;have e:((i:Int)).toNat=i:=by omega
      show(x.c ((i:Int)).toNat).st=1;rw[e];rcases S.r2.1 i d with⟨_,b,_⟩ | ⟨_,b⟩ | ⟨a,_⟩
      ·have:=b.2.2.1;rcases f with q | q <;> omega
      ·have:=b.1.2.2.1;rcases f with q | q <;> omega
      ·exact a⟩)
     go_wp2_with fail;refine(b5p B g x ⟨2,0,i⟩ _ (G.ext k) S J (λ_=>Z) a Q (I.trans k) (Nat.le_trans hB k.size)).mono ?_;rintro e N ⟨rfl,t,D⟩;have r:=uU (t.set6 (x.I+1));have m:=uU (D.setCell (p:=(aA g 6)) (show a.heap.size<=g by omega) (iv (x.I+1)));obtain⟨C,_,_,A,_,eg⟩:=t.box;have e6:N.cell? (aA g 6)=some (iv i):=by rw[C,(a0b x _).2.2.2.1,uH u]
     have P:=A 6;rw[uH u] at r m
     have y:=uU (show dC x={ shadeW x ⟨2,0,i⟩ with I:=(i:Int)+1 } by
      rw[uH K,if_pos (uH F),uH u];have:shadeW x ⟨2,0,i⟩=uD x i:=by unfold shadeW;simp
      rw[this])
     clear t D A C;go_wp2_with fail
     go_end0
     exact⟨rfl,by rw[uH y];exact uH r,m⟩
   ·
    have F:=uU (show yZ (x.c i)=true by simp [yZ,Y])
    have J:=uU (show dQ x ⟨2,0,i⟩ from λ_=>⟨by simpa using d,by
     have f:=(a7o _).1 F;have e:((i:Int)).toNat=i:=by omega
     show(x.c ((i:Int)).toNat).st=1;rw[e];rcases S.r2.1 i d with⟨_,b,_⟩ | ⟨_,b⟩ | ⟨a,_⟩
     ·have:=b.2.2.1;rcases f with q | q <;> omega
     ·have:=b.1.2.2.1;rcases f with q | q <;> omega
     ·exact a⟩)
    go_wp2_with fail;refine(b5p B g x ⟨2,0,i⟩ _ (G.ext k) S J (λ_=>Z) a Q (I.trans k) (Nat.le_trans hB k.size)).mono ?_;rintro e N ⟨rfl,t,D⟩;have r:=uU (t.set6 (x.I+1));have m:=uU (D.setCell (p:=(aA g 6)) (show a.heap.size<=g by omega) (iv (x.I+1)));obtain⟨C,_,_,A,_,eg⟩:=t.box;have e6:N.cell? (aA g 6)=some (iv i):=by rw[C,(a0b x _).2.2.2.1,uH u]
    have P:=A 6;rw[uH u] at r m
    have y:=uU (show dC x={ shadeW x ⟨2,0,i⟩ with I:=(i:Int)+1 } by
     rw[uH K,if_pos (uH F),uH u];have:shadeW x ⟨2,0,i⟩=uD x i:=by unfold shadeW;simp
     rw[this])
    clear t D A C;go_wp2_with fail
    go_end0
    exact⟨rfl,by rw[uH y];exact uH r,m⟩
theorem infoInt:(prog.info? 3).map (λi=>(i.zero,i.size,i.bytes))=some (some (iv 0),1,8):=by kernel_rfl
theorem c7d{w w1:World}{base bq oq cap:Nat}{v:Value}{L:List Int}{x:Int}{o:Obj}(h:dW w base bq oq v L)
  (f:w1.ownsRow base 3 1 (sS g (L.length+1) cap) (L.length+1) (L.map iv++[iv x])) (i:(w.alloc o).grownBy w1 v.ownBlock) (d:v.ownBlock=some g\/g=w.heap.size+1) :
  dW (w1.setCell (aA bq oq) (sS g (L.length+1) cap)) base bq oq (sS g (L.length+1) cap) (L++[x])/\
  QFr bq oq v (sS g (L.length+1) cap) w (w1.setCell (aA bq oq) (sS g (L.length+1) cap))/\w1.cell? (aA bq oq)=some v/\w1.frozen? (aA bq oq)=false:=by
 have l:=h.hlt
 have m:g≠bq:=by
  rcases d with e | e
  ·intro q;exact h.apart (q ▸ e)
  ·omega
 have u:w.heap.size+1<=w1.heap.size:=by have:=i.size;simpa using this
 have p:∀k,k<w.heap.size->v.ownBlock≠some k->w1.heap[k]?=w.heap[k]?:=λk c s=>
  (i.block k (by simp;omega) (λe=>s e.symm)).trans (Below.heap_alloc w o k c)
 have b:w1.heap[bq]?=w.heap[bq]?:=p bq l h.apart;have r:w1.cell? (aA bq oq)=some v:=(World.cell?_of_block (a:=(aA bq oq)) b).trans h.hd;have n:w1.frozen? (aA bq oq)=false:=(World.frozen?_of_block (a:=(aA bq oq)) b).trans h.hf;refine⟨⟨World.cell?_setCell_same _ _ _ r,by rw[World.frozen?_setCell];exact n,?_,λe=>m (by simpa [Value.ownBlock] using e)⟩,⟨?_,?_,?_,?_,λk c y t=>?_,λj z=>?_,λj=>?_,?_⟩,r,n⟩
 ·refine uN (by simpa using f) (λk c=>Below.heap_setCell _ _ _ _ ?_);simp [Value.ownBlock] at c;show k≠bq;omega
 ·exact i.os
 ·exact i.tape
 ·exact i.output
 ·have:(w1.setCell (aA bq oq) (sS g (L.length+1) cap)).heap.size=w1.heap.size:=by simp [World.setCell]
  omega
 ·rw[Below.heap_setCell _ _ _ _ (show k≠bq from y)];exact p k c t
 ·rw[uC _ (.inr (λe=>z e.symm))];exact World.cell?_of_block (a:=(aA bq j)) b
 ·rw[World.frozen?_setCell];exact World.frozen?_of_block (a:=(aA bq j)) b
 ·rcases d with e | e
  ·exact .inl e.symm
  ·exact .inr ⟨g,rfl,by omega⟩
theorem b4w(w:World)(base m n:Nat)(v:Value)(L:List Int)(x:Int)(h:dW w base m n v L)(hb:base<=w.heap.size)(ho:Ho L)(hn:L.length<=1000000000):
  Calls prog 107 #[pQ m n,iv x] w λe w'=>e=.returned (.tuple #[])/\∃v' L',dW w' base m n v' L'/\Ho L'/\L'.Perm (x::L)/\QFr m n v v' w w':=by
 obtain⟨i0,hi,O,E,J⟩:=info_parts infoInt;have T:=h.hd;have hf:=h.hf;have ab:=h.hlt;have HL:=uU h;have S:=uU (yW.V ho x);clear h ho;go_enter func107,ntmps107;go_wp2_with (at_builtin;refine wpList_append_lies _ rfl _ _ 32 rfl base 3 i0 (iv 0) 1 8 underlying32 hi O E J rfl (by decide) v L.length (L.map iv) rfl (HL.own.alloc _) (aA w.heap.size 0) 1 1 [iv x] rfl rfl ?c1 ?c2 (by decide) ?c3 ?c4 ?c5 (w.heap.size+1) (by simp) ?_)
 case c1=>
  intro j u t
  match j,t with
  | 0,t=>simp at t;subst t;simp [Addr.add]
 case c2=>intro u r;simp at r;subst r;rfl
 case c3=>unfold maxLen;omega
 case c4=>omega
 case c5=>simp;omega
 intro g f w1 d c p aa;obtain⟨P1,X,P3,P4⟩:=c7d HL d c p;have U:=uU P1;have Z:=uU X;clear d c p P1 X T hf;go_wp2_with fail;go_loopw [4] (λK wr=>∃(a:Nat) (M:List Int),a<M.length/\K=iv a/\M.length=L.length+1/\dW wr base m n (sS g (L.length+1) f) M/\yW M a/\M.Perm (x::L)/\QFr m n v (sS g (L.length+1) f) w wr) (λK _=>(intOf K).toNat)
 case atStart=>exact⟨L.length,L++[x],by simp,by go_num,by simp,U,S,List.perm_append_singleton _ _,Z⟩
 case round=>
  clear S HL P3 P4 U Z;obtain⟨a,M,F,rfl,hM,b,N,D,B⟩:=hrel;have l:=uU b;have P:=uU N;have I:=uU D;have G:=uU B;have T:=b.hd;obtain⟨H,k⟩:∃z,it M a=z:=⟨_,rfl⟩;have ca:=b.cell a F;rw[k] at ca;by_cases h0:0<a
  ·obtain⟨u,r⟩:∃u,u=(a-1) / 2:=⟨_,rfl⟩;have o:u<M.length:=by omega
   obtain⟨y,i⟩:∃z,it M u=z:=⟨_,rfl⟩;have cu:=b.cell u o;rw[i] at cu
   have ad:((a:Int)-1).tdiv 2=(u:Int):=by
    rw[Int.tdiv_eq_ediv_of_nonneg (by omega)];omega
   have i0:(0:Int)<(a:Int):=by omega
   have i1:(0:Int)<=(a:Int):=by omega
   have i2:(a:Int)<(L.length:Int)+1:=by omega
   have i3:(0:Int)<=(u:Int):=by omega
   have i4:(u:Int)<(L.length:Int)+1:=by omega
   have ac:u<a:=by omega
   have W:=uU r;clear b N D B r;by_cases A:y<=H
   ·have Y:=uU (yW.done P (by rw[<-uH W,i,k];exact A));go_wp2_with fail;go_quiet (fail);go_wp2_with fail
    try simp only [Exit.inBlock,Exit.then]
    refine bodyPost_ret (results_none rfl _ _ _) rfl ?_;exact⟨rfl,_,M,l.ext ((Ext.refl _).drewN _),Y,I,G.drewN _⟩
   ·have ae:decide (y<=H)=false:=decide_eq_false A;have q:H<y:=by omega
    have R2:=uU (yW.up P h0 F W (by rw[i,k];exact q));clear A q;go_wp2_with fail;go_quiet (fail);go_wp2_with fail;refine(c5t _ base m n g (L.length+1) f u a M (l.ext ((Ext.refl _).drewN _)) (by omega) (by omega)).mono ?_;rintro e w2 ⟨rfl,s,V⟩;have Q:=uU s;have R:=uU ((G.drewN _).trans V);clear s V;go_wp2_with fail;go_roundw
    case rel=>exact⟨u,swp M u a,by rw[a0v];omega,by go_num,by rw[a0v];omega,Q,R2,(a4c M u a o F).trans I,R⟩
    case measure=>simp [intOf];omega
  ·have C:a=0:=by omega
   subst C;have Y:=uU (yW.top P);clear b N D B;go_wp2_with fail
   go_end0
   exact⟨rfl,_,M,l,Y,I,G⟩
theorem a2i{n:Nat}(h:uW y n)(e:y.k=2):0<=y.a/\y.a<n:=by grind [uW]
theorem c6v(x:Hp)(b:Nat)(w:World)(h:HAt w b x ar kr ac kc ag kg)(fo:∀i,i<x.A.length->∀k,k<(x.c i).F.length->uW ((x.c i).p k).key x.A.length/\uW ((x.c i).p k).val x.A.length)(r6:R6 x)(r1:R1 x)(Q:(x.E == 1)=true):
  Calls prog 132 #[pP b] w λe w'=>∃r:Bool,e=.returned (.bool r)/\(r=true↔R7 x)/\Ext w w':=by
 have O:x.E=1:=by simpa using Q
 have MK:=uU (show uY x from Or.inl O);have n:=uU O;have ah:(x.E != 1)=false:=by simpa using Q
 have q2:(x.E == 2)=false:=by simp at Q ⊢;omega
 have c4:=h.c4;have c5:=h.c5;have lc:=h.lc;have lg:=h.lg;have ad:=r1.sub.1;have T:=uU fo;have ab:=uU r6;go_enter func132,ntmps132;go_wp2_with fail;go_loopw [25] (λi wr=>∃k:Nat,k<=x.A.length/\i=iv k/\(∀j,j<k->¬(hQ (x.c j)/\(x.c j).J=0/\(x.E=2\/(j:Int)<x.I))/\∀l,l<hD x j->¬hY x ((x.c j).p l).key/\¬hY x ((x.c j).p l).val)/\Ext w wr) (λi _=>x.A.length-(intOf i).toNat)
 case atStart=>exact⟨0,Nat.zero_le _,rfl,λj h=>by omega,Ext.refl _⟩
 case round=>
  obtain⟨k,hk,rfl,u,A⟩:=hrel;have HA:=uU u;by_cases t:k<x.A.length
  ·have y:=h.ext A;obtain⟨b',o,F,C,rfl,p0,p1,p2,p3,p4,p5,p6,p7,lp,P⟩:=y.cell k t;have HP:=uU P;have FO:=uU (T k t);have e5:=y.c5;have e6:=y.c6;have e7:=y.c7;have e8:=y.c8;have al:b'<wr.heap.size:=uL p0;have D:b<wr.heap.size:=uL e8;have aj:(0:Int)<=(k:Int):=by omega
   have ae:(k:Int)<(x.A.length:Int):=by omega
   have a:=A.alloc (.cells #[iv (x.c k).st,iv (x.c k).kind,iv (x.c k).T,iv (x.c k).U,iv (x.c k).born,iv (x.c k).J,iv (x.c k).to,.slice F (x.c k).F.length C] 62);have L:=(Ext.refl wr).alloc (.cells #[iv (x.c k).st,iv (x.c k).kind,iv (x.c k).T,iv (x.c k).U,iv (x.c k).born,iv (x.c k).J,iv (x.c k).to,.slice F (x.c k).F.length C] 62);cases d0:((x.c k).J == 0)
   ·have Z:=uU (show(x.c k).J≠0 by simpa using d0)
    have M:=uU (show(∀l,l<hD x k->¬hY x ((x.c k).p l).key/\¬hY x ((x.c k).p l).val)->Hid (∀j,j<k+1->¬(hQ (x.c j)/\(x.c j).J=0/\(x.E=2\/(j:Int)<x.I))/\∀l,l<hD x j->¬hY x ((x.c j).p l).key/\¬hY x ((x.c j).p l).val) from λU j hj=>by
     by_cases e:j=k
     ·subst e;exact⟨λD=>uH Z D.2.1,U⟩
     ·exact HA j (by omega))
    rcases (show((x.c k).U == 1)=true\/(((x.c k).U == 1)=false/\((x.c k).U == 2)=true)\/(((x.c k).U == 1)=false/\((x.c k).U == 2)=false) by cases ((x.c k).U == 1) <;> cases ((x.c k).U == 2) <;> simp) with N | ⟨N,R⟩ | ⟨N,R⟩
    all_goals
     cases H:((x.c k).J == 2)
     ·skip
      have s:=uU (show hD x k=0 by have I:=uH n;have G:¬(x.c k).J=2:=(by simpa using H);simp [hD,I,G]);go_wp2_with fail;go_loopw [7] (λi d=>i=iv 0/\d=wr.alloc (.cells #[iv (x.c k).st,iv (x.c k).kind,iv (x.c k).T,iv (x.c k).U,iv (x.c k).born,iv (x.c k).J,iv (x.c k).to,.slice F (x.c k).F.length C] 62)) (λ_ _=>0)
      case atStart=>exact⟨rfl,rfl⟩
      case round=>
       obtain⟨rfl,rfl⟩:=hrel;have S:=uH M (λl E=>by rw[uH s] at E;omega);go_wp2;go_roundw
       case rel=>exact⟨k+1,by omega,by go_num,S,a⟩
       case measure=>simp [intOf];omega
     ·have s:=uU (show hD x k=(x.c k).F.length by simp at H;simp [hD,H]);go_wp2_with fail;obtain⟨WO,X⟩:∃W:World,W=wr:=⟨_,rfl⟩;subst X;go_loopw [7] (λi d=>∃l:Nat,l<=(x.c k).F.length/\i=iv l/\(∀j,j<l->¬hY x ((x.c k).p j).key/\¬hY x ((x.c k).p j).val)/\Ext w d/\Ext (WO.alloc (.cells #[iv (x.c k).st,iv (x.c k).kind,iv (x.c k).T,iv (x.c k).U,iv (x.c k).born,iv (x.c k).J,iv (x.c k).to,.slice F (x.c k).F.length C] 62)) d) (λi _=>(x.c k).F.length-(intOf i).toNat)
      case atStart=>exact⟨0,Nat.zero_le _,rfl,λj h=>by omega,a,Ext.refl _⟩
      case round=>
       obtain⟨l,E,rfl,u,J,g⟩:=hrel;have HB:=uU u;by_cases af:l<(x.c k).F.length
       ·obtain⟨b2,o2,rfl,q0,Q,q2,q3,q4,q5⟩:=uH HP l (by omega);have g0:=(Ext.trans L g).keep q0;have g1:=(Ext.trans L g).keep Q;have g2:=(Ext.trans L g).keep q2;have g3:=(Ext.trans L g).keep q3;have g4:=(Ext.trans L g).keep q4;have g5:=(Ext.trans L g).keep q5;have f7:=g.keep (b:=WO.heap.size) (o:=7) (v:=sO b2 o2 (x.c k).F.length C) (by simp [go_sem]);have ai:(0:Int)<=(l:Int):=by omega
        have ak:(l:Int)<((x.c k).F.length:Int):=by omega
        have K1:=uU (FO l (by omega));go_wp2_with fail;refine(a1g x b ((x.c k).p l).key _ (h.ext J) (λe=>a2i K1.1 e)).mono ?_;rintro e w3 ⟨rfl,m⟩;have u7:=m.keep f7;have u3:=m.keep g3;have u4:=m.keep g4;have u5:=m.keep g5;have K:Ext w w3:=J.trans m;cases tk:a2d x ((x.c k).p l).key
        ·go_wp2_with fail;refine(a1g x b ((x.c k).p l).val _ (h.ext K) (λe=>a2i K1.2 e)).mono ?_;rintro e w4 ⟨rfl,B⟩;cases tv:a2d x ((x.c k).p l).val
         ·have S:=uU (show ∀j,j<l+1->¬hY x ((x.c k).p j).key/\¬hY x ((x.c k).p j).val from λj hj=>by
           by_cases e:j=l
           ·subst e;exact⟨λy=>by rw[<-a0c,tk] at y;simp at y,λy=>by rw[<-a0c,tv] at y;simp at y⟩
           ·exact HB j (by omega))
          go_wp2;go_roundw
          case rel=>exact⟨l+1,by omega,by go_num,S,K.trans B,Ext.trans (Ext.trans g m) B⟩
          case measure=>simp [intOf];omega
         ·have z:=uU (show ¬R7 x from λr=>((r MK k t).2 l (by rw[uH s];omega)).2 (a0c.1 tv));go_wp2;go_ret
          first | (exact Or.inl ⟨rfl,z,K.trans B⟩) | (exact⟨false,rfl,⟨λf=>by simp at f,λr=>(z r).elim⟩,K.trans B⟩)
        ·have z:=uU (show ¬R7 x from λr=>((r MK k t).2 l (by rw[uH s];omega)).1 (a0c.1 tk));go_wp2;go_ret
         first | (exact Or.inl ⟨rfl,z,K⟩) | (exact⟨false,rfl,⟨λf=>by simp at f,λr=>(z r).elim⟩,K⟩)
       ·have S:=uH M (λl' aa=>uH HB l' (by rw[uH s] at aa;omega));go_wp2;go_roundw
        case rel=>exact⟨k+1,by omega,by go_num,S,J⟩
        case measure=>simp [intOf];omega
   ·have Z:=uU (show(x.c k).J=0 by simpa using d0);have H:((x.c k).J == 2)=false:=by simp at d0 ⊢;omega
    by_cases q:hQ (x.c k)/\(k:Int)<x.I
    ·have z:=uU (show ¬R7 x from λr=>(r MK k t).1 ⟨q.1,Z,Or.inr q.2⟩);have bh:=q.2;cases N:((x.c k).U == 1)
     ·have R:((x.c k).U == 2)=true:=by have:=q.1;unfold hQ at this;simp at N ⊢;omega
      go_wp2;go_ret
      first | (exact Or.inl ⟨rfl,z,a⟩) | (exact⟨false,rfl,⟨λf=>by simp at f,λr=>(z r).elim⟩,a⟩)
     ·go_wp2;go_ret
      first | (exact Or.inl ⟨rfl,z,a⟩) | (exact⟨false,rfl,⟨λf=>by simp at f,λr=>(z r).elim⟩,a⟩)
    ·have V:=uU q
     have M:=uU (show(∀l,l<hD x k->¬hY x ((x.c k).p l).key/\¬hY x ((x.c k).p l).val)->Hid (∀j,j<k+1->¬(hQ (x.c j)/\(x.c j).J=0/\(x.E=2\/(j:Int)<x.I))/\∀l,l<hD x j->¬hY x ((x.c j).p l).key/\¬hY x ((x.c j).p l).val) from λU j hj=>by
      by_cases e:j=k
      ·subst e;exact⟨λD=>uH V ⟨D.1,by have:=uH n;omega⟩,U⟩
      ·exact HA j (by omega))
     cases N:((x.c k).U == 1)
     ·cases R:((x.c k).U == 2)
      ·skip
       have s:=uU (show hD x k=0 by have I:=uH n;have G:¬(x.c k).J=2:=(by simpa using H);simp [hD,I,G]);go_wp2_with fail;go_loopw [7] (λi d=>i=iv 0/\d=wr.alloc (.cells #[iv (x.c k).st,iv (x.c k).kind,iv (x.c k).T,iv (x.c k).U,iv (x.c k).born,iv (x.c k).J,iv (x.c k).to,.slice F (x.c k).F.length C] 62)) (λ_ _=>0)
       case atStart=>exact⟨rfl,rfl⟩
       case round=>
        obtain⟨rfl,rfl⟩:=hrel;have S:=uH M (λl E=>by rw[uH s] at E;omega);go_wp2;go_roundw
        case rel=>exact⟨k+1,by omega,by go_num,S,a⟩
        case measure=>simp [intOf];omega
      ·have nh:¬(k:Int)<x.I:=λD=>uH V ⟨Or.inr (by simpa using R),D⟩
       have s:=uU (show hD x k=0 by have I:=uH n;have G:¬(x.c k).J=2:=(by simpa using H);simp [hD,I,G]);go_wp2_with fail;go_loopw [7] (λi d=>i=iv 0/\d=wr.alloc (.cells #[iv (x.c k).st,iv (x.c k).kind,iv (x.c k).T,iv (x.c k).U,iv (x.c k).born,iv (x.c k).J,iv (x.c k).to,.slice F (x.c k).F.length C] 62)) (λ_ _=>0)
       case atStart=>exact⟨rfl,rfl⟩
       case round=>
        obtain⟨rfl,rfl⟩:=hrel;have S:=uH M (λl E=>by rw[uH s] at E;omega);go_wp2;go_roundw
        case rel=>exact⟨k+1,by omega,by go_num,S,a⟩
        case measure=>simp [intOf];omega
     ·have nh:¬(k:Int)<x.I:=λD=>uH V ⟨Or.inl (by simpa using N),D⟩
      have s:=uU (show hD x k=0 by have I:=uH n;have G:¬(x.c k).J=2:=(by simpa using H);simp [hD,I,G]);go_wp2_with fail;go_loopw [7] (λi d=>i=iv 0/\d=wr.alloc (.cells #[iv (x.c k).st,iv (x.c k).kind,iv (x.c k).T,iv (x.c k).U,iv (x.c k).born,iv (x.c k).J,iv (x.c k).to,.slice F (x.c k).F.length C] 62)) (λ_ _=>0)
      case atStart=>exact⟨rfl,rfl⟩
      case round=>
       obtain⟨rfl,rfl⟩:=hrel;have S:=uH M (λl E=>by rw[uH s] at E;omega);go_wp2;go_roundw
       case rel=>exact⟨k+1,by omega,by go_num,S,a⟩
       case measure=>simp [intOf];omega
  ·have Y:=uU (show R7 x from λ_ i hi=>uH HA i (by omega));go_wp2;go_ret
   first | (exact Or.inr ⟨rfl,Y,A⟩) | (exact⟨true,rfl,⟨λ_=>uH Y,λ_=>rfl⟩,A⟩)
end Go.Proofs.YtddkhnclmeikfaaGreat
