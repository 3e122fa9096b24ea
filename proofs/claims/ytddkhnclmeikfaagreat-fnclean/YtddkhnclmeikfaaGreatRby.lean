import Derived.Test.YtddkhnclmeikfaaGreatMp
import Derived.Carry
import Derived.ChangeSlices
import Derived.Laws.Bits64b
import Derived.OpenShut
import Derived.ProofKit
set_option maxRecDepth 100000
set_option maxHeartbeats 4000000
namespace Go.Proofs.YtddkhnclmeikfaaGreat
open Go.RowKit
attribute [local go_sem ↓] Go.wp_at_zero Go.wp_at_succ
variable{w v w':World}{B g c m b k lf q kr kc kg:Nat}{x y:Hp}{L:List Ak}{va:Value}{S T:Nat->Prop}{ar ac ag:Option Addr}
def Cu(v w:World)(c m:Nat):Prop:=Ext v w/\v.heap.size<=c/\Nf1 c w/\∃(ad:Option Addr) (n k:Nat) (a s:Int),w.cell? ⟨c,0,none⟩=some (.slice ad n k)/\w.cell? ⟨c,1,none⟩=some (iv a)/\w.cell? ⟨c,2,none⟩=some (.int .u64 s)/\0<=a/\a<=m/\n<=1048576/\∀i,i<n->∃b o z,ad=some ⟨b,o,none⟩/\v.cell? ⟨b,o+i,none⟩=some (.int .u8 z)/\0<=z/\z<256
theorem Cu.drew(h:Cu v w c m):Cu v w.drew c m:=by
 obtain⟨e,l,nf,ad,n,k,a,s,c0,c1,c2,r⟩:=h;exact⟨e.drew,l,nf,ad,n,k,a,s,c0,c1,c2,r⟩
theorem Cu.put1(h:Cu v w c m){i:Int}(h0:0<=i)(hk:i<=k):Cu v (w.setCell ⟨c,1,none⟩ (iv i)) c k:=by
 obtain⟨e,l,nf,ad,n,k,a,s,c0,c1,c2,_,_,r⟩:=h;exact⟨e.setCell l _,l,nf.set _ _,ad,n,k,i,s,by rw[uC _ (.inr (by omega))];exact c0,yN.same ⟨⟨_,c1⟩,nf.2 1⟩ _,by rw[uC _ (.inr (by omega))];exact c2,h0,hk,r⟩
theorem Cu.put2(h:Cu v w c m)(u:Int):Cu v (w.setCell ⟨c,2,none⟩ (.int .u64 u)) c m:=by
 obtain⟨e,l,nf,ad,n,k,a,s,c0,c1,c2,r⟩:=h;exact⟨e.setCell l _,l,nf.set _ _,ad,n,k,a,u,by rw[uC _ (.inr (by omega))];exact c0,by rw[uC _ (.inr (by omega))];exact c1,yN.same ⟨⟨_,c2⟩,nf.2 2⟩ _,r⟩
def c1k(v w:World)(c m:Nat)(n:Int)(e:Ending)(w':World):Prop:=∃r:Int,Hid (e=.returned (iv r))/\0<=r/\r<n/\Hid (Cu v w' c m)/\Hid (uZ (λq=>q=c) w w')
theorem and255(x:Int)(n:Nat):0<=wrap64 (bits .and .u64 (IntKind.u64.wrap x / n) 255)/\wrap64 (bits .and .u64 (IntKind.u64.wrap x / n) 255)<256:=by
 have h0:0<=IntKind.u64.wrap x/\IntKind.u64.wrap x<18446744073709551616:=by rw[IntKind.wrap_u64];omega
 obtain⟨k,hk⟩:∃k:Nat,IntKind.u64.wrap x=k:=⟨(IntKind.u64.wrap x).toNat,by omega⟩;rw[hk] at h0 ⊢;have e:((k:Int) / (n:Int))=((k / n:Nat):Int):=by simp
 have hd:k / n<=k:=Nat.div_le_self _ _;have h2:=bits_and_u64_nat (k / n) 255 (by omega) (by omega);rw[e,show(255:Int)=((255:Nat):Int) from rfl,h2];have h3:k / n &&& 255<=255:=Nat.and_le_right;unfold wrap64;omega
theorem b5b(v w:World)(c m:Nat)(h:Cu v w c m)(hm:m<=1000000000):
  Calls Tryz.prog 98 #[.pointer (some ⟨c,0,none⟩)] w λe w'=>c1k v w c (m+1) 256 e w':=by
 have H:=uU h;obtain⟨e,l,nf,ad,n,k,a,s,c0,c1,c2,a0,am,hn,hx⟩:=h;have hc:c<w.heap.size:=nf.1;have f1:=nf.2 1;have f2:=nf.2 2;by_cases hl:a<n
 ·obtain⟨b,o,z,rfl,hz,z0,z1⟩:=hx a.toNat (by omega);have hb:=e.keep hz;have hbv:b<v.heap.size:=uL hz;have hbc:¬b=c:=by omega
  obtain⟨i,rfl⟩:∃i:Nat,a=i:=⟨a.toNat,by omega⟩;simp only [Int.toNat_natCast] at hb;have hb2:b<w.heap.size:=uL hb;clear hx hz e;go_enter Tryz.func98,Tryz.ntmps98;go_wp2_with fail
  go_region
  go_wp2_with fail
  go_region
  go_wp2_with fail;go_ret;exact⟨z,rfl,z0,z1,((H.put1 (by omega) (by omega)).put2 _).drew.drew,(((uZ.refl _ w).setCell (by rfl) _).setCell (by rfl) _).drew.drew⟩
 ·have hl2:(a<(n:Int))=False:=by simp;omega
  clear hx e;go_enter Tryz.func98,Tryz.ntmps98;go_wp2_with fail
  go_region
  go_wp2_with fail;have B:=and255 (IntKind.u64.wrap (s*6364136223846793005)+1442695040888963407) 1099511627776;go_ret;exact⟨_,rfl,B.1,B.2,((H.put2 _).put1 (by omega) (by omega)).drew,(((uZ.refl _ w).setCell (by rfl) _).setCell (by rfl) _).drew⟩
theorem Cu.more(h:Cu v w c m)(hk:m<=k):Cu v w c k:=by
 obtain⟨e,l,nf,ad,n,q,a,s,c0,c1,c2,a0,am,r⟩:=h;exact⟨e,l,nf,ad,n,q,a,s,c0,c1,c2,a0,by omega,r⟩
theorem c7s(v w:World)(c m:Nat)(n:Int)(h:Cu v w c m)(hm:m<=999999999)(hn:n<=1000000)(h1:-1000000<=n):
  Calls Tryz.prog 54 #[.pointer (some ⟨c,0,none⟩),iv n] w λe w'=>c1k v w c (m+2) (if n<=1 then 1 else n) e w':=by
 have H:=uU h;have Q:=uU (b5b v w c m h (by omega));clear h;by_cases hl:n<=1
 ·rw[if_pos hl];have e1:(n<=1)=True:=by simp [hl]
  go_enter Tryz.func54,Tryz.ntmps54;go_wp2_with fail;go_ret;exact⟨0,rfl,by omega,by omega,H.more (by omega),uZ.refl _ _⟩
 ·rw[if_neg hl];by_cases h2:n > 200
  ·go_enter Tryz.func54,Tryz.ntmps54;go_wp2_with fail;refine Q.mono ?_;rintro e w1 ⟨r,he,r0,r1,q1,o1⟩;have e2:=uH he;subst e2;have Q2:=uU (b5b v w1 c (m+1) q1 (by omega));go_wp2_with fail;refine Q2.mono ?_;rintro e w2 ⟨t,he,t0,t1,q2,o2⟩;have e2:=uH he;subst e2;go_wp2_with fail;go_ret;exact⟨_,rfl,Int.emod_nonneg _ (by omega),Int.emod_lt_of_pos _ (by omega),q2,o1.trans o2⟩
  ·go_enter Tryz.func54,Tryz.ntmps54;go_wp2_with fail;refine Q.mono ?_;rintro e w1 ⟨r,he,r0,r1,q1,o1⟩;have e2:=uH he;subst e2;go_wp2_with fail;go_ret;exact⟨_,rfl,Int.emod_nonneg _ (by omega),Int.emod_lt_of_pos _ (by omega),q1.more (by omega),o1⟩
theorem b6k(v w:World)(c m:Nat)(n:Int)(h:Cu v w c m)(hm:m<=999999999)(hn:n<=1000000)(h1:1<=n):
  Calls Tryz.prog 54 #[.pointer (some ⟨c,0,none⟩),iv n] w λe w'=>c1k v w c (m+2) n e w':=by
 have:=c7s v w c m n h hm hn (by omega);have e:(if n<=1 then 1 else n)=n:=by split <;> omega
 rw[e] at this;exact this
def c4o(v w:World)(c m:Nat)(e:Ending)(w':World):Prop:=∃r:Int,Hid (e=.returned (iv r))/\Hid (-9223372036854775808<=r/\r<=9223372036854775807)/\Hid (Cu v w' c m)/\Hid (uZ (λq=>q=c) w w')
theorem c4p(v w:World)(c m:Nat)(h:Cu v w c m)(hm:m<=99999999):
  Calls Tryz.prog 196 #[.pointer (some ⟨c,0,none⟩)] w λe w'=>c4o v w c (m+4) e w':=by
 have Q:=uU (b6k v w c m 6 h (by omega) (by omega) (by omega));go_enter Tryz.func196,Tryz.ntmps196;go_wp2_with fail;refine Q.mono ?_;rintro e w1 ⟨r,he,r0,r1,q1,o1⟩;have e2:=uH he;subst e2;have K:=uU (λ(n:Int) (h1:1<=n) (h2:n<=1000000)=>b6k v w1 c (m+2) n q1 (by omega) h2 h1);go_wp2_with fail
 all_goals
  refine(K _ (by omega) (by omega)).mono ?_;rintro e w2 ⟨t,he,t0,t1,q2,o2⟩;have e2:=uH he;subst e2;go_wp2_with fail;go_ret;exact⟨_,rfl,⟨by omega,by omega⟩,q2,o1.trans o2⟩
def GG(S:Nat->Prop)(B:Nat)(w:World)(g:Nat)(x:Hp):Prop:=∃z:Nat->Option Obj,(∀q,S q->∃o,z q=some o)/\@GOk ⟨⟨z⟩⟩ B w g x
theorem GOk.prt{p:Inhabited uQ}(h:@GOk p B w g x){o:Obj}(hq:(@default uQ p).z q=some o):w.heap[q]?=some o:=by
 obtain⟨ar,kr,ac,kc,vg,br,bc,pb,pa,pk,role,h⟩:=h;exact(h.pr q o hq).2
theorem GG.lt(h:GG S B w g x)(hq:S q):q<w.heap.size:=by
 obtain⟨z,hz,h⟩:=h;obtain⟨o,ho⟩:=hz q hq;exact b0f (h.prt ho)
theorem GG.call(h:GG S B w g x):∃p:Inhabited uQ,@GOk p B w g x/\∀w' y,@GOk p B w' g y->GG S B w' g y/\∀q,S q->w'.heap[q]?=w.heap[q]?:=by
 obtain⟨z,hz,h⟩:=h;refine⟨⟨⟨z⟩⟩,h,λw' y h'=>⟨⟨z,hz,h'⟩,λq hq=>?_⟩⟩;obtain⟨o,ho⟩:=hz q hq;rw[h'.prt ho,h.prt ho]
theorem GG.turn(h:GG S B w g x)(on:uZ S w w')(hs:∀q,T q->S q\/(w.heap.size<=q/\q<w'.heap.size)):GG T B w' g x:=by
 obtain⟨z,hz,ar,kr,ac,kc,vg,br,bc,pb,pa,pk,role,h⟩:=h;have h0:=h;obtain⟨_,_,_,_,_,_,_,_,_,pr,_⟩:=h0;refine⟨λq=>if w.heap.size<=q\/(z q).isSome then w'.heap[q]? else none,λq hq=>?_,ar,kr,ac,kc,vg,br,bc,pb,pa,pk,λq=>if w.heap.size<=q then 1 else role q,GAt.far h on.size (λq hq hn=>on.block q hq (λe=>?_)) (λq hq _=>if_neg (by omega)) (λq o hq=>?_)⟩
 ·rcases hs q hq with a | ⟨a,b⟩
  ·obtain⟨o,ho⟩:=hz q a;simp only [ho,Option.isSome_some,or_true,if_true];exact a4s (Nat.lt_of_lt_of_le (b0f (pr q o ho).2) on.size)
  ·simp only [a,true_or,if_true];exact a4s b
 ·obtain⟨o,ho⟩:=hz q e;exact hn (pr q o ho).1
 ·split at hq
  ·rename_i c;refine⟨?_,hq⟩;by_cases hw:w.heap.size<=q
   ·exact if_pos hw
   ·obtain⟨o2,ho⟩:=Option.isSome_iff_exists.1 (c.resolve_left hw);show(if w.heap.size<=q then 1 else role q)=1;rw[if_neg hw];exact(pr q o2 ho).1
  ·cases hq
theorem GG.more(h:GG S B w g x)(e:Ext w w')(hs:∀q,T q->S q\/(w.heap.size<=q/\q<w'.heap.size)):GG T B w' g x:=h.turn (uZ.of_ext e) hs
theorem GG.poke{P:Nat->Prop}(h:GG S B w g x)(on:uZ P w w')(hp:∀q,P q->S q):GG S B w' g x:=h.turn (on.mono hp) (λ_ hq=>.inl hq)
theorem a0q{o:Nat}(h:w'.heap[b]?=w.heap[b]?):w'.cell? ⟨b,o,none⟩=w.cell? ⟨b,o,none⟩:=World.cell?_of_block h
theorem a9m(h:Nf1 b w)(hb:w'.heap[b]?=w.heap[b]?):Nf1 b w':=by
 obtain⟨o,ho⟩:=a4s h.1;exact⟨b0f (hb.trans ho),λj=>by rw[World.frozen?_of_block (a:=⟨b,j,none⟩) hb];exact h.2 j⟩
theorem Cu.blk(h:Cu v w c m)(e:Ext v w')(hb:w'.heap[c]?=w.heap[c]?):Cu v w' c m:=by
 obtain⟨_,l,nf,ad,n,k,a,s,c0,c1,c2,r⟩:=h;exact⟨e,l,a9m nf hb,ad,n,k,a,s,(a0q hb).trans c0,(a0q hb).trans c1,(a0q hb).trans c2,r⟩
def AkFit(x:Ak):Prop:=(-9223372036854775808<=x.op/\x.op<=9223372036854775807)/\(-9223372036854775808<=x.a/\x.a<=9223372036854775807)/\(-9223372036854775808<=x.b/\x.b<=9223372036854775807)/\(-9223372036854775808<=x.c/\x.c<=9223372036854775807)/\(-9223372036854775808<=x.n/\x.n<=9223372036854775807)
structure Bp(B:Nat)(v w:World)(b c g m:Nat)(x:Hp)(L:List Ak)(va:Value)(lf:Nat):Prop where
 s:Snd x
 hL:∀a,a∈L->AkFit a
 hl:L.length+lf<=400
 cu:Cu v w c m
 vB:v.heap.size<=B
 vb:v.heap.size<=b
 bc:b≠c
 nf:Nf1 b w
 b0:w.cell? ⟨b,0,none⟩=some (.pointer (some ⟨c,0,none⟩))
 b1:w.cell? ⟨b,1,none⟩=some (.pointer (some ⟨g,0,none⟩))
 b2:w.cell? ⟨b,2,none⟩=some va
 b3:w.cell? ⟨b,3,none⟩=some (iv lf)
 ow:w.ownsRow v.heap.size 39 5 va L.length (L.flatMap fA)
 n1:va.ownBlock≠some b
 n2:va.ownBlock≠some c
 gg:GG (λq=>q=b\/q=c\/va.ownBlock=some q) B w g x
def Bd(B:Nat)(v w:World)(b c g m:Nat):Prop:=∃x L va lf,Bp B v w b c g m x L va lf
theorem Bd.c0(h:Bd B v w b c g m):w.cell? ⟨b,0,none⟩=some (.pointer (some ⟨c,0,none⟩)):=by
 obtain⟨_,_,_,_,h⟩:=h;exact h.b0
theorem Bd.c1(h:Bd B v w b c g m):w.cell? ⟨b,1,none⟩=some (.pointer (some ⟨g,0,none⟩)):=by
 obtain⟨_,_,_,_,h⟩:=h;exact h.b1
theorem Bd.cu(h:Bd B v w b c g m):Cu v w c m:=by
 obtain⟨_,_,_,_,h⟩:=h;exact h.cu
theorem Bp.blk(h:Bp B v w b c g m x L va lf)(e:Ext v w')(s:Snd y)(gg:GG (λq=>q=b\/q=c\/va.ownBlock=some q) B w' g y)(k:∀q,q=b\/q=c\/va.ownBlock=some q->w'.heap[q]?=w.heap[q]?):Bp B v w' b c g m y L va lf:=by
 have hb:=k b (.inl rfl);exact⟨s,h.hL,h.hl,h.cu.blk e (k c (.inr (.inl rfl))),h.vB,h.vb,h.bc,a9m h.nf hb,(a0q hb).trans h.b0,(a0q hb).trans h.b1,(a0q hb).trans h.b2,(a0q hb).trans h.b3,uN h.ow (λq hq=>k q (.inr (.inr hq))),h.n1,h.n2,gg⟩
theorem Bp.ext(h:Bp B v w b c g m x L va lf)(e:Ext w w'):Bp B v w' b c g m x L va lf:=
 h.blk (h.cu.1.trans e) h.s (h.gg.more e (λ_ hq=>.inl hq)) (λq hq=>e.block q (h.gg.lt hq))
theorem Bd.ext(h:Bd B v w b c g m)(e:Ext w w'):Bd B v w' b c g m:=by
 obtain⟨x,L,va,lf,h⟩:=h;exact⟨x,L,va,lf,h.ext e⟩
theorem Bp.read(h:Bp B v w b c g m x L va lf)(o:uZ (λq=>q=c) w w')(cu:Cu v w' c k):Bp B v w' b c g k x L va lf:=by
 have hb:w'.heap[b]?=w.heap[b]?:=o.block b h.nf.1 h.bc;exact⟨h.s,h.hL,h.hl,cu,h.vB,h.vb,h.bc,a9m h.nf hb,(a0q hb).trans h.b0,(a0q hb).trans h.b1,(a0q hb).trans h.b2,(a0q hb).trans h.b3,uN h.ow (λq hq=>o.block q (h.ow.lt q hq).2 (λe=>h.n2 (by rw[<-e];exact hq))),h.n1,h.n2,h.gg.poke o (λ_ e=>.inr (.inl e))⟩
def b0g(B:Nat)(v:World)(b c g m:Nat)(n:Int)(e:Ending)(w':World):Prop:=∃r:Int,Hid (e=.returned (iv r))/\0<=r/\r<n/\Hid (Bd B v w' b c g m)
theorem Bd.read(h:Bd B v w b c g m)(o:uZ (λq=>q=c) w w')(cu:Cu v w' c k):Bd B v w' b c g k:=by
 obtain⟨x,L,va,lf,h⟩:=h;exact⟨x,L,va,lf,h.read o cu⟩
theorem zW(B:Nat)(v w:World)(b c g m:Nat)(n:Int)(h:Bd B v w b c g m)(hm:m<=999999999)(hn:n<=1000000)(h1:1<=n):
  Calls Tryz.prog 54 #[.pointer (some ⟨c,0,none⟩),iv n] w λe w'=>b0g B v b c g (m+2) n e w':=
 (b6k v w c m n h.cu hm hn h1).mono λ_ _ ⟨r,he,r0,r1,q,o⟩=>⟨r,he,r0,r1,h.read o q⟩
theorem bwhole(B:Nat)(v w:World)(b c g m:Nat)(h:Bd B v w b c g m)(hm:m<=99999999):
  Calls Tryz.prog 196 #[.pointer (some ⟨c,0,none⟩)] w λe w'=>∃r:Int,Hid (e=.returned (iv r))/\(-9223372036854775808<=r/\r<=9223372036854775807)/\Hid (Bd B v w' b c g (m+4)):=
 (c4p v w c m h.cu hm).mono λ_ _ ⟨r,he,hr,q,o⟩=>⟨r,he,hr,h.read o q⟩
theorem Bp.left(h:Bp B v w b c g m x L va lf)(hk:k<=lf):Bp B v (w.setCell ⟨b,3,none⟩ (iv k)) b c g m x L va k:=by
 have o:uZ (λq=>q=b) w (w.setCell ⟨b,3,none⟩ (iv k)):=(uZ.refl (λq=>q=b) w).setCell (p:=⟨b,3,none⟩) rfl _;have hc:=o.block c h.cu.2.2.1.1 (λe=>h.bc e.symm);exact⟨h.s,h.hL,by have:=h.hl;omega,h.cu.blk (o.ext h.cu.1 (λq hq e=>by have:=h.vb;omega)) hc,h.vB,h.vb,h.bc,h.nf.set _ _,by rw[uC _ (.inr (by omega))];exact h.b0,by rw[uC _ (.inr (by omega))];exact h.b1,by rw[uC _ (.inr (by omega))];exact h.b2,yN.same ⟨⟨_,h.b3⟩,h.nf.2 3⟩ _,uN h.ow (λq hq=>o.block q (h.ow.lt q hq).2 (λe=>h.n1 (by rw[<-e];exact hq))),h.n1,h.n2,h.gg.poke o (λ_ e=>.inl e)⟩
structure AppA(base:Nat)(w0:World)(va:Value)(L:List Ak)(A:Ak)(q cap:Nat)(w':World):Prop where
 ow:w'.ownsRow base 39 5 (.slice (some ⟨q,0,none⟩) (L.length+1) cap) (L.length+1) ((L++[A]).flatMap fA)
 on:uZ (λr=>va.ownBlock=some r) w0 w'
 at_:va.ownBlock=some q\/w0.heap.size<=q
theorem Bp.push{A:Ak}{cap:Nat}(h:Bp B v w b c g m x L va lf)(hl:L.length+lf+1<=400)(hA:AkFit A)(a:AppA v.heap.size w va L A q cap w'):Bp B v (w'.setCell ⟨b,2,none⟩ (.slice (some ⟨q,0,none⟩) (L.length+1) cap)) b c g m x (L++[A]) (.slice (some ⟨q,0,none⟩) (L.length+1) cap) lf:=by
 have hb:=a.on.block b h.nf.1 h.n1;have hc:=a.on.block c h.cu.2.2.1.1 h.n2
 have nb:q≠b:=λe=>by
  rcases a.at_ with f | f
  ·exact h.n1 (by rw[f,e])
  ·have:=h.nf.1;omega
 have nc:q≠c:=λe=>by
  rcases a.at_ with f | f
  ·exact h.n2 (by rw[f,e])
  ·have:=h.cu.2.2.1.1;omega
 have nf:=a9m h.nf hb;have ev:Ext v w':=a.on.ext h.cu.1 (λr hr e=>by have:=(h.ow.lt r e).1;omega);have o:uZ (λr=>r=b) w' (w'.setCell ⟨b,2,none⟩ (.slice (some ⟨q,0,none⟩) (L.length+1) cap)):=(uZ.refl (λq=>q=b) w').setCell (p:=⟨b,2,none⟩) rfl _;have hc2:=(o.block c (by have:=a.on.size;have:=h.cu.2.2.1.1;omega) (λe=>h.bc e.symm)).trans hc;have e1:(Value.slice (some ⟨q,0,none⟩) (L.length+1) cap).ownBlock=some q:=rfl;have hqs:=(a.ow.lt q e1).2;refine⟨h.s,λy hy=>?_,by simp;omega,h.cu.blk (o.ext ev (λr hr e=>by have:=h.vb;omega)) hc2,h.vB,h.vb,h.bc,nf.set _ _,?_,?_,?_,?_,?_,by rw[e1];intro e;exact nb (Option.some.inj e),by rw[e1];intro e;exact nc (Option.some.inj e),?_⟩
 ·rcases List.mem_append.1 hy with e | e
  ·exact h.hL y e
  ·simp at e;subst e;exact hA
 ·rw[uC _ (.inr (by omega))];exact(a0q hb).trans h.b0
 ·rw[uC _ (.inr (by omega))];exact(a0q hb).trans h.b1
 ·exact yN.same ⟨⟨_,(a0q hb).trans h.b2⟩,nf.2 2⟩ _
 ·rw[uC _ (.inr (by omega))];exact(a0q hb).trans h.b3
 ·have:(L++[A]).length=L.length+1:=by simp
  rw[this];exact uN a.ow (λr hr=>o.block r (a.ow.lt r hr).2 (λe=>by rw[e1] at hr;have:=Option.some.inj hr;omega))
 ·refine((h.gg.turn (T:=λr=>r=b\/r=c\/some q=some r) (a.on.mono λ_ e=>.inr (.inr e)) (λr hr=>?_)).poke o (λ_ e=>.inl e));rcases hr with e | e | e
  ·exact .inl (.inl e)
  ·exact .inl (.inr (.inl e))
  ·have e:=Option.some.inj e;subst e;rcases a.at_ with f | f
   ·exact .inl (.inr (.inr f))
   ·exact .inr ⟨f,hqs⟩
theorem DoIs.snd{op a b c n:Int}{cd nm:Int}(s:Snd x)(h:DoIs x op a b c n y cd nm):Snd y:=by
 rcases h with⟨_,h2,_⟩ | ⟨ok,h2⟩
 ·rw[h2];exact s
 ·obtain⟨h1,ha,hb,hc⟩:=cJ ok;have hA:tC op<=15:=by unfold tC;split <;> omega
  have hB:op≠1->op≠23->tZ op<=15:=λe1 e2=>by unfold tZ;rw[if_neg e1,if_neg e2];split <;> omega
  refine DoR.snd s (by omega) (λe1 e2=>by have:=hB (by omega) (by omega);omega) (λe=>?_) (λe=>?_) (λe=>?_) (λe=>?_) h2
  ·have e:op=1:=by omega
   subst e;simp [tZ,tX] at hb hc;omega
  ·have e:op=23:=by omega
   subst e;simp [tZ,zE,tX] at hb hc;omega
  ·have e:op=11:=by omega
   subst e;simp [tX] at hc;omega
  ·have e:op=12:=by omega
   subst e;simp [tX] at hc;omega
theorem l5do_gg(S:Nat->Prop)(B:Nat)(v w:World)(g:Nat)(x:Hp)(A:Ak)(h:GG S B w g x)(s:Snd x)(hv:v.heap.size<=B)(e:Ext v w):
  Calls Tryz.prog 234 #[.pointer (some ⟨g,0,none⟩),A.v] w λe w'=>∃(y:Hp) (u:Value),Hid (e=.returned u)/\Hid (Snd y)/\Hid (GG S B w' g y)/\Hid (∀q,S q->w'.heap[q]?=w.heap[q]?)/\Hid (Ext v w'):=by
 obtain⟨p,h1,h2⟩:=h.call;exact(d0g B g x A.op A.a A.b A.c A.n w h1 s v hv e).mono λ_ _ ⟨y,cd,nm,he,hd,hg,hx⟩=>⟨y,_,he,DoIs.snd s hd,(h2 _ _ hg).1,(h2 _ _ hg).2,hx⟩
theorem infoA:(Tryz.prog.info? 39).map (λi=>(i.zero,i.size,i.bytes))=some (some (.agg #[iv 0,iv 0,iv 0,iv 0,iv 0]),5,40):=by kernel_rfl
theorem c6h{ops:Array Oper}{o:Oper}{a:Act}{K:Act->World->Prop}{Q:Exit->Act->World->Prop}{E:Prop}(W:World)(hgd:o.guard=none)(s y:Operand)
  (ho:o.op=.call { callee:=.builtin .append,args:=#[s,y],argTypes:=#[23,23] })
         (h:Bp B v w b c g m x L va lf) (e:Ext w W) (A:Ak) (ad:Addr) (hs:a.eval s=va) (hy:a.eval y=.slice (some ad) 1 1) (hn:∀j u,(fA A)[j]?=some u->W.cell? (ad.add j)=some u)
  (hK:∀q cap w',AppA v.heap.size w va L A q cap w'->K (a.put o.dst (.slice (some ⟨q,0,none⟩) (L.length+1) cap)) w') :
  if Region.wanted o (yielded ops a.tmps)=true then Oper.wp Tryz.prog o a W K Q else E:=by
 obtain⟨i0,hi0,hz0,hz1,hz2⟩:=info_parts infoA;have hl:=h.hl;have he:=e.size;have hv:=h.cu.1.size;refine step_append_lies (w:=W) hgd s y 23 ho v.heap.size 39 i0 (.agg #[iv 0,iv 0,iv 0,iv 0,iv 0]) 5 40 Tryz.underlying23 hi0 hz0 hz1 hz2 rfl (by decide) va L.length (L.flatMap fA) hs (uN h.ow (λq hq=>e.block q (h.ow.lt q hq).2)) ad 1 1 (fA A) hy rfl hn (λu hu=>?_) (by decide) (by unfold maxLen;omega) (by omega) (by omega) _ rfl (λq cap w' how hgr hat hlt=>hK q cap w' ⟨?_,?_,?_⟩)
 ·simp [fA] at hu;rcases hu with e | e | e | e | e <;> subst e <;> rfl
 ·rw[List.flatMap_append];simpa using how
 ·exact(uZ.of_ext e).trans ⟨hgr.os,hgr.tape,hgr.output,hgr.size,λq hq hne=>hgr.block q hq (λe=>hne e.symm)⟩
 ·rcases hat with f | f
  ·exact .inl f
  ·exact .inr (by omega)
theorem b9s(B:Nat)(v w:World)(b c g m:Nat)(A:Ak)(hA:AkFit A)(h:Bd B v w b c g m):
  Calls Tryz.prog 195 #[.pointer (some ⟨b,0,none⟩),A.v] w λe w'=>e=.returned (.tuple #[])/\Hid (Bd B v w' b c g m):=by
 obtain⟨x,L,va,lf,h⟩:=h;have H:=uU h;have b3:=h.b3;have hb:b<w.heap.size:=h.nf.1;have f3:=h.nf.2 3;cases lf with
 | zero=>
  have HE:=uU (λW (e:Ext w W)=>(⟨x,L,va,0,H.ext e⟩:Bd B v W b c g m));clear h;go_enter Tryz.func195,Tryz.ntmps195;go_wp2_with fail;refine bodyPost_ret (results_none rfl _ _ _) rfl ?_;exact⟨rfl,uH HE _ ((Ext.refl _).alloc _)⟩
 | succ lf=>
  obtain⟨W,hW⟩:∃W,W=(w.setCell ⟨b,3,none⟩ (iv lf)).alloc (.cells #[iv A.op,iv A.a,iv A.b,iv A.c,iv A.n] 39):=⟨_,rfl⟩;have HW:=uU hW;have HP:=uU ((h.left (k:=lf) (by omega)).ext ((Ext.refl _).alloc (.cells #[iv A.op,iv A.a,iv A.b,iv A.c,iv A.n] 39)));rw[<-hW] at HP;have HL:=uU (show L.length+lf+1<=400 by have:=h.hl;omega);have ks:(w.setCell ⟨b,3,none⟩ (iv lf)).heap.size=w.heap.size:=by simp [World.setCell]
  obtain⟨k,hk⟩:∃k,k=w.heap.size:=⟨_,rfl⟩;have KV:=uU (show va.ownBlock≠some k from λe=>by have:=(h.ow.lt k e).2;omega);have kb:¬k=b:=by omega
  have AC:=uU (show W.cell? ⟨k,0,none⟩=some (iv A.op)/\W.cell? ⟨k,1,none⟩=some (iv A.a)/\W.cell? ⟨k,2,none⟩=some (iv A.b)/\W.cell? ⟨k,3,none⟩=some (iv A.c)/\W.cell? ⟨k,4,none⟩=some (iv A.n) by
   rw[hW,hk,<-ks];simp [go_sem])
  clear h;have e1:((lf+1:Nat):Int)-1=lf:=by omega
  have lb:lf<=400:=by have:=uH HL;omega
  go_enter Tryz.func195,Tryz.ntmps195;go_wp2_with fail;rw[<-hW,<-hk];have c2:=HP.b2;have g2:=HP.nf.2 2;have hbW:b<W.heap.size:=uL c2;obtain⟨a0,a1,a2,a3,a4⟩:=uH AC;have hkW:k<W.heap.size:=uL a0;clear b3 f3 hb hW hk e1 ks;go_region_law (refine c6h _ rfl _ _ rfl HP (by first | exact(Ext.refl _).alloc _ | exact((Ext.refl _).alloc _).drew | exact(Ext.refl _).drew.alloc _) A _ (by first | rfl | simp [Act.eval,Act.put]) (by first | rfl | simp [Act.eval,Act.put];rfl) (World.news_of_block (cs:=#[iv A.op,iv A.a,iv A.b,iv A.c,iv A.n]) (by first | exact heap_alloc_new _ _ | simp)) ?_;intro q cap w3 hap;have c2':=hap.on.keep HP.n1 c2;have g2':=(a9m HP.nf (hap.on.block b HP.nf.1 HP.n1)).2 2;have hb3:b<w3.heap.size:=uL c2';have AP:=uU hap;clear hap)
  all_goals
   obtain⟨W4,hW4⟩:∃W4,W4=w3.setCell ⟨b,2,none⟩ (.slice (some ⟨q,0,none⟩) (L.length+1) cap):=⟨_,rfl⟩;have PB:=uU (HP.push HL hA AP);have K4:=uU (λ(j:Nat) (u:Value) (e:W.cell? ⟨k,j,none⟩=some u)=>show W4.cell? ⟨k,j,none⟩=some u by rw[hW4,uC _ (.inl (λe=>kb e.symm))];exact AP.on.keep KV e);rw[<-hW4] at PB ⊢;have b0:=uH K4 _ _ a0;have b1:=uH K4 _ _ a1;have b2:=uH K4 _ _ a2;have b3:=uH K4 _ _ a3;have b4:=uH K4 _ _ a4;have c1:=PB.b1;have hk4:k<W4.heap.size:=uL b0;have hb4:b<W4.heap.size:=uL c1;have QD:=uU (λW (e:Ext W4 W)=>l5do_gg _ B v W g x A (PB.ext e).gg (PB.ext e).s (PB.ext e).vB (PB.ext e).cu.1);have FI:=uU (λ(W w5:World) (e:Ext W4 W) (y:Hp) (s5:Snd y) (g5:GG (λr=>r=b\/r=c\/some q=some r) B w5 g y) (k5:∀r,r=b\/r=c\/some q=some r->w5.heap[r]?=W.heap[r]?) (x5:Ext v w5)=>(⟨y,_,_,_,(PB.ext e).blk x5 s5 g5 k5⟩:Bd B v w5 b c g m));clear a0 a1 a2 a3 a4 c2 g2 hbW hkW c2' g2' hb3 hW4 K4 AP AC KV;go_wp2_with fail;go_region_with (go_at_call 234;refine(QD _ (by first | exact Ext.refl _ | exact(Ext.refl _).drew)).mono ?_;rintro e w5 ⟨y,u,he,s5,g5,k5,x5⟩;have e2:=uH he;subst e2;have BD:=uU (FI _ w5 (by first | exact Ext.refl _ | exact(Ext.refl _).drew) y s5 g5 k5 x5);clear he s5 g5 k5 x5)
   all_goals
    go_wp2_with fail
    go_end0
    first | exact⟨rfl,BD⟩ | exact⟨rfl,BD.ext (Ext.refl _).drew⟩
theorem a1f(B:Nat)(v w:World)(b c g m:Nat)(op x y z:Int)(ho:0<=op/\op<=100)(hx:-1000000000<=x/\x<=1000000000)(hy:-1000000000<=y/\y<=1000000000)(hz:-1000000000<=z/\z<=1000000000)(h:Bd B v w b c g m):
  Calls Tryz.prog 194 #[.pointer (some ⟨b,0,none⟩),iv op,iv x,iv y,iv z] w λe w'=>e=.returned (.tuple #[])/\Hid (Bd B v w' b c g m):=by
 have Q:=uU (b9s B v w b c g m ⟨op,x,y,z,0⟩ (by refine⟨?_,?_,?_,?_,?_⟩ <;> simp only <;> omega) h);go_enter Tryz.func194,Tryz.ntmps194;go_wp2_with fail;refine Q.mono ?_;rintro e w' ⟨rfl,h'⟩;go_wp2_with fail
 go_end0
 exact⟨rfl,h'⟩
theorem Bd.more(h:Bd B v w b c g m)(hk:m<=k):Bd B v w b c g k:=h.read (uZ.refl _ _) (h.cu.more hk)
theorem d0i(B:Nat)(v w:World)(b c g m:Nat)(f:Nat)(hf:f<16)(h:Bd B v w b c g m):
  Calls Tryz.prog 198 #[.pointer (some ⟨b,0,none⟩),iv f] w λe w'=>b0g B v b c g m 201 e w':=by
 have HE:=uU (λW (e:Ext w W)=>h.ext e);have c1:=h.c1;obtain⟨x,L,va,lf,h⟩:=h;obtain⟨p,hg,_⟩:=h.gg.call;obtain⟨br,kr,hr⟩:=hg.B h.s.r1.B;have hb:b<w.heap.size:=h.nf.1;have c3:=hr.c3;obtain⟨r0,r1,r2⟩:=hr.r f hf;have hgw:g<w.heap.size:=uL c3;have hbr:br<w.heap.size:=uL r0;have hf0:(0:Int)<=(f:Int):=by omega
 have hf1:(f:Int)<16:=by omega
 by_cases k2:(x.r f).k=2
 ·obtain⟨_,ea,hi,_,_⟩:=h.s.at f hf k2;obtain⟨bc,kc,ap,kp,hc⟩:=hg.cel (x.at f) hi;have c4:=hc.c4;have p7:=hc.p7;have P200:=uU (h.s.ok.p200 (x.at f) hi);have hbc:bc<w.heap.size:=uL p7;obtain⟨n,hn⟩:∃n,n=(x.c (x.at f)).F.length:=⟨_,rfl⟩;rw[<-hn] at p7 P200;rw[k2] at r0;rw[ea] at r2;obtain⟨i,hI⟩:∃i,i=x.at f:=⟨_,rfl⟩;rw[<-hI] at r2 hi p7;have hi0:(0:Int)<=(i:Int):=by omega
  have hi1:(i:Int)<(x.A.length:Int):=by omega
  have n200:n<=200:=uH P200;clear hr hc hg h k2 ea hn hI P200;go_enter Tryz.func198,Tryz.ntmps198;go_wp2_with fail
  go_region
  go_wp2_with fail;go_ret;exact⟨_,rfl,by omega,by omega,uH HE _ ((Ext.refl _).alloc _).drew⟩
 ·have k3:((x.r f).k != 2)=true:=by simpa using k2
  clear hr hg h k2;go_enter Tryz.func198,Tryz.ntmps198;go_wp2_with fail;go_ret;exact⟨_,rfl,by omega,by omega,uH HE _ ((Ext.refl _).alloc _)⟩
theorem bpairof(B:Nat)(v w:World)(b c g m:Nat)(f:Nat)(hf:f<16)(h:Bd B v w b c g m)(hm:m<=99999999):
  Calls Tryz.prog 197 #[.pointer (some ⟨b,0,none⟩),iv f] w λe w'=>b0g B v b c g (m+4) 201 e w':=by
 have Q:=uU (d0i B v w b c g m f hf h);clear h;go_enter Tryz.func197,Tryz.ntmps197;go_wp2_with fail;refine Q.mono ?_;rintro e w1 ⟨n,he,n0,n1,BD⟩;have e2:=uH he;subst e2;have b0:=BD.c0;have hb:b<w1.heap.size:=uL b0;cases t:(n == 0)
 ·have hn1:1<=n:=by simp at t;omega
  go_wp2_with (go_at_call 54;refine(zW B v _ b c g _ _ BD (by omega) (by omega) (by omega)).mono ?_;rintro e w1 ⟨r,he,r0,r1,bd⟩;have e2:=uH he;subst e2;clear b0 BD;have BD:=bd;have b0:=BD.c0;clear bd he)
  all_goals
   go_ret;exact⟨_,rfl,by omega,by omega,BD.more (by omega)⟩
 ·go_wp2_with fail;go_ret;exact⟨_,rfl,by omega,by omega,BD.more (by omega)⟩
theorem bsize(B:Nat)(v w:World)(b c g m:Nat)(h:Bd B v w b c g m)(hm:m<=99999999):
  Calls Tryz.prog 193 #[.pointer (some ⟨b,0,none⟩)] w λe w'=>b0g B v b c g (m+4) 201 e w':=by
 have BD:=uU h;have b0:=h.c0;clear h;go_enter Tryz.func193,Tryz.ntmps193;go_wp2_with (go_at_call 54;refine(zW B v _ b c g _ _ BD (by omega) (by omega) (by omega)).mono ?_;rintro e w1 ⟨r,he,r0,r1,bd⟩;have e2:=uH he;subst e2;clear b0 BD;have BD:=bd;have b0:=BD.c0;clear bd he)
 all_goals
  go_ret;exact⟨_,rfl,by omega,by omega,BD.more (by omega)⟩
theorem a7z(B:Nat)(v w:World)(b c g m:Nat)(h:Bd B v w b c g m)(hm:m<=99999999):
  Calls Tryz.prog 156 #[.pointer (some ⟨b,0,none⟩)] w λe w'=>e=.returned (.tuple #[])/\Hid (Bd B v w' b c g (m+6)):=by
 have BD:=uU h;have b0:=h.c0;clear h;go_enter Tryz.func156,Tryz.ntmps156;go_wp2_with (first | (go_at_call 54;refine(zW B v _ b c g _ _ BD (by omega) (by omega) (by omega)).mono ?_;rintro e w1 ⟨r,he,r0,r1,bd⟩;have e2:=uH he;subst e2;clear b0 BD;have BD:=bd;have b0:=BD.c0;clear bd he) | (go_at_call 194;refine(a1f B v _ b c g _ _ _ _ _ (by omega) (by omega) (by omega) (by omega) BD).mono ?_;rintro e w1 ⟨rfl,bd⟩;clear b0 BD;have BD:=bd;have b0:=BD.c0;clear bd))
 all_goals
  go_end0
  exact⟨rfl,BD.more (by omega)⟩
theorem bpairsI(B:Nat)(v w:World)(b c g m:Nat)(f:Int)(h0:0<=f)(h1:f<16)(h:Bd B v w b c g m):
  Calls Tryz.prog 198 #[.pointer (some ⟨b,0,none⟩),iv f] w λe w'=>b0g B v b c g m 201 e w':=by
 obtain⟨k,rfl⟩:∃k:Nat,f=k:=⟨f.toNat,by omega⟩;exact d0i B v w b c g m k (by omega) h
theorem b9t(B:Nat)(v w:World)(b c g m:Nat)(f:Int)(h0:0<=f)(h1:f<16)(h:Bd B v w b c g m)(hm:m<=99999999):
  Calls Tryz.prog 197 #[.pointer (some ⟨b,0,none⟩),iv f] w λe w'=>b0g B v b c g (m+4) 201 e w':=by
 obtain⟨k,rfl⟩:∃k:Nat,f=k:=⟨f.toNat,by omega⟩;exact bpairof B v w b c g m k (by omega) h hm
theorem emitI(B:Nat)(v w:World)(b c g m:Nat)(op x y z n:Int)(h1:0<=op/\op<=100)(h2:0<=x/\x<=100)(h3:0<=y/\y<=100)(h4:0<=z/\z<=100)(h5:-9223372036854775808<=n/\n<=9223372036854775807)(h:Bd B v w b c g m):
  Calls Tryz.prog 195 #[.pointer (some ⟨b,0,none⟩),.agg #[iv op,iv x,iv y,iv z,iv n]] w λe w'=>e=.returned (.tuple #[])/\Hid (Bd B v w' b c g m):=
 b9s B v w b c g m ⟨op,x,y,z,n⟩ (by refine⟨?_,?_,?_,?_,?_⟩ <;> simp only <;> omega) h
theorem bact(B:Nat)(v w:World)(b c g m:Nat)(h:Bd B v w b c g m)(hm:m<=9999999):
  Calls Tryz.prog 117 #[.pointer (some ⟨b,0,none⟩)] w λe w'=>e=.returned (.tuple #[])/\Hid (Bd B v w' b c g (m+14)):=by
 have BD:=uU h;have b0:=h.c0;clear h;go_enter Tryz.func117,Tryz.ntmps117;go_wp2_with (first | (go_at_call 54;refine(zW B v _ b c g _ _ BD (by omega) (by omega) (by omega)).mono ?_;rintro e w1 ⟨r,he,r0,r1,bd⟩;have e2:=uH he;subst e2;clear he;clear b0 BD;have BD:=bd;have b0:=BD.c0;clear bd) | (go_at_call 194;refine(a1f B v _ b c g _ _ _ _ _ (by omega) (by omega) (by omega) (by omega) BD).mono ?_;rintro e w1 ⟨rfl,bd⟩;clear b0 BD;have BD:=bd;have b0:=BD.c0;clear bd) | (go_at_call 193;refine(bsize B v _ b c g _ BD (by omega)).mono ?_;rintro e w1 ⟨r,he,r0,r1,bd⟩;have e2:=uH he;subst e2;clear he;clear b0 BD;have BD:=bd;have b0:=BD.c0;clear bd) | (go_at_call 197;refine(b9t B v _ b c g _ _ (by omega) (by omega) BD (by omega)).mono ?_;rintro e w1 ⟨r,he,r0,r1,bd⟩;have e2:=uH he;subst e2;clear he;clear b0 BD;have BD:=bd;have b0:=BD.c0;clear bd) | (go_at_call 198;refine(bpairsI B v _ b c g _ _ (by omega) (by omega) BD).mono ?_;rintro e w1 ⟨r,he,r0,r1,bd⟩;have e2:=uH he;subst e2;clear he;clear b0 BD;have BD:=bd;have b0:=BD.c0;clear bd) | (go_at_call 196;refine(bwhole B v _ b c g _ BD (by omega)).mono ?_;rintro e w1 ⟨r,he,r0,bd⟩;have e2:=uH he;subst e2;clear he;clear b0 BD;have BD:=bd;have b0:=BD.c0;clear bd) | (go_at_call 195;refine(emitI B v _ b c g _ _ _ _ _ _ (by omega) (by omega) (by omega) (by omega) (by omega) BD).mono ?_;rintro e w1 ⟨rfl,bd⟩;clear b0 BD;have BD:=bd;have b0:=BD.c0;clear bd))
 all_goals
  go_end0
  exact⟨rfl,BD.more (by omega)⟩
theorem bchain(B:Nat)(v w:World)(b c g m:Nat)(n:Int)(h:Bd B v w b c g m)(hm:m<=9999999)(n0:0<=n)(n1:n<=5):
  Calls Tryz.prog 152 #[.pointer (some ⟨b,0,none⟩),iv n] w λe w'=>e=.returned (.tuple #[])/\Hid (Bd B v w' b c g (m+100)):=by
 have BD:=uU h;have b0:=h.c0;clear h;go_enter Tryz.func152,Tryz.ntmps152;go_wp2_with (first | (go_at_call 54;refine(zW B v _ b c g _ _ BD (by omega) (by omega) (by omega)).mono ?_;rintro e w1 ⟨r,he,r0,r1,bd⟩;have e2:=uH he;subst e2;clear he;clear b0 BD;have BD:=bd;have b0:=BD.c0;clear bd) | (go_at_call 194;refine(a1f B v _ b c g _ _ _ _ _ (by omega) (by omega) (by omega) (by omega) BD).mono ?_;rintro e w1 ⟨rfl,bd⟩;clear b0 BD;have BD:=bd;have b0:=BD.c0;clear bd));go_loopw [4] (λi wr=>∃k:Nat,(k:Int)<=n/\i=.int .i64 k/\Hid (Bd B v wr b c g (m+4+k*12))) (λi _=>(n-intOf i).toNat)
 case atStart=>exact⟨0,by omega,rfl,BD.more (by omega)⟩
 case round=>
  clear b0 BD;obtain⟨k,hk,rfl,BD⟩:=hrel;have b0:=BD.c0;by_cases hlt:(k:Int)<n
  ·go_wp2_with (first | (go_at_call 54;refine(zW B v _ b c g _ _ BD (by omega) (by omega) (by omega)).mono ?_;rintro e w1 ⟨r,he,r0,r1,bd⟩;have e2:=uH he;subst e2;clear he;clear b0 BD;have BD:=bd;have b0:=BD.c0;clear bd) | (go_at_call 194;refine(a1f B v _ b c g _ _ _ _ _ (by omega) (by omega) (by omega) (by omega) BD).mono ?_;rintro e w1 ⟨rfl,bd⟩;clear b0 BD;have BD:=bd;have b0:=BD.c0;clear bd) | (go_at_call 156;refine(a7z B v _ b c g _ BD (by omega)).mono ?_;rintro e w1 ⟨rfl,bd⟩;clear b0 BD;have BD:=bd;have b0:=BD.c0;clear bd))
   all_goals
    go_roundw
    ·exact⟨k+1,by omega,by go_num,BD.more (by omega)⟩
    ·simp [intOf];omega
  ·go_wp2_with (first | (go_at_call 54;refine(zW B v _ b c g _ _ BD (by omega) (by omega) (by omega)).mono ?_;rintro e w1 ⟨r,he,r0,r1,bd⟩;have e2:=uH he;subst e2;clear he;clear b0 BD;have BD:=bd;have b0:=BD.c0;clear bd) | (go_at_call 194;refine(a1f B v _ b c g _ _ _ _ _ (by omega) (by omega) (by omega) (by omega) BD).mono ?_;rintro e w1 ⟨rfl,bd⟩;clear b0 BD;have BD:=bd;have b0:=BD.c0;clear bd))
   all_goals
    go_end0
    exact⟨rfl,BD.more (by omega)⟩
theorem bweakly(B:Nat)(v w:World)(b c g m:Nat)(h:Bd B v w b c g m)(hm:m<=9999999):
  Calls Tryz.prog 153 #[.pointer (some ⟨b,0,none⟩)] w λe w'=>e=.returned (.tuple #[])/\Hid (Bd B v w' b c g (m+100)):=by
 have BD:=uU h;have b0:=h.c0;clear h;go_enter Tryz.func153,Tryz.ntmps153;go_wp2_with fail;refine(zW B v _ b c g _ _ BD (by omega) (by omega) (by omega)).mono ?_;rintro e w1 ⟨n,he,n0,n1,bd⟩;have e2:=uH he;subst e2;clear he;clear b0 BD;have BD:=bd;have b0:=BD.c0;clear bd;go_wp2_with (first | (go_at_call 54;refine(zW B v _ b c g _ _ BD (by omega) (by omega) (by omega)).mono ?_;rintro e w1 ⟨r,he,r0,r1,bd⟩;have e2:=uH he;subst e2;clear he;clear b0 BD;have BD:=bd;have b0:=BD.c0;clear bd) | (go_at_call 194;refine(a1f B v _ b c g _ _ _ _ _ (by omega) (by omega) (by omega) (by omega) BD).mono ?_;rintro e w1 ⟨rfl,bd⟩;clear b0 BD;have BD:=bd;have b0:=BD.c0;clear bd));go_loopw [3,4,5] (λi _x _y wr=>∃k:Nat,(k:Int)<=1+n/\i=.int .i64 k/\Hid (Bd B v wr b c g (m+8+k*20))) (λi _x _y _=>(1+n-intOf i).toNat)
 case atStart=>exact⟨0,by omega,rfl,BD.more (by omega)⟩
 case round=>
  clear b0 BD;obtain⟨k,hk,rfl,BD⟩:=hrel;have b0:=BD.c0;by_cases hlt:(k:Int)<1+n
  ·go_wp2_with (first | (go_at_call 54;refine(zW B v _ b c g _ _ BD (by omega) (by omega) (by omega)).mono ?_;rintro e w1 ⟨r,he,r0,r1,bd⟩;have e2:=uH he;subst e2;clear he;clear b0 BD;have BD:=bd;have b0:=BD.c0;clear bd) | (go_at_call 194;refine(a1f B v _ b c g _ _ _ _ _ (by omega) (by omega) (by omega) (by omega) BD).mono ?_;rintro e w1 ⟨rfl,bd⟩;clear b0 BD;have BD:=bd;have b0:=BD.c0;clear bd) | (go_at_call 156;refine(a7z B v _ b c g _ BD (by omega)).mono ?_;rintro e w1 ⟨rfl,bd⟩;clear b0 BD;have BD:=bd;have b0:=BD.c0;clear bd))
   all_goals
    go_roundw
    ·exact⟨k+1,by omega,by go_num,BD.more (by omega)⟩
    ·simp [intOf];omega
  ·go_wp2_with (first | (go_at_call 54;refine(zW B v _ b c g _ _ BD (by omega) (by omega) (by omega)).mono ?_;rintro e w1 ⟨r,he,r0,r1,bd⟩;have e2:=uH he;subst e2;clear he;clear b0 BD;have BD:=bd;have b0:=BD.c0;clear bd) | (go_at_call 194;refine(a1f B v _ b c g _ _ _ _ _ (by omega) (by omega) (by omega) (by omega) BD).mono ?_;rintro e w1 ⟨rfl,bd⟩;clear b0 BD;have BD:=bd;have b0:=BD.c0;clear bd))
   all_goals
    go_end0
    exact⟨rfl,BD.more (by omega)⟩
theorem bring(B:Nat)(v w:World)(b c g m:Nat)(h:Bd B v w b c g m)(hm:m<=9999999):
  Calls Tryz.prog 155 #[.pointer (some ⟨b,0,none⟩)] w λe w'=>e=.returned (.tuple #[])/\Hid (Bd B v w' b c g (m+60)):=by
 have BD:=uU h;have b0:=h.c0;clear h;go_enter Tryz.func155,Tryz.ntmps155;go_wp2_with (first | (go_at_call 54;refine(zW B v _ b c g _ _ BD (by omega) (by omega) (by omega)).mono ?_;rintro e w1 ⟨r,he,r0,r1,bd⟩;have e2:=uH he;subst e2;clear he;clear b0 BD;have BD:=bd;have b0:=BD.c0;clear bd) | (go_at_call 194;refine(a1f B v _ b c g _ _ _ _ _ (by omega) (by omega) (by omega) (by omega) BD).mono ?_;rintro e w1 ⟨rfl,bd⟩;clear b0 BD;have BD:=bd;have b0:=BD.c0;clear bd) | (go_at_call 156;refine(a7z B v _ b c g _ BD (by omega)).mono ?_;rintro e w1 ⟨rfl,bd⟩;clear b0 BD;have BD:=bd;have b0:=BD.c0;clear bd));go_loopw [2] (λi wr=>∃k:Nat,k<=4/\i=.int .i64 k/\Hid (Bd B v wr b c g (m+8+k*4))) (λi _=>(4-intOf i).toNat)
 case atStart=>exact⟨1,by omega,rfl,BD.more (by omega)⟩
 case round=>
  clear b0 BD;obtain⟨k,hk,rfl,BD⟩:=hrel;have b0:=BD.c0;by_cases hlt:(k:Int)<4
  ·go_wp2_with (first | (go_at_call 54;refine(zW B v _ b c g _ _ BD (by omega) (by omega) (by omega)).mono ?_;rintro e w1 ⟨r,he,r0,r1,bd⟩;have e2:=uH he;subst e2;clear he;clear b0 BD;have BD:=bd;have b0:=BD.c0;clear bd) | (go_at_call 194;refine(a1f B v _ b c g _ _ _ _ _ (by omega) (by omega) (by omega) (by omega) BD).mono ?_;rintro e w1 ⟨rfl,bd⟩;clear b0 BD;have BD:=bd;have b0:=BD.c0;clear bd) | (go_at_call 156;refine(a7z B v _ b c g _ BD (by omega)).mono ?_;rintro e w1 ⟨rfl,bd⟩;clear b0 BD;have BD:=bd;have b0:=BD.c0;clear bd))
   all_goals
    go_roundw
    ·exact⟨k+1,by omega,by go_num,BD.more (by omega)⟩
    ·simp [intOf];omega
  ·go_wp2_with (first | (go_at_call 54;refine(zW B v _ b c g _ _ BD (by omega) (by omega) (by omega)).mono ?_;rintro e w1 ⟨r,he,r0,r1,bd⟩;have e2:=uH he;subst e2;clear he;clear b0 BD;have BD:=bd;have b0:=BD.c0;clear bd) | (go_at_call 194;refine(a1f B v _ b c g _ _ _ _ _ (by omega) (by omega) (by omega) (by omega) BD).mono ?_;rintro e w1 ⟨rfl,bd⟩;clear b0 BD;have BD:=bd;have b0:=BD.c0;clear bd) | (go_at_call 156;refine(a7z B v _ b c g _ BD (by omega)).mono ?_;rintro e w1 ⟨rfl,bd⟩;clear b0 BD;have BD:=bd;have b0:=BD.c0;clear bd))
   all_goals
    go_end0
    exact⟨rfl,BD.more (by omega)⟩
theorem blastly(B:Nat)(v w:World)(b c g m:Nat)(h:Bd B v w b c g m)(hm:m<=9999999):
  Calls Tryz.prog 154 #[.pointer (some ⟨b,0,none⟩)] w λe w'=>e=.returned (.tuple #[])/\Hid (Bd B v w' b c g (m+150)):=by
 have BD:=uU h;have b0:=h.c0;clear h;go_enter Tryz.func154,Tryz.ntmps154;go_wp2_with (go_at_call 54;refine(zW B v _ b c g _ _ BD (by omega) (by omega) (by omega)).mono ?_;rintro e w1 ⟨r,he,r0,r1,bd⟩;have e2:=uH he;subst e2;clear he;clear b0 BD;have BD:=bd;have b0:=BD.c0;clear bd);go_loopw [2] (λi wr=>∃k:Nat,k<=3/\i=.int .i64 k/\Hid (Bd B v wr b c g (m+2+(3-k)*12))) (λi _=>(intOf i).toNat)
 case atStart=>exact⟨(1+r).toNat,by omega,by rw[Int.toNat_of_nonneg (by omega)],BD.more (by omega)⟩
 case round=>
  clear b0 BD;obtain⟨k,hk,rfl,BD⟩:=hrel;have b0:=BD.c0;by_cases hlt:(k:Int) > 0
  ·go_wp2_with (first | (go_at_call 54;refine(zW B v _ b c g _ _ BD (by omega) (by omega) (by omega)).mono ?_;rintro e w1 ⟨r,he,r0,r1,bd⟩;have e2:=uH he;subst e2;clear he;clear b0 BD;have BD:=bd;have b0:=BD.c0;clear bd) | (go_at_call 194;refine(a1f B v _ b c g _ _ _ _ _ (by omega) (by omega) (by omega) (by omega) BD).mono ?_;rintro e w1 ⟨rfl,bd⟩;clear b0 BD;have BD:=bd;have b0:=BD.c0;clear bd) | (go_at_call 156;refine(a7z B v _ b c g _ BD (by omega)).mono ?_;rintro e w1 ⟨rfl,bd⟩;clear b0 BD;have BD:=bd;have b0:=BD.c0;clear bd))
   all_goals
    go_roundw
    ·exact⟨k-1,by omega,by rw[Int.ofNat_sub (by omega)];rfl,BD.more (by omega)⟩
    ·simp [intOf];omega
  ·have hk0:k=0:=by omega
   subst hk0;go_wp2_with (first | (go_at_call 54;refine(zW B v _ b c g _ _ BD (by omega) (by omega) (by omega)).mono ?_;rintro e w1 ⟨r,he,r0,r1,bd⟩;have e2:=uH he;subst e2;clear he;clear b0 BD;have BD:=bd;have b0:=BD.c0;clear bd) | (go_at_call 194;refine(a1f B v _ b c g _ _ _ _ _ (by omega) (by omega) (by omega) (by omega) BD).mono ?_;rintro e w1 ⟨rfl,bd⟩;clear b0 BD;have BD:=bd;have b0:=BD.c0;clear bd));go_loopw [3,4] (λi _x wr=>∃k:Nat,k<=3/\i=.int .i64 k/\Hid (Bd B v wr b c g (m+40+(3-k)*20))) (λi _ _=>(intOf i).toNat)
   case atStart=>exact⟨r.toNat,by omega,by rw[Int.toNat_of_nonneg (by omega)],BD.more (by omega)⟩
   case round=>
    clear b0 BD;obtain⟨k,hk,rfl,BD⟩:=hrel;have b0:=BD.c0;by_cases hlt:(k:Int) > 0
    ·go_wp2_with (first | (go_at_call 54;refine(zW B v _ b c g _ _ BD (by omega) (by omega) (by omega)).mono ?_;rintro e w1 ⟨r,he,r0,r1,bd⟩;have e2:=uH he;subst e2;clear he;clear b0 BD;have BD:=bd;have b0:=BD.c0;clear bd) | (go_at_call 194;refine(a1f B v _ b c g _ _ _ _ _ (by omega) (by omega) (by omega) (by omega) BD).mono ?_;rintro e w1 ⟨rfl,bd⟩;clear b0 BD;have BD:=bd;have b0:=BD.c0;clear bd) | (go_at_call 156;refine(a7z B v _ b c g _ BD (by omega)).mono ?_;rintro e w1 ⟨rfl,bd⟩;clear b0 BD;have BD:=bd;have b0:=BD.c0;clear bd) | (go_at_call 197;refine(b9t B v _ b c g _ _ (by omega) (by omega) BD (by omega)).mono ?_;rintro e w1 ⟨r,he,r0,r1,bd⟩;have e2:=uH he;subst e2;clear he;clear b0 BD;have BD:=bd;have b0:=BD.c0;clear bd))
     all_goals
      go_roundw
      ·exact⟨k-1,by omega,by rw[Int.ofNat_sub (by omega)];rfl,BD.more (by omega)⟩
      ·simp [intOf];omega
    ·go_wp2_with (first | (go_at_call 54;refine(zW B v _ b c g _ _ BD (by omega) (by omega) (by omega)).mono ?_;rintro e w1 ⟨r,he,r0,r1,bd⟩;have e2:=uH he;subst e2;clear he;clear b0 BD;have BD:=bd;have b0:=BD.c0;clear bd) | (go_at_call 194;refine(a1f B v _ b c g _ _ _ _ _ (by omega) (by omega) (by omega) (by omega) BD).mono ?_;rintro e w1 ⟨rfl,bd⟩;clear b0 BD;have BD:=bd;have b0:=BD.c0;clear bd))
     all_goals
      go_end0
      exact⟨rfl,BD.more (by omega)⟩
theorem bsome(B:Nat)(v w:World)(b c g m:Nat)(h:Bd B v w b c g m)(hm:m<=999999):
  Calls Tryz.prog 95 #[.pointer (some ⟨b,0,none⟩)] w λe w'=>e=.returned (.tuple #[])/\Hid (Bd B v w' b c g (m+300)):=by
 have BD:=uU h;have b0:=h.c0;clear h;go_enter Tryz.func95,Tryz.ntmps95;go_wp2_with (first | (go_at_call 54;refine(zW B v _ b c g _ _ BD (by omega) (by omega) (by omega)).mono ?_;rintro e w1 ⟨r,he,r0,r1,bd⟩;have e2:=uH he;subst e2;clear he;clear b0 BD;have BD:=bd;have b0:=BD.c0;clear bd) | (go_at_call 152;refine(bchain B v _ b c g _ _ BD (by omega) (by omega) (by omega)).mono ?_;rintro e w1 ⟨rfl,bd⟩;clear b0 BD;have BD:=bd;have b0:=BD.c0;clear bd) | (go_at_call 153;refine(bweakly B v _ b c g _ BD (by omega)).mono ?_;rintro e w1 ⟨rfl,bd⟩;clear b0 BD;have BD:=bd;have b0:=BD.c0;clear bd) | (go_at_call 154;refine(blastly B v _ b c g _ BD (by omega)).mono ?_;rintro e w1 ⟨rfl,bd⟩;clear b0 BD;have BD:=bd;have b0:=BD.c0;clear bd) | (go_at_call 155;refine(bring B v _ b c g _ BD (by omega)).mono ?_;rintro e w1 ⟨rfl,bd⟩;clear b0 BD;have BD:=bd;have b0:=BD.c0;clear bd) | (go_at_call 156;refine(a7z B v _ b c g _ BD (by omega)).mono ?_;rintro e w1 ⟨rfl,bd⟩;clear b0 BD;have BD:=bd;have b0:=BD.c0;clear bd))
 iterate 4
  ·go_end0
   exact⟨rfl,BD.more (by omega)⟩
 go_loopw [3] (λi wr=>∃k:Nat,k<=9/\i=.int .i64 k/\Hid (Bd B v wr b c g (m+4+(9-k)*20))) (λi _=>(intOf i).toNat)
 case atStart=>exact⟨(2+r).toNat,by omega,by rw[Int.toNat_of_nonneg (by omega)],BD.more (by omega)⟩
 case round=>
  clear b0 BD;obtain⟨k,hk,rfl,BD⟩:=hrel;have b0:=BD.c0;by_cases hlt:(k:Int) > 0
  ·go_wp2_with (first | (go_at_call 117;refine(bact B v _ b c g _ BD (by omega)).mono ?_;rintro e w1 ⟨rfl,bd⟩;clear b0 BD;have BD:=bd;have b0:=BD.c0;clear bd) | (go_at_call 156;refine(a7z B v _ b c g _ BD (by omega)).mono ?_;rintro e w1 ⟨rfl,bd⟩;clear b0 BD;have BD:=bd;have b0:=BD.c0;clear bd));go_roundw
   ·exact⟨k-1,by omega,by rw[Int.ofNat_sub (by omega)];rfl,BD.more (by omega)⟩
   ·simp [intOf];omega
  ·go_wp2_with (go_at_call 156;refine(a7z B v _ b c g _ BD (by omega)).mono ?_;rintro e w1 ⟨rfl,bd⟩;clear b0 BD;have BD:=bd;have b0:=BD.c0;clear bd)
   go_end0
   exact⟨rfl,BD.more (by omega)⟩
def zw(n:Nat):Array Value:=Array.replicate n (iv 0)
theorem mk16(w:World):(Instr.makeSlice 30 (.int .i64 16) (.int .i64 16)).run Tryz.prog w=.ok (.slice (some ⟨w.heap.size,0,none⟩) 16 16) (w.alloc (.cells (zw 48) 152)):=by kernel_rfl
theorem b9u(n:Int)(w:World):Calls Tryz.prog 151 #[.int .i64 n] w λe w'=>e=.returned (.pointer (some ⟨w.heap.size+1,0,none⟩))/\w'=(w.alloc (.cells (zw 48) 152)).alloc (.cells #[iv n,iv 0,iv 0,.slice (some ⟨w.heap.size,0,none⟩) 16 16,.slice none 0 0,iv 0,iv 0,iv 0,.slice none 0 0,iv 0,iv 0,iv 0,iv 0] 34):=by
 have hmk:=mk16;go_enter Tryz.func151,Tryz.ntmps151
 go_wp2
 go_ret;exact⟨rfl,rfl⟩
def frH(n:Int):Hp:=⟨n,0,0,List.replicate 16 ⟨0,0,0⟩,[],0,0,0,[],0,0,0,0⟩
theorem frH_snd(n:Int)(h1:1<=n)(h2:n<=4000):Snd (frH n):=by
 have hc:(frH n).A=[]:=rfl;refine⟨⟨⟨h1,h2⟩,by simp [frH],by simp [frH];omega,by simp [frH],by simp [frH],by simp [frH],by simp [frH],by simp [frH],by simp [frH],by simp [frH],by simp [frH],by simp [frH]⟩,⟨λi hi=>by simp [hc] at hi,λi hi=>by simp [hc] at hi⟩,⟨by simp [frH,dL],by simp [frH];omega⟩,⟨λi hi=>?_,λi hi=>by simp [hc] at hi⟩,⟨λ_=>rfl,λi hi=>by simp [hc] at hi,λq hq=>by simp [frH] at hq⟩,⟨λ_=>⟨rfl,rfl⟩,λe=>by simp [frH] at e,λe=>by simp [frH] at e,λ_=>rfl⟩,λ_ i hi=>by simp [hc] at hi,λi hi=>by simp [hc] at hi⟩;have e:(frH n).B[i]=⟨0,0,0⟩:=List.eq_of_mem_replicate (n:=16) (List.getElem_mem hi);rw[e];exact⟨.inl ⟨rfl,rfl,rfl⟩,λh=>by cases h⟩
theorem zw_cell(w:World)(t:TypeId)(j:Nat)(hj:j<48):(w.alloc (.cells (zw 48) t)).cell? ⟨w.heap.size,j,none⟩=some (iv 0):=by
 have:=heap_alloc_new w (.cells (zw 48) t);unfold World.cell?;simp only [this];simp [zw,hj]
theorem b7d(w:World)(c:Array Value)(t:TypeId):Nf1 w.heap.size (w.alloc (.cells c t)):=⟨by simp [go_sem],λj=>by simp [go_sem]⟩
theorem d0j(S:Nat->Prop)(n:Int)(w:World)(hS:∀q,S q->q<w.heap.size):GG S w.heap.size ((w.alloc (.cells (zw 48) 152)).alloc (.cells #[iv n,iv 0,iv 0,.slice (some ⟨w.heap.size,0,none⟩) 16 16,.slice none 0 0,iv 0,iv 0,iv 0,.slice none 0 0,iv 0,iv 0,iv 0,iv 0] 34)) (w.heap.size+1) (frH n):=by
 have x0:=(Ext.refl w).alloc (.cells (zw 48) 152);have N0:=b7d w (zw 48) 152;have Z:=λj hj=>zw_cell w 152 j hj
 obtain⟨W0,h0⟩:∃W0,W0=w.alloc (.cells (zw 48) 152):=⟨_,rfl⟩;rw[<-h0] at x0 N0 Z ⊢;have s0:W0.heap.size=w.heap.size+1:=by rw[h0];simp [go_sem]
 clear h0;have x1:=(Ext.refl W0).alloc (.cells #[iv n,iv 0,iv 0,.slice (some ⟨w.heap.size,0,none⟩) 16 16,.slice none 0 0,iv 0,iv 0,iv 0,.slice none 0 0,iv 0,iv 0,iv 0,iv 0] 34);have N1:=b7d W0 #[iv n,iv 0,iv 0,.slice (some ⟨w.heap.size,0,none⟩) 16 16,.slice none 0 0,iv 0,iv 0,iv 0,.slice none 0 0,iv 0,iv 0,iv 0,iv 0] 34;have HB:=dE.new W0 (frH n) (.slice (some ⟨w.heap.size,0,none⟩) 16 16) (.slice none 0 0) (.slice none 0 0) 34;rw[s0] at N1 HB;obtain⟨W1,h1⟩:∃W1,W1=W0.alloc (.cells #[iv n,iv 0,iv 0,.slice (some ⟨w.heap.size,0,none⟩) 16 16,.slice none 0 0,iv 0,iv 0,iv 0,.slice none 0 0,iv 0,iv 0,iv 0,iv 0] 34):=⟨_,rfl⟩;have HB:dE (W0.alloc (.cells #[iv n,iv 0,iv 0,.slice (some ⟨w.heap.size,0,none⟩) 16 16,.slice none 0 0,iv 0,iv 0,iv 0,.slice none 0 0,iv 0,iv 0,iv 0,iv 0] 34)) (w.heap.size+1) (frH n) (.slice (some ⟨w.heap.size,0,none⟩) 16 16) (.slice none 0 0) (.slice none 0 0):=HB;rw[<-h1] at x1 N1 HB ⊢;clear h1;have e:(frH n).B.length=16:=by simp [frH]
 have ec:(frH n).A=[]:=rfl;refine⟨λq=>if q<w.heap.size then W1.heap[q]? else none,λq hq=>?_,some ⟨w.heap.size,0,none⟩,16,none,0,.slice none 0 0,w.heap.size,0,λ_=>0,λ_=>none,λ_=>0,λq=>if q=w.heap.size+1 then 0 else if q=w.heap.size then 2 else 1,?_⟩
 ·have:=hS q hq;simp only [this,if_true];exact a4s (by have:=x1.size;omega)
 ·letI:Inhabited uQ:=⟨⟨λq=>if q<w.heap.size then W1.heap[q]? else none⟩⟩
  refine⟨by rw[e];exact HB,N1,by omega,λ_=>rfl,λh=>by simp [ec] at h,⟨λi hi=>?_,λq hq=>by simp [ec] at hq,λq hq=>by simp [ec] at hq,λq hq=>by simp [ec] at hq,λq hq=>by simp [ec] at hq,λ_=>⟨N0.ext x1,Nat.le_refl _⟩,λh=>by simp [ec] at h,λh=>by simp [ec] at h,λq _ hq=>by simp [ec] at hq,λq hq=>by simp [ec] at hq⟩,.inl ⟨rfl,rfl⟩,⟨if_pos rfl,λ_=>by rw[if_neg (by omega),if_pos rfl],λh=>by simp [ec] at h,λq hq=>by simp [Value.ownBlock] at hq,λq hq=>by simp [ec] at hq⟩,by simp [ec],λq o hq=>?_,λh=>by omega⟩
  ·have hi2:i<16:=e ▸ hi;have e3:(frH n).B[i]=⟨0,0,0⟩:=List.eq_of_mem_replicate (n:=16) (List.getElem_mem hi);exact(congrArg (yQ W1 w.heap.size (i*3)) e3).mpr ⟨x1.keep (Z _ (by omega)),x1.keep (Z _ (by omega)),x1.keep (Z _ (by omega))⟩
  ·have hq:(if q<w.heap.size then W1.heap[q]? else none)=some o:=hq
   split at hq
   ·exact⟨by rw[if_neg (by omega),if_neg (by omega)],hq⟩
   ·cases hq
theorem c6i(v w:World)(c m:Nat)(h:Cu v w c m)(hm:m<=99999):
  Calls Tryz.prog 93 #[.pointer (some ⟨c,0,none⟩)] w λe w'=>∃r:Int,Hid (e=.returned (iv r))/\1<=r/\r<=4000/\Hid (Cu v w' c (m+4)):=by
 have CU:=uU h;clear h;go_enter Tryz.func93,Tryz.ntmps93;go_wp2_with (go_at_call 54;refine(b6k v _ c _ _ CU (by omega) (by omega) (by omega)).mono ?_;rintro e w1 ⟨r,he,r0,r1,cu,o⟩;have e2:=uH he;subst e2;clear he o CU;have CU:=cu;clear cu)
 all_goals
  go_ret;exact⟨_,rfl,by omega,by omega,CU⟩
theorem c2h(v w:World)(c m:Nat)(n:Int)(h1:1<=n)(h2:n<=4000)(h:Cu v w c m):
  Calls Tryz.prog 94 #[.pointer (some ⟨c,0,none⟩),iv n] w λe w'=>∃b g B,Hid (e=.returned (.pointer (some ⟨b,0,none⟩)))/\Hid (Bd B v w' b c g m):=by
 have CU:=uU h;have GF:=uU (d0j (λq=>q=c) n w (λq e=>by have:=h.2.2.1.1;omega));have XF:=uU (((Ext.refl w).alloc (.cells (zw 48) 152)).alloc (.cells #[iv n,iv 0,iv 0,.slice (some ⟨w.heap.size,0,none⟩) 16 16,.slice none 0 0,iv 0,iv 0,iv 0,.slice none 0 0,iv 0,iv 0,iv 0,iv 0] 34));have SF:=uU (show((w.alloc (.cells (zw 48) 152)).alloc (.cells #[iv n,iv 0,iv 0,.slice (some ⟨w.heap.size,0,none⟩) 16 16,.slice none 0 0,iv 0,iv 0,iv 0,.slice none 0 0,iv 0,iv 0,iv 0,iv 0] 34)).heap.size=w.heap.size+2 by simp [go_sem]);clear h;have Q:=uU (b9u n w);go_enter Tryz.func94,Tryz.ntmps94;go_wp2_with fail;refine Q.mono ?_;rintro e w1 ⟨rfl,hw⟩;rw[<-hw] at GF XF SF;clear hw Q;go_wp2_with fail;go_ret;have xb:=(Ext.refl w1).alloc (.cells #[.pointer (some ⟨c,0,none⟩),.pointer (some ⟨w.heap.size+1,0,none⟩),.slice none 0 0,iv 400] 145);have nb:=b7d w1 #[.pointer (some ⟨c,0,none⟩),.pointer (some ⟨w.heap.size+1,0,none⟩),.slice none 0 0,iv 400] 145;have hc:=CU.2.2.1.1;have hv:=CU.1.size;have hs:=uH SF;refine⟨w1.heap.size,w.heap.size+1,w.heap.size,rfl,frH n,[],.slice none 0 0,400,⟨frH_snd n h1 h2,λa ha=>(by simp at ha),by simp,CU.blk ((CU.1.trans XF).trans xb) (by rw[xb.block c (by omega)];exact XF.block c hc),hv,by omega,by omega,nb,by simp [go_sem],by simp [go_sem],by simp [go_sem],by simp [go_sem],World.ownsRow_nil _ _ _ _,by simp [Value.ownBlock],by simp [Value.ownBlock],GF.more xb (λq hq=>?_)⟩⟩;rcases hq with e | e | e
 ·exact .inr ⟨by omega,by rw[e];exact nb.1⟩
 ·exact .inl e
 ·simp [Value.ownBlock] at e
theorem a2a(h:Bd B v w b c g m):∃p:Int,w.cell? ⟨g,5,none⟩=some (iv p)/\
  Hid (p≠0->Calls Tryz.prog 116 #[.pointer (some ⟨g,0,none⟩)] w λe w'=>e=.returned (.tuple #[])/\Hid (Bd B v w' b c g m))/\
  Hid (p=0->Calls Tryz.prog 115 #[.pointer (some ⟨g,0,none⟩)] w λe w'=>e=.returned (.tuple #[])/\Hid (Bd B v w' b c g m)/\w'.cell? ⟨g,5,none⟩=some (iv 1)):=by
 obtain⟨x,L,va,lf,h⟩:=h;obtain⟨p,h1,h2⟩:=h.gg.call;refine⟨x.E,h1.box.2.2.1,λe=>?_,λe=>?_⟩
 ·exact(a5k B g x w h1 h.s e v h.vB h.cu.1).mono λ_ w' ⟨e1,g1,x1⟩=>⟨e1,_,L,va,lf,h.blk x1 h.s.unit (h2 _ _ g1).1 (h2 _ _ g1).2⟩
 ·exact(a4e B g x w h1 v h.vB h.cu.1).mono λ_ w' ⟨e1,g1,x1⟩=>⟨e1,⟨_,L,va,lf,h.blk x1 (h.s.begin e) (h2 _ _ g1).1 (h2 _ _ g1).2⟩,g1.box.2.2.1⟩
def d0k(v:World)(c:Nat)(e:Ending)(w':World):Prop:=∃b g B m,Hid (e=.returned (.pointer (some ⟨g,0,none⟩)))/\Hid (Bd B v w' b c g m)/\m<=999999
theorem c6j(v w:World)(c m:Nat)(h:Cu v w c m)(hm:m<=9999):
  Calls Tryz.prog 69 #[.pointer (some ⟨c,0,none⟩)] w λe w'=>d0k v c e w':=by
 have CU:=uU h;clear h;go_enter Tryz.func69,Tryz.ntmps69;go_wp2_with fail;refine(c6i v w c m CU (by omega)).mono ?_;rintro e w1 ⟨n,he,n1,n2,CU⟩;have e2:=uH he;subst e2;go_wp2_with fail;refine(c2h v w1 c _ n n1 n2 CU).mono ?_;rintro e w2 ⟨b,g,B,he,BD⟩;have e2:=uH he;subst e2;clear he CU;have b0:=BD.c0;have b1:=BD.c1;obtain⟨p,c5,UN,BE⟩:=a2a BD;go_wp2_with fail;refine(zW B v _ b c g _ _ BD (by omega) (by omega) (by omega)).mono ?_;rintro e w1 ⟨ph,he,ph0,ph1,bd⟩;have e2:=uH he;subst e2;clear he;clear BD b0 b1 c5 UN BE;have BD:=bd;have b0:=BD.c0;have b1:=BD.c1;obtain⟨p,c5,UN,BE⟩:=a2a BD;clear bd;go_wp2_with (go_at_call 54;refine(zW B v _ b c g _ _ BD (by omega) (by omega) (by omega)).mono ?_;rintro e w1 ⟨r,he,r0,r1,bd⟩;have e2:=uH he;subst e2;clear he;clear BD b0 b1 c5 UN BE;have BD:=bd;have b0:=BD.c0;have b1:=BD.c1;obtain⟨p,c5,UN,BE⟩:=a2a BD;clear bd);go_loopw [5] (λi wr=>∃k:Nat,k<=8/\i=.int .i64 k/\Hid (Bd B v wr b c g (m+10+(8-k)*300))) (λi _=>(intOf i).toNat)
 case atStart=>exact⟨(1+r).toNat,by omega,by rw[Int.toNat_of_nonneg (by omega)],BD.more (by omega)⟩
 case round=>
  clear b0 b1 c5 UN BE BD;obtain⟨k,hk,rfl,BD⟩:=hrel;have b0:=BD.c0;have b1:=BD.c1;obtain⟨p,c5,UN,BE⟩:=a2a BD;by_cases hlt:(k:Int) > 0
  ·go_wp2_with (go_at_call 95;refine(bsome B v _ b c g _ BD (by omega)).mono ?_;rintro e w1 ⟨rfl,bd⟩;clear BD b0 b1 c5 UN BE;have BD:=bd;have b0:=BD.c0;have b1:=BD.c1;obtain⟨p,c5,UN,BE⟩:=a2a BD;clear bd);go_roundw
   ·exact⟨k-1,by omega,by rw[Int.ofNat_sub (by omega)];rfl,BD.more (by omega)⟩
   ·simp [intOf];omega
  ·go_upto_if 37 with(go_at_call 54;refine(zW B v _ b c g _ _ BD (by omega) (by omega) (by omega)).mono ?_;rintro e w1 ⟨r,he,r0,r1,bd⟩;have e2:=uH he;subst e2;clear he;clear BD b0 b1 c5 UN BE;have BD:=bd;have b0:=BD.c0;have b1:=BD.c1;obtain⟨p,c5,UN,BE⟩:=a2a BD;clear bd)
   ·go_ret;exact⟨b,g,B,_,rfl,BD,by omega⟩
   go_cut [] (λwx=>Hid (Bd B v wx b c g (m+3000)))
   case first=>
    cases t:(p == 0)
    ·go_wp2_with fail;go_meet;exact BD.more (by omega)
    ·go_wp2_with (go_at_call 115;refine(BE (by have:=‹(p == 0)=true›;simpa using this)).mono ?_;rintro e w1 ⟨rfl,bd,q5⟩;clear BD b0 b1 c5 UN BE;have BD:=bd;have b0:=BD.c0;have b1:=BD.c1;obtain⟨p,c5,UN,BE⟩:=a2a BD;clear bd;have pn:p≠0:=by rw[q5] at c5;simp at c5;omega);go_meet;exact BD.more (by omega)
   case rest=>
    clear b0 b1 c5 UN BE BD;have BD:=hcut;go_wp2_with fail;go_loopw [6] (λi wr=>∃k:Nat,k<=20000/\i=.int .i64 k/\Hid (Bd B v wr b c g (m+3000))) (λi _=>20000-(intOf i).toNat)
    case atStart=>exact⟨0,by omega,rfl,BD⟩
    case round=>
     clear BD;obtain⟨k,hk,rfl,BD⟩:=hrel;have b0:=BD.c0;have b1:=BD.c1;obtain⟨p,c5,UN,BE⟩:=a2a BD;obtain⟨W,hW⟩:∃W,W=wr:=⟨_,rfl⟩;subst hW
     go_upto_region 12 with(fail)
     go_cut [59] (λs wx=>wx=W/\∃t:Bool,s=.bool t/\Hid (t=true->(k:Int)<20000))
     case first=>
      rcases (show((k:Int)<20000/\(p != ph)=true/\ph<=6)\/((k:Int)<20000/\(p != ph)=true/\¬ph<=6)\/((k:Int)<20000/\(p != ph)=false)\/¬(k:Int)<20000 by cases (p != ph) <;> simp <;> omega) with⟨h1,h2,h3⟩ | ⟨h1,h2,h3⟩ | ⟨h1,h2⟩ | h1
      all_goals
       go_wp2_with fail;go_meet;exact⟨rfl,_,rfl,λe=>by first | omega | cases e⟩
     case rest=>
      obtain⟨rfl,t,rfl,ht⟩:=hcut;cases t
      ·go_wp2_with (go_at_call 54;refine(zW B v _ b c g _ _ BD (by omega) (by omega) (by omega)).mono ?_;rintro e w1 ⟨r,he,r0,r1,bd⟩;have e2:=uH he;subst e2;clear he;clear BD b0 b1 c5 UN BE;have BD:=bd;have b0:=BD.c0;have b1:=BD.c1;obtain⟨p,c5,UN,BE⟩:=a2a BD;clear bd);go_loopw [7] (λi wr=>∃k:Nat,k<=6/\i=.int .i64 k/\Hid (Bd B v wr b c g (m+4000+(6-k)*30))) (λi _=>(intOf i).toNat)
       case atStart=>exact⟨r.toNat,by omega,by rw[Int.toNat_of_nonneg (by omega)],BD.more (by omega)⟩
       case round=>
        clear b0 b1 c5 UN BE BD;obtain⟨k,hk,rfl,BD⟩:=hrel;have b0:=BD.c0;have b1:=BD.c1;obtain⟨p,c5,UN,BE⟩:=a2a BD;by_cases hlt:(k:Int) > 0
        ·go_wp2_with (first | (go_at_call 54;refine(zW B v _ b c g _ _ BD (by omega) (by omega) (by omega)).mono ?_;rintro e w1 ⟨r,he,r0,r1,bd⟩;have e2:=uH he;subst e2;clear he;clear BD b0 b1 c5 UN BE;have BD:=bd;have b0:=BD.c0;have b1:=BD.c1;obtain⟨p,c5,UN,BE⟩:=a2a BD;clear bd) | (go_at_call 117;refine(bact B v _ b c g _ BD (by omega)).mono ?_;rintro e w1 ⟨rfl,bd⟩;clear BD b0 b1 c5 UN BE;have BD:=bd;have b0:=BD.c0;have b1:=BD.c1;obtain⟨p,c5,UN,BE⟩:=a2a BD;clear bd) | (go_at_call 116;refine(UN (by first | exact pn | (have:=‹(p != 0)=true›;simpa using this) | (have:=‹(p == 0)=false›;simpa using this))).mono ?_;rintro e w1 ⟨rfl,bd⟩;clear BD b0 b1 c5 UN BE;have BD:=bd;have b0:=BD.c0;have b1:=BD.c1;obtain⟨p,c5,UN,BE⟩:=a2a BD;clear bd))
         all_goals
          go_roundw
          ·exact⟨k-1,by omega,by rw[Int.ofNat_sub (by omega)];rfl,BD.more (by omega)⟩
          ·simp [intOf];omega
        ·go_wp2_with fail;go_ret;exact⟨b,g,B,_,rfl,BD,by omega⟩
      ·have h1:=uH ht rfl
       go_upto_if 69 with(fail)
       go_cut [] (λwx=>Hid (Bd B v wx b c g (m+3000))/\∃q:Int,wx.cell? ⟨g,5,none⟩=some (iv q)/\q≠0)
       case first=>
        cases t:(p == 0)
        ·go_wp2_with fail;go_meet;exact⟨BD,p,c5,by simpa using t⟩
        ·go_wp2_with (go_at_call 115;refine(BE (by simpa using t)).mono ?_;rintro e w1 ⟨rfl,bd,q5⟩);go_meet;exact⟨bd,1,q5,by omega⟩
       case rest=>
        clear BD b0 b1 c5 UN BE;obtain⟨BD,q,q5,qn⟩:=hcut;have b0:=BD.c0;have b1:=BD.c1;obtain⟨p,c5,UN,BE⟩:=a2a BD;have pn:p≠0:=by rw[q5] at c5;simp at c5;omega
        go_wp2_with (go_at_call 116;refine(UN (by first | exact pn | (have:=‹(p != 0)=true›;simpa using this) | (have:=‹(p == 0)=false›;simpa using this))).mono ?_;rintro e w1 ⟨rfl,bd⟩;clear BD b0 b1 c5 UN BE;have BD:=bd;have b0:=BD.c0;have b1:=BD.c1;obtain⟨p,c5,UN,BE⟩:=a2a BD;clear bd);go_roundw
        ·exact⟨k+1,by omega,by go_num,BD⟩
        ·simp [intOf];omega
def ByAt(w:World)(v:Value):Prop:=∃(ad:Option Addr) (n k:Nat),v=.slice ad n k/\n<=1048576/\∀i,i<n->∃b o z,ad=some ⟨b,o,none⟩/\w.cell? ⟨b,o+i,none⟩=some (.int .u8 z)/\0<=z/\z<256
def HV(w:World)(x:Hp)(ar:Option Addr)(kr:Nat)(ac:Option Addr)(kc:Nat)(ag:Option Addr)(kg:Nat):Prop:=HRd w x ar kr ac kc ag kg/\a4g w x ac
theorem GAt.hv[Inhabited uQ]{br bc:Nat}{pb:Nat->Nat}{pa:Nat->Option Addr}{pk:Nat->Nat}{role:Nat->Nat}(hg:GAt B w g x ar kr ac kc (.slice ag x.D.length kg) br bc pb pa pk role)(s:Snd x):HV w x ar kr ac kc ag kg:=by
 refine⟨hg.rd (by rw[s.r1.B];omega) (by have:=s.ok.n8;omega) (λq hq=>s.ok.p200 q hq) (by have:=s.r1.D;have:=s.ok.n8;omega),λi hi bc2 oc ad l c ha hc=>.inl ?_⟩;have hn:0<x.A.length:=by omega
 rw[hg.hc hn] at ha;simp only [Option.some.injEq,Addr.mk.injEq] at ha;obtain⟨rfl,rfl,_⟩:=ha;rw[Nat.zero_add,hg.rw.p7 i hi] at hc;simp only [Option.some.injEq,Value.slice.injEq] at hc;obtain⟨_,rfl,rfl⟩:=hc;exact hg.rw.kp i hi
theorem Bd.hv(h:Bd B v w b c g m):∃(x:Hp) (ar:Option Addr) (kr:Nat) (ac:Option Addr) (kc:Nat) (ag:Option Addr) (kg:Nat),Hid (Snd x)/\dE w g x (.slice ar x.B.length kr) (.slice ac x.A.length kc) (.slice ag x.D.length kg)/\Hid (∀W,uZ (λq=>q<B) w W->HV W x ar kr ac kc ag kg)/\v.heap.size<=B/\B<=g:=by
 obtain⟨x,L,va,lf,h⟩:=h;have s:=h.s;obtain⟨z,_,ar,kr,ac,kc,vg,br,bc,pb,pa,pk,role,hg⟩:=h.gg;obtain⟨bx,nf,lo,ha,hc,rs,gr,sp,kl,pr,cc⟩:=hg
 letI:Inhabited uQ:=⟨⟨λ_=>none⟩⟩
 obtain⟨ag,kg,hvg⟩:∃a k,vg=.slice a x.D.length k:=gr.form;subst hvg;have hg:GAt B w g x ar kr ac kc (.slice ag x.D.length kg) br bc pb pa pk role:=⟨bx,nf,lo,ha,hc,rs,gr,sp,kl,(λq o hq=>by cases hq),cc⟩;exact⟨x,ar,kr,ac,kc,ag,kg,s,bx,λW o=>(GAt.low (λ_=>rfl) hg o (λq e=>e)).hv s,h.vB,lo⟩
theorem c6k(w:World)(u:Value)(h:ByAt w u):
  Calls Tryz.prog 23 #[u] w λe w'=>∃(x:Hp) (ar:Option Addr) (kr:Nat) (ac:Option Addr) (kc:Nat) (ag:Option Addr) (kg:Nat),Hid (e=.returned (x.v (.slice ar x.B.length kr) (.slice ac x.A.length kc) (.slice ag x.D.length kg)))/\Hid (Snd x)/\Hid (HV w' x ar kr ac kc ag kg)/\Ext w w':=by
 obtain⟨ad,n,k,rfl,hn,hx⟩:=h;obtain⟨v,hv⟩:∃v,v=w.alloc (.cells #[iv 0,iv 0,iv 0,.slice none 0 0,.slice none 0 0,iv 0,iv 0,iv 0,.slice none 0 0,iv 0,iv 0,iv 0,iv 0] 34):=⟨_,rfl⟩;have xv:Ext w v:=by rw[hv];exact(Ext.refl w).alloc _
 have sv:v.heap.size=w.heap.size+1:=by rw[hv];simp [go_sem]
 have CU:=uU (show Cu v (v.alloc (.cells #[.slice ad n k,iv 0,.int .u64 0] 79)) v.heap.size 0 from⟨(Ext.refl v).alloc _,Nat.le_refl _,⟨by simp [go_sem],λj=>by simp [go_sem]⟩,ad,n,k,0,0,by simp [go_sem],by simp [go_sem],by simp [go_sem],by omega,by omega,hn,λi hi=>let ⟨b,o,z,e,c,r⟩:=hx i hi;⟨b,o,z,e,xv.keep c,r⟩⟩);have Q:=uU (c6j v _ v.heap.size 0 CU (by omega))
 have RC:=uU (show(∀o,o<13->∃u,v.cell? ⟨w.heap.size,o,none⟩=some u)/\∀o,v.frozen? ⟨w.heap.size,o,none⟩=false from⟨λo ho=>by
  rw[hv]
  match o,ho with
  | 0,_ | 1,_ | 2,_ | 3,_ | 4,_ | 5,_ | 6,_ | 7,_ | 8,_ | 9,_ | 10,_ | 11,_ | 12,_=>exact⟨_,by simp [go_sem];rfl⟩,λo=>by rw[hv];simp [go_sem]⟩)
 clear CU hx;go_enter Tryz.func23,Tryz.ntmps23;go_wp2_with fail;rw[<-hv,<-sv];refine Q.mono ?_;rintro e w3 ⟨b,g,B,m,he,bd,_⟩;have e2:=uH he;subst e2;obtain⟨x,ar,kr,ac,kc,ag,kg,S,bx,HR,vB,Bg⟩:=bd.hv;have X3:=bd.cu.1;obtain⟨d0,d1,d2,d3,d4,d5,d6,d7,d8,d9,d10,d11,d12⟩:=bx;have hg3:g<w3.heap.size:=uL d0;obtain⟨r,hr⟩:∃r,r=w.heap.size:=⟨_,rfl⟩;have rB:r<B:=by omega
 have XW:=uU (xv.trans X3);have RF:=uU (show ∀o,w3.frozen? ⟨r,o,none⟩=false from λo=>by rw[(cD X3).2 r o (by omega),hr];exact RC.2 o);have RV:=uU (λo (ho:o<13)=>show ∃u,w3.cell? ⟨r,o,none⟩=some u from let ⟨u,hu⟩:=RC.1 o ho;⟨u,by rw[hr];exact X3.keep hu⟩);have ng:¬g=r:=by omega
 have ng2:¬r=g:=by omega
 have hr3:r<w3.heap.size:=by have:=X3.size;omega
 obtain⟨u0,r0⟩:=RV 0 (by omega);obtain⟨u1,r1⟩:=uH RV 1 (by omega);obtain⟨u2,r2⟩:=uH RV 2 (by omega);obtain⟨u3,r3⟩:=uH RV 3 (by omega);obtain⟨u4,r4⟩:=uH RV 4 (by omega);obtain⟨u5,r5⟩:=uH RV 5 (by omega);obtain⟨u6,r6⟩:=uH RV 6 (by omega);obtain⟨u7,r7⟩:=uH RV 7 (by omega);obtain⟨u8,r8⟩:=uH RV 8 (by omega);obtain⟨u9,r9⟩:=uH RV 9 (by omega);obtain⟨u10,r10⟩:=uH RV 10 (by omega);obtain⟨u11,r11⟩:=uH RV 11 (by omega);obtain⟨u12,r12⟩:=uH RV 12 (by omega);have f0:=uH RF 0;have f1:=uH RF 1;have f2:=uH RF 2;have f3:=uH RF 3;have f4:=uH RF 4;have f5:=uH RF 5;have f6:=uH RF 6;have f7:=uH RF 7;have f8:=uH RF 8;have f9:=uH RF 9;have f10:=uH RF 10;have f11:=uH RF 11;have f12:=uH RF 12;rw[<-hr];have HRr:=uU hr;clear hr hv sv xv X3 RC Q he bd;go_wp2_with fail;refine bodyPost_ret (v:=x.v (.slice ar x.B.length kr) (.slice ac x.A.length kc) (.slice ag x.D.length kg)) (by simp [results,Tryz.results23,go_sem,r0,r1,r2,r3,r4,r5,r6,r7,r8,r9,r10,r11,r12]) rfl ⟨x,ar,kr,ac,kc,ag,kg,rfl,S,?_⟩;refine(λ(F:uZ (λq=>q=r) w3 _)=>⟨uH HR _ (F.mono λq e=>by omega),F.ext XW (λq hq e=>by have:=uH HRr;omega)⟩) ?_
 repeat (first | (with_reducible refine uZ.setCell ?_ (by simp) _) | (with_reducible exact uZ.refl _ _))
theorem b9v(xs:List Wd)(v v':Value)(w:World)(h:SlW w v xs)(h':SlW w v' xs):
  Calls Tryz.prog 63 #[v,v'] w λe w'=>e=.returned (.bool true)/\Ext w w':=by
 obtain⟨ad,cap,rfl,hl,hx⟩:=h;obtain⟨ad',cap',rfl,_,hx'⟩:=h';have HX:=uU hx;have HY:=uU hx';clear hx hx';go_enter Tryz.func63,Tryz.ntmps63;go_wp2_with fail;go_loopw [5,13] (λ_i i wr=>∃k:Nat,k<=xs.length/\i=.int .i64 k/\Ext w wr) (λ_ i _=>xs.length-(intOf i).toNat)
 case atStart=>exact⟨0,Nat.zero_le _,rfl,Ext.refl _⟩
 case round=>
  obtain⟨k,hk,rfl,hbl⟩:=hrel;by_cases hlt:k<xs.length
  ·obtain⟨b,o,rfl,p0,p1,p2⟩:=uH HX k hlt;obtain⟨b',o',rfl,q0,q1,q2⟩:=uH HY k hlt;have e0:=hbl.keep p0;have g0:=hbl.keep q0;have e1:=hbl.keep p1;have g1:=hbl.keep q1;have e2:=hbl.keep p2;have g2:=hbl.keep q2;clear p0 q0 p1 q1 p2 q2;have hb:b<wr.heap.size:=uL e0;have hb':b'<wr.heap.size:=uL g0;have hk0:(0:Int)<=(k:Int):=by omega
   have hk1:(k:Int)<(xs.length:Int):=by omega
   obtain⟨y,hy⟩:∃y,y=xs[k]:=⟨_,rfl⟩;rw[<-hy] at e0 g0 e1 g1 e2 g2;clear hy;go_wp2_with fail
   go_region
   go_wp2_with fail;go_roundw
   ·exact⟨k+1,by omega,by go_num,hbl.drew⟩
   ·simp [intOf];omega
  ·go_wp2_with fail;go_ret;exact⟨rfl,hbl⟩
theorem b9w(xs:List Pr)(v v':Value)(w:World)(h:SlP w v xs)(h':SlP w v' xs):
  Calls Tryz.prog 64 #[v,v'] w λe w'=>e=.returned (.bool true)/\Ext w w':=by
 obtain⟨ad,cap,rfl,hl,hx⟩:=h;obtain⟨ad',cap',rfl,_,hx'⟩:=h';have HX:=uU hx;have HY:=uU hx';clear hx hx';go_enter Tryz.func64,Tryz.ntmps64;go_wp2_with fail;go_loopw [5,13] (λ_i i wr=>∃k:Nat,k<=xs.length/\i=.int .i64 k/\Ext w wr) (λ_ i _=>xs.length-(intOf i).toNat)
 case atStart=>exact⟨0,Nat.zero_le _,rfl,Ext.refl _⟩
 case round=>
  obtain⟨k,hk,rfl,hbl⟩:=hrel;by_cases hlt:k<xs.length
  ·obtain⟨b,o,rfl,p0,p1,p2,p3,p4,p5⟩:=uH HX k hlt;obtain⟨b',o',rfl,q0,q1,q2,q3,q4,q5⟩:=uH HY k hlt;have e0:=hbl.keep p0;have g0:=hbl.keep q0;have e1:=hbl.keep p1;have g1:=hbl.keep q1;have e2:=hbl.keep p2;have g2:=hbl.keep q2;have e3:=hbl.keep p3;have g3:=hbl.keep q3;have e4:=hbl.keep p4;have g4:=hbl.keep q4;have e5:=hbl.keep p5;have g5:=hbl.keep q5;clear p0 q0 p1 q1 p2 q2 p3 q3 p4 q4 p5 q5;have hb:b<wr.heap.size:=uL e0;have hb':b'<wr.heap.size:=uL g0;have hk0:(0:Int)<=(k:Int):=by omega
   have hk1:(k:Int)<(xs.length:Int):=by omega
   obtain⟨y,hy⟩:∃y,y=xs[k]:=⟨_,rfl⟩;rw[<-hy] at e0 g0 e1 g1 e2 g2 e3 g3 e4 g4 e5 g5;clear hy;go_wp2_with fail
   go_region
   go_wp2_with fail;go_roundw
   ·exact⟨k+1,by omega,by go_num,hbl.drew⟩
   ·simp [intOf];omega
  ·go_wp2_with fail;go_ret;exact⟨rfl,hbl⟩
theorem c2i(xs:List Int)(v v':Value)(w:World)(h:SlI w v xs)(h':SlI w v' xs):
  Calls Tryz.prog 46 #[v,v'] w λe w'=>e=.returned (.bool true)/\Ext w w':=by
 obtain⟨ad,cap,rfl,hl,hx⟩:=h;obtain⟨ad',cap',rfl,_,hx'⟩:=h';have HX:=uU hx;have HY:=uU hx';clear hx hx';go_enter Tryz.func46,Tryz.ntmps46;go_wp2_with fail;go_loopw [5,13] (λ_i i wr=>∃k:Nat,k<=xs.length/\i=.int .i64 k/\Ext w wr) (λ_ i _=>xs.length-(intOf i).toNat)
 case atStart=>exact⟨0,Nat.zero_le _,rfl,Ext.refl _⟩
 case round=>
  obtain⟨k,hk,rfl,hbl⟩:=hrel;by_cases hlt:k<xs.length
  ·obtain⟨b,o,rfl,p0⟩:=uH HX k hlt;obtain⟨b',o',rfl,q0⟩:=uH HY k hlt;have e0:=hbl.keep p0;have g0:=hbl.keep q0;clear p0 q0;simp only [Nat.mul_one] at e0 g0;have hb:b<wr.heap.size:=uL e0;have hb':b'<wr.heap.size:=uL g0;have hk0:(0:Int)<=(k:Int):=by omega
   have hk1:(k:Int)<(xs.length:Int):=by omega
   obtain⟨y,hy⟩:∃y,y=xs[k]:=⟨_,rfl⟩;rw[<-hy] at e0 g0;clear hy;go_wp2_with fail
   go_region
   go_wp2_with fail;go_roundw
   ·exact⟨k+1,by omega,by go_num,hbl.drew⟩
   ·simp [intOf];omega
  ·go_wp2_with fail;go_ret;exact⟨rfl,hbl⟩
theorem c2j(x:Hp)(w:World){ar' ac' ag':Option Addr}{kr' kc' kg':Nat}(h:HRd w x ar kr ac kc ag kg)(h':HRd w x ar' kr' ac' kc' ag' kg'):
  Calls Tryz.prog 34 #[x.v (.slice ar x.B.length kr) (.slice ac x.A.length kc) (.slice ag x.D.length kg),x.v (.slice ar' x.B.length kr') (.slice ac' x.A.length kc') (.slice ag' x.D.length kg')] w λe w'=>e=.returned (.bool true)/\Ext w w':=by
 obtain⟨W,hW⟩:∃W,W=(w.alloc (.cells #[iv x.M,iv x.K,iv x.born,.slice ar x.B.length kr,.slice ac x.A.length kc,iv x.E,iv x.I,iv x.sub,.slice ag x.D.length kg,iv x.per,iv x.V,iv x.Q,iv x.S] 34)).alloc (.cells #[iv x.M,iv x.K,iv x.born,.slice ar' x.B.length kr',.slice ac' x.A.length kc',iv x.E,iv x.I,iv x.sub,.slice ag' x.D.length kg',iv x.per,iv x.V,iv x.Q,iv x.S] 34):=⟨_,rfl⟩;have xW:Ext w W:=by rw[hW];exact((Ext.refl w).alloc _).alloc _
 have B1:=uU (dE.new w x (.slice ar x.B.length kr) (.slice ac x.A.length kc) (.slice ag x.D.length kg) 34);have B2:=uU (dE.new (w.alloc (.cells #[iv x.M,iv x.K,iv x.born,.slice ar x.B.length kr,.slice ac x.A.length kc,iv x.E,iv x.I,iv x.sub,.slice ag x.D.length kg,iv x.per,iv x.V,iv x.Q,iv x.S] 34)) x (.slice ar' x.B.length kr') (.slice ac' x.A.length kc') (.slice ag' x.D.length kg') 34);have B1:=uU (B1.ext ((Ext.refl _).alloc (.cells #[iv x.M,iv x.K,iv x.born,.slice ar' x.B.length kr',.slice ac' x.A.length kc',iv x.E,iv x.I,iv x.sub,.slice ag' x.D.length kg',iv x.per,iv x.V,iv x.Q,iv x.S] 34)));have e1:(w.alloc (.cells #[iv x.M,iv x.K,iv x.born,.slice ar x.B.length kr,.slice ac x.A.length kc,iv x.E,iv x.I,iv x.sub,.slice ag x.D.length kg,iv x.per,iv x.V,iv x.Q,iv x.S] 34)).heap.size=w.heap.size+1:=by simp [go_sem]
 rw[<-hW] at B1 B2;rw[e1] at B2;have H1:=uU (h.ext xW);have H2:=uU (h'.ext xW);obtain⟨p,hp⟩:∃p,p=w.heap.size:=⟨_,rfl⟩;clear h h' e1;go_enter Tryz.func34,Tryz.ntmps34
 go_upto_region 1 with(fail)
 rw[<-hW,<-hp];rw[<-hp] at B1 B2;obtain⟨c0,c1,c2,c3,c4,c5,c6,c7,c8,c9,c10,c11,c12⟩:=uH B1;obtain⟨d0,d1,d2,d3,d4,d5,d6,d7,d8,d9,d10,d11,d12⟩:=uH B2;have hp1:p<W.heap.size:=uL c0;have hp2:p+1<W.heap.size:=uL d0;have XW:=uU xW;clear hW hp xW;go_wp2_with fail;refine(b9v x.B _ _ _ H1.1 H2.1).mono ?_;rintro e w1 ⟨rfl,x1⟩;have B1:=uU (B1.ext x1);have B2:=uU (B2.ext x1);have H1:=uU (H1.ext x1);have H2:=uU (H2.ext x1);have XW:=uU (XW.trans x1);clear c0 c1 c2 c3 c4 c5 c6 c7 c8 c9 c10 c11 c12 d0 d1 d2 d3 d4 d5 d6 d7 d8 d9 d10 d11 d12 x1 hp1 hp2;obtain⟨c0,c1,c2,c3,c4,c5,c6,c7,c8,c9,c10,c11,c12⟩:=uH B1;obtain⟨d0,d1,d2,d3,d4,d5,d6,d7,d8,d9,d10,d11,d12⟩:=uH B2;have hp1:p<w1.heap.size:=uL c0;have hp2:p+1<w1.heap.size:=uL d0;go_wp2_with fail;go_loopw [5,6,7,47] (λ_a _b _c i wr=>∃k:Nat,k<=x.A.length/\i=.int .i64 k/\Ext w1 wr) (λ_ _ _ i _=>x.A.length-(intOf i).toNat)
 case atStart=>exact⟨0,Nat.zero_le _,rfl,Ext.refl _⟩
 case round=>
  obtain⟨k,hk,rfl,hbl⟩:=hrel;have B3:=uU (B1.ext hbl);have B4:=uU (B2.ext hbl);clear c0 c1 c2 c3 c4 c5 c6 c7 c8 c9 c10 c11 c12 d0 d1 d2 d3 d4 d5 d6 d7 d8 d9 d10 d11 d12 hp1 hp2;obtain⟨c0,c1,c2,c3,c4,c5,c6,c7,c8,c9,c10,c11,c12⟩:=uH B3;obtain⟨d0,d1,d2,d3,d4,d5,d6,d7,d8,d9,d10,d11,d12⟩:=uH B4;have hp1:p<wr.heap.size:=uL c0;have hp2:p+1<wr.heap.size:=uL d0;by_cases hlt:k<x.A.length
  ·obtain⟨_,_,ea,_,hx⟩:=H1.2.1;obtain⟨_,_,eb,_,hy⟩:=H2.2.1;obtain⟨b,o,rfl,vp,p0,p1,p2,p3,p4,p5,p6,p7,hP⟩:=hx k hlt;obtain⟨b',o',rfl,vq,q0,q1,q2,q3,q4,q5,q6,q7,hQ⟩:=hy k hlt;cases ea;cases eb;obtain⟨ap,kp,rfl,hl1⟩:=hP;obtain⟨aq,kq,rfl,hl2⟩:=hQ;have hP:SlP w1 (.slice ap (x.A[k]).F.length kp) (x.A[k]).F:=⟨ap,kp,rfl,hl1⟩;have hQ:SlP w1 (.slice aq (x.A[k]).F.length kq) (x.A[k]).F:=⟨aq,kq,rfl,hl2⟩;clear hl1 hl2;have e0:=hbl.keep p0;have e1:=hbl.keep p1;have e2:=hbl.keep p2;have e3:=hbl.keep p3;have e4:=hbl.keep p4;have e5:=hbl.keep p5;have e6:=hbl.keep p6;have e7:=hbl.keep p7;have f0:=hbl.keep q0;have f1:=hbl.keep q1;have f2:=hbl.keep q2;have f3:=hbl.keep q3;have f4:=hbl.keep q4;have f5:=hbl.keep q5;have f6:=hbl.keep q6;have f7:=hbl.keep q7;have HP:=uU (SlP.ext hbl hP);have HQ:=uU (SlP.ext hbl hQ);have hb:b<wr.heap.size:=uL e0;have hb':b'<wr.heap.size:=uL f0;clear p0 p1 p2 p3 p4 p5 p6 p7 q0 q1 q2 q3 q4 q5 q6 q7 hx hy hP hQ;have hk0:(0:Int)<=(k:Int):=by omega
   have hk1:(k:Int)<(x.A.length:Int):=by omega
   obtain⟨y,hy⟩:∃y,y=x.A[k]:=⟨_,rfl⟩;rw[<-hy] at e0 e1 e2 e3 e4 e5 e6 e7 f0 f1 f2 f3 f4 f5 f6 f7 HP HQ;clear hy;go_wp2_with fail;refine(b9w y.F _ _ _ (SlP.ext (((Ext.refl wr).alloc _).alloc _) HP) (SlP.ext (((Ext.refl wr).alloc _).alloc _) HQ)).mono ?_;rintro e w3 ⟨rfl,x3⟩;have X3:=uU (hbl.trans (Ext.trans (((Ext.refl wr).alloc _).alloc _) x3));clear x3;go_wp2_with fail;go_roundw
   ·exact⟨k+1,by omega,by go_num,X3⟩
   ·simp [intOf];omega
  ·go_wp2_with fail;refine(c2i x.D _ _ _ (SlI.ext hbl H1.2.2) (SlI.ext hbl H2.2.2)).mono ?_;rintro e w3 ⟨rfl,x3⟩;have B5:=uU (B3.ext x3);have B6:=uU (B4.ext x3);have X3:=uU ((XW.trans hbl).trans x3);clear c0 c1 c2 c3 c4 c5 c6 c7 c8 c9 c10 c11 c12 d0 d1 d2 d3 d4 d5 d6 d7 d8 d9 d10 d11 d12 hp1 hp2 x3;obtain⟨c0,c1,c2,c3,c4,c5,c6,c7,c8,c9,c10,c11,c12⟩:=uH B5;obtain⟨d0,d1,d2,d3,d4,d5,d6,d7,d8,d9,d10,d11,d12⟩:=uH B6;have hp1:p<w3.heap.size:=uL c0;have hp2:p+1<w3.heap.size:=uL d0;go_wp2_with fail;go_ret;exact⟨rfl,X3⟩
end Go.Proofs.YtddkhnclmeikfaaGreat
namespace Go.Proofs.YtddkhnclmeikfaaGreat
open Go.ChangeShapes Go.WideShapes Go.ChangeAt Go.RowKit
attribute [local go_sem ↓] Go.wp_at_zero Go.wp_at_succ
def ByL(w:World)(v:Value):Prop:=∃(ad:Option Addr) (n k:Nat),v=.slice ad n k/\n<=9223372036854775807/\∀i,i<n->∃b o z,ad=some ⟨b,o,none⟩/\w.cell? ⟨b,o+i,none⟩=some (.int .u8 z)/\0<=z/\z<256
theorem cells5:Tryz.prog.cellsOf 5=1:=by kernel_rfl
theorem d1a{H:Type}{enc:TypeId×Value->H}{w:World}{base:Nat}{r:Reach}{b0:Nat}{held:Bool}{v:Value}{d:DataW H}{p:List MemPlace}(hok:Value.okWide Tryz.prog w r b0 22 v)(h:DataW.Trod enc Tryz.prog w base (λ_=>true) held 22 v d p):ByL w v:=by
 obtain⟨ad,len,cap,rfl⟩:=okWide_slice Tryz.underlying22 hok;obtain⟨fuel,ht⟩:=h;rcases open_ints Tryz.underlying22 Tryz.underlying5 cells5 ht with⟨hcs,_⟩ | ⟨a,len',cap',zs,hcs,_,hl,hm,hz,_,hcell,hwz⟩
 ·have e:Value.slice ad len cap=.slice none 0 0:=by simpa [Value.cells] using hcs
  cases e;exact⟨none,0,0,rfl,by omega,λi hi=>by omega⟩
 ·have e:Value.slice ad len cap=.slice (some a) len' cap':=by simpa [Value.cells] using hcs
  cases e;simp only [if_true] at hz;refine⟨some a,len,cap,rfl,by unfold maxLen at hm;omega,λi hi=>?_⟩;have hc:=hcell i (by omega);obtain⟨b,o,spot⟩:=a
  have hspot:spot=none:=by
   have h0:=hcell 0 (by omega)
   simpa [Addr.add] using World.cell?_spot h0
  subst hspot;rw[b8f] at hc;obtain⟨z,hz2⟩:∃z,z=zs.getD i 0:=⟨_,rfl⟩
  have hw:=hwz z (by
   have:zs.getD i 0=zs[i]'(by omega):=by simp [show i<zs.length by omega]
   rw[hz2,this];exact List.getElem_mem _)
  rw[<-hz2] at hc;refine⟨b,o,z,rfl,hc,?_⟩;have hw:IntKind.u8.min<=z/\z<=IntKind.u8.max:=by simpa [Lit.wf] using hw
  have e1:IntKind.u8.min=0:=by decide
  have e2:IntKind.u8.max=255:=by decide
  omega
end Go.Proofs.YtddkhnclmeikfaaGreat
