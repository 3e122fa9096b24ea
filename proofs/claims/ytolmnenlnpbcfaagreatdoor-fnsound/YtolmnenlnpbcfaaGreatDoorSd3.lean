import Derived.Test.YtolmnenlnpbcfaaGreatDoorGh
import Derived.Test.YtolmnenlnpbcfaaGreatDoorSd6
import Derived.Laws.IdiomCopy
set_option maxRecDepth 100000
set_option maxHeartbeats 4000000
namespace Go.Proofs.YtolmnenlnpbcfaaGreatDoor
open Go.RowKit Go.Proofs.Tryz
attribute [local go_sem ↓] Go.wp_at_zero Go.wp_at_succ
variable{w v W u:World}{c m g B b k kr kc br bc kg i kp n cap:Nat}{x:Hp}{L:List Ak}{va:Value}{S:Nat->Prop}{ag pa ar ac:Option Addr}
def c3p:List Value->Nat->List Value->List Value
 | xs,_,[]=>xs
 | xs,o,v::r=>c3p (xs.set o v) (o+1) r
theorem c7w{B:Nat}{T:TypeId}{c g n cap:Nat}:∀(vs:List Value)(o:Nat)(w:World)(xs:List Value),w.ownsRow B T c (.slice (some ⟨g,0,none⟩) n cap) n xs->(w.setCells g o vs).ownsRow B T c (.slice (some ⟨g,0,none⟩) n cap) n (c3p xs o vs)
 | [],_,_,_,h=>h
 | v::r,o,_,_,h=>c7w r (o+1) _ _ (h.stored o v).1
theorem c3q(r:List Value):∀(vs xs:List Value)(o:Nat),c3p (r++xs) (r.length+o) vs=r++c3p xs o vs
 | [],_,_=>rfl
 | v::q,xs,o=>by
  show c3p ((r++xs).set (r.length+o) v) (r.length+o+1) q=r++c3p (xs.set o v) (o+1) q;rw[List.set_append_right _ _ (by omega),Nat.add_sub_cancel_left,Nat.add_assoc];exact c3q r q _ _
theorem c7x(y:Ak):∀(M:List Ak)(i:Nat),i<M.length->c3p (M.flatMap fA) (i*5) (fA y)=(M.set i y).flatMap fA
 | m::M,0,_=>by simp[c3p,fA]
 | m::M,i+1,h=>by
  have e:(i+1)*5=(fA m).length+i*5:=by simp[fA];omega
  rw[nC,e,c3q,c7x y M i (by simpa using h),List.set_cons_succ,nC]
theorem Cu.link(h:Cu v w c k)(d:Cu w W c m):Cu v W c m:=by
 obtain⟨e,_,t,n,i,_,_,g,_,_,_,_,u,r,o⟩:=h;obtain⟨f,y,_,_,_,a,s,j,p,q,b,x,_,_,l⟩:=d;cases g.symm.trans l;exact⟨e.trans f,y,t,n,i,a,s,j,p,q,b,x,u,r,o⟩
theorem Cu.here(h:Cu v w c k):Cu w w c k:=by
 obtain⟨e,B,u,n,i,a,s,g,p,q,m,A,x,t,_⟩:=h;exact⟨uQ.refl _ _,B,u,n,i,a,s,g,p,q,m,A,x,λj l=>have⟨b,o,z,f,d,y,r⟩:=t j l;⟨b,o,z,f,d,e.keep d y,r⟩,g⟩
theorem GAt.gg{p:Inhabited uL}{vg:Value}{pb:Nat->Nat}{pa:Nat->Option Addr}{pk:Nat->Nat}{role:Nat->Nat}(h:@GAt p B w g x ar kr ac kc vg br bc pb pa pk role)(k:∀q,S q->q<B/\q<w.heap.size):GG S B w g x:=by
 have t:∀q,B<=q->(λq=>if q<B then 1 else role q) q=role q:=λq l=>if_neg (by omega)
 obtain⟨a,b,l,f,d,r,y,s,n,_,o,e⟩:=h;letI:Inhabited uL:=⟨⟨λq=>if q<B then w.heap[q]? else none⟩⟩;refine⟨λq=>if q<B then w.heap[q]? else none,λq i=>?_,ar,kr,ac,kc,vg,br,bc,pb,pa,pk,λq=>if q<B then 1 else role q,a,b,l,f,d,r,y,⟨(t g l).trans s.g,λl=>(t _ (r.nr l).2).trans (s.r l),λl=>(t _ (r.nc l).2).trans (s.c l),λq l=>(t _ (y.lt q l).1).trans (s.y q l),λq i l=>(t _ (r.pl q i l).2.2.2).trans (s.p q i l)⟩,n,λq o j=>?_,λl=>(o l).block (t _ (o l).lo) rfl (hT _),e⟩;obtain⟨a,b⟩:=k q i;exact⟨w.heap[q],by simp[a,b]⟩;change(if q<B then w.heap[q]? else none)=some o at j;split at j
 ·rename_i l;exact⟨if_pos l,j⟩
 cases j
theorem Bd.copy(h:Cu u u c k)(s:Snd x)(G:GG (λq=>q=c) u.heap.size w g x)(e:Ext u w):Bd u.heap.size u (w.alloc (.cells #[pP c,pP g,.slice none 0 0,iv 1] 59)) w.heap.size c g k:=by
 have b:=(hO w).alloc (.cells #[pP c,pP g,.slice none 0 0,iv 1] 59);have n:=b4a w #[pP c,pP g,.slice none 0 0,iv 1] 59;have z:=e.size;have l:=h.2.1.1;refine⟨x,[],.slice none 0 0,1,s,λa i=>(by simp at i),by simp,h.ext (e.trans b),hT _,z,by omega,n,by simp[go_sem],by simp[go_sem],by simp[go_sem],by simp[go_sem],ks _ _ _ _,by simp[Value.ownBlock],by simp[Value.ownBlock],G.more b (λq i=>?_)⟩;obtain i|i|i:=i;exact .inr ⟨by omega,by rw[i];exact n.1⟩;exact .inl i;simp[Value.ownBlock]at i
theorem GG.out(h:GG S B w g x)(n:Bnd x):∃ar kr ac kc ag kg,Bx w g x ar kr ac kc ag kg/\Hid (∀W,uQ (λq=>q<B) w W->HV W x ar kr ac kc ag kg)/\B<=g:=by
 obtain⟨z,_,f,i,p,j,D,O,F,I,C,K,d,u,G,y,M,E,N,A,P,J,_,Q,V⟩:=h;letI:Inhabited uL:=⟨⟨λ_=>none⟩⟩;obtain⟨a,l,rfl⟩:∃a k,D=.slice a x.D.length k:=A.form;have r:GAt B w g x f i p j (.slice a x.D.length l) O F I C K d:=⟨u,G,y,M,E,N,A,P,J,(λq o H=>by cases H),Q,V⟩;refine⟨f,i,p,j,a,l,u,λW o=>?_,y⟩;have h:=GAt.low (λ_=>rfl) r o (λq e=>e);refine⟨h.rd n.1 n.2.1 n.2.2.1 n.2.2.2,λi e m t s l c d b=>.inl ?_⟩;have k:0<x.A.length:=by omega
 rw[h.hc k]at d;simp only[Option.some.injEq,Addr.mk.injEq]at d;obtain⟨rfl,rfl,_⟩:=d;rw[kO,h.rw.p7 i e]at b;simp only[Option.some.injEq,Value.slice.injEq]at b;obtain⟨_,rfl,rfl⟩:=b;exact h.rw.kp i e
structure Ds(u w:World)(b c m:Nat)(va:Value)(L:List Ak):Prop where
 cu:Cu u w c m
 ub:u.heap.size<=b
 bc:b≠c
 b2:w.cell? (aA b 2)=some va
 ow:w.ownsRow u.heap.size 29 5 va L.length (L.flatMap fA)
 n1:va.ownBlock≠some b
 n2:va.ownBlock≠some c
 hL:∀a,a∈L->a3v a
theorem Bd.ds(h:Bd B v w b c g m):∃va L,Ds v w b c m va L:=by
 obtain⟨x,L,va,_,h⟩:=h;exact⟨va,L,h.cu,h.vb,h.bc,h.b2,h.ow,h.n1,h.n2,h.hL⟩
theorem Ds.read(h:Ds u w b c m va L)(o:uQ (λq=>q=c) w W)(d:Cu u W c k):Ds u W b c k va L:=by
 have e:=o.block b (uZ h.b2) h.bc;exact⟨d,h.ub,h.bc,(eQ e).trans h.b2,uN h.ow (λq i=>o.block q (h.ow.lt q i).2 (λe=>h.n2 (by rw[<-e];exact i))),h.n1,h.n2,h.hL⟩
theorem Ds.ext(h:Ds u w b c m va L)(e:Ext w W):Ds u W b c m va L:=h.read (uQ.of_ext e) (h.cu.ext e)
theorem Ds.more(h:Ds u w b c m va L)(i:m<=k):Ds u w b c k va L:=h.read (uQ.refl _ _) (h.cu.more i)
theorem Ds.form(h:Ds u w b c m va L):∃ad cap,va=.slice ad L.length cap/\(0<L.length->∃g,ad=some (aA g 0)):=by
 obtain⟨a,d⟩|⟨g,cap,cur,a,_⟩:=h.ow.2;exact⟨none,0,by rw[a,d],λe=>by omega⟩;exact⟨_,cap,a,λ_=>⟨g,rfl⟩⟩
theorem c0h(h:w.ownsRow B 29 5 (sS g n cap) L.length (L.flatMap fA))(l:0<L.length):(w.cell? (aA g 0)=some (iv L[0].op)/\w.cell? (aA g 1)=some (iv L[0].a)/\w.cell? (aA g 2)=some (iv L[0].b)/\w.cell? (aA g 3)=some (iv L[0].c)/\w.cell? (aA g 4)=some (iv L[0].n))/\∀i,w.frozen? (aA g i)=false:=by
 obtain⟨j,k,e,_,f⟩:=b1f (f:=fA) (λ_=>rfl) h;obtain⟨p,d,_,_,r⟩:=f 0 l;simp only[Value.slice.injEq]at e;rw[d]at e;simp only[Option.some.injEq,Addr.mk.injEq,and_true]at e;obtain⟨rfl,_⟩:=e;refine⟨⟨by have:=r 0 (by omega);simpa[fA]using this,by have:=r 1 (by omega);simpa[fA]using this,by have:=r 2 (by omega);simpa[fA]using this,by have:=r 3 (by omega);simpa[fA]using this,by have:=r 4 (by omega);simpa[fA]using this⟩,λi=>?_⟩;obtain⟨a,b⟩|⟨q,_,_,a,_,e,_⟩:=h.2;omega;simp only[Value.slice.injEq,Option.some.injEq,Addr.mk.injEq,and_true]at a;obtain⟨rfl,_⟩:=a;simp[World.frozen?,e]
theorem Ds.put{p:Nat}(h:Ds u w b c m (sS p n cap) L)(l:0<L.length)(A:Ak)(a:a3v A):Ds u (w.setCells p 0 (fA A)) b c m (sS p n cap) (L.set 0 A):=by
 have e:n=L.length:=by obtain⟨_,_,e,_⟩:=h.form;simp only[Value.slice.injEq]at e;exact e.2.1
 subst e;have o:uQ (λq=>q=p) w (w.setCells p 0 (fA A)):=a1f (S:=λq=>q=p) rfl (uQ.refl _ _);have i:p≠b:=λe=>h.n1 (by rw[<-e];rfl)
 have j:p≠c:=λe=>h.n2 (by rw[<-e];rfl)
 have k:=(h.ow.lt p rfl).1;refine⟨h.cu.blk (h.cu.1.pst o (λq e=>by omega)) (o.block c h.cu.2.1.1 (by omega)),h.ub,h.bc,(eQ (o.block b (uZ h.b2) (by omega))).trans h.b2,?_,h.n1,h.n2,λy q=>?_⟩;have:=c7w (fA A) (0*5) w (L.flatMap fA) h.ow;rw[c7x A L 0 l]at this;rw[List.length_set];exact this;obtain q|q:=List.mem_or_eq_of_mem_set q
 ·exact h.hL y q
 rw[q];exact a
def dsS(c b:Nat)(va:Value)(q:Nat):Prop:=q=c\/q=b\/va.ownBlock=some q
theorem Ds.sp(h:Ds u w b c m va L)(d:Cu v u c k)(G:GG (λq=>q=c) B u g x)(s:Bns x)(l:v.heap.size<=B):Sp (dsS c b va) B v w w c g m x:=
 ⟨.inl rfl,l,d.link h.cu,G.turn h.cu.1 (λq e=>by
  obtain e|e|e:=e;exact .inl e;have:=h.ub;have:b<w.heap.size:=uZ h.b2;exact .inr ⟨by omega,by omega⟩;exact .inr (h.ow.lt q e)),s,λ_ _ _=>rfl,λq e=>by
  obtain e|e|e:=e;rw[e];exact h.cu.2.1.1;rw[e];exact uZ h.b2;exact(h.ow.lt q e).2,hT _⟩
theorem a8v{w0:World}(h:Sp S B v w0 w c g m x)(hm:m<=9000000):
  Calls prog 64 #[pP c,pP g] w λe w'=>e=.returned (.tuple #[])/\Hid (SpE S B v w0 c g (m+40) w'):=by
 have H:=uU h;clear h;obtain⟨ar,kr,ac,kc,ag,kg,X,gl,fz⟩:=H.bx;have d4:=X.2.2.2.2.1;have X:=uU X;have n8:=H.s.bnd.2.1;go_in;by_cases l:x.A.length=0
 ·rw[l]at d4;go_wp21;refine bodyPost_ret (results_none rfl _ _ _) rfl ⟨rfl,H.end_ (by omega)⟩
 go_wp2_with (go_at_call 17;refine(H.pick X (hO _) _ (by omega) (by omega) (by omega)).mono ?_;rintro e w2 ⟨r,rfl,r0,r1,H,X,gl,fz⟩;clear d4;have d4:=X.2.2.2.2.1;obtain⟨i,rfl⟩:=k9 r0;obtain⟨bc,pa,kp,rfl,⟨s0,s1,s2,s3,s4,s5,s6⟩,q7,⟨bl,bf⟩,C⟩:=H.sc_ X i (by omega));refine(C.odd (by omega)).mono ?_;rintro e w3 ⟨u,rfl,C⟩;clear s0 s1 s2 s3 s4 s5 s6 q7 bl bf d4 gl fz;obtain⟨b,hb⟩:=obE w2.heap.size;rw[<-hb]at C ⊢;clear hb X H;clear r1 r0 l n8;go_upto_region 4 with(fail);go_cut [31] (λs wx=>∃r:Int,s=iv r/\0<=r/\r<10/\Hid (Sc S B v w0 wx c g (m+8) x i b bc kc (x.c i) pa kp))
 case first=>
  go_wp21;refine(C.pick (hO _) _ (by omega) (by omega) (by omega)).mono ?_;rintro e w4 ⟨r,rfl,r0,r1,C⟩;go_wp21;go_meet;exact⟨_,rfl,r0,r1,C⟩
 case rest=>
  clear C;obtain⟨r,rfl,r0,r1,C⟩:=hcut;rename_i K hK;refine hK _ _ ?_;go_cut [] (λwx=>∃(x':Hp)(D:Cl),Hid (Sc S B v w0 wx c g (m+30) x' i b bc kc D pa kp))
  case rest=>
   clear C r0 r1;obtain⟨x',D,C⟩:=hcut;obtain⟨⟨t0,t1,t2,t3,t4,t5,t6,t7⟩,f1,f2⟩:=C.bx;have c4:=C.c4;obtain⟨s0,s1,s2,s3,s4,s5,s6⟩:=C.sc;have q7:=C.q7;obtain⟨bl,bf⟩:=C.nc;have il:=C.hi;have gl:=cLt c4;go_wp21;go_region;all_goals
    go_wp21;go_end0;exact⟨rfl,C.fin (by omega)⟩
  case first=>
   obtain⟨⟨t0,t1,t2,t3,t4,t5,t6,t7⟩,f1,f2⟩:=C.bx;obtain rfl|rfl|rfl|rfl|rfl|rfl|rfl|rfl|rfl|rfl:=(show r=0\/r=1\/r=2\/r=3\/r=4\/r=5\/r=6\/r=7\/r=8\/r=9 by omega)
   ·go_wp2_with (go_at_call 17;refine(C.pick (hO _) _ (by omega) (by omega) (by omega)).mono ?_;rintro e w5 ⟨r,rfl,r0,r1,C⟩;obtain⟨⟨t0,t1,t2,t3,t4,t5,t6,t7⟩,f1,f2⟩:=C.bx);go_meet;exact⟨_,_,(C.put 0 (by omega) (r-1)).more (by omega)⟩
   ·go_wp21;go_meet;exact⟨_,_,(C.put 1 (by omega) (u)).more (by omega)⟩
   ·go_wp2_with (go_at_call 17;refine(C.pick (hO _) _ (by omega) (by omega) (by omega)).mono ?_;rintro e w5 ⟨r,rfl,r0,r1,C⟩;obtain⟨⟨t0,t1,t2,t3,t4,t5,t6,t7⟩,f1,f2⟩:=C.bx);go_meet;exact⟨_,_,(C.put 2 (by omega) (r-1)).more (by omega)⟩
   ·go_wp2_with (go_at_call 17;refine(C.pick (hO _) _ (by omega) (by omega) (by omega)).mono ?_;rintro e w5 ⟨r,rfl,r0,r1,C⟩;obtain⟨⟨t0,t1,t2,t3,t4,t5,t6,t7⟩,f1,f2⟩:=C.bx);go_meet;exact⟨_,_,(C.put 3 (by omega) (r-1)).more (by omega)⟩
   ·go_wp2_with (go_at_call 17;refine(C.pick (hO _) _ (by omega) (by omega) (by omega)).mono ?_;rintro e w5 ⟨r,rfl,r0,r1,C⟩;obtain⟨⟨t0,t1,t2,t3,t4,t5,t6,t7⟩,f1,f2⟩:=C.bx);go_meet;exact⟨_,_,(C.put 3 (by omega) (r-1)).more (by omega)⟩
   ·go_wp2_with (go_at_call 17;refine(C.pick (hO _) _ (by omega) (by omega) (by omega)).mono ?_;rintro e w5 ⟨r,rfl,r0,r1,C⟩;obtain⟨⟨t0,t1,t2,t3,t4,t5,t6,t7⟩,f1,f2⟩:=C.bx);go_meet;exact⟨_,_,(C.put 4 (by omega) (r)).more (by omega)⟩
   ·go_wp2_with (go_at_call 17;refine(C.pick (hO _) _ (by omega) (by omega) (by omega)).mono ?_;rintro e w5 ⟨r,rfl,r0,r1,C⟩;obtain⟨⟨t0,t1,t2,t3,t4,t5,t6,t7⟩,f1,f2⟩:=C.bx);go_meet;exact⟨_,_,(C.put 5 (by omega) (r)).more (by omega)⟩
   ·go_wp2_with (go_at_call 17;refine(C.pick (hO _) _ (by omega) (by omega) (by omega)).mono ?_;rintro e w5 ⟨r,rfl,r0,r1,C⟩;obtain⟨⟨t0,t1,t2,t3,t4,t5,t6,t7⟩,f1,f2⟩:=C.bx);go_meet;exact⟨_,_,(C.put 5 (by omega) (r)).more (by omega)⟩
   ·go_wp2_with (go_at_call 17;refine(C.pick (hO _) _ (by omega) (by omega) (by omega)).mono ?_;rintro e w5 ⟨r,rfl,r0,r1,C⟩;obtain⟨⟨t0,t1,t2,t3,t4,t5,t6,t7⟩,f1,f2⟩:=C.bx);go_meet;exact⟨_,_,(C.put 6 (by omega) (r-1)).more (by omega)⟩
   have p2:=C.sp.s.2.2.1 i C.hi;have n8:=C.sp.s.2.1;by_cases z:(x.c i).F.length=0
   ·go_wp21;go_meet;exact⟨_,_,C.more (by omega)⟩
   go_wp21;refine(C.pick (hO _) _ (by omega) (by omega) (by omega)).mono ?_;rintro e w5 ⟨r,rfl,r0,r1,C⟩;obtain⟨k,rfl⟩:=k9 r0;go_wp2_with (go_at_call 17;refine(C.pick (hO _) _ (by omega) (by omega) (by omega)).mono ?_;rintro e w5 ⟨r,rfl,r0,r1,C⟩;obtain⟨⟨t0,t1,t2,t3,t4,t5,t6,t7⟩,f1,f2⟩:=C.bx);all_goals
    have c4:=C.c4;have gl:=cLt c4;obtain⟨bp,rfl,⟨k0,k1,k2,k3,k4,k5⟩,⟨g1,g2⟩,F⟩:=C.prw (k:=k) (by omega);clear F;go_region_with (go_at_call 63;refine(C.word (eDr _) _ (by omega) (by omega) (by omega)).mono ?_;rintro e w7 ⟨y,rfl,C⟩;obtain⟨⟨t0,t1,t2,t3,t4,t5,t6,t7⟩,f1,f2⟩:=C.bx;have c4:=C.c4;have gl:=cLt c4;obtain⟨b2,e2,⟨k0,k1,k2,k3,k4,k5⟩,⟨g1,g2⟩,F⟩:=C.prw (k:=k) (by omega);have F:=uU F;cases e2);all_goals
     go_wp21;go_meet;first|(obtain⟨x',D,_,_,C⟩:=uH F _ y _ (hO _) (.inl rfl);exact⟨_,_,C.more (by omega)⟩)|(obtain⟨x',D,_,_,C⟩:=uH F _ y _ (hO _) (.inr rfl);exact⟨_,_,C.more (by omega)⟩)
theorem Bd.mid(h:Bd B v w b c g m):∃x,Hid (Snd x)/\Hid (Sp (λq=>q=c) B v w w c g m x):=by
 obtain⟨x,s,gg,vB,cu⟩:=h.at;exact⟨x,s,rfl,vB,cu,gg,s.bns,λ_ _ _=>rfl,λ_ e=>gg.lt e,hT _⟩
def c0i(v:World)(c:Nat)(e:Ending)(w':World):Prop:=∃g B k,e=.returned (pP g)/\k<=9999999/\v.heap.size<=B/\SpE (λq=>q=c) B v w' c g k w'
theorem Bd.spe(h:Bd B v w b c g m)(e:Ext w W)(k:m<=9999999):c0i v c (.returned (pP g)) W:=by
 obtain⟨x,_,s⟩:=(h.ext e).mid;exact⟨g,B,m,rfl,k,s.vB,s.end_ (hT _)⟩
theorem Bd.unit{p:Int}(h:Bd B v w b c g m)(d:w.cell? (aA g 5)=some (iv p))(n:(p != 0)=true)(e:Ext w W):Calls prog 52 #[pP g] W λe w'=>e=.returned (.tuple #[])/\Hid (Bd B v w' b c g m):=by
 obtain⟨q,c5,u,_⟩:=a1q (h.ext e);have t:=(e.keep d).symm.trans c5;cases t;exact u (by simpa using n)
structure Mm(B:Nat)(v w:World)(b c g m:Nat)(x:Hp)(br kr bc kc:Nat)(ag:Option Addr)(kg i:Nat)(pa:Option Addr)(kp:Nat):Prop where
 bd:Bd B v w b c g m
 sp:Sp (λq=>q=c) B v w w c g m x
 bx:Bx w g x (some (aA br 0)) kr (some (aA bc 0)) kc ag kg
 q7:w.cell? (aA bc (i*8+7))=some (.slice pa (x.c i).F.length kp)
 nb:bc≠c
 nl:bc<w.heap.size
theorem Mm.rd(h:Mm B v w b c g m x br kr bc kc ag kg i pa kp):Bx w g x (some (aA br 0)) kr (some (aA bc 0)) kc ag kg/\w.cell? (aA bc (i*8+7))=some (.slice pa (x.c i).F.length kp)/\yL w br 0 (x.r 0)/\x.B.length=16/\(∀j,w.frozen? (aA br j)=false)/\g<w.heap.size/\br<w.heap.size/\bc<w.heap.size:=by
 obtain⟨b2,e,l,f,z,n,_⟩:=h.sp.reg h.bx;cases e;have t:=f 0 (by omega);rw[ms]at t;exact⟨h.bx,h.q7,t,l,z,cLt h.bx.1,n,h.nl⟩
theorem Mm.fin(h:Mm B v w b c g m x br kr bc kc ag kg i pa kp)(e:Ext w W)(y:Wd)(k:m<=9999999):c0i v c (.returned (pP g)) (cQ W br 0 y):=by
 obtain⟨b2,t,_,_,_,_,f⟩:=h.sp.reg h.bx;cases t;have q:=f W 0 y m e (by omega) (hT _);rw[ms]at q;exact⟨g,B,m,rfl,k,h.sp.vB,q.1,λq i j=>absurd i j,q.2.2⟩
theorem Mm.pick(h:Mm B v w b c g m x br kr bc kc ag kg i pa kp)(e:Ext w W)(n:Int)(a:m<=9999999)(j:n<=1000000)(k:1<=n):
  Calls prog 17 #[pP c,iv n] W λe w'=>∃r:Int,e=.returned (iv r)/\0<=r/\r<n/\Hid (Mm B v w' b c g (m+2) x br kr bc kc ag kg i pa kp):=
 (a1u v W c m n (h.sp.cu.ext e) (by omega) j k).mono λ_ _ ⟨r,a,l,f,q,o⟩=>⟨r,a,l,f,by
  have O:=(uQ.of_ext e).trans o;obtain⟨_,_,n,_⟩:=h.sp.call;exact⟨h.bd.read O q,(h.sp.read O q).base,h.bx.only O n,O.keep h.nb h.q7,h.nb,kF h.nl O.size⟩⟩
theorem Bd.mm(h:Bd B v w b c g m)(s:Sp (λq=>q=c) B v w w c g m x)(b2:Bx w g x ar kr ac kc ag kg)(i:Nat)(l:i<x.A.length):∃br bc pa kp,ar=some (aA br 0)/\ac=some (aA bc 0)/\Hid (Mm B v w b c g m x br kr bc kc ag kg i pa kp):=by
 obtain⟨bc,pa,kp,rfl,_,q,n,f⟩:=s.cel b2 i l;obtain⟨br,rfl,_⟩:=s.reg b2;exact⟨br,bc,pa,kp,rfl,rfl,h,s,b2,q,λe=>f c rfl e.symm,n.1⟩
theorem d0x(v w:World)(c m:Nat)(h:Cu v w c m)(hm:m<=9999):
  Calls prog 18 #[pP c] w λe w'=>c0i v c e w':=by
 have CU:=uU h;clear h;go_in;go_wp21;refine(b8t v w c m CU hm).mono ?_;rintro e w1 ⟨b,g,B,k,he,BD,hk⟩;have e2:=uH he;subst e2;clear he CU;obtain⟨p,c5,UN,BE⟩:=a1q BD;go_upto_if 13 with(fail);go_cut [] (λwx=>Hid (Bd B v wx b c g k))
 case first=>
  cases t:(p == 0)
  ·go_wp21;go_meet;exact BD
  go_wp2_with (go_at_call 51;refine(BE (by simpa using t)).mono ?_;rintro e w1 ⟨rfl,bd,q5⟩);go_meet;exact bd
 case rest=>
  clear BD c5 UN BE p;have BD:=hcut;clear hcut;go_wp2_with (go_at_call 17;refine(tL B v _ b c g _ _ BD (by omega) (by omega) (by omega)).mono ?_;rintro e w1 ⟨r,he,r0,r1,bd⟩;have e2:=uH he;subst e2;clear he BD;have BD:=bd;clear bd);go_loopw [5] (λi wr=>∃j:Nat,j<=5000/\i=.int .i64 j/\Hid (Bd B v wr b c g (k+2+2*j))) (λi _=>5000-(intOf i).toNat)
  case atStart=>exact⟨0,by omega,rfl,BD.more (by omega)⟩
  case round=>
   clear BD;obtain⟨j,hj,rfl,BD⟩:=hrel;obtain⟨x,S,H⟩:=BD.mid;obtain⟨ar,kr,ac,kc,ag,kg,X,gl,fz⟩:=H.bx;have Y:=X;obtain⟨_,_,_,_,d4,d5,d6,d7,d8,_⟩:=Y;have X:=uU X;have n8:=H.s.2.1;by_cases hl:(j:Int)<5000
   ·cases hp:(x.E != 0)
    ·go_wp21;go_ret;exact BD.spe (hO _) (by omega)
    go_upto_region 9 with(fail)
    go_cut [43] (λt wx=>t=.bool (x.E == 2 && decide (0<x.D.length))/\Hid (Ext wr wx))
    case first=>
     cases f2:(x.E == 2)
     ·go_wp21;go_meet;exact⟨by simp[f2],hO _⟩
     go_wp21;go_meet;exact⟨by simp[f2],hO _⟩
    case rest=>
     obtain⟨rfl,E⟩:=hcut;have e:=uH E;have d4:=e.keep d4;have d5:=e.keep d5;have d6:=e.keep d6;have d7:=e.keep d7;have d8:=e.keep d8;clear e;go_upto_if 43 with(fail);go_cut [6] (λt wx=>∃a:Int,t=iv a/\(a= -1\/∃i:Nat,a=i/\i<x.A.length)/\Hid (Ext wr wx))
     case first=>
      cases t:(x.E == 2 && decide (0<x.D.length))
      ·cases f5:(x.E == 5)
       ·go_wp21;go_quiet (fail);go_wp21;go_meet;exact⟨-1,rfl,.inl rfl,Ext.drewN E nq⟩
       by_cases lh:x.I<x.A.length
       ·go_wp21;go_quiet (fail);go_wp21;go_meet;obtain⟨i,hi⟩:=k9 S.r1.I.1;exact⟨x.I,rfl,.inr ⟨i,hi,by omega⟩,Ext.drewN E nq⟩
       go_wp21;go_quiet (fail);go_wp21;go_meet;exact⟨-1,rfl,.inl rfl,Ext.drewN E nq⟩
      simp at t;obtain⟨gb,go,rfl,g0,_⟩:=(H.gr X _ (hO _)).1.at 0 t.2;have gx:=S.r5.2.2 _ (ki t.2);obtain⟨i,hi⟩:=k9 gx.1;rw[hi]at g0 gx;rw[kt]at g0;have i1:=gx.2;have i0:=i0N i;have g0:=E.keep g0;have l:=t.2;go_wp21;go_meet;exact⟨i,rfl,.inr ⟨i,rfl,by omega⟩,E⟩
     case rest=>
      obtain⟨a,rfl,ha,F⟩:=hcut;clear S d4 d5 d6 d7 d8 E;obtain⟨_,_,_,d3,d4,d5,d6,d7,_⟩:=X.ext F;go_upto_region 13 with(fail);go_cut [106] (λt wx=>∃q:Bool,t=.bool q/\Hid (Bd B v wx b c g (k+2+2*j+2))/\Hid (wx.cell? (aA g 5)=some (iv x.E))/\(q=true->∃i br bc pa kp,a=(i:Nat)/\i<8000/\Hid (Mm B v wx b c g (k+2+2*j+2) x br kr bc kc ag kg i pa kp)))
      case first=>
       have BE:=uU (BD.ext F);clear BD
       cases q1:(x.E == 2+3*r)
       ·go_quiet (fail);go_wp21;go_meet;exact⟨false,rfl,(BE.ext (Ext.drewN (hO _) nq)).more (Nat.le_add_right _ 2),(Ext.drewN (hO _) nq).keep d5,λh=>by cases h⟩
       obtain rfl|⟨i,rfl,hi⟩:=ha
       ·go_quiet (fail);go_wp21;go_meet;exact⟨false,rfl,(BE.ext (Ext.drewN (hO _) nq)).more (Nat.le_add_right _ 2),(Ext.drewN (hO _) nq).keep d5,λh=>by cases h⟩
       have i0:=i0N i;have i1:(i:Int)<(x.A.length:Int):=by omega
       by_cases q2:x.sub>0
       ·obtain⟨br,bc,pa,kp,rfl,rfl,M⟩:=(uH BE).mm ((uH H).ext (uH F)).base ((uH X).ext (uH F)) i hi;have l2:=(uH H).s.2.2.1 i hi;have KP:=uU (λ(w W:World)(n:Nat)(h:Mm B v w b c g n x br kr bc kc ag kg i pa kp)(e:Ext w W)=>show W.cell? (aA g 4)=some (.slice (some (aA bc 0)) x.A.length kc)/\W.cell? (aA g 5)=some (iv x.E)/\W.cell? (aA g 7)=some (iv x.sub)/\W.cell? (aA bc (i*8+7))=some (.slice pa (x.c i).F.length kp) from⟨e.keep h.bx.2.2.2.2.1,e.keep h.bx.2.2.2.2.2.1,e.keep h.bx.2.2.2.2.2.2.2.1,e.keep h.q7⟩);clear BE d3 d6 F X H hp gl fz hl;go_region_held3 (λW=>W.cell? (aA g 4)=some (.slice (some (aA bc 0)) x.A.length kc)/\W.cell? (aA g 5)=some (iv x.E)/\W.cell? (aA g 7)=some (iv x.sub)/\W.cell? (aA bc (i*8+7))=some (.slice pa (x.c i).F.length kp)) ((with_reducible refine uH KP _ _ _ (uH M) ?_;with_reducible (first|exact hO _|exact eDr _|exact(eDr _).trans (eDr _)|exact((eDr _).trans (eDr _)).trans (eDr _))))
          ((go_at_call 17;refine(M.pick (by first|exact hO _|exact eDr _|exact(eDr _).trans (eDr _)|exact((eDr _).trans (eDr _)).trans (eDr _)) _ (by omega) (by omega) (by omega)).mono ?_;rintro e w3 ⟨r2,rfl,s0,s1,N⟩;clear M;have M:=N;clear N))
        go_wp21;go_meet;exact⟨_,rfl,M.bd,(KP _ _ _ M (hO _)).2.1,λ_=>⟨i,br,bc,pa,kp,rfl,by omega,M⟩⟩
       go_quiet (fail);go_wp21;go_meet;exact⟨false,rfl,(BE.ext (Ext.drewN (hO _) nq)).more (Nat.le_add_right _ 2),(Ext.drewN (hO _) nq).keep d5,λh=>by cases h⟩
      case rest=>
       obtain⟨q,rfl,BD,Q5,M⟩:=hcut
       cases q
       ·go_wp2_with (go_at_call 52;refine(BD.unit Q5 hp (by first|exact hO _|exact eDr _|exact(eDr _).trans (eDr _)|exact((eDr _).trans (eDr _)).trans (eDr _))).mono ?_;rintro e w2 ⟨rfl,bd⟩);go_roundw
        ·exact⟨j+1,by omega,by go_num,bd.more (by omega)⟩
        simp[intOf];omega
       obtain⟨i,br,bc,pa,kp,rfl,i8,Mx⟩:=M rfl;obtain⟨⟨_,_,_,d3,_⟩,_,⟨k0,k1,k2⟩,h16,zf,_,_,_⟩:=Mx.rd;go_wp21;go_ret;exact Mx.fin (hO _) ⟨2,0,i⟩ (by omega)
   go_wp21;go_ret;exact BD.spe (hO _) (by omega)
theorem d0w(h:Sp S B v w w c g m x)(hm:m<=8000000):
  Calls prog 24 #[pP c,pP g] w λe w'=>e=.returned (.tuple #[])/\Hid (SpE S B v w c g (m+60) w'):=by
 have H:=uU h;clear h;go_in;go_wp21;refine(H.odd (by omega)).mono ?_;rintro e w1 ⟨u,rfl,H⟩;obtain⟨ar,kr,ac,kc,ag,kg,X,_⟩:=H.bx;have X:=uU X;go_wp21;refine(H.pick X (hO _) _ (by omega) (by omega) (by omega)).mono ?_;rintro e w2 ⟨r,rfl,r0,r1,H,X,gl,fz⟩;obtain⟨d0,d1,d2,d3,d4,d5,d6,d7,d8,d9,d10,d11,d12⟩:=uH X;obtain rfl|rfl|rfl|rfl|rfl|rfl|rfl|rfl|rfl|rfl|rfl|rfl:=(show r=0\/r=2\/r=1\/r=3\/r=4\/r=5\/r=7\/r=6\/r=8\/r=9\/r=10\/r=11 by omega)
 ·go_wp21;go_end0;exact⟨rfl,H.fld 0 (λu=>{x with M:=u}) (by omega) (λ_ _ _=>⟨rfl,rfl,rfl,rfl⟩)⟩
 ·go_wp21;go_end0;exact⟨rfl,H.fld 2 (λu=>{x with born:=u}) (by omega) (λ_ _ _=>⟨rfl,rfl,rfl,rfl⟩)⟩
 ·go_wp21;go_region_with (go_at_call 17;refine(H.pick X (eDr _) _ (by omega) (by omega) (by omega)).mono ?_;rintro e w3 ⟨r,rfl,r0,r1,H,X,gl,fz⟩;obtain⟨d0,d1,d2,d3,d4,d5,d6,d7,d8,d9,d10,d11,d12⟩:=uH X);all_goals
   go_wp21;go_end0;exact⟨rfl,H.fld 1 (λu=>{x with K:=u}) (by omega) (λ_ _ _=>⟨rfl,rfl,rfl,rfl⟩)⟩
 ·go_wp2_with (go_at_call 17;refine(H.pick X (hO _) _ (by omega) (by omega) (by omega)).mono ?_;rintro e w3 ⟨r,rfl,r0,r1,H,X,gl,fz⟩;obtain⟨d0,d1,d2,d3,d4,d5,d6,d7,d8,d9,d10,d11,d12⟩:=uH X);go_end0;exact⟨rfl,H.fld 5 (λu=>{x with E:=u}) (by omega) (λ_ _ _=>⟨rfl,rfl,rfl,rfl⟩)⟩
 ·go_wp21;go_region_with (go_at_call 17;refine(H.pick X (eDr _) _ (by omega) (by omega) (by omega)).mono ?_;rintro e w3 ⟨r,rfl,r0,r1,H,X,gl,fz⟩;obtain⟨d0,d1,d2,d3,d4,d5,d6,d7,d8,d9,d10,d11,d12⟩:=uH X);all_goals
   go_wp21;go_end0;exact⟨rfl,H.fld 6 (λu=>{x with I:=u}) (by omega) (λ_ _ _=>⟨rfl,rfl,rfl,rfl⟩)⟩
 ·go_wp21;go_region_with (go_at_call 17;refine(H.pick X (eDr _) _ (by omega) (by omega) (by omega)).mono ?_;rintro e w3 ⟨r,rfl,r0,r1,H,X,gl,fz⟩;obtain⟨d0,d1,d2,d3,d4,d5,d6,d7,d8,d9,d10,d11,d12⟩:=uH X);all_goals
   go_wp21;go_end0;exact⟨rfl,H.fld 7 (λu=>{x with sub:=u}) (by omega) (λ_ _ _=>⟨rfl,rfl,rfl,rfl⟩)⟩
 ·go_wp2_with (go_at_call 17;refine(H.pick X (hO _) _ (by omega) (by omega) (by omega)).mono ?_;rintro e w3 ⟨r,rfl,r0,r1,H,X,gl,fz⟩;obtain⟨d0,d1,d2,d3,d4,d5,d6,d7,d8,d9,d10,d11,d12⟩:=uH X)
  ·go_end0
   exact⟨rfl,H.fld 9 (λu=>{x with per:=u}) (by omega) (λ_ _ _=>⟨rfl,rfl,rfl,rfl⟩)⟩
  ·go_end0
   exact⟨rfl,H.fld 10 (λu=>{x with V:=u}) (by omega) (λ_ _ _=>⟨rfl,rfl,rfl,rfl⟩)⟩
  ·go_end0
   exact⟨rfl,H.fld 11 (λu=>{x with Q:=u}) (by omega) (λ_ _ _=>⟨rfl,rfl,rfl,rfl⟩)⟩
  go_end0
  exact⟨rfl,H.fld 12 (λu=>{x with S:=u}) (by omega) (λ_ _ _=>⟨rfl,rfl,rfl,rfl⟩)⟩
 ·have gn:=H.s.bnd.2.2.2;obtain⟨ii,hii,hi0,hi1,hi2⟩:=info_parts a9t;by_cases l:0<x.D.length;focus
   go_wp2_with (go_at_call 17;refine(H.pick X (hO _) _ (by omega) (by omega) (by omega)).mono ?_;rintro e w3 ⟨r,rfl,r0,r1,H,X,gl,fz⟩;obtain⟨d0,d1,d2,d3,d4,d5,d6,d7,d8,d9,d10,d11,d12⟩:=uH X)
   ·subst h;go_end0;exact⟨rfl,(H.tail X l (by omega)).1 rfl⟩
   go_end0
   exact⟨rfl,(H.tail X l (by omega)).2 h⟩
  rotate_left
  focus
   go_wp21
  all_goals
   go_region_law (first|(refine b7m _ rfl _ _ 25 rfl ii (iv 0) B (.slice ag x.D.length kg) x.D underlying25 hii hi0 hi1 hi2 rfl (by first|rfl|simp[Act.eval,Act.put]) (H.gr X _ (by first|exact eAl _ _|exact(eAl _ _).trans (eDr _)|exact(eDr _).trans (eAl _ _))).1 _ 1 (IntKind.i64.wrap (r-1)) (by first|rfl|simp[Act.eval,Act.put];rfl) (by simp[go_sem]) (by omega) (H.gr X _ (by first|exact eAl _ _|exact(eAl _ _).trans (eDr _)|exact(eDr _).trans (eAl _ _))).2 ?_;intro gb go cap w5 C D O _;obtain⟨Z,e8,nl,nf⟩:=H.push (j:=m+60) X (by first|exact eAl _ _|exact(eAl _ _).trans (eDr _)|exact(eDr _).trans (eAl _ _)) (by omega) C D O)|(go_simp;go_at_call 17;refine(H.pick X (by first|exact hO _|exact eDr _) _ (by omega) (by omega) (by omega)).mono ?_;rintro e w3 ⟨r,rfl,r0,r1,H,X,gl,fz⟩;obtain⟨d0,d1,d2,d3,d4,d5,d6,d7,d8,d9,d10,d11,d12⟩:=uH X))
   all_goals
    go_wp21;go_end0;exact⟨rfl,Z⟩
 ·have hn:=H.s.bnd;have hr:1<=x.B.length/\x.B.length<=16:=by omega
  have hc:=hn.2.1;clear hn;go_wp2_with (first|(go_at_call 17;refine(H.pick X (hO _) _ (by omega) (by omega) (by omega)).mono ?_;rintro e w3 ⟨r,rfl,r0,r1,H,X,gl,fz⟩;obtain⟨d0,d1,d2,d3,d4,d5,d6,d7,d8,d9,d10,d11,d12⟩:=uH X)|(at_builtin;refine H.lapp (j:=m+60) X (eAl _ _) (by omega) rfl _ _ rfl _ rfl rfl (World.news_of_block (cs:=#[iv 0,iv 0,iv 0]) (heap_alloc_new _ _)) ?_;rintro b' k' w5 Z ⟨u,e3⟩ ⟨nl,nf⟩))
  ·go_end0
   exact⟨rfl,Z⟩
  go_region_with (first|((go_at_call 17;refine(H.pick X (eDr _) _ (by omega) (by omega) (by omega)).mono ?_;rintro e w3 ⟨r,rfl,r0,r1,H,X,gl,fz⟩;obtain⟨d0,d1,d2,d3,d4,d5,d6,d7,d8,d9,d10,d11,d12⟩:=uH X);obtain⟨i,rfl⟩:=k9 r0)|((go_at_call 63;refine(H.word X (hO _) _ (by omega) (by omega) (by omega)).mono ?_;rintro e w4 ⟨y,rfl,H,X,gl,fz⟩;obtain⟨d0,d1,d2,d3,d4,d5,d6,d7,d8,d9,d10,d11,d12⟩:=uH X);obtain⟨br,rfl,h16,hw,hf,hb,F⟩:=H.reg X;have F:=uU F;obtain⟨k0,k1,k2⟩:=hw i (by omega);clear hw))
  all_goals
   go_wp21;go_end0;exact⟨rfl,uH F _ i y _ (hO _) (by omega) (by omega)⟩
 ·go_wp21;go_region_law (first|(refine H.stepN (j:=m+60) X rfl (by omega) rfl _ _ rfl (by first|rfl|simp[Act.eval]) (by first|rfl|(simp[Act.eval];rfl)) ?_;rintro b' k' w5 Z ⟨u5,e3⟩ ⟨nl,nf⟩)|(go_simp;go_at_call 17;refine(H.pick X (by first|exact hO _|exact eDr _) _ (by omega) (by omega) (by omega)).mono ?_;rintro e w3 ⟨r,rfl,r0,r1,H,X,gl,fz⟩;obtain⟨d0,d1,d2,d3,d4,d5,d6,d7,d8,d9,d10,d11,d12⟩:=uH X));all_goals
   go_wp21;go_end0;exact⟨rfl,Z⟩
 ·go_wp21;refine(a8v H (by omega)).mono ?_;rintro e w3 ⟨rfl,Z⟩;go_wp21;go_end0;exact⟨rfl,Z.more (by omega)⟩
 go_wp21;refine(a8v H (by omega)).mono ?_;rintro e w3 ⟨rfl,Z⟩;go_wp21;go_end0;exact⟨rfl,Z.more (by omega)⟩
end Go.Proofs.YtolmnenlnpbcfaaGreatDoor
