import Derived.Test.YtgkpaibbdkggiaaGreatDoorWk2
import Derived.Test.YtgkpaibbdkggiaaGreatDoorPg
set_option maxRecDepth 100000
set_option maxHeartbeats 8000000
namespace Go.Proofs.YtgkpaibbdkggiaaGreatDoor
open Go.RowKit Tryz
attribute [local go_sem ↓] Go.wp_at_zero Go.wp_at_succ
variable{x:Hp}{Mt St Mt' St' K M2 S2 M3 S3 M S Ls M1 S1 M' S':List Nat}{w w':World}{ar ac ag an g:Option Addr}{kr kn bn B b br hd j base i bw r1 on l kc k kg r2 bv n:Nat}{vf v4 v8 vk v v':Value}{F:List Int}{cB cO pb pk role:Nat->Nat}{pa:Nat->Option Addr}{y:Wd}{Q:Nat->Prop}
abbrev b0i(b:Nat)(f:FuncId):Value:=.func (.func f) #[pP b] #[]
abbrev b3b(b:Nat)(i:Int)(f:FuncId):Prop:=∀w,(Instr.index 140 (.agg #[b0i b 97,b0i b 99,b0i b 100,b0i b 101,b0i b 102,b0i b 103,b0i b 104,b0i b 105]) (iv i)).run prog w=.ok (b0i b f) w
theorem b7s(b:Nat):b3b b 0 97/\b3b b 1 99/\b3b b 2 100/\b3b b 3 101/\b3b b 4 102/\b3b b 5 103/\b3b b 6 104/\b3b b 7 105:=by
 refine⟨?_,?_,?_,?_,?_,?_,?_,?_⟩<;>exact λ_=>by kernel_rfl
theorem c8p(x:Hp)(b:Nat)(w:World)(h:HAt w b x ar kr ac kc ag kg)(c:¬R1 x):
  Calls prog 49 #[pP b] w λe w'=>∃n:Int,Hid (e=.returned (iv n))/\qU x n/\Ext w w':=by
 obtain⟨p,_⟩:=b7s b;have g:=uU h;go_in;go_wp21;go_loopw [24] (λi wr=>i=iv 0/\Ext w wr) (λ_ _=>0)
 case atStart=>exact⟨rfl,(hO w).alloc _⟩
 case round=>
  obtain⟨rfl,a⟩:=hrel;go_wp21;refine(a4e x b _ (g.ext a)).mono ?_;rintro e m ⟨r,rfl,l,d⟩;have f:=a.trans d;cases r
  ·have Y:=uU (b1g (x:=x) (k:=0) (by omega) (λj o=>by omega) c);go_wp2;go_ret;exact⟨1,rfl,Y,f⟩
  exact(c (l.1 rfl)).elim
theorem c4z(x:Hp)(b:Nat)(w:World)(h:VAt w b x ar kr ac kc ag kg an kn)(t:FAt w b x base vf F)(g:a6a w x ac)(r1:R1 x):
  Calls prog 49 #[pP b] w λe w'=>∃n:Int,Hid (e=.returned (iv n))/\qU x n/\Ext w w':=by
 obtain⟨G,y,B,z,D,I,E,A⟩:=b7s b;have d:x.A.length<=8000:=by have:=r1.M;have:=r1.A;omega
 have m:x.D.length<=8000:=by have:=r1.D;omega
 have HV:=uU h;have l:=uU t;have f:=uU g;go_in;go_wp21;go_loopw [24] (λi wr=>∃k:Nat,k<=8/\i=iv k/\Hid (∀j,j<k->Rn x j)/\Ext w wr) (λi _=>8-(intOf i).toNat)
 case atStart=>exact⟨0,by omega,rfl,λj C=>by omega,(hO w).alloc _⟩
 case round=>
  obtain⟨k,u,rfl,HA,a⟩:=hrel;have c:=uU (HV.ext a);obtain rfl|rfl|rfl|rfl|rfl|rfl|rfl|rfl|rfl:k=0\/k=1\/k=2\/k=3\/k=4\/k=5\/k=6\/k=7\/k=8:=by omega
  all_goals go_wp21
  refine(a4e x b _ c.H).mono ?_;rotate_left;refine(b6v x b _ c (l.ext a) d).mono ?_;rotate_left;refine(b8r x b _ c d (c3z (HA 1 (by omega)))).mono ?_;rotate_left;refine(b6p x b _ c).mono ?_;rotate_left;refine(b4j x b _ c m d).mono ?_;rotate_left;refine(b1m x b _ c (HA 0 (by omega)) (HA 1 (by omega)) (HA 4 (by omega))).mono ?_;rotate_left;refine(b6w x b _ c (a6a.ext f HV.H a) (HA 0 (by omega)) (HA 1 (by omega)) (HA 3 (by omega)) (HA 4 (by omega)) (HA 5 (by omega))).mono ?_;rotate_left;refine(b3h x b _ c).mono ?_;rotate_left
  ·have Y:=uU (c6b (x:=x) HA);go_ret;exact⟨0,rfl,Y,a⟩
  all_goals
   rintro e v ⟨r,rfl,p,s⟩;have o:=a.trans s;cases r
   ·have Y:=uU (b1g (x:=x) (by omega) HA (λq=>by have:=p.2 q;simp at this));go_wp2;go_ret;exact⟨_,rfl,Y,o⟩
   have S:=uU (a3e HA (p.1 rfl));go_wp2;go_roundw
   case rel=>exact⟨_,by omega,by go_num,S,o⟩
   simp[intOf]
theorem a6a.extS(h:a6a w x ac)(j:SlC w (.slice ac x.A.length kc) x.A)(e:Ext w w'):a6a w' x ac:=λi a n m ad l c b d=>by
 obtain⟨q,k,f,_,p,_,_,_,_,_,_,_,g,o⟩:=SlC.nth j i a;rw[b]at f;cases f;have:=e.keep g;rw[this]at d;cases d;exact h i a _ _ _ _ _ b g
theorem b7t(x:Hp)(w:World)(H:SlW w (.slice ar x.B.length kr) x.B)(p:SlC w (.slice ac x.A.length kc) x.A)(G:SlI w (.slice ag x.D.length kg) x.D)(g:a6a w x ac):
  Calls prog 20 #[x.v (.slice ar x.B.length kr) (.slice ac x.A.length kc) (.slice ag x.D.length kg)] w λe w'=>Ext w w'/\Hid ((¬qU x 0/\e=.returned (.tuple #[.pointer none,.bool false]))\/(qU x 0/\∃b an kn,e=.returned (.tuple #[pP b,.bool true])/\VAt w' b x ar kr ac kc ag kg an kn/\Hid (∃bn on,an=some (aA bn on)))):=by
 have f:=(hO w).alloc (oHp x (.slice ar x.B.length kr) (.slice ac x.A.length kc) (.slice ag x.D.length kg));have m:=SlC.ext f p;go_in;go_wp21;refine(d2e x _ (SlW.ext f H) m (SlI.ext f G)).mono ?_;rintro e I ⟨b,rfl,k,j⟩;have l:=f.trans k;obtain⟨hn,hh⟩|⟨hr,an,kn,base,vf,F,hv,hf,han⟩:=uH j;go_wp21;refine(c8p x b _ hh hn).mono ?_;rintro e A ⟨n,rfl,c,a⟩;have i:=l.trans a;have d:=uU c;cases t:(n == 0)
 ·have o:(n != 0)=true:=by simpa using t
  have N:=uU (show ¬qU x 0 from λh=>by have:=qU.uniq h d;simp at t;omega);go_wp2;go_ret2;exact⟨i,.inl ⟨N,rfl⟩⟩
 exfalso;have E:qU x 0:=by have:=uH d;simp at t;rw[t]at this;exact this
 have B:qU x 1:=.inl ⟨hn,rfl⟩;have:=qU.uniq E B;omega;have HV:=uU hv;have r:=(g.extS p f).extS m k;go_wp21;refine(c4z x b _ HV hf r hr).mono ?_;rintro e A ⟨n,rfl,c,a⟩;have i:=l.trans a;have d:=uU c;cases t:(n == 0)
 ·have o:(n != 0)=true:=by simpa using t
  go_wp2;go_ret2;exact⟨i,.inl ⟨(show ¬qU x 0 from λh=>by have:=qU.uniq h d;simp at t;omega),rfl⟩⟩
 have o:(n != 0)=false:=by simpa using t
 go_wp2;go_ret2;exact⟨i,.inr ⟨(show qU x 0 by have:=uH d;simp at t;rw[t]at this;exact this),b,an,kn,rfl,(HV.ext a),han⟩⟩
theorem a7m(y:Wd)(b:Nat)(w:World)(c:(y.k == 2)=false):
  Calls prog 144 #[pP b,y.v] w λe w'=>e=.returned (.pointer none)/\Ext w w':=by
 go_in;go_wp21;refine(a3j y b _ c).mono ?_;rintro e d ⟨rfl,a⟩;go_wp2;go_ret;exact⟨rfl,kI (eAl w _) a⟩
def qQ(x:Hp)(i:Nat):Nat:=if ((x.c i).st == 2)=true then (x.c i).to.toNat else i
theorem c1w(x:Hp)(y:Wd)(b i:Nat)(w:World){ac:Nat->Option Addr}(h:c1v w b x ac an kn)(E:R2 x)(D:(y.k == 2)=true)(f:i<x.A.length)(j l:Nat)(K:an=some (aA j l)):
  Calls prog 144 #[pP b,.agg #[iv y.k,iv y.n,iv i]] w λe w'=>e=.returned (pQ j (l+qQ x i*2))/\Ext w w':=by
 subst K;have g:=(hO w).alloc (.cells #[iv y.k,iv y.n,iv i] 48);cases v:((x.c i).st == 2)
 ·have L:=uU (show qQ x i=i by simp only[qQ,v];simp);obtain⟨z,p,F,G,q,_,o,u,_⟩:=h.N i f;cases q;have a:=h.n13;go_in;go_wp21;refine(a1f y b x.A.length j l kn i _ D (g.keep a) f).mono ?_;rintro e J ⟨rfl,m⟩;have d:=g.trans m;have s:=d.keep o;have r:=d.keep u;go_wp2;go_ret;exact⟨by rw[uH L];rfl,d⟩
 have M:(x.c i).st=2:=by simpa using v
 have⟨t,B⟩:∃t:Nat,(x.c i).to=(t:Int):=⟨(x.c i).to.toNat,by
  have:=E.1 i f;unfold cQ qD at this;omega⟩
 have I:t<i:=by
  have:=E.1 i f;unfold cQ qD at this;omega
 have⟨z,p,F,G,q,_,o,u,A⟩:=h.N i f;cases q;rw[B]at A;have a:=h.n13;have P:=i0N t;have O:(t:Int)<(x.A.length:Int):=by omega
 go_in;go_wp21;refine(a1f y b x.A.length j l kn i _ D (g.keep a) f).mono ?_;rintro e J ⟨rfl,m⟩;have d:=g.trans m;have s:=d.keep o;have r:=d.keep u;have H:=d.keep A;have C:=d.keep a;go_wp21;go_quiet (fail);go_wp2;go_ret;exact⟨by rw[(show qQ x i=t by simp only[qQ,v];simp[B])];rfl,d.drewN _⟩
theorem d2i(b:R2 x)(i:Nat)(a:i<x.A.length):qQ x i<x.A.length:=by
 unfold qQ;split;rename_i h;have d:(x.c i).st=2:=by simpa using h
 have:=b.1 i a;unfold cQ qD at this;omega;exact a
theorem b0j[qr](h:SAt B w b x ar kr v4 v8 br cB cO bn pb pa pk kn hd vf F vk K role)(u:R2 x)(i:Nat)(f:i<x.A.length):
  Calls prog 144 #[pP b,.agg #[iv 2,iv 0,iv i]] w λe w'=>e=.returned (ndp bn (qQ x i))/\Ext w w':=by
 have g:=(hO w).alloc (.cells #[iv 2,iv 0,iv i] 48);have d:=h.sb.n13;have⟨C,n⟩:=h.sb.nd i f;have⟨r,_,_,_,_,_,o⟩:=h.rw.s i f;have q:=λW (e:Ext w W)=>a1f ⟨2,0,(i:Int)⟩ b x.A.length bn 0 kn i W (by simp) (e.keep d) f;cases m:((x.c i).st == 2)
 ·have L:=uU (show qQ x i=i by simp only[qQ,m];simp);go_in;go_wp21;refine(q _ g).mono ?_;rintro e z ⟨rfl,j⟩;rw[kO];have a:=g.trans j;have l:=a.keep n;have k:=a.keep r;go_wp2;go_ret;exact⟨by rw[uH L];rfl,a⟩
 have D:(x.c i).st=2:=by simpa using m
 have⟨t,p⟩:∃t:Nat,(x.c i).to=(t:Int):=⟨(x.c i).to.toNat,by
  have:=u.1 i f;unfold cQ qD at this;omega⟩
 have y:t<i:=by
  have:=u.1 i f;unfold cQ qD at this;omega
 rw[p]at o;have G:=i0N t;have E:(t:Int)<(x.A.length:Int):=by omega
 go_in;go_wp21;refine(q _ g).mono ?_;rintro e z ⟨rfl,j⟩;rw[kO];have a:=g.trans j;have l:=a.keep n;have k:=a.keep r;have v:=a.keep o;have A:=a.keep d;go_wp21;go_quiet (fail);go_wp2;go_ret;exact⟨by rw[(show qQ x i=t by simp only[qQ,m];simp[p])];rfl,a.drewN _⟩
theorem a8b(a o:Nat)(b:Int)(w:World)(c:w.cell? (aA a o)=some (iv b)):
  Calls prog 216 #[pQ a o] w λe w'=>e=.returned (.agg #[iv 2,iv 0,iv b])/\Ext w w':=by
 have d:=cLt c;go_in;go_wp2;refine bodyPost_ret (v:=.agg #[iv 2,iv 0,iv b]) (by simp[results,results216,go_sem]) rfl ⟨rfl,?_⟩;repeat (first|refine mW ?_ (hT _) _|exact(hO w).alloc _)
theorem d2j(y:Wd)(b:Nat)(w:World)(p:(y.k == 2)=false):
  Calls prog 221 #[pP b,y.v] w λe w'=>e=.returned y.v/\Ext w w':=by
 go_in;go_wp21;refine(a7m y b _ p).mono ?_;rintro e g ⟨rfl,c⟩;have l:=((eAl w (oWd y)).alloc (.cells #[iv 0,iv 0,iv 0] 48)).trans c;have q:w.heap.size+1<g.heap.size:=by have:=c.size;simp at this;omega
 have f:=(cE c).1;have i:=(cE c).2;go_wp2;refine bodyPost_ret (v:=y.v) (by simp[results,results221,go_sem,c.keep (b:=w.heap.size+1) (o:=0) (v:=iv 0) (by simp[go_sem]),c.keep (b:=w.heap.size+1) (o:=1) (v:=iv 0) (by simp[go_sem]),c.keep (b:=w.heap.size+1) (o:=2) (v:=iv 0) (by simp[go_sem])]) rfl ⟨rfl,?_⟩;repeat (first|refine mW ?_ (by show w.heap.size<=w.heap.size+1;omega) _|exact l)
theorem sres_at[qr](h:SAt B w b x ar kr v4 v8 br cB cO bn pb pa pk kn hd vf F vk K role)(j:R2 x)(i:Nat)(g:i<x.A.length):
  Calls prog 221 #[pP b,.agg #[iv 2,iv 0,iv i]] w λe w'=>e=.returned (.agg #[iv 2,iv 0,iv (qQ x i)])/\Ext w w':=by
 have f:=(eAl w (.cells #[iv 2,iv 0,iv i] 48)).alloc (.cells #[iv 0,iv 0,iv 0] 48);have s:=uU (h.sb.nd (qQ x i) (d2i j i g)).1;go_in;go_wp21;refine(b0j (h.ext f) j i g).mono ?_;rintro e u ⟨rfl,a⟩;have d:=f.trans a;go_wp21;refine(a8b bn (qQ x i*2) (qQ x i) _ (d.keep s)).mono ?_;rintro e t ⟨rfl,c⟩;have a:=a.trans c;have l:=(cE a).1;have p:=(cE a).2;go_wp2;refine bodyPost_ret (v:=.agg #[iv 2,iv 0,iv (qQ x i)]) (by simp[results,results221,go_sem,a.keep (b:=w.heap.size+1) (o:=0) (v:=iv 0) (by simp[go_sem]),a.keep (b:=w.heap.size+1) (o:=1) (v:=iv 0) (by simp[go_sem]),a.keep (b:=w.heap.size+1) (o:=2) (v:=iv 0) (by simp[go_sem])]) rfl ⟨rfl,?_⟩;repeat (first|refine mW ?_ (by show w.heap.size<=w.heap.size+1;omega) _|exact d.trans c)
theorem b5p[qr](h:SAt B w b x ar kr v4 v8 br cB cO bn pb pa pk kn hd vf F vk K role)(j:R2 x)(y:Wd)(l:uJ y x.A.length):
  Calls prog 221 #[pP b,y.v] w λe w'=>e=.returned (zL x y).v/\Ext w w':=by
 cases q:(y.k == 2)
 have e:zL x y=y:=by
  unfold zL;rw[if_neg];intro h;simp[h.1]at q
 rw[e];exact d2j y b w q;have g:y.k=2:=by simpa using q
 have⟨k,n,a⟩:=y;simp only at g;subst g;unfold uJ at l;simp only at l;obtain⟨i,rfl⟩:∃i:Nat,a=(i:Int):=⟨a.toNat,by omega⟩;obtain rfl:n=0:=by omega
 have f:i<x.A.length:=by omega
 have o:((i:Int)).toNat=i:=by omega
 have e:zL x ⟨2,0,i⟩=⟨2,0,qQ x i⟩:=by
  unfold zL qQ;simp only[o];by_cases d:(x.c i).st=2;have p:0<=(x.c i).to:=by
   have:=j.1 i f;unfold cQ qD at this;omega
  have m:(((x.c i).to.toNat:Nat):Int)=(x.c i).to:=by omega
  rw[if_pos ⟨trivial,d⟩,if_pos (by simpa using d),m];rw[if_neg (λh=>d h.2),if_neg (by simpa using d)]
 rw[e];exact sres_at h j i f
theorem SAt.move[qr](h:SAt B w b x ar kr v4 v8 br cB cO bn pb pa pk kn hd vf F vk K role)(t f:Nat)(z:t≠f)(I:t<x.A.length)(r:f<x.A.length)(o:uZ (λq=>∃j,j<x.A.length/\q=cB j) w w')(C:∀j,j<x.A.length->Nf1 (cB j) w')(D:S7 w' (cB t) (cO t) (x.c f))(H:w'.cell? (aA (cB t) (cO t+7))=some (.slice (pa f) (x.c f).F.length (pk f)))(A:S7 w' (cB f) (cO f) (mvC t))(J:w'.cell? (aA (cB f) (cO f+7))=some (.slice none 0 0))
  (v:∀q,q<x.A.length->q≠t->q≠f->∀k,k<8->w'.cell? (aA (cB q) (cO q+k))=w.cell? (aA (cB q) (cO q+k))) :
  ∃pb' pa' pk' role',SAt B w' b { x with A:=(x.A.set t (x.c f)).set f (mvC t) } ar kr v4 v8 br cB cO bn pb' pa' pk' kn hd vf F vk K role':=by
 have m:∀q,({ x with A:=(x.A.set t (x.c f)).set f (mvC t) }:Hp).c q=if q=f then mvC t else if q=t then x.c f else x.c q:=λq=>by grind[Hp.c,VNt.f,mvC,Hp.c_set,Nf1,S7]
 refine⟨_,_,_,_,h.turned ((x.A.set t (x.c f)).set f (mvC t)) (by simp) (λq=>if q=t then f else q) (λq=>if q=f then none else if q=t then pa f else pa q) (λq=>if q=f then 0 else if q=t then pk f else pk q) (λd=>if 0<pk f/\d=pb f then 6+t else role d) o C (λq i=>?_) (λq i=>?_) (λq i=>?_) (λq i l=>?_) (λd G=>?_)⟩;have n:q<x.A.length:=by simpa using i
 rw[m q];by_cases a:q=f;rw[if_pos a];exact kB _;simp only[if_neg a];by_cases g:q=t
 ·simp only[if_pos g];exact h.rw.kp f r
 simp only[if_neg g];exact h.rw.kp q n;rw[m q];by_cases a:q=f
 ·subst a;rw[if_pos rfl];exact A
 rw[if_neg a];by_cases g:q=t
 ·subst g;rw[if_pos rfl];exact D
 rw[if_neg g];exact(h.rw.s q i).of λj E=>v q i g a j (by omega)
 rw[m q];by_cases a:q=f
 ·grind[Nf1,S7,Hp.c,mvC]
 simp only[if_neg a];by_cases g:q=t
 ·grind[Nf1,S7,Hp.c,mvC]
 simp only[if_neg g];rw[v q i g a 7 (by omega)];exact h.rw.p7 q i;rw[m q];by_cases a:q=f
 ·rw[if_pos a]at l;omega
 rw[if_neg a]at l;simp only[if_neg a];by_cases g:q=t
 ·grind[Grw.at,Nf1,S7,Hp.c,mvC]
 rw[if_neg g]at l;simp only[if_neg g];refine⟨⟨i,trivial⟩,trivial,trivial,?_⟩;rw[if_neg (λe=>?_)]
 ·exact h.sp.p q i l
 have y:=h.sp.p q i l;have u:=h.sp.p f r e.1;rw[e.2]at y;omega;by_cases e:0<pk f/\d=pb f
 ·have u:=h.sp.p f r e.1;rw[<-e.2]at u;omega
 rw[if_neg e]
theorem c1x[qr](h:SAt B w b x ar kr v4 v8 br cB cO bn pb pa pk kn hd vf F vk K role)(t f:Nat)(g:t≠f)(i:t<x.A.length)(m:f<x.A.length):
  ∃pb' pa' pk' role',SAt B (zD (eK w (cB t) (cO t) (x.c f) (.slice (pa f) (x.c f).F.length (pk f))) (cB f) (cO f) 2 t) b (b3i x t f) ar kr v4 v8 br cB cO bn pb' pa' pk' kn hd vf F vk K role':=by
 have⟨z,y⟩:=a3y w (cB t) (cO t) (x.c f) (x.c t) (.slice (pa f) (x.c f).F.length (pk f)) _ (h.rw.s t i) (h.rw.p7 t i);have y1:=a0a w (cB t) (cO t) (x.c f) (.slice (pa f) (x.c f).F.length (pk f));have d:∀q,q<x.A.length->q≠t->∀k,k<8->(eK w (cB t) (cO t) (x.c f) (.slice (pa f) (x.c f).F.length (pk f))).cell? (aA (cB q) (cO q+k))=w.cell? (aA (cB q) (cO q+k)):=λq l e k n=>h.rw.far8 i l e (hT _) y1 (a1k w (cB t) (cO t) (x.c f) (.slice (pa f) (x.c f).F.length (pk f))) k n
 have E:S7 (eK w (cB t) (cO t) (x.c f) (.slice (pa f) (x.c f).F.length (pk f))) (cB f) (cO f) (x.c f):=(h.rw.s f m).of λj D=>d f m (λe=>g e.symm) j (by omega)
 have⟨u,r⟩:=a4v (eK w (cB t) (cO t) (x.c f) (.slice (pa f) (x.c f).F.length (pk f))) (cB f) (cO f) 2 t _ _ E ((d f m (λe=>g e.symm) 7 (by omega)).trans (h.rw.p7 f m));have y2:=a0c (eK w (cB t) (cO t) (x.c f) (.slice (pa f) (x.c f).F.length (pk f))) (cB f) (cO f) 2 t;have a:∀q,q<x.A.length->q≠f->∀k,k<8->(zD (eK w (cB t) (cO t) (x.c f) (.slice (pa f) (x.c f).F.length (pk f))) (cB f) (cO f) 2 t).cell? (aA (cB q) (cO q+k))=(eK w (cB t) (cO t) (x.c f) (.slice (pa f) (x.c f).F.length (pk f))).cell? (aA (cB q) (cO q+k)):=λq l e k n=>h.rw.far8 m l e y1.size y2 (a3x (eK w (cB t) (cO t) (x.c f) (.slice (pa f) (x.c f).F.length (pk f))) (cB f) (cO f) 2 t) k n
 exact h.move t f g i m ((y1.mono (λq e=>⟨t,i,e⟩)).trans (y2.mono (λq e=>⟨f,m,e⟩))) (λq l=>a7i (a7i (h.rw.nc q l).1 (a3b (h.rw.nc t i).1 _ _ _) y1) (a9z (a7i (h.rw.nc f m).1 (a3b (h.rw.nc t i).1 _ _ _) y1) _ _ _) y2) (z.of λj D=>a t i g j (by omega)) (by rw[a t i g 7 (by omega)];exact y) u r (λq l C A k n=>(by rw[a q l A k n,d q l C k n]))
def rgR(x:Hp)(t f j:Nat):Hp:={ x with B:=(x.B.take j).map (mvW t f)++x.B.drop j }
theorem d2k(x:Hp)(t f j:Nat)(a:j<x.B.length):∃h:j<(rgR x t f j).B.length,(rgR x t f j).B[j]=x.B[j]:=by grind[VNt.f,rgR]
theorem c1y(x:Hp)(t f j:Nat)(a:j<x.B.length):({ rgR x t f j with B:=(rgR x t f j).B.set j (mvW t f x.B[j]) }:Hp)=rgR x t f (j+1):=by
 have:(rgR x t f j).B.set j (mvW t f x.B[j])=(rgR x t f (j+1)).B:=by
  simp only[rgR];rw[List.set_append_right _ _ (by simp;omega),kx a,mr];simp only[List.length_map,List.length_take,Nat.min_eq_left (Nat.le_of_lt a),Nat.sub_self];rw[nX a];simp only[List.set_cons_zero,List.map_cons,List.map_nil,List.append_assoc,List.singleton_append]
 rw[this];rfl
theorem d2m(x:Hp)(t f j:Nat)(a:j<x.B.length)(h:mvW t f x.B[j]=x.B[j]):rgR x t f (j+1)=rgR x t f j:=by
 rw[<-c1y x t f j a,h];have⟨b,e⟩:=d2k x t f j a;rw[<-e];simp
theorem d2n(x:Hp)(t f:Nat):rgR x t f 0=x:=by simp[rgR]
theorem rgR_all(x:Hp)(t f:Nat):b3i (rgR x t f x.B.length) t f=qK x t f:=by simp[rgR,b3i,qK,Hp.c]
def fptr(bn:Nat)(y:Wd):Value:=if (y.k == 2)=true then ndp bn y.a.toNat else .pointer none
theorem a7o[qr](h:SAt B w b x ar kr v4 v8 br cB cO bn pb pa pk kn hd vf F vk K role)(l:R2 x)(y:Wd)(j:eD x y)(d:uJ y x.A.length):
  Calls prog 144 #[pP b,y.v] w λe w'=>e=.returned (fptr bn y)/\Ext w w':=by
 unfold fptr;cases q:(y.k == 2);rw[if_neg (by simp)];exact a7m y b w q;rw[if_pos rfl];have c:y.k=2:=by simpa using q
 have g:=j c;have⟨k,n,a⟩:=y;simp only at c g;subst c;unfold uJ at d;simp only at d;obtain⟨i,rfl⟩:∃i:Nat,a=(i:Int):=⟨a.toNat,by omega⟩;obtain rfl:n=0:=by omega
 have f:((i:Int)).toNat=i:=by omega
 simp only[f]at g ⊢;have L:qQ x i=i:=by unfold qQ;rw[if_neg (by rw[g.2];simp)]
 have:=b0j h l i g.1;rw[L]at this;exact this
theorem b5q(b:Nat)(w:World):Calls prog 222 #[pP b,.pointer none] w λe w'=>e=.returned (.tuple #[])/\w'=w:=by
 go_in;go_wp21;try simp only[Exit.inBlock,Exit.then]
 refine bodyPost_ret (results_none rfl _ _ _) rfl ?_;exact⟨rfl,rfl⟩
theorem a9g[qr](h:SAt B w b x ar kr v4 v8 br cB cO bn pb pa pk kn hd vf F vk K role)(y:Wd)(s:eD x y)(t:∀i,i<x.A.length->eE x i=true->x.D.length<4000)(a:World)(u:a.heap.size<=B)(c:Ext a w):
  Calls prog 222 #[pP b,fptr bn y] w λe w'=>e=.returned (.tuple #[])/\Hid (SAt B w' b (uX x y) ar kr v4 v8 br cB cO bn pb pa pk kn hd vf F vk K role)/\Ext a w'/\Hid (∀q,q<w.heap.size->q≠b->(∀j,j<x.A.length->q≠cB j)->w'.heap[q]?=w.heap[q]?):=by
 unfold fptr uX;cases q:(y.k == 2);rw[if_neg (by simp),if_neg (by simp)];refine(b5q b w).mono ?_;rintro e w' ⟨rfl,rfl⟩;exact⟨rfl,h,c,λ_ _ _ _=>rfl⟩;rw[if_pos rfl,if_pos rfl];have d:y.k=2:=by simpa using q
 have g:=(s d).1;refine(b1y y.a.toNat w h g (t _ g) a u c).mono ?_;rintro e w' ⟨r,l,f,n⟩;exact⟨r,l,f,λq p m o=>uH n q p m (o _ g)⟩
theorem d2x[qr]{B:Nat}{w:World}{b:Nat}{x:Hp}{ar:Option Addr}{kr:Nat}{v4 v8:Value}{br bn:Nat}{cB cO:Nat->Nat}{pb:Nat->Nat}{pa:Nat->Option Addr}{pk:Nat->Nat}{kn hd:Nat}{vf:Value}{F:List Int}{vk:Value}{K:List Nat}{role:Nat->Nat}(h:SAt B w b x ar kr v4 v8 br cB cO bn pb pa pk kn hd vf F vk K role)(s:Snd x)(X:x.E=2)(hg:x.D=[])(a:World)(Y:a.heap.size<=B)(hx:Ext a w):
  Calls prog 274 #[.agg #[pP b]] w λe w'=>e=.returned (yY (dW x).E b)/\Hid (SAt B w' b (dW x) ar kr v4 v8 br cB cO bn pb pa pk kn hd vf F vk K role)/\Ext a w':=by
 have S:=uU (show dW x=if (zX x).D=[] then dC (zX x) 3 0 else zX x by unfold dW;rw[hg]);have H:=uU (c6i s X);have HP:=uU X;have u:=(hO w).alloc (.cells #[pP b] 211);have r0:0<x.B.length:=by have:=s.r1.B;omega
 have ac:x.B.length<=16:=by have:=s.r1.B;omega
 have U:=h.sb.bx.2.2.2.1;rw[h.sb.ha r0]at U;have ad:b<w.heap.size:=h.sb.nb.1;have HS:=uU (h.ext u);have XS:=uU (hx.trans u);have d3:=u.keep U;have L:=uU (show ∀j,j<x.A.length->w.heap.size≠cB j from λj hl e=>by have:=(h.rw.nc j hl).1.1;omega);have M0:=uU (show(w.alloc (.cells #[pP b] 211)).cell? (aA w.heap.size 0)=some (pP b) by simp[go_sem]);go_in;go_wp21;go_loopw [13] (λi wr=>∃j:Nat,j<=x.B.length/\i=iv j/\Hid (SAt B wr b (lkH x j) ar kr v4 v8 br cB cO bn pb pa pk kn hd vf F vk K role)/\Hid (Ext a wr)/\Hid (wr.cell? (aA w.heap.size 0)=some (pP b))) (λi _=>x.B.length-(intOf i).toNat)
 case atStart=>exact⟨0,kB _,rfl,HS,XS,M0⟩
 case round=>
  obtain⟨j,hj,rfl,l,o,D⟩:=hrel;by_cases c:j<x.B.length
  ·have E:(lkH x j).B=x.B:=(H j).B;obtain⟨e0,e1,e2⟩:=l.rw.r j (by rw[E];exact c);have Q:(lkH x j).B[j]'(by rw[E];exact c)=x.B[j]:=by simp[E]
   rw[Q]at e0 e1 e2;have z:=uU (show Snd (lkH x j)/\eD (lkH x j) x.B[j]/\uJ x.B[j] (lkH x j).A.length by
    have N:=(H j).s;refine⟨N,?_,?_⟩;have:=N.good_reg j (by rw[E];exact c);rw[Q]at this;exact this;have:=(N.r4.1 j (by rw[E];exact c)).1;rw[Q]at this;exact this)
   have NX:=uU (c0v x j c);have aa:=i0N j;have ab:(j:Int)<(x.B.length:Int):=by omega
   have u:=(hO wr).alloc (.cells #[iv x.B[j].k,iv x.B[j].n,iv x.B[j].a] 48);have V:=uU (l.ext u);have X2:=uU (o.trans u);have s0:=u.keep D;have I:=uU (show ∀j,j<x.A.length->w.heap.size≠cB j from uH L);go_wp21;go_region_with (first|(have _:=LA;go_at_call 222;refine(a9g C x.B[j] z.2.1 (λq hq=>(a2d z.1.ok).2 q hq) a Y v).mono ?_;rintro e J ⟨rfl,p,P,fr⟩;rw[<-uH NX]at p;have H4:=uU p;have X4:=uU P;have FR:=uU (show ∀q,q<y.heap.size->q≠b->(∀j,j<x.A.length->q≠cB j)->J.heap[q]?=y.heap[q]? from λq h1 h2 h3=>uH fr q h1 h2 (λm p=>h3 m (by rw[(uH H j).len]at p;exact p))))|(go_at_call 144;refine(a7o (V.ext (eDr _)) z.1.r2 x.B[j] z.2.1 z.2.2).mono ?_;rintro e y ⟨rfl,f⟩;have LA:=True.intro;have t:=kI (eDr _) f;have C:=uU (V.ext t);have v:=uU (X2.trans t);have W:=t.keep s0;have M:=cLt W));all_goals
    have Z:=uU (show J.cell? (aA w.heap.size 0)=some (pP b) from(cOb w.heap.size 0 (FR w.heap.size M (by omega) I)).trans W);go_wp2;go_roundw
    case rel=>exact⟨j+1,by omega,by go_num,H4,X4,Z⟩
    simp[intOf];omega
  have je:j=x.B.length:=by omega
  subst je;rw[b8z]at l;have R:=uH D;have T:=uU (show Snd (zX x)/\(zX x).E=2 by
   have:=uH H x.B.length;rw[b8z]at this;exact⟨this.s,this.E.trans HP⟩)
  cases d:(zX x).D with
  | nil=>
   have A:=uU (show dW x=dC (zX x) (2+1) 0 by rw[uH S,if_pos d];rfl);have O:=uU (show RAt wr b bn hd [] by have:=l.sb.rg;rw[d]at this;exact this);go_wp21;refine(a7n b bn hd _ O).mono ?_;rintro e y ⟨rfl,f⟩;have k0:=f.keep R;have C:=uU (l.ext f);have v:=uU (o.trans f);go_wp21;refine(a7k C 2 T.2 rfl rfl (by omega) a Y v).mono ?_;rintro e J ⟨rfl,p,P⟩;go_wp2;go_ret;exact⟨by rw[uH A];rfl,by rw[uH A];exact uH p,P⟩
  | cons g G=>
   have A:=uU (show dW x=zX x by rw[uH S,if_neg (by rw[d];simp)]);have EP:=uU (show(dW x).E=2 by rw[uH A];exact T.2);have O:=uU (show RAt wr b bn hd (g::G) by have:=l.sb.rg;rw[d]at this;exact this);go_wp21;refine(a4k b bn hd g G _ O).mono ?_;rintro e y ⟨rfl,f⟩;have k0:=f.keep R;have C:=uU (l.ext f);have v:=uU (o.trans f);go_wp2;go_ret;exact⟨by rw[uH EP];rfl,by rw[uH A];exact uH C,v⟩
theorem c8y[qr](h:SAt B w b x ar kr v4 v8 br cB cO bn pb pa pk kn hd vf F vk K role)(s:Snd x)(p:x.E=2)(g:x.D=[])(a:World)(r:a.heap.size<=B)(q:Ext a w):
  Calls prog 273 #[.agg #[pP b]] w λe w'=>e=.returned (yY (dW x).E b)/\Hid (SAt B w' b (dW x) ar kr v4 v8 br cB cO bn pb pa pk kn hd vf F vk K role)/\Ext a w':=by
 have d:=(hO w).alloc (.cells #[pP b] 211);have j:=uU (a7n b bn hd _ ((show RAt w b bn hd [] by have:=h.sb.rg;rw[g]at this;exact this).block (d.block b h.sb.nb.1)));go_in;go_wp21;refine j.mono ?_;rintro e l ⟨rfl,f⟩;have u:l.cell? (aA w.heap.size 0)=some (pP b):=f.keep (by simp[go_sem]);have n:=d.trans f;go_wp21;refine((λW (e:Ext w W)=>d2x (h.ext e) s p g a r (q.trans e)) _ n).mono ?_;rintro e t ⟨rfl,k,o⟩;go_wp2;go_ret;exact⟨rfl,k,o⟩
def kK(x:Hp)(y:Wd)(Mt Mt' St St':List Nat):Prop:=(y.k≠2/\Mt'=Mt/\St'=St)\/(y.k=2/\((tgt x y∈Mt/\Mt'=Mt/\St'=St)\/(¬tgt x y∈Mt/\Mt'=Mt++[tgt x y]/\St'=St++[tgt x y])))
theorem kK.sub(h:kK x y Mt Mt' St St'):(∀i,i∈Mt->i∈Mt')/\(∀i,i∈St->i∈St'):=by grind[kK,Add.sub,VNt.f]
theorem kK.has(h:kK x y Mt Mt' St St')(a:y.k=2):tgt x y∈Mt':=by grind[kK,Add.has,tgt]
theorem kK.new(h:kK x y Mt Mt' St St')(a:i∈Mt'):i∈Mt\/(y.k=2/\i=tgt x y/\i∈St'):=by grind[kK,Add.new,tgt,VNt.f]
theorem kK.weigh(h:kK x y Mt Mt' St St'):2*Mt.length+St'.length<=2*Mt'.length+St.length/\Mt.length<=Mt'.length:=by grind[kK,VNt.f]
theorem lead_eq(x:Hp)(i:Nat):qQ x i=a2h x i:=rfl
theorem a2s(x:Hp)(y:Wd)(b:Nat)(w:World){ac:Nat->Option Addr}(g j:Nat)(h:c1v w b x ac (some (aA g j)) kn)(o:R2 x)(n:a0m x y):
  Calls prog 144 #[pP b,y.v] w λe w'=>∃t,Hid (e=.returned t)/\((y.k≠2/\t=.pointer none)\/(y.k=2/\t=ptr g (j+tgt x y*2)))/\Ext w w':=by
 cases c:(y.k == 2)
 exact(a7m y b w c).mono λ_ _ ⟨d,f⟩=>⟨_,d,.inl ⟨by simpa using c,rfl⟩,f⟩
 have m:y.k=2:=by simpa using c
 have⟨_,p,q,_,_⟩:=n m;have⟨i,l⟩:∃i:Nat,y.a=(i:Int):=⟨y.a.toNat,by omega⟩;have:=c1w x y b i w h o c (by omega) g j rfl;rw[<-l]at this;exact this.mono λ_ _ ⟨d,f⟩=>⟨_,d,.inr ⟨m,by unfold tgt;rw[l,lead_eq];simp⟩,f⟩
theorem a8d(x:Hp)(y:Wd)(base bw j r1 a c:Nat)(t v:Value)(b d:List Nat)(w:World)(h:eV w base bw j r1 a c x.A.length v b d)(p:a0m x y)(q:(y.k≠2/\t=.pointer none)\/(y.k=2/\t=ptr a (c+tgt x y*2)))(r:base<=w.heap.size)(i:x.A.length<=8000):
  Calls prog 139 #[pP bw,t] w λe w'=>e=.returned (.tuple #[])/\∃v' Mt' St',eV w' base bw j r1 a c x.A.length v' Mt' St'/\Hid (kK x y b Mt' d St')/\KFr bw r1 v v' w w':=by
 obtain⟨k,rfl⟩|⟨k,rfl⟩:=q;exact(c2i bw w).mono λ_ _ ⟨g,f⟩=>by subst f;exact⟨g,v,b,d,h,.inl ⟨k,rfl,rfl⟩,KFr.of_ext (hO _)⟩
 exact(b0m base bw j r1 a c x.A.length (tgt x y) v b d w h (p k).2.2.2.2.1 r i).mono λ_ _ ⟨g,v',m,n,f,o,l⟩=>⟨g,v',m,n,f,.inr ⟨k,o⟩,l⟩
def a4o(x:Hp)(Mt:List Nat):Prop:=∀i,i∈Mt->cU x i
def a6c(x:Hp)(k:Nat)(Mt:List Nat):Prop:=∀j (h:j<x.B.length),j<k->x.B[j].k=2->tgt x x.B[j]∈Mt
theorem a4o.add(h:a4o x Mt)(a:kK x y Mt Mt' St St')(b:y.k=2->cU x (tgt x y)):a4o x Mt':=by grind[a4o,Sn.add,eV.add,kK,cU,tgt,Add.new,kK.new]
theorem eV.V(w:World)(b d e n:Nat)(t:TypeId):eV (((w.alloc (.map #[] 0)).alloc (.map #[] 0)).alloc (.cells #[pP b,.map (some w.heap.size),.slice none 0 0,.map (some (w.heap.size+1))] t)) w.heap.size (w.heap.size+2) b w.heap.size d e n (.slice none 0 0) [] []:=by
 have c:(((w.alloc (.map #[] 0)).alloc (.map #[] 0)).alloc (.cells #[pP b,.map (some w.heap.size),.slice none 0 0,.map (some (w.heap.size+1))] t)).heap[w.heap.size]?=some (.map #[] 0):=by
  rw[mF _ _ _ (by simp;omega),mF _ _ _ (by simp)];exact heap_alloc_new w _
 refine⟨by simp[go_sem],by simp[go_sem],by simp[go_sem],by simp[go_sem],⟨#[],0,c,by simp[b3t]⟩,mB _ _ _ _,by simp[Value.ownBlock],by simp[Value.ownBlock],by omega,by omega,hT _,λi a=>a,List.nodup_nil,List.nodup_nil,λi a=>by cases a⟩
theorem d3x(x:Hp)(b:Nat)(w:World){ac:Nat->Option Addr}(l m:Nat)(h:VNt w b x ar kr ac (some (aA l m)) kn)(X:R2 x)(Y:R4 x)(D:x.A.length<=8000):
  Calls prog 137 #[pP b] w λe w'=>e=.returned (pP (w.heap.size+2))/\∃v Mt St,eV w' w.heap.size (w.heap.size+2) b w.heap.size l m x.A.length v Mt St/\Hid (a4o x Mt/\a6c x x.B.length Mt/\∀i,i∈Mt->i∈St)/\Ext w w':=by
 have lr:=h.H.lr;have HV:=uU h;have U:∀(t:TypeId)(w:World),(Instr.makeMap t none).run prog w=.ok (.map (some w.heap.size)) (w.alloc (.map #[] 0)):=λ_ _=>rfl
 have c4:=(((eAl w (.map #[] 0)).alloc (.map #[] 0)).alloc (.cells #[pP b,.map (some w.heap.size),.slice none 0 0,.map (some (w.heap.size+1))] 178)).keep h.H.c3;go_in;go_wp21;go_loopw [17] (λi wr=>∃(k:Nat)(v:Value)(Mt St:List Nat),k<=x.B.length/\i=iv k/\eV wr w.heap.size (w.heap.size+2) b w.heap.size l m x.A.length v Mt St/\Hid (a4o x Mt/\a6c x k Mt/\∀i,i∈Mt->i∈St)/\Ext w wr) (λi _=>x.B.length-(intOf i).toNat)
 case atStart=>exact⟨0,_,[],[],kB _,rfl,(eV.V w b l m x.A.length 178),⟨(λi p=>by cases p),(λj _ I=>by omega),λi p=>p⟩,((eAl w _).alloc _).alloc _⟩
 case round=>
  obtain⟨k,v,Mt,St,Z,rfl,P,c,d⟩:=hrel;by_cases g:k<x.B.length
  ·obtain⟨b',o,rfl,p0,p1,p2⟩:=(HV.ext d).H.R k g;have T:=i0N k;have L:(k:Int)<(x.B.length:Int):=by omega
   have G:=(hO wr).alloc (.cells #[iv x.B[k].k,iv x.B[k].n,iv x.B[k].a] 48);have E:=b0c X Y k g;go_wp21;refine(a2s x x.B[k] b _ l m (HV.ext (d.trans G)).f X E).mono ?_;rintro e w2 ⟨t,rfl,S,M⟩;have u:=G.trans M;go_wp21;refine(a8d x x.B[k] w.heap.size (w.heap.size+2) b w.heap.size l m t v Mt St _ (P.ext u) E S (d.trans u).size D).mono ?_;rintro e F ⟨rfl,J,s,C,A,r,z⟩;have R:=uU (show eV F w.heap.size (w.heap.size+2) b w.heap.size l m x.A.length J s C/\(a4o x s/\a6c x (k+1) s/\∀i,i∈s->i∈C)/\Ext w F from
    ⟨A,⟨c.1.add r (λe=>cU.reg k g e),λj I V e=>by
     by_cases q:j=k;subst q;exact r.has e;exact r.sub.1 _ (c.2.1 j I (by omega) e),λi p=>by
     obtain q|⟨_,_,q⟩:=r.new p;exact r.sub.2 i (c.2.2 i q);exact q⟩,(P.ext u).kext z (d.trans u)⟩)
   go_wp2;go_roundw
   case rel=>exact⟨k+1,J,s,C,by omega,by go_num,R.1,R.2.1,R.2.2⟩
   simp[intOf];omega
  have y:k=x.B.length:=by omega
  subst y;go_wp2;go_ret;exact⟨rfl,v,Mt,St,P,c,d⟩
def c2j(w:World)(g:Option Addr)(bw r1:Nat)(v:Value)(bn on:Nat)(Ls:List Nat):Prop:=∀k (h:k<Ls.length),∃gb go,g=some ⟨gb,go,none⟩/\w.cell? ⟨gb,go+k,none⟩=some (ptr bn (on+Ls[k]*2))/\gb≠bw/\gb≠r1/\v.ownBlock≠some gb
theorem c2j.step(h:c2j w g bw r1 v bn on Ls)(f:KFr bw r1 v v' w w'):c2j w' g bw r1 v' bn on Ls:=λk m=>by
 have⟨b,l,a,c,j,i,d⟩:=h k m;have n:=cLt c;refine⟨b,l,a,(cOb b (l+k) (f.block b n j i d)).trans c,j,i,λe=>?_⟩;obtain q|⟨y,q,o⟩:=f.own;rw[q]at e;exact d e;rw[q]at e;cases e;omega
def a7s(x:Hp)(w w':World)(g:Option Addr)(bn on:Nat)(Ls:List Nat):Prop:=(∀k (h:k<Ls.length),∃gb go,g=some ⟨gb,go,none⟩/\w'.cell? ⟨gb,go+k,none⟩=some (ptr bn (on+Ls[k]*2))/\w.heap.size<=gb)/\Ls.length<=8000/\(∀i,i∈Ls↔i<x.A.length/\dH (x.c i))
theorem a7s.at(h:a7s x w w' g bn on Ls)(k:eV w base bw bv r1 bn on x.A.length v Mt St):c2j w' g bw r1 v bn on Ls:=λi f=>by
 have⟨b,j,a,c,d⟩:=h.1 i f;have:=k.rlt;refine⟨b,j,a,c,?_,?_,λe=>by have:=(k.s.lt b e).2;omega⟩<;>omega
theorem b0n(base bw f r1 a b n:Nat)(v:Value)(c d:List Nat)(w:World)(h:eV w base bw f r1 a b n v c d)(k:n<=8000):
  Calls prog 140 #[pP bw] w λe w'=>∃t v' St',Hid (e=.returned t)/\eV w' base bw f r1 a b n v' c St'/\Hid ((t=.pointer none/\d=[]/\St'=[])\/∃j,t=ptr a (b+j*2)/\d=St'++[j])/\KFr bw r1 v v' w w':=by
 obtain q|⟨S,j,q⟩:=d.eq_nil_or_concat;subst q;exact(c9q base bw f r1 a b n v c w h).mono λ_ _ ⟨i,g⟩=>by subst g;exact⟨_,v,[],i,h,.inl ⟨rfl,rfl,rfl⟩,KFr.of_ext (hO _)⟩
 rw[List.concat_eq_append]at q;subst q;exact(c9r base bw f r1 a b n j v c S w h k).mono λ_ _ ⟨i,v',g,l⟩=>⟨_,v',S,i,g,.inr ⟨j,rfl,rfl⟩,l⟩
def LastN(x:Hp)(Mt:List Nat):Prop:=∀i,i<x.A.length->dH (x.c i)->i∈Mt
def a2t(x:Hp)(Mt:List Nat)(i l:Nat):Prop:=∀p,p<(x.c i).F.length->p<l->(((x.c i).p p).key.k=2->tgt x ((x.c i).p p).key∈Mt)/\(((x.c i).p p).val.k=2->tgt x ((x.c i).p p).val∈Mt)
def b9q(x:Hp)(Mt:List Nat)(i:Nat):Prop:=a2t x Mt i (x.c i).F.length
theorem a2t.sub(h:a2t x Mt i l)(s:∀i,i∈Mt->i∈Mt'):a2t x Mt' i l:=by grind[a2t,Add.sub,kK.sub,Cl.p]
structure a8g(x:Hp)(Mt St:List Nat)(cur:Option Nat):Prop where
 only:a4o x Mt
 B:a6c x x.B.length Mt
 U:LastN x Mt
 part:∀i,i∈Mt->i∈St\/cur=some i\/b9q x Mt i
theorem a8g.done(h:a8g x Mt [] none)(i:Nat):i∈Mt↔cU x i:=by
 constructor;exact h.only i;intro r;have f:∀j,j∈Mt->b9q x Mt j:=λj l=>by
  obtain q|q|q:=h.part j l
  cases q
  cases q
  exact q
 exact r (λi=>i∈Mt) (λk a e=>h.B k a a e) (λi g _ c=>h.U i g c) (λj p d b a=>(f j d p b b).1 a) (λj p d b a=>(f j d p b b).2 a)
theorem a8g.add{cur:Option Nat}(h:a8g x Mt St cur)(a:kK x y Mt Mt' St St')(g:y.k=2->cU x (tgt x y)):a8g x Mt' St' cur:=
 ⟨h.only.add a g,λj d c e=>a.sub.1 _ (h.B j d c e),λi b f=>a.sub.1 _ (h.U i b f),λi b=>by
  obtain q|⟨_,_,q⟩:=a.new b;obtain r|r|r:=h.part i q
  ·exact .inl (a.sub.2 i r)
  exact .inr (.inl r);exact .inr (.inr (r.sub a.sub.1));exact .inl q⟩
theorem a8g.shut(h:a8g x Mt St (some j))(c:b9q x Mt j):a8g x Mt St none:=
 ⟨h.only,h.B,h.U,λi a=>by
  obtain r|r|r:=h.part i a;exact .inl r
  cases r;exact .inr (.inr c)
  exact .inr (.inr r)⟩
theorem a8g.take(h:a8g x Mt (St++[j]) none):a8g x Mt St (some j):=
 ⟨h.only,h.B,h.U,λi a=>by
  obtain r|r|r:=h.part i a;grind[a7s.at]
  cases r
  exact .inr (.inr r)⟩
def pv(bn on:Nat)(o:Option Nat):Value:=match o with|none=>.pointer none|some i=>ptr bn (on+i*2)
def wo(x:Hp)(y:Wd):Option Nat:=if y.k=2 then some (tgt x y) else none
structure yZ(Q:Nat->Prop)(Mt Mt' St St':List Nat):Prop where
 m:∀i,i∈Mt->i∈Mt'
 s:∀i,i∈St->i∈St'
 n:∀i,i∈Mt'->i∈Mt\/(Q i/\i∈St')
 w:2*Mt.length+St'.length<=2*Mt'.length+St.length
 l:Mt.length<=Mt'.length
theorem yZ.refl:yZ Q Mt Mt St St:=⟨λ_ h=>h,λ_ h=>h,λ_ h=>.inl h,hT _,hT _⟩
theorem yZ.trans(h:yZ Q M1 M2 S1 S2)(k:yZ Q M2 M3 S2 S3):yZ Q M1 M3 S1 S3:=
 ⟨λi a=>k.m i (h.m i a),λi a=>k.s i (h.s i a),λi a=>by
  obtain q|q:=k.n i a;obtain r|⟨r,s⟩:=h.n i q
  ·exact .inl r
  exact .inr ⟨r,k.s i s⟩;exact .inr q,by have:=h.w;have:=k.w;omega,kA h.l k.l⟩
theorem yZ.mono{Q':Nat->Prop}(h:yZ Q M1 M2 S1 S2)(b:∀i,Q i->Q' i):yZ Q' M1 M2 S1 S2:=
 ⟨h.m,h.s,λi a=>by
  obtain q|⟨q,r⟩:=h.n i a;exact .inl q;exact .inr ⟨b i q,r⟩,h.w,h.l⟩
theorem b2i(a:(i∈Mt/\Mt'=Mt/\St'=St)\/(¬i∈Mt/\Mt'=Mt++[i]/\St'=St++[i])):yZ (λq=>q=i) Mt Mt' St St'/\i∈Mt':=by
 obtain⟨m,rfl,rfl⟩|⟨m,rfl,rfl⟩:=a;exact⟨yZ.refl,m⟩;refine⟨⟨λj b=>nG _ b,λj b=>nG _ b,λj b=>?_,by simp;omega,by simp⟩,by simp⟩;obtain q|q:=mD.1 b
 ·exact .inl q
 grind[a2a.at,a7s.at]
theorem b0o(base bw l r1 a c n:Nat)(o:Option Nat)(v:Value)(b d:List Nat)(w:World)(h:eV w base bw l r1 a c n v b d)(u:∀i,o=some i->i<n)(t:base<=w.heap.size)(k:n<=8000):
  Calls prog 139 #[pP bw,pv a c o] w λe w'=>e=.returned (.tuple #[])/\∃v' Mt' St',eV w' base bw l r1 a c n v' Mt' St'/\Hid (yZ (λi=>o=some i) b Mt' d St'/\∀i,o=some i->i∈Mt')/\KFr bw r1 v v' w w':=by
 cases o with
 | none=>exact(c2i bw w).mono λ_ _ ⟨g,f⟩=>by subst f;exact⟨g,v,b,d,h,⟨yZ.refl,λi e=>by cases e⟩,KFr.of_ext (hO _)⟩
 | some i=>exact(b0m base bw l r1 a c n i v b d w h (u i rfl) t k).mono λ_ _ ⟨g,v',r,s,f,m,p⟩=>⟨g,v',r,s,f,⟨(b2i m).1.mono (λq e=>by rw[e]),λj e=>by cases e;exact(b2i m).2⟩,p⟩
theorem c2m(x:Hp)(y:Wd)(b:Nat)(w:World){ac:Nat->Option Addr}(a c:Nat)(h:VNt w b x ar kr ac (some (aA a c)) kn)(l:R2 x)(j:a0m x y):
  Calls prog 144 #[pP b,y.v] w λe w'=>Hid (e=.returned (pv a c (wo x y)))/\Ext w w':=
 (a2s x y b w a c h.f l j).mono λ_ _ ⟨t,d,g,i⟩=>⟨by
  obtain⟨k,e⟩|⟨k,e⟩:=g;rw[uH d,e,wo,if_neg k];rfl;rw[uH d,e,wo,if_pos k];rfl,i⟩
theorem c2n(a:a0m x y)(i:Nat)(h:wo x y=some i):i<x.A.length/\y.k=2/\i=tgt x y:=by
 unfold wo at h;split at h;rename_i k;cases h;exact⟨(a k).2.2.2.2.1,k,rfl⟩
 cases h
structure yN(w:World)(base bw r1 r2 bn on:Nat)(v:Value)(f:Nat->Value)(g:Nat->List (Option Nat)):Prop where
 c3:w.cell? ⟨bw,3,none⟩=some (Value.map (some r2))
 m:b2h w r2 bn on f
 row:∀k,w.ownsRow base 97 1 (f k) (g k).length ((g k).map (pv bn on))
 dis:∀k k' b,k≠k'->(f k).ownBlock=some b->(f k').ownBlock≠some b
 av:∀k b,(f k).ownBlock=some b->v.ownBlock≠some b
 a1:∀k,(f k).ownBlock≠some bw
 a2:∀k,(f k).ownBlock≠some r1
 a3:∀k,(f k).ownBlock≠some r2
 n1:r2≠bw
 n2:r2≠r1
 n3:v.ownBlock≠some r2
 b2:base<=r2
theorem yN.ext{f:Nat->Value}{g:Nat->List (Option Nat)}(h:yN w base bw r1 r2 bn on v f g)(e:Ext w w'):yN w' base bw r1 r2 bn on v f g:=
 ⟨e.keep h.c3,h.m.block (e.block r2 h.m.lt),λk=>uN (h.row k) (λb a=>e.block b ((h.row k).lt b a).2),h.dis,h.av,h.a1,h.a2,h.a3,h.n1,h.n2,h.n3,h.b2⟩
theorem yN.step{f:Nat->Value}{g:Nat->List (Option Nat)}(h:yN w base bw r1 r2 bn on v f g)(k:KFr bw r1 v v' w w'):yN w' base bw r1 r2 bn on v' f g:=by
 refine⟨k.keep 3 _ (by omega) h.c3,h.m.block (k.block r2 h.m.lt h.n1 h.n2 h.n3),λq=>uN (h.row q) (λb a=>k.block b ((h.row q).lt b a).2 (λe=>h.a1 q (e ▸ a)) (λe=>h.a2 q (e ▸ a)) (h.av q b a)),h.dis,λq b a e=>?_,h.a1,h.a2,h.a3,h.n1,h.n2,λe=>?_,h.b2⟩;obtain o|⟨y,o,c⟩:=k.own
 ·rw[o]at e;exact h.av q b a e
 rw[o]at e;cases e;have:=((h.row q).lt b a).2;omega;obtain o|⟨y,o,c⟩:=k.own
 ·rw[o]at e;exact h.n3 e
 rw[o]at e;cases e;have:=h.m.lt;omega
theorem b9r{t:TypeId}{xs:List Value}(h:w.ownsRow base t 1 v n xs):∃ad cap,v=.slice ad n cap/\(0<n->∃gb,ad=some (aA gb 0)):=by
 obtain⟨h0,h1⟩|⟨g,cap,cur,h0,_⟩:=h.2;grind;grind
theorem yN.wait{W w2 w3:World}{gb cap:Nat}{f:Nat->Value}{g:Nat->List (Option Nat)}{o:Option Nat}{ob:Obj}(c:eV w base bw bv r1 bn on n v Mt St)(h:yN w base bw r1 r2 bn on v f g)(x:W.heap=(w.alloc ob).heap)(J:W.os=w.os)(I:W.tape=w.tape)(L:W.output=w.output)
  (r:w2.ownsRow base 97 1 (sS gb ((g k).length+1) cap) ((g k).length+1) ((g k).map (pv bn on)++[pv bn on o])) (u:W.grownBy w2 (f k).ownBlock) (N:(f k).ownBlock=some gb\/gb=W.heap.size)
  (V:b2h w3 r2 bn on (λq=>if q=k then sS gb ((g k).length+1) cap else f q)) (M:w3.os=w2.os) (X:w3.tape=w2.tape) (K:w3.output=w2.output) (Y:w3.heap.size=w2.heap.size) (t:∀q:Nat,q≠r2->w3.heap[q]?=w2.heap[q]?) :
  eV w3 base bw bv r1 bn on n v Mt St/\yN w3 base bw r1 r2 bn on v (λq=>if q=k then sS gb ((g k).length+1) cap else f q) (λq=>if q=k then g k++[o] else g q)/\(∀a:World,a.heap.size=base->Ext a w->Ext a w3):=by
 have Q:=c.rlt;have R:W.heap.size=w.heap.size+1:=by rw[x];simp
 have T:w.heap.size+1<=w2.heap.size:=by have:=u.size;omega
 have E:∀b:Nat,b<w.heap.size->(f k).ownBlock≠some b->w2.heap[b]?=w.heap[b]?:=λb i F=>(u.block b (by omega) (λe=>F e.symm)).trans (x▸mF w ob b i)
 have d:∀b:Nat,b<w.heap.size->(f k).ownBlock≠some b->b≠r2->w3.heap[b]?=w.heap[b]?:=λb i F U=>(t b U).trans (E b i F)
 have j:gb≠bw/\gb≠r1/\gb≠r2/\v.ownBlock≠some gb/\(∀q,q≠k->(f q).ownBlock≠some gb):=by
  obtain e|e:=N;exact⟨λq=>h.a1 k (q ▸ e),λq=>h.a2 k (q ▸ e),λq=>h.a3 k (q ▸ e),h.av k gb e,λq B=>h.dis k q gb (λz=>B z.symm) e⟩;have:=h.m.lt;refine⟨?_,?_,?_,λq=>by have:=(c.s.lt _ q).2;omega,λq _ z=>by have:=((h.row q).lt _ z).2;omega⟩<;>omega
 have l:∀q b,(if q=k then (sS gb ((g k).length+1) cap:Value) else f q).ownBlock=some b->(q=k/\b=gb)\/(q≠k/\(f q).ownBlock=some b):=λq b e=>by
  by_cases z:q=k;rw[if_pos z]at e;simp[Value.ownBlock]at e;exact .inl ⟨z,e.symm⟩;rw[if_neg z]at e;exact .inr ⟨z,e⟩
 have p:w3.heap[bw]?=w.heap[bw]?:=d bw Q.1 (h.a1 k) (λe=>h.n1 e.symm);have D:∀A G,w.cell? (aA bw A)=some G->w3.cell? (aA bw A)=some G:=λA G S=>(cOb bw A p).trans S
 refine⟨⟨D 0 _ c.c0,D 1 _ c.c1,D 2 _ c.c2,(fOb bw 2 p).trans c.f2,c.m.block (d r1 Q.2 (h.a2 k) (λe=>h.n2 e.symm)),uN c.s (λb i=>d b (c.s.lt b i).2 (λe=>h.av k b e i) (λe=>h.n3 (e ▸ i))),c.a1,c.a2,c.a3,c.b1,c.b2,c.sub,c.nd,c.nds,c.rg⟩,⟨D 3 _ h.c3,V,λq=>?_,λq C b B e=>?_,λq b e=>?_,λq e=>?_,λq e=>?_,λq e=>?_,h.n1,h.n2,h.n3,h.b2⟩,λa Z P=>?_⟩;by_cases z:q=k
 ·subst z;simp only[if_true,List.length_append,List.length_singleton,List.map_append,List.map_cons,List.map_nil];exact uN r (λb i=>t b (λe=>by simp[Value.ownBlock]at i;omega))
 simp only[z,if_false];exact uN (h.row q) (λb i=>d b ((h.row q).lt b i).2 (h.dis q k b z i) (λe=>h.a3 q (e ▸ i)));intro O;obtain⟨z,y⟩|⟨z,y⟩:=l q b e
 ·obtain⟨z',y'⟩|⟨z',y'⟩:=l C b O
  ·exact B (z.trans z'.symm)
  rw[y]at y';exact j.2.2.2.2 C z' y'
 obtain⟨z',y'⟩|⟨z',y'⟩:=l C b O
 ·rw[y']at y;exact j.2.2.2.2 q z y
 exact h.dis q C b B y y';obtain⟨z,y⟩|⟨z,y⟩:=l q b e
 ·rw[y];exact j.2.2.2.1
 exact h.av q b y;obtain⟨z,y⟩|⟨z,y⟩:=l q bw e
 ·exact j.1 y.symm
 exact h.a1 q y;obtain⟨z,y⟩|⟨z,y⟩:=l q r1 e
 ·exact j.2.1 y.symm
 exact h.a2 q y;obtain⟨z,y⟩|⟨z,y⟩:=l q r2 e
 ·exact j.2.2.1 y.symm
 exact h.a3 q y;refine mV P ⟨(M.trans u.os).trans J,(X.trans u.tape).trans I,(K.trans u.output).trans L,by omega,λb i=>?_⟩;have H:b<w.heap.size:=kF i P.size;exact d b H (λe=>by have:=((h.row k).lt b e).1;omega) (λe=>by have:=h.b2;omega)
def Bes(o1 o2:Option Nat)(Mt Mt' St St':List Nat)(g g':Nat->List (Option Nat)):Prop:=
 ((o1=none\/∃k,o1=some k/\k∈Mt)/\yZ (λi=>o2=some i) Mt Mt' St St'/\(∀i,o2=some i->i∈Mt')/\g'=g)\/(∃k,o1=some k/\¬k∈Mt/\Mt'=Mt/\St'=St/\g'=λq=>if q=k then g k++[o2] else g q)
theorem b7z:∃et,prog.underlying 176=some (.map 97 et)/\∀w,(zeroValue et).run prog w=.ok (.slice none 0 0) w:=⟨_,underlying176,λ_=>by kernel_rfl⟩
theorem c2o(a:World)(bw m r1 r c d n:Nat)(j:Option Nat)(v:Value)(f:Nat->Value)(g:Nat->List (Option Nat))(o k:List Nat)(w:World)(h:eV w a.heap.size bw m r1 c d n v o k)(B:yN w a.heap.size bw r1 r c d v f g)(A:∀i,j=some i->i<n)(s:Ext a w)(l:n<=8000):
  Calls prog 201 #[pP bw,.pointer none,pv c d j] w λe w'=>e=.returned (.tuple #[])/\∃v' Mt' St',eV w' a.heap.size bw m r1 c d n v' Mt' St'/\yN w' a.heap.size bw r1 r c d v' f g/\Hid (yZ (λi=>j=some i) o Mt' k St'/\(∀i,j=some i->i∈Mt'))/\Hid (Ext a w'):=by
 have q:=uU h;have z:=uU B;go_in;go_wp21;refine(b0o a.heap.size bw m r1 c d n j v o k _ q A s.size l).mono ?_;rintro e C ⟨rfl,v',t,y,x,u,p⟩;have b:=uU (kG x (kG (z.step p) (kG u (q.kext p s))));go_wp21;try simp only[Exit.inBlock,Exit.then]
 refine bodyPost_ret (results_none rfl _ _ _) rfl ?_;exact⟨rfl,v',t,y,b.1,b.2.1,b.2.2.1,b.2.2.2⟩
theorem c9s(a:World)(bw s r1 x d b n k:Nat)(j:Option Nat)(v:Value)(f:Nat->Value)(g:Nat->List (Option Nat))(l q:List Nat)(w:World)(h:eV w a.heap.size bw s r1 d b n v l q)(G:yN w a.heap.size bw r1 x d b v f g)(F:∀i,j=some i->i<n)(H:Ext a w)(r:n<=8000)(D:k∈l):
  Calls prog 201 #[pP bw,ptr d (b+k*2),pv d b j] w λe w'=>e=.returned (.tuple #[])/\∃v' Mt' St',eV w' a.heap.size bw s r1 d b n v' Mt' St'/\yN w' a.heap.size bw r1 x d b v' f g/\Hid (yZ (λi=>j=some i) l Mt' q St'/\(∀i,j=some i->i∈Mt'))/\Hid (Ext a w'):=by
 have p:=uU h;have C:=uU G;have J:=h.c1;go_in;go_wp21;refine(a8c r1 d (b+k*2) _ _ p.m).mono ?_;rintro e K ⟨rfl,o⟩;have E:decide (b+k*2∈l.map (λi=>b+i*2))=true:=decide_eq_true (a5v.2 D);rw[E];have u:=H.trans o;go_wp21;refine(b0o a.heap.size bw s r1 d b n j v l q _ (p.ext o) F u.size r).mono ?_;rintro e I ⟨rfl,v',A,B,z,y,t⟩;have c:=uU (kG z (kG ((C.ext o).step t) (kG y ((p.ext o).kext t u))));go_wp21;try simp only[Exit.inBlock,Exit.then]
 refine bodyPost_ret (results_none rfl _ _ _) rfl ?_;exact⟨rfl,v',A,B,c.1,c.2.1,c.2.2.1,c.2.2.2⟩
theorem pv_ptr(b a:Nat)(o:Option Nat):∃q,pv b a o=.pointer q:=by cases o with|none=>exact⟨_,rfl⟩|some i=>exact⟨_,rfl⟩
theorem c5i(a:World)(bw bv r1 C l c n k:Nat)(O:Option Nat)(v:Value)(f:Nat->Value)(g:Nat->List (Option Nat))(Q St:List Nat)(w:World)(h:eV w a.heap.size bw bv r1 l c n v Q St)(P:yN w a.heap.size bw r1 C l c v f g)(hx:Ext a w)(hg:(g k).length<=10000000)(hm:¬k∈Q):
  Calls prog 201 #[pP bw,ptr l (c+k*2),pv l c O] w λe w'=>e=.returned (.tuple #[])/\∃f',eV w' a.heap.size bw bv r1 l c n v Q St/\yN w' a.heap.size bw r1 C l c v f' (λq=>if q=k then g k++[O] else g q)/\Hid (Ext a w'):=by
 obtain⟨et,B,hz⟩:=b7z;obtain⟨i1,t,_,x,_⟩:=info_parts a5a;obtain⟨i0,V,aa,Z,T⟩:=info_parts b2g;have HW:=uU h;have HT:=uU P;have c1:=h.c1;have c3:=P.c3;have HU:=uU B;have HN:=uU t;have HZ:=uU x;have K:=uU (λw' (e:Ext w w')=>(P.ext e).m.lookup B a7r t (by rw[x];omega) hz k);clear h P B hz t x;obtain⟨fk,d⟩:∃u,u=f k:=⟨_,rfl⟩;obtain⟨S,A⟩:=pv_ptr l c O;rw[A];have PQ:=uU A;clear A;go_in;go_wp21;refine(a8c r1 l (c+k*2) _ _ HW.m).mono ?_;rintro e p ⟨rfl,r⟩;have E:decide (c+k*2∈Q.map (λi=>c+i*2))=false:=decide_eq_false (λq=>hm (a5v.1 q));rw[E];clear E;have x1:=hx.trans r;have d3:=r.keep c3;have lk:=uH K p.drew r.drew;have Y:=λob=>uH K (p.alloc ob).drew (r.alloc ob).drew
 have X:=λob=>uH K (p.drew.alloc ob) (r.drew.alloc ob)
 rw[<-d]at lk;simp only[<-d]at Y X;have M:=uU (HW.ext r);have y:=uU (HT.ext r);have U:=uU (show p.ownsRow a.heap.size 97 1 fk (g k).length ((g k).map (pv l c)) by rw[d];exact y.row k);have L:=uU d;have ab:=x1.size;have ad:bw<p.heap.size:=M.rlt.1;clear d r K c3;go_wp21
 go_region_law (refine step_append_lies _ rfl _ _ 101 rfl a.heap.size 97 i0 (.pointer none) 1 8 underlying101 V aa Z T rfl (by decide) fk (g k).length ((g k).map (pv l c)) (by first|rfl|simp[Act.eval,Act.put]) (by first|exact U.alloc _|exact own_drew (U.alloc _)|exact(own_drew U).alloc _) _ 1 1 [.pointer S] (by first|rfl|simp[Act.eval,Act.put];rfl) rfl (by
   intro j u N
   match j,N with
   | 0,N=>simp at N;subst N;simp[Addr.add]) (by intro u B;simp at B;subst B;rfl) (by decide) (by unfold maxLen;omega) (by omega) (by simp;omega) _ rfl ?_;intro gb R w2 s b F ac;have m2:b2h w2 C l c f:=y.m.block ((b.block C (by have:=y.m.lt;simp;omega) (λe=>y.a3 k (by rw[<-uH L];exact e.symm))).trans (mF p _ C y.m.lt));have e3:w2.cell? (aA bw 3)=some (Value.map (some C)):=(kT (w:=p) (a:=(aA bw 3)) ((b.block bw (by have:=M.rlt;simp;omega) (λe=>y.a1 k (by rw[<-uH L];exact e.symm))).trans (mF p _ bw M.rlt.1))).trans d3;obtain⟨w3,ae,m3,D,I,G,J,H⟩:=m2.update HU a7r HN (by rw[uH HZ];omega) k (sS gb ((g k).length+1) R);have z:=uU (yN.wait (o:=O) (W:=(p.alloc (.cells #[.pointer S] 97)).drew) (ob:=.cells #[.pointer S] 97) M y rfl rfl rfl rfl (by rw[uH PQ];exact s) (by rw[<-uH L];exact b) (by rw[<-uH L];simpa using F) m3 D I G J H);clear s b F m2 m3 D I G J H)
 all_goals
  go_wp21
  go_end0
  exact⟨rfl,_,z.1,z.2.1,z.2.2 a rfl x1⟩
theorem c5j(a:World)(bw t r1 r b c n:Nat)(A m:Option Nat)(v:Value)(f:Nat->Value)(g:Nat->List (Option Nat))(j l:List Nat)(w:World)(h:eV w a.heap.size bw t r1 b c n v j l)(B:yN w a.heap.size bw r1 r b c v f g)(D:∀i,m=some i->i<n)(C:Ext a w)(s:n<=8000)(E:∀k,(g k).length<=10000000):
  Calls prog 201 #[pP bw,pv b c A,pv b c m] w λe w'=>e=.returned (.tuple #[])/\∃v' Mt' St' f' g',eV w' a.heap.size bw t r1 b c n v' Mt' St'/\yN w' a.heap.size bw r1 r b c v' f' g'/\Hid (Bes A m j Mt' l St' g g')/\Hid (Ext a w'):=by
 cases A with
 | none=>exact(c2o a bw t r1 r b c n m v f g j l w h B D C s).mono λ_ _ ⟨q,v',x,z,o,p,d,y⟩=>⟨q,v',x,z,f,g,o,p,.inl ⟨.inl rfl,d.1,d.2,rfl⟩,y⟩
 | some k=>
  by_cases u:k∈j;exact(c9s a bw t r1 r b c n k m v f g j l w h B D C s u).mono λ_ _ ⟨q,v',x,z,o,p,d,y⟩=>⟨q,v',x,z,f,g,o,p,.inl ⟨.inr ⟨k,rfl,u⟩,d.1,d.2,rfl⟩,y⟩
  exact(c5i a bw t r1 r b c n k m v f g j l w h B C (E k) u).mono λ_ _ ⟨q,f',o,p,d⟩=>⟨q,v,j,l,f',_,o,p,.inr ⟨k,rfl,u,rfl,rfl,rfl⟩,d⟩
theorem c2p(a:World)(bw A r1 D c d n k:Nat)(v:Value)(f:Nat->Value)(g:Nat->List (Option Nat))(t s:List Nat)(w:World)(h:eV w a.heap.size bw A r1 c d n v t s)(E:yN w a.heap.size bw r1 D c d v f g)(ho:∀i,some i∈g k->i<n)(hx:Ext a w)(Q:n<=8000)(hg:(g k).length<=10000000):
  Calls prog 141 #[pP bw,ptr c (d+k*2)] w λe w'=>e=.returned (.tuple #[])/\∃v' Mt' St',eV w' a.heap.size bw A r1 c d n v' Mt' St'/\yN w' a.heap.size bw r1 D c d v' f g/\Hid (yZ (λi=>some i∈g k) t Mt' s St'/\∀i,some i∈g k->i∈Mt')/\Hid (Ext a w'):=by
 obtain⟨et,hu,Z⟩:=b7z;obtain⟨i1,I,_,J,_⟩:=info_parts a5a;have z:=uU h;have C:=uU E;have c3:=E.c3;have lk:=E.m.lookup hu a7r I (by rw[J];omega) Z k;obtain⟨ad,W,T,P⟩:=b9r (E.row k);have FK:=uU T;rw[T]at lk;go_in;go_wp21;go_loopw [13] (λi wr=>∃(l:Nat)(v':Value)(M S:List Nat),l<=(g k).length/\i=iv l/\eV wr a.heap.size bw A r1 c d n v' M S/\yN wr a.heap.size bw r1 D c d v' f g/\Hid (yZ (λi=>some i∈g k) t M s S/\∀j i,j<l->(g k)[j]?=some (some i)->i∈M)/\Ext a wr) (λi _=>(g k).length-(intOf i).toNat)
 case atStart=>exact⟨0,v,t,s,kB _,rfl,z,C,⟨yZ.refl,λj i O=>by omega⟩,hx⟩
 case round=>
  obtain⟨l,v',M,S,hl,rfl,hw,x,b,r⟩:=hrel;have z:=uU hw;have C:=uU x;by_cases H:l<(g k).length
  ·obtain⟨V,rfl⟩:=P (by omega);obtain⟨o,y⟩:∃o,(g k)[l]?=some o:=⟨_,ma H⟩;have cl:wr.cell? (aA V l)=some (pv c d o):=by
    have U:=x.row k;rw[uH FK]at U;have:=nR U l (by omega);rw[this,nO,y];rfl
   have aa:=i0N l;have X:(l:Int)<((g k).length:Int):=by omega
   have G:=uU y;go_wp21;refine(b0o a.heap.size bw A r1 c d n o v' M S _ z (λi e=>ho i (by subst e;exact qi G)) r.size Q).mono ?_;rintro e F ⟨rfl,N,B,L,K,p,u⟩;have R:=uU (show eV F a.heap.size bw A r1 c d n N B L/\yN F a.heap.size bw r1 D c d N f g/\(yZ (λi=>some i∈g k) t B s L/\∀j i,j<l+1->(g k)[j]?=some (some i)->i∈B)/\Ext a F from
    ⟨K,C.step u,⟨b.1.trans (p.1.mono (λi e=>by subst e;exact qi G)),λj i O e=>by
     by_cases q:j=l;subst q;rw[uH G]at e;cases e;exact p.2 i rfl;exact p.1.m i (b.2 j i (by omega) e)⟩,z.kext u r⟩)
   go_wp2;go_roundw
   case rel=>exact⟨l+1,N,B,L,by omega,by go_num,R.1,R.2.1,R.2.2.1,R.2.2.2⟩
   simp[intOf];omega
  have ab:l=(g k).length:=by omega
  have R:=uU (show yZ (λi=>some i∈g k) t M s S/\∀i,some i∈g k->i∈M from⟨b.1,λi Y=>by
   obtain⟨j,O,e⟩:=mQ Y;exact b.2 j i (by omega) (by rw[ma O,e])⟩)
  go_wp21;go_end0;exact⟨rfl,v',M,S,z,C,R,r⟩
def Pend(Mt St:List Nat)(pre:Option Nat)(k:Nat):Prop:=¬k∈Mt\/k∈St\/pre=some k
def a2k(x:Hp)(Mt St:List Nat)(g:Nat->List (Option Nat))(pre:Option Nat)(i l:Nat):Prop:=∀p,p<(x.c i).F.length->p<l->(SK (x.c i)->((x.c i).p p).key.k=2->tgt x ((x.c i).p p).key∈Mt)/\
 (SV (x.c i)->((x.c i).p p).val.k=2->(((x.c i).p p).key.k≠2->tgt x ((x.c i).p p).val∈Mt)/\(((x.c i).p p).key.k=2->tgt x ((x.c i).p p).val∈Mt\/(some (tgt x ((x.c i).p p).val)∈g (tgt x ((x.c i).p p).key)/\Pend Mt St pre (tgt x ((x.c i).p p).key))))
structure kC(x:Hp)(Mt St:List Nat)(g:Nat->List (Option Nat))(pre cur:Option Nat):Prop where
 only:∀i,i∈Mt->qX x i
 B:a6c x x.B.length Mt
 due:∀i,i<x.A.length->(x.c i).U=2->i∈Mt
 wh:∀k i,some i∈g k->qX x k->qX x i
 wl:∀k i,some i∈g k->i<x.A.length
 part:∀i,i∈Mt->i∈St\/cur=some i\/a2k x Mt St g pre i (x.c i).F.length
theorem Pend.grow{pre:Option Nat}(h:Pend Mt St pre k)(G:yZ Q Mt Mt' St St'):Pend Mt' St' pre k:=by
 obtain q|q|q:=h;by_cases e:k∈Mt'
 ·obtain r|⟨_,r⟩:=G.n k e
  ·exact(q r).elim
  exact .inr (.inl r)
 exact .inl e;exact .inr (.inl (G.s k q));exact .inr (.inr q)
theorem a2k.grow{g:Nat->List (Option Nat)}{pre:Option Nat}(h:a2k x Mt St g pre i l)(G:yZ Q Mt Mt' St St'):a2k x Mt' St' g pre i l:=λp e d=>
 ⟨λa b=>G.m _ ((h p e d).1 a b),λa b=>⟨λc=>G.m _ (((h p e d).2 a b).1 c),λc=>by
  obtain q|⟨q,r⟩:=((h p e d).2 a b).2 c;exact .inl (G.m _ q);exact .inr ⟨q,r.grow G⟩⟩⟩
theorem a2k.more{g g':Nat->List (Option Nat)}{pre:Option Nat}(h:a2k x Mt St g pre i l)(a:∀k o,o∈g k->o∈g' k):a2k x Mt St g' pre i l:=by grind[a2k,Add.pre,Cl.p,Hp.c]
theorem kC.grow{g:Nat->List (Option Nat)}{pre cur:Option Nat}(h:kC x Mt St g pre cur)(G:yZ Q Mt Mt' St St')(d:∀i,Q i->qX x i):kC x Mt' St' g pre cur:=
 ⟨λi a=>by
  obtain q|⟨q,_⟩:=G.n i a;exact h.only i q;exact d i q,λj c b e=>G.m _ (h.B j c b e),λi a e=>G.m _ (h.due i a e),h.wh,h.wl,λi a=>by
  obtain q|⟨_,q⟩:=G.n i a;obtain r|r|r:=h.part i q
  ·exact .inl (G.s i r)
  exact .inr (.inl r);exact .inr (.inr (r.grow G));exact .inl q⟩
theorem c6v{g:Nat->List (Option Nat)}{o:Option Nat}{q:Nat}{z:Option Nat}(h:z∈(λq=>if q=k then g k++[o] else g q) q):z∈g q\/(q=k/\z=o):=by
 by_cases e:q=k;subst e;simp only[if_true,List.mem_append,List.mem_singleton]at h;obtain r|r:=h
 ·exact .inl r
 exact .inr ⟨rfl,r⟩;simp only[e,if_false]at h;exact .inl h
theorem c2q{g:Nat->List (Option Nat)}{o:Option Nat}(q:Nat)(z:Option Nat)(h:z∈g q):z∈(λq=>if q=k then g k++[o] else g q) q:=by
 by_cases e:q=k;subst e;simp only[if_true];exact nG _ h;simp only[e,if_false];exact h
theorem kC.wait{g:Nat->List (Option Nat)}{pre cur:Option Nat}(h:kC x Mt St g pre cur)(k:Nat)(o:Option Nat)(d:∀i,o=some i->qX x k->qX x i)(c:∀i,o=some i->i<x.A.length):kC x Mt St (λq=>if q=k then g k++[o] else g q) pre cur:=
 ⟨h.only,h.B,h.due,λq i a b=>by
  obtain r|⟨rfl,r⟩:=c6v a;exact h.wh q i r b;exact d i r.symm b,λq i a=>by
  obtain r|⟨rfl,r⟩:=c6v a;exact h.wl q i r;exact c i r.symm,λi a=>by
  obtain r|r|r:=h.part i a;exact .inl r;exact .inr (.inl r);exact .inr (.inr (r.more c2q))⟩
theorem kC.shut{g:Nat->List (Option Nat)}(h:kC x Mt St g none (some j))(c:a2k x Mt St g none j (x.c j).F.length):kC x Mt St g none none:=
 ⟨h.only,h.B,h.due,h.wh,h.wl,λi a=>by
  obtain r|r|r:=h.part i a;exact .inl r
  cases r;exact .inr (.inr c)
  exact .inr (.inr r)⟩
theorem kC.take{g:Nat->List (Option Nat)}(h:kC x Mt (St++[j]) g none none):kC x Mt St g (some j) (some j):=
 ⟨h.only,h.B,h.due,h.wh,h.wl,λi f=>by
  obtain r|r|r:=h.part i f;grind[a2a.at,a7s.at]
  cases r
  refine .inr (.inr λp e d=>⟨(r p e d).1,λa b=>⟨((r p e d).2 a b).1,λc=>?_⟩⟩);obtain q|⟨q,s⟩:=((r p e d).2 a b).2 c
  ·exact .inl q
  refine .inr ⟨q,?_⟩;obtain s|s|s:=s
  ·exact .inl s
  obtain t|t:=mD.1 s
  ·exact .inr (.inl t)
  simp at t;exact .inr (.inr (by rw[t]))
  cases s⟩
theorem kC.freed{g:Nat->List (Option Nat)}(h:kC x Mt St g (some j) (some j))(f:∀i,some i∈g j->i∈Mt):kC x Mt St g none (some j):=
 ⟨h.only,h.B,h.due,h.wh,h.wl,λi k=>by
  obtain r|r|r:=h.part i k;exact .inl r;grind;refine .inr (.inr λp e d=>⟨(r p e d).1,λa b=>⟨((r p e d).2 a b).1,λc=>?_⟩⟩);obtain q|⟨q,s⟩:=((r p e d).2 a b).2 c
  ·exact .inl q
  obtain s|s|s:=s
  ·exact .inr ⟨q,.inl s⟩
  exact .inr ⟨q,.inr (.inl s)⟩
  cases s;exact .inl (f _ q)⟩
theorem kC.done{g:Nat->List (Option Nat)}(h:kC x Mt [] g none none)(i:Nat):i∈Mt↔qX x i:=by
 constructor;exact h.only i;intro r;have m:∀j,j∈Mt->a2k x Mt [] g none j (x.c j).F.length:=λj n=>by
  obtain q|q|q:=h.part j n
  cases q
  cases q
  exact q
 refine r (λi=>i∈Mt) (λk a f=>h.B k a a f) h.due (λj p d b l a=>(m j d p b b).1 l a) (λj p d b l o a=>?_);have c:=(m j d p b b).2 l a;by_cases e:((x.c j).p p).key.k=2;obtain q|⟨_,s⟩:=c.2 e
 ·exact q
 obtain s|s|s:=s
 ·exact(s (o e)).elim
 cases s
 cases s
 exact c.1 e
theorem b8a{g g':Nat->List (Option Nat)}{Q2:Nat->Prop}(C:a2k x M S g none j l)(s:yZ Q M M2 S S2)(t:SK (x.c j)->((x.c j).p l).key.k=2->tgt x ((x.c j).p l).key∈M2)
  (V:(¬SV (x.c j)/\M3=M2/\S3=S2/\g'=g)\/Bes (wo x ((x.c j).p l).key) (wo x ((x.c j).p l).val) M2 M3 S2 S3 g g') (f:yZ Q2 M2 M3 S2 S3):a2k x M3 S3 g' none j (l+1):=by
 have i:∀k o,o∈g k->o∈g' k:=by
  obtain⟨_,_,_,e⟩|⟨_,_,_,e⟩|⟨k,_,_,_,_,e⟩:=V;subst e;exact λ_ _ h=>h
  subst e;exact λ_ _ h=>h
  subst e;exact c2q
 intro p r u;by_cases e:p=l;subst e;refine⟨λa b=>f.m _ (t a b),λa b=>?_⟩;have d:wo x ((x.c j).p p).val=some (tgt x ((x.c j).p p).val):=by unfold wo;rw[if_pos b]
 obtain⟨n,_⟩|⟨_,_,m,_⟩|⟨k,ek,nk,em,_,eg⟩:=V;exact(n a).elim;exact⟨λ_=>m _ d,λ_=>.inl (m _ d)⟩;unfold wo at ek;split at ek
 ·rename_i q;cases ek;refine⟨λn=>(n q).elim,λ_=>.inr ⟨?_,.inl (em▸nk)⟩⟩;rw[eg,d];simp
 cases ek
 exact(((C.grow s).grow f).more i) p r (by omega)
theorem Bes.grow{o1 o2:Option Nat}{g g':Nat->List (Option Nat)}(h:Bes o1 o2 M M' S S' g g'):yZ (λi=>o2=some i/\(o1=none\/∃k,o1=some k/\k∈M)) M M' S S':=by
 obtain⟨a,b,_,_⟩|⟨k,_,_,rfl,rfl,_⟩:=h;grind[Bes];exact yZ.refl
theorem Bes.len{o1 o2:Option Nat}{g g':Nat->List (Option Nat)}(h:Bes o1 o2 M M' S S' g g')(k:Nat):(g' k).length<=(g k).length+1:=by grind[Bes]
theorem kC.beside{g g':Nat->List (Option Nat)}(h:kC x M2 S2 g none (some j))(t:qX x j)(u:l<(x.c j).F.length)(v:SV (x.c j))(q:a0m x ((x.c j).p l).val)
  (B:Bes (wo x ((x.c j).p l).key) (wo x ((x.c j).p l).val) M2 M3 S2 S3 g g'):kC x M3 S3 g' none (some j):=by
 have n:∀i,wo x ((x.c j).p l).val=some i->(((x.c j).p l).key.k=2->qX x (tgt x ((x.c j).p l).key))->qX x i:=λi e s=>by
  obtain⟨_,k,rfl⟩:=c2n q i e;exact qX.val j l t u v s k
 obtain⟨a,b,_,e⟩|⟨k,ek,_,rfl,rfl,e⟩:=B;rw[e];refine h.grow b (λi d=>n i d (λf=>?_));have o:wo x ((x.c j).p l).key=some (tgt x ((x.c j).p l).key):=by unfold wo;rw[if_pos f]
 obtain a|⟨k,a,m⟩:=a;rw[o]at a;cases a;rw[o]at a;cases a;exact h.only _ m;rw[e];refine h.wait k _ (λi d r=>n i d (λf=>?_)) (λi d=>(c2n q i d).1);unfold wo at ek;rw[if_pos f]at ek;cases ek;exact r
