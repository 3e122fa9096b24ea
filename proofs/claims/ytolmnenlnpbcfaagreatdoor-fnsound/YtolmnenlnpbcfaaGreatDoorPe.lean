import Derived.Test.YtolmnenlnpbcfaaGreatDoorLk
import Derived.Test.YtolmnenlnpbcfaaGreatDoorPo
import Derived.Test.YtolmnenlnpbcfaaGreatDoorImpB6
set_option maxRecDepth 100000
set_option maxHeartbeats 4000000
namespace Go.Proofs.YtolmnenlnpbcfaaGreatDoor
open Go.RowKit Tryz
attribute [local go_sem ↓] Go.wp_at_zero Go.wp_at_succ
variable{ar ac ag:Option Addr}{kr bn B b br hd kn kc kg hd':Nat}{x:Hp}{w w' w1:World}{pb pk cB cO role:Nat->Nat}{pa:Nat->Option Addr}{vf v4 v8 vk:Value}{F G:List Int}{K:List Nat}
theorem c5h[qd](B g:Nat)(x:Hp)(w:World)(h:GOk B w g x)(s:Snd x)(hp:x.E=5)(a:World)(A:a.heap.size<=B)(t:Ext a w):
  Calls prog 114 #[pP g] w λe w'=>e=.returned (.tuple #[])/\GOk B w' g (dY x)/\Ext a w':=by
 have r:=h;have⟨O,Z,ac,V,R,br,T,U,Q,pk,y,h⟩:=h;have K:=h.bx.2.2.2.2.1;have M:=h.bx.2.2.2.2.2.2.1;have D:=h.bx.2.2.2.2.2.2.2.1;have lo:=h.lo;have L:=s.ok.n8;have hh:=s.r1.I;have hs:=s.r1.sub;by_cases f:x.I=x.A.length;have E:=uU (show dY x=dC x 6 x.A.length by unfold dY;rw[if_pos f]);go_in;go_wp21;go_quiet (fail);go_wp21;refine(a0w B g x 6 x.A.length _ (r.ext ((hO w).drewN _)) a A (t.drewN _)).mono ?_;rintro e S ⟨rfl,I,F⟩;go_wp21;try simp only[Exit.inBlock,Exit.then]
 refine bodyPost_ret (results_none rfl _ _ _) rfl ?_;exact⟨rfl,by rw[uH E];exact I,F⟩;have⟨i,l⟩:∃i:Nat,x.I=(i:Int):=⟨x.I.toNat,by omega⟩;have b:i<x.A.length:=by omega
 have z:x.I.toNat=i:=by omega
 have⟨k,j⟩:∃k:Nat,x.sub=(k:Int):=⟨x.sub.toNat,by omega⟩;have H:x.sub.toNat=k:=by omega
 by_cases u:k<(x.c i).F.length;have E:dY x={ x with A:=x.A.set i (zX x (x.c i) k),sub:=(k:Int)+1 }:=by
  unfold dY;rw[if_neg f,z,if_pos (by omega),H,j]
 have J:¬uW x i:=λd=>by have:=d.1;omega
 have P:=((s.r4.2 i b).2 k u).2 J;rw[E];exact c1i B g x w r L a A t i l b k j u (s.ok.p200 i b) P.1.1 P.2.1;have E:dY x={ x with I:=x.I+1,sub:=0 }:=by
  unfold dY;rw[if_neg f,z,if_neg (by omega)]
 have o:(x.I == (x.A.length:Int))=false:=by simpa using f
 have N:0<x.A.length:=by omega
 rw[h.hc N]at K;have p7:=h.rw.p7 i b;have Y:=h.nf.2 6;have f7:=h.nf.2 7;rw[l]at o M;rw[j]at D;have i0:=i0N i;have X:(i:Int)<(x.A.length:Int):=by omega
 have v:∀n,GOk B (((w.drewN n).setCell (aA g 6) (iv ((i:Int)+1))).setCell (aA g 7) (iv 0)) g { x with I:=(i:Int)+1,sub:=0 }/\Ext a (((w.drewN n).setCell (aA g 6) (iv ((i:Int)+1))).setCell (aA g 7) (iv 0)):=λn=>⟨((r.ext ((hO w).drewN n)).set6 _).set7 0,((t.drewN n).sc g 6 (by omega:a.heap.size<=g) _).sc g 7 (by omega:a.heap.size<=g) _⟩;rw[l]at E;go_in;go_wp21;go_quiet (fail);obtain⟨W,rfl⟩:∃m,m=nq:=⟨_,rfl⟩;go_wp21;go_quiet (fail);go_wp21;go_end0;exact⟨rfl,uH E▸(v _).1,(v _).2⟩
theorem c2b(x:Hp)(w:World)(c:Option Addr)(d:Nat)(h:Option Addr)(g:Nat)(e:Option Addr)(f:Nat):
  ∀o v,#[iv x.M,iv x.K,iv x.born,.slice c x.B.length d,.slice h x.A.length g,iv x.E,iv x.I,iv x.sub,.slice e x.D.length f,iv x.per,iv x.V,iv x.Q,iv x.S][o]?=some v->((w.alloc (.cells #[iv x.M,iv x.K,iv x.born,.slice c x.B.length d,.slice h x.A.length g,iv x.E,iv x.I,iv x.sub,.slice e x.D.length f,iv x.per,iv x.V,iv x.Q,iv x.S] 27)).alloc (.cells #[iv x.M,iv x.K,iv x.born,.slice c x.B.length d,.slice h x.A.length g,iv x.E,iv x.I,iv x.sub,.slice e x.D.length f,iv x.per,iv x.V,iv x.Q,iv x.S,.slice none 0 0,.slice none 0 0] 104)).cell? (aA (w.heap.size+1) o)=some v:=λo v a=>by
 have i:o<13:=by
  obtain b|b:=km o 13;exact b;rw[me (by simpa using b)]at a;cases a
 match o,i with
 | 0,_|1,_|2,_|3,_|4,_|5,_|6,_|7,_|8,_|9,_|10,_|11,_|12,_=>simp[go_sem];exact Option.some.inj a
theorem SlC.nth(h:SlC w (.slice ac x.A.length kc) x.A)(k:Nat)(e:k<x.A.length):∃bc oc,ac=some (aA bc oc)/\bc<w.heap.size/\c0k w bc (oc+k*8) (x.c k):=by
 obtain⟨_,_,v,_,C⟩:=h;obtain⟨b,d,a,p⟩:=C k e;rw[Hp.c_eq]at p;simp only[Value.slice.injEq]at v;exact⟨b,d,v.1.trans a,let ⟨_,p0,_⟩:=p;uZ p0,p⟩
theorem Opn.V(z:Array Value)
  (a:Ext ((w.alloc (.cells #[iv x.M,iv x.K,iv x.born,.slice ar x.B.length kr,.slice ac x.A.length kc,iv x.E,iv x.I,iv x.sub,.slice ag x.D.length kg,iv x.per,iv x.V,iv x.Q,iv x.S] 27)).alloc (.cells #[iv x.M,iv x.K,iv x.born,.slice ar x.B.length kr,.slice ac x.A.length kc,iv x.E,iv x.I,iv x.sub,.slice ag x.D.length kg,iv x.per,iv x.V,iv x.Q,iv x.S,.slice none 0 0,.slice none 0 0] 104)) w1) :
  Opn w ((w1.alloc (.cells (madeCells z (x.A.length*2)) 108)).setCell (aA (w.heap.size+1) 13) (sS w1.heap.size x.A.length x.A.length)) x w.heap.size (w.heap.size+1) w1.heap.size 0 0 ar kr ac kc ag kg (.slice none 0 0) []:=by
 have m:Ext w ((w.alloc (oHp x (.slice ar x.B.length kr) (.slice ac x.A.length kc) (.slice ag x.D.length kg))).alloc (.cells #[iv x.M,iv x.K,iv x.born,.slice ar x.B.length kr,.slice ac x.A.length kc,iv x.E,iv x.I,iv x.sub,.slice ag x.D.length kg,iv x.per,iv x.V,iv x.Q,iv x.S,.slice none 0 0,.slice none 0 0] 104)):=(eAl w _).alloc _;have l:w.heap.size+2<=w1.heap.size:=by have:=a.size;simp at this;omega
 have b:∀o v,w1.cell? (aA (w.heap.size+1) o)=some v->o≠13->((w1.alloc (.cells (madeCells z (x.A.length*2)) 108)).setCell (aA (w.heap.size+1) 13) (sS w1.heap.size x.A.length x.A.length)).cell? (aA (w.heap.size+1) o)=some v:=λo v h n=>by
  rw[uC _ (.inr (λe=>n e.symm))];exact(eAl w1 _).keep h
 have g:(w1.alloc (.cells (madeCells z (x.A.length*2)) 108)).cell? (aA (w.heap.size+1) 13)=some (.slice none 0 0):=(eAl w1 _).keep (a.keep (by simp[go_sem]));have d:w1.cell? (aA (w.heap.size+1) 14)=some (.slice none 0 0):=a.keep (by simp[go_sem]);have f:w1.frozen? (aA (w.heap.size+1) 14)=false:=by
  rw[a.frozen (p:=(aA (w.heap.size+1) 14)) (by simp)];simp[go_sem]
 refine⟨((m.trans a).alloc _).setCell (by show _<=w.heap.size+1;omega) _,⟨hT _,by omega,by omega,by simp[World.setCell]⟩,?_,λo v c=>b o v (a.keep (c2b x w ar kr ac kc ag kg o v c)) ?_,kM _ _ _ g,λi q=>by omega,λj k=>(a7y _ _ _ _ _ k).set _ _,eU.nil (b 14 _ d (by omega)) ?_,Ho.nil,m9 _⟩;rw[uC _ (.inl (by omega))];exact(eAl w1 _).keep (a.keep (by simp[go_sem]));intro e;rw[e]at c;simp at c;rw[kS,(eAl w1 _).frozen (p:=(aA (w.heap.size+1) 14)) (by show w.heap.size+1<w1.heap.size;omega)];exact f
theorem c2c(x:Hp)(w:World)(hR:SlW w (.slice ar x.B.length kr) x.B)(Q:SlC w (.slice ac x.A.length kc) x.A)(Z:SlI w (.slice ag x.D.length kg) x.D):
  Calls prog 33 #[x.v (.slice ar x.B.length kr) (.slice ac x.A.length kc) (.slice ag x.D.length kg)] w λe w'=>∃b,Hid (e=.returned (pP b))/\Ext w w'/\Hid ((¬R1 x/\HAt w' b x ar kr ac kc ag kg)\/(R1 x/\∃bx bn vf F,Opn w w' x bx b bn x.A.length x.A.length ar kr ac kc ag kg vf F)):=by
 have j:=uU (kG hR (kG Q Z));have lc:x.A.length<=35184372088832:=let ⟨_,_,_,l,_⟩:=Q;l;clear hR Q Z;go_in;go_wp21;have s:Ext w ((w.alloc (oHp x (.slice ar x.B.length kr) (.slice ac x.A.length kc) (.slice ag x.D.length kg))).alloc (.cells #[iv x.M,iv x.K,iv x.born,.slice ar x.B.length kr,.slice ac x.A.length kc,iv x.E,iv x.I,iv x.sub,.slice ag x.D.length kg,iv x.per,iv x.V,iv x.Q,iv x.S,.slice none 0 0,.slice none 0 0] 104)):=(eAl w _).alloc _;have y:=d2w x _ (w.heap.size+1) (c2b x w ar kr ac kc ag kg) (SlW.ext s j.1) (SlC.ext s j.2.1) (SlI.ext s j.2.2);refine(a4e x (w.heap.size+1) _ y).mono ?_;rintro e d ⟨r,rfl,A,g⟩;have X1:=uU (s.trans g);cases r
 ·have N:=uU (show ¬R1 x from λr=>by have:=A.2 r;simp at this);have H1:=uU (y.ext g);clear A g y s;go_wp21;go_ret;exact⟨w.heap.size+1,rfl,X1,.inl ⟨N,H1⟩⟩
 have Y:=uU (A.1 rfl);have ab:x.A.length<=8000:=by have:=Y.M;have:=Y.A;omega
 have ah:w.heap.size+2<=d.heap.size:=by have:=g.size;simp at this;omega
 have ad:w.heap.size<d.heap.size:=by omega
 have H:w.heap.size+1<d.heap.size:=by omega
 obtain⟨z,J⟩:=mkNodes x.A.length (by omega) d;have q:=Opn.V z g;rw[qT _ _ _ _ H]at q;have S0:=uU q;clear q;have b4:d.cell? (aA w.heap.size 4)=some (.slice ac x.A.length kc):=g.keep (by simp[go_sem]);have O:d.cell? (aA (w.heap.size+1) 13)=some (.slice none 0 0):=g.keep (by simp[go_sem]);have I:d.frozen? (aA (w.heap.size+1) 13)=false:=by
  rw[g.frozen (p:=(aA (w.heap.size+1) 13)) (by simp)];simp[go_sem]
 clear A y s g;go_wp21;go_loopw [22] (λi wr=>∃(k:Nat)(vf:Value)(F:List Int),k<=x.A.length/\i=iv k/\Opn w wr x w.heap.size (w.heap.size+1) d.heap.size k k ar kr ac kc ag kg vf F) (λi _=>x.A.length-(intOf i).toNat)
 case atStart=>exact⟨0,_,_,kB _,rfl,S0⟩
 case round=>
  clear S0 b4 O I J;obtain⟨k,vf,F,hk,rfl,a⟩:=hrel;have HO:=uU a;by_cases n:k<x.A.length
  ·obtain⟨bc,oc,h,af,vp,t,_⟩:=SlC.nth j.2.1 k n;have P0:=uU t;clear t;have V:=a.x4;have B:=a.n13;rw[h]at V;obtain⟨⟨u1,v1⟩,f1⟩:=a.o (k*2) (by omega);obtain⟨⟨u2,v2⟩,f2⟩:=a.o (k*2+1) (by omega);have ae:=i0N k;have aa:(k:Int)<(x.A.length:Int):=by omega
   have M:d.heap.size<wr.heap.size:=a.hb.2.2.2;have X:=uU (a.lay h n);have L:=uU h;clear a h;go_wp21;go_region;generalize u:((wr.setCell (aA d.heap.size (k*2)) (iv k)).setCell (aA d.heap.size (k*2+1)) (pQ bc (oc+k*8))).drew=W2;have m:=uU (X.same (w':=W2) (by rw[<-u];rfl) (by rw[<-u];rfl) (by rw[<-u];rfl) (by rw[<-u];rfl));have P:=m.x4;rw[uH L]at P;have p0:=m.e.keep P0;have W:F.length<=1000000000:=by have:=m.len;omega
   have K:d.heap.size+1<=W2.heap.size:=m.hb.2.2.2;clear u X V B v1 v2 f1 f2 M;cases q:((x.c k).st == 0)
   ·have C:=uU (m.skip q);go_wp21;go_roundw
    case rel=>exact⟨k+1,vf,F,by omega,by go_num,C⟩
    simp[intOf];omega
   go_wp21;refine(b4p _ (d.heap.size+1) (w.heap.size+1) 14 vf F (k:Int) m.f K m.fo (by omega)).mono ?_;rintro e w3 ⟨rfl,v3,F3,T,S,U,R⟩;have C:=uU (m.put q T S U R);clear T S U R;go_wp21;go_roundw
   case rel=>exact⟨k+1,v3,F3,by omega,by go_num,C⟩
   simp[intOf];omega
  have G:k=x.A.length:=by omega
  subst G;have D:=uU a;have E:=uU a.e;clear a hk n;go_wp21;go_ret;exact⟨w.heap.size+1,rfl,E,.inr ⟨Y,_,_,_,_,D⟩⟩
theorem c2d(x:Hp)(w:World)(d:SlW w (.slice ar x.B.length kr) x.B)(a:SlC w (.slice ac x.A.length kc) x.A)(c:SlI w (.slice ag x.D.length kg) x.D):
  Calls prog 33 #[x.v (.slice ar x.B.length kr) (.slice ac x.A.length kc) (.slice ag x.D.length kg)] w λe w'=>∃b,Hid (e=.returned (pP b))/\Ext w w'/\Hid ((¬R1 x/\HAt w' b x ar kr ac kc ag kg)\/(R1 x/\∃an kn base vf F,VAt w' b x ar kr ac kc ag kg an kn/\FAt w' b x base vf F/\Hid (∃bn on,an=some (aA bn on)))):=
 (c2c x w d a c).mono λ_ _ ⟨b,g,j,h⟩=>⟨b,g,j,by
  obtain h|⟨i,k,bn,vf,F,f⟩:=h;exact .inl h;exact .inr ⟨i,_,_,_,_,_,(f.done d a c).1,(f.done d a c).2,⟨_,_,rfl⟩⟩⟩
theorem SAt.ring[qd](h:SAt B w b x ar kr v4 v8 br cB cO bn pb pa pk kn hd vf F vk K role)(r:RAt w' b bn hd' G)(o:uQ (λq=>q=b) w w')(n:Nf1 b w')(c:∀k,(k<15\/k=4017)->w'.cell? (aA b k)=w.cell? (aA b k)):
  SAt B w' b { x with D:=G } ar kr v4 v8 br cB cO bn pb pa pk kn hd' vf F vk K role:=by
 have g:∀q,q<w.heap.size->role q≠0->w'.heap[q]?=w.heap[q]?:=λq i t=>o.block q i (λe=>t (e▸h.sp.b))
 have m:=g bn h.sb.lo.2.2.1 (by rw[h.sp.n];omega);refine⟨⟨h.sb.bx.of λk l=>c k (by omega),h.sb.ha,(c 13 (by omega)).trans h.sb.n13,λk l=>⟨(cOb bn _ m).trans (h.sb.nd k l).1,(cOb bn _ m).trans (h.sb.nd k l).2⟩,⟨(c 14 (by omega)).trans h.sb.fr.hd,n.2 14,uN h.sb.fr.own (λq i=>g q (h.sb.fr.own.lt q i).2 (by rw[h.sp.f q i];omega)),h.sb.fr.apart⟩,r,(c 4017 (by omega)).trans h.sb.k0,uN h.sb.kp (λq i=>g q (h.sb.kp.lt q i).2 (by rw[h.sp.k q i];omega)),n,⟨h.sb.lo.1,h.sb.lo.2.1,h.sb.lo.2.2.of m o.size⟩⟩,?_,⟨h.sp.b,h.sp.n,h.sp.r,h.sp.c,h.sp.f,h.sp.k,h.sp.p⟩,h.pr.of (λq i u=>g q i (by rw[u];omega)) (λ_ _ h=>h)⟩;have:=h.rw.same o.size (λj=>g br (h.rw.nr j).1.1 (by rw[h.sp.r j];omega)) (λq i=>g (cB q) (h.rw.nc q i).1.1 (by rw[h.sp.c q i];omega)) (λq i j=>g (pb q) (h.rw.pl q i j).2.1.1 (by rw[h.sp.p q i j];omega));exact⟨this.r,this.s,this.p7,this.p,this.pl,this.nr,this.nc,this.d,this.dp,this.dc,this.kp⟩
theorem SAt.V[qd]{w2:World}{bx b2:Nat}{bc:Nat}{Z:Array Value}{T:TypeId}(hz:∀q,(default:uL).z q=none)
  (ho:Opn w1 w2 x bx b2 bn x.A.length x.A.length ar kr ac kc ag kg vf F) (hrw:Rws B w1 x br bc pb pa pk) (hB:B<=w1.heap.size) (har:0<x.B.length->ar=some ⟨br,0,none⟩) (hac:0<x.A.length->ac=some ⟨bc,0,none⟩) (hr:0<x.B.length)
  (hZ:Z.size=4018/\(Z[0]?=some (iv x.M)/\Z[1]?=some (iv x.K)/\Z[2]?=some (iv x.born)/\Z[3]?=some (.slice ar x.B.length kr)/\Z[4]?=some (.slice ac x.A.length kc)/\Z[5]?=some (iv x.E)/\Z[6]?=some (iv x.I)/\Z[7]?=some (iv x.sub)/\Z[8]?=some (.slice ag x.D.length kg)/\Z[9]?=some (iv x.per)/\Z[10]?=some (iv x.V)/\Z[11]?=some (iv x.Q)/\Z[12]?=some (iv x.S)/\Z[13]?=some (.slice (some ⟨bn,0,none⟩) x.A.length x.A.length)/\Z[14]?=some vf)/\Z[4015]?=some (iv 0)/\Z[4016]?=some (iv 0)/\Z[4017]?=some (.slice none 0 0)) :
  ∃role,SAt B (w2.alloc (.cells Z T)) w2.heap.size { x with D:=[] } ar kr (.slice ac x.A.length kc) (.slice ag x.D.length kg) br (λ_=>bc) (λq=>q*8) bn pb pa pk x.A.length 0 vf F (.slice none 0 0) [] role:=by
 have⟨hZs,⟨z0,z1,z2,z3,z4,z5,z6,z7,z8,z9,z10,z11,z12,z13,z14⟩,y0,y1,y2⟩:=hZ;have⟨hb1,hb2,hb3,hb4⟩:=ho.hb;have xe:Ext w1 (w2.alloc (.cells Z T)):=ho.e.alloc _;have x2:Ext w2 (w2.alloc (.cells Z T)):=(hO w2).alloc _;have hnew:(w2.alloc (.cells Z T)).heap[w2.heap.size]?=some (.cells Z T):=heap_alloc_new w2 _;have cz:∀o,(w2.alloc (.cells Z T)).cell? ⟨w2.heap.size,o,none⟩=Z[o]?:=λo=>cell_of_row _ w2.heap.size o _ _ (0,0) hnew
 have nz:Nf1 w2.heap.size (w2.alloc (.cells Z T)):=⟨by simp,λj=>by simp[go_sem]⟩;have lr:=(hrw.nr hr).1.1;have lsz:=ho.e.size;have lp:∀q,q<x.A.length->0<pk q->pb q<w1.heap.size:=λq hq hl=>(hrw.pl q hq hl).2.1.1
 have lf:∀q,vf.ownBlock=some q->bn+1<=q/\q<w2.heap.size:=λq hq=>ho.f.own.lt q hq
 refine⟨λq=>if q=w2.heap.size then 0 else if q=bn then 1 else if q=br then 2 else if 0<x.A.length/\q=bc then 3 else
  (open Classical in if h:∃i,i<x.A.length/\0<pk i/\pb i=q then 6+Classical.choose h else 4),⟨⟨(cz 0).trans z0,(cz 1).trans z1,(cz 2).trans z2,(cz 3).trans z3,(cz 4).trans z4,(cz 5).trans z5,(cz 6).trans z6,(cz 7).trans z7,(cz 8).trans z8,(cz 9).trans z9,(cz 10).trans z10,(cz 11).trans z11,(cz 12).trans z12⟩,har,(cz 13).trans z13,λi hi=>?_,⟨(cz 14).trans z14,nz.2 14,a3s (ho.f.own.alloc _) (by omega),λe=>by have:=(lf _ e).2;omega⟩,⟨by omega,by simp,(cz 4015).trans y0,(cz 4016).trans y1,λi hi=>by simp at hi,λj hj=>⟨Z[15+j]'(by omega),(cz _).trans (by simp)⟩⟩,(cz 4017).trans y2,ks _ _ _ _,nz,⟨by omega,by omega,by simp;omega,λj hj=>(ho.o j hj).ext x2⟩⟩,?_,?_,λq o h=>by rw[hz q]at h;cases h⟩
 have⟨bc',oc,e,p,q⟩:=ho.n i hi;have e2:=(hac (Nat.lt_of_le_of_lt (kB _) hi)).symm.trans e;simp only[Option.some.injEq,Addr.mk.injEq]at e2;obtain⟨rfl,rfl,_⟩:=e2;rw[kO]at q;exact⟨x2.keep p,x2.keep q⟩;have:=(hrw.ext xe).rwn;exact⟨this.r,this.s,this.p7,this.p,this.pl,this.nr,this.nc,this.d,this.dp,this.dc,this.kp⟩;refine⟨if_pos rfl,?_,λ_=>?_,λq hq=>?_,λq hq=>?_,λq hq=>by simp[Value.ownBlock]at hq,λq hq hl=>?_⟩
 ·rw[if_neg (by omega),if_pos rfl]
 rw[if_neg (by omega),if_neg (by omega),if_pos rfl];have hl:0<x.A.length:=by have:q<x.A.length:=hq;omega
 have l1:=(hrw.nc hl).1.1;have l2:=hrw.d hl;rw[if_neg (by omega),if_neg (by omega),if_neg (λe=>l2 e.symm),if_pos ⟨hl,rfl⟩];have l1:=lf q hq;rw[if_neg (by omega),if_neg (by omega),if_neg (by omega),if_neg (λe=>by have:=(hrw.nc e.1).1.1;omega),dif_neg (λ⟨i,h1,h2,h3⟩=>by have:=lp i h1 h2;omega)];have l1:=lp q hq hl;have l2:=(hrw.pl q hq hl).2.2.1;have hex:∃i,i<x.A.length/\0<pk i/\pb i=pb q:=⟨q,hq,hl,rfl⟩;rw[if_neg (by omega),if_neg (by omega),if_neg l2.1,if_neg (λe=>l2.2 e.2),dif_pos hex];have sp:=Classical.choose_spec hex;have:Classical.choose hex=q:=by
  obtain h|h:=Nat.decEq (Classical.choose hex) q;exact absurd sp.2.2 (hrw.dp _ q sp.1 hq h sp.2.1 hl);exact h
 rw[this]
theorem SAt.setc[qd]{i:Nat}{c':Cl}
  (h:SAt B w b x ar kr v4 v8 br cB cO bn pb pa pk kn hd vf F vk K role) (I:i<x.A.length) (X:c'.F=(x.c i).F) (o:uQ (λq=>q=cB i) w w') (W:S7 w' (cB i) (cO i) c') (J:∀k,(k<cO i\/cO i+7<=k)->w'.cell? (aA (cB i) k)=w.cell? (aA (cB i) k)) (V:Nf1 (cB i) w') :
  SAt B w' b { x with A:=x.A.set i c' } ar kr v4 v8 br cB cO bn pb pa pk kn hd vf F vk K role:=by
 have m:∀q,q<w.heap.size->role q≠3->w'.heap[q]?=w.heap[q]?:=λq g D=>o.block q g (λe=>D (e▸h.sp.c i I))
 have l:({ x with A:=x.A.set i c' }:Hp).A.length=x.A.length:=by simp
 have y:∀q,(({ x with A:=x.A.set i c' }:Hp).c q).F=(x.c q).F:=λq=>by grind[uQ.A,QFr.A,Hp.c,S7,Nf1]
 have v:=h.sb.same o.size (m b h.sb.nb.1 (by rw[h.sp.b];omega)) (m bn h.sb.lo.2.2.1 (by rw[h.sp.n];omega)) (λq g=>m q (h.sb.fr.own.lt q g).2 (by rw[h.sp.f q g];omega)) (λq g=>m q (h.sb.kp.lt q g).2 (by rw[h.sp.k q g];omega));have O:∀q,q<x.A.length->0<pk q->w'.heap[pb q]?=w.heap[pb q]?:=λq g l=>m (pb q) (h.rw.pl q g l).2.1.1 (by rw[h.sp.p q g l];omega)
 have M:∀q,q<x.A.length->cB q≠cB i->w'.heap[cB q]?=w.heap[cB q]?:=λq g e=>o.block (cB q) (h.rw.nc q g).1.1 e
 have N:∀q,q<x.A.length->q≠i->∀k,k<8->w'.cell? (aA (cB q) (cO q+k))=w.cell? (aA (cB q) (cO q+k)):=λq g e k u=>by
  by_cases A:cB q=cB i;rw[A];obtain d|d|d:=h.rw.dc q i g I e
  ·exact(d A).elim
  exact J _ (by omega);exact J _ (by omega);exact cOb (cB q) _ (M q g A)
 have P:∀q,q<x.A.length->Nf1 (cB q) w':=λq g=>by
  by_cases A:cB q=cB i;rw[A];exact V;exact uY (h.rw.nc q g).1 (M q g A) o.size
 refine⟨⟨v.bx,v.ha,l▸v.n13,λk u=>v.nd k (by rw[l]at u;exact u),v.fr,v.rg,v.k0,v.kp,v.nb,v.lo⟩,⟨λk u=>?_,λq g=>?_,λq g=>?_,λq g k u=>?_,λq g z=>?_,λD=>⟨uY (h.rw.nr D).1 (m br (h.rw.nr D).1.1 (by rw[h.sp.r D];omega)) o.size,(h.rw.nr D).2⟩,λq g=>⟨P q (by rw[l]at g;exact g),(h.rw.nc q (by rw[l]at g;exact g)).2⟩,λq g=>h.rw.d q (by rw[l]at g;exact g),λq E g t C G U=>?_,λq E g t C=>h.rw.dc q E (by rw[l]at g;exact g) (by rw[l]at t;exact t) C,λq g=>?_⟩,⟨h.sp.b,h.sp.n,h.sp.r,λq g=>h.sp.c q (by rw[l]at g;exact g),h.sp.f,h.sp.k,λq g z=>?_⟩,h.pr.of (λq g G=>m q g (by rw[G];omega)) (λ_ _ h=>h)⟩;exact(h.rw.r k u).of λj _=>cOb br _ (m br (h.rw.nr (by have:k<x.B.length:=u;omega)).1.1 (by rw[h.sp.r (by have:k<x.B.length:=u;omega)];omega))
 rw[l]at g;rw[(Hp.c_set x i c' I) q];by_cases e:q=i
 ·subst e;rw[if_pos rfl];exact W
 rw[if_neg e];exact(h.rw.s q g).of λj H=>N q g e j (by omega)
 rw[l]at g;rw[y q];by_cases e:q=i
 ·subst e;rw[J _ (by omega)];exact h.rw.p7 q g
 rw[N q g e 7 (by omega)];exact h.rw.p7 q g;rw[l]at g;have A:(({ x with A:=x.A.set i c' }:Hp).c q).p k=(x.c q).p k:=by simp only[Cl.p,y q]
 rw[y q]at u;rw[A];exact(h.rw.p q g k u).of λj _=>cOb (pb q) _ (O q g (h.rw.pw g (by omega)))
 rw[l]at g;have⟨T,S,L,R⟩:=h.rw.pl q g z;exact⟨T,dV S (O q g z) o.size,⟨L.1,λj H=>L.2 j (by rw[l]at H;exact H)⟩,R⟩;rw[l]at g t;exact h.rw.dp q E g t C G U;rw[l]at g;rw[y q];exact h.rw.kp q g;rw[l]at g;exact h.sp.p q g z
theorem b9s(x:Hp)(b:Nat)(w:World)(a:w.cell? (aA b 5)=some (iv x.E)):
  Calls prog 132 #[pP b] w λe w'=>e=.returned (.bool (mkB x))/\w'=w:=by
 cases q:(x.E == 1)
 ·have E:=uU (show mkB x=(x.E == 2) by simp[mkB,q]);go_in;go_wp2;go_ret;exact⟨by rw[uH E];rfl,rfl⟩
 go_in;go_wp2;go_ret;exact⟨by rw[(show mkB x=true by simp[mkB,q])];rfl,rfl⟩
theorem a5t(c:Cl)(b i d a:Nat)(w:World)(h:w.cell? (aA b (i*2+1))=some (pQ d a))(s:S7 w d a c):
  Calls prog 137 #[ndp b i] w λe w'=>e=.returned (.bool (whB c))/\w'=w:=by
 have g:=s.1;have f:=s.2.2.2.2.2.1;cases q:(c.st == 1)
 ·have E:=uU (show whB c=false by simp[whB,q]);go_in;go_wp2;go_ret;exact⟨by rw[uH E];rfl,rfl⟩
 go_in;go_wp2;go_ret;exact⟨by rw[(show whB c=(c.J == 0) by simp[whB,q])];rfl,rfl⟩
theorem b1x[qd](i:Nat)(w:World)
  (h:SAt B w b x ar kr v4 v8 br cB cO bn pb pa pk kn hd vf F vk K role) (f:i<x.A.length) (Y:eN x i=true->x.D.length<4000) (a:World) (z:a.heap.size<=B) (r:Ext a w) :
  Calls prog 227 #[pP b,ndp bn i] w λe w'=>e=.returned (.tuple #[])/\Hid (SAt B w' b (uK x i) ar kr v4 v8 br cB cO bn pb pa pk kn hd vf F vk K role)/\Ext a w'/\Hid (∀q,q<w.heap.size->q≠b->q≠cB i->w'.heap[q]?=w.heap[q]?):=by
 have H:=uU h;have⟨m0,L⟩:=h.sb.nd i f;have S:=h.rw.s i f;go_in;go_wp21;refine(b9s x b _ h.sb.bx.2.2.2.2.2.1).mono ?_;rintro e w1 ⟨rfl,rfl⟩;cases y:mkB x;have E:=uU (show uK x i=x by unfold uK;rw[if_neg (by simp[eN,y])]);go_wp21;try simp only[Exit.inBlock,Exit.then]
 refine bodyPost_ret (results_none rfl _ _ _) rfl ?_;exact⟨rfl,by rw[uH E];exact uH H,r,λ_ _ _ _=>rfl⟩;go_wp21;refine(a5t (x.c i) bn i (cB i) (cO i) _ L S).mono ?_;rintro e g ⟨rfl,rfl⟩;cases v:whB (x.c i)
 ·have E:=uU (show uK x i=x by unfold uK;rw[if_neg (by simp[eN,v])]);go_wp21;try simp only[Exit.inBlock,Exit.then]
  refine bodyPost_ret (results_none rfl _ _ _) rfl ?_;exact⟨rfl,by rw[uH E];exact uH H,r,λ_ _ _ _=>rfl⟩
 have t:eN x i=true:=by simp[eN,y,v]
 have s5:=S.2.2.2.2.2.1;have Z:=(H.rw.nc i f).1.2 (cO i+5);have C:=uU (show SAt B (g.setCell (aA (cB i) (cO i+5)) (iv 1)) b { x with A:=x.A.set i (yD (x.c i)) } ar kr v4 v8 br cB cO bn pb pa pk kn hd vf F vk K role from
  H.setc f rfl (uQ.setCell (S:=λq=>q=cB i) (uQ.refl _ g) (p:=(aA (cB i) (cO i+5))) rfl _) (by
   have⟨N,U,O,M,I,D,J⟩:=uH S;refine⟨?_,?_,?_,?_,?_,kM _ _ _ D,?_⟩;rw[uC _ (.inr (by omega))];exact N;rw[uC _ (.inr (by omega))];exact U;rw[uC _ (.inr (by omega))];exact O;rw[uC _ (.inr (by omega))];exact M;rw[uC _ (.inr (by omega))];exact I;rw[uC _ (.inr (by omega))];exact J) (λk hk=>uC _ (.inr (by omega))) ((H.rw.nc i f).1.set _ _))
 go_wp21;refine(c2e b bn hd i x.D _ C.sb.rg C.sb.nb (Y t)).mono ?_;rintro e T ⟨rfl,m,d,l,n⟩;have G:=d.ext (r.sc (cB i) (cO i+5) (show a.heap.size<=cB i from kA z (H.rw.nc i f).2) (iv 1)) (λq u e=>by have:=(kA z H.sb.lo.1);omega);go_wp21;go_end0;exact⟨rfl,by rw[(show uK x i={ x with A:=x.A.set i (yD (x.c i)),D:=x.D++[(i:Int)] } by unfold uK;rw[if_pos t])];exact (C.ring m d l (λo ho=>n o (by omega))),G,(show ∀q,q<g.heap.size->q≠b->q≠cB i->T.heap[q]?=g.heap[q]? from λq u X V=>(d.block q (by simpa[World.setCell]using u) X).trans (kP _ _ _ _ V))⟩
theorem b5p[qd](i:Nat)(w:World)
  (h:SAt B w b x ar kr v4 v8 br cB cO bn pb pa pk kn hd vf F vk K role) (g:i<x.A.length) (j:eN x i=true->x.D.length<4000) (a:World) (l:a.heap.size<=B) (k:Ext a w) :
  Calls prog 227 #[pP b,ndp bn i] w λe w'=>e=.returned (.tuple #[])/\Hid (SAt B w' b (uK x i) ar kr v4 v8 br cB cO bn pb pa pk kn hd vf F vk K role)/\Ext a w':=
 (b1x i w h g j a l k).mono λ_ _ ⟨f,d,c,_⟩=>⟨f,d,c⟩
theorem a7q(b d c:Nat)(w:World)(h:RAt w b d c []):
  Calls prog 212 #[pQ b 15] w λe w'=>e=.returned (.pointer none)/\Ext w w':=by
 have a:=h.r1;simp only[List.length_nil]at a;go_in;go_wp2;go_ret;exact⟨rfl,hO _⟩
theorem a4o(b d a:Nat)(g:Int)(G:List Int)(w:World)(h:RAt w b d a (g::G)):
  Calls prog 212 #[pQ b 15] w λe w'=>e=.returned (ndp d g.toNat)/\Ext w w':=by
 have j:=h.r0;have f:=h.r1;have m:=h.hl;have o:=h.h0;have c:=h.rg 0 (by simp);have e:(a+0) % 4000=a:=by omega
 rw[e]at c;simp only[List.getElem_cons_zero]at c;have i:(((g::G).length:Nat):Int)=(G.length:Int)+1:=by simp
 rw[i]at f;have l:(((G.length:Int)+1) == 0)=false:=by simp;omega
 have n:=i0N a;have k:(a:Int)<4000:=by omega
 go_in;go_wp21;go_quiet (fail);go_wp2;go_ret;exact⟨rfl,(hO _).drewN _⟩
theorem c9o:(prog.info? 111).map (λi=>(i.zero,i.size,i.bytes))=some (some (.pointer none),1,8):=by kernel_rfl
theorem SAt.white[qd](h:SAt B w b x ar kr v4 v8 br cB cO bn pb pa pk kn hd vf F vk K role)(i:Nat)(a:i<x.A.length):SAt B (w.setCell (aA (cB i) (cO i+5)) (iv 0)) b { x with A:=x.A.set i (zK (x.c i)) } ar kr v4 v8 br cB cO bn pb pa pk kn hd vf F vk K role:=by
 refine h.setc a rfl (uQ.setCell (S:=λq=>q=cB i) (uQ.refl _ w) (p:=(aA (cB i) (cO i+5))) rfl _) ?_ (λk n=>uC _ (.inr (by omega))) ((h.rw.nc i a).1.set _ _);obtain⟨f,g,j,d,m,e,l⟩:=h.rw.s i a;refine⟨?_,?_,?_,?_,?_,kM _ _ _ e,?_⟩;all_goals
  rw[uC _ (.inr (by omega))];assumption
theorem c5v[qd](h:SAt B w b x ar kr v4 v8 br cB cO bn pb pa pk kn hd vf F vk K role)(n8:x.A.length<=8000)(hp:x.E=3)(i:Nat)(U:x.I=(i:Int))(f:i<x.A.length)(hs:((x.c i).st == 1)=true)(hc:((x.c i).J == 0)=false)(hK:K.length<=8000)(a:World)(ha:a.heap.size<=B)(hx:Ext a w):
  Calls prog 279 #[.agg #[pP b]] w λe w'=>e=.returned (yQ (dZ x).E b)/\Hid (∃vk' role',SAt B w' b (dZ x) ar kr v4 v8 br cB cO bn pb pa pk kn hd vf F vk' (K++[i]) role')/\Ext a w':=by
 have ei:x.I.toNat=i:=by omega
 have E:=uU (show dZ x={ x with A:=x.A.set i (zK (x.c i)),I:=(i:Int)+1 } by
  unfold dZ;rw[if_neg (by omega),ei,if_neg (by simp[whB,hc]),U])
 have EP:=uU (show(dZ x).E=3 by rw[uH E];exact hp);have H:=uU h;obtain⟨i0,ae,ab,aa,ac⟩:=info_parts c9o;have T:=(hO w).alloc (.cells #[pP b] 214);have S:=h.sb.bx.2.2.2.2.2.2.1;rw[U]at S;have QA:=uU (a0x b x.A.length kn bn i _ (T.keep S) (T.keep h.sb.n13) f);have N:=uU T;have ak:b<w.heap.size:=h.sb.nb.1;have lo:=h.sb.lo.1;have hn:0<x.A.length:=by omega
 have HI:=uU U;have WH:=uU (show whB (x.c i)=false by simp[whB,hc]);have O:=uU (h.rw.nc i f);clear h hp T U S ei hc;go_in;go_wp21;refine QA.mono ?_;rintro e w1 ⟨rfl,x1⟩;have r0:w1.cell? (aA w.heap.size 0)=some (pP b):=x1.keep (by simp[go_sem]);have X1:=uU (N.trans x1);have D:=uU (H.ext X1);have m1:=(D.sb.nd i f).2;have p0:=(D.rw.s i f).1;have p5:=(D.rw.s i f).2.2.2.2.2.1;have fc:=(D.rw.nc i f).1.2 (cO i+5);have QS:=uU (a5t (x.c i) bn i (cB i) (cO i) w1 m1 (D.rw.s i f));rw[uH WH]at QS;clear x1 N QA;go_wp21;refine QS.mono ?_;rintro e w2 ⟨rfl,ah⟩;subst ah;have t:=uU (D.white i f);obtain⟨l,n⟩:∃W,W=w2.setCell (aA (cB i) (cO i+5)) (iv 0):=⟨_,rfl⟩;rw[<-n]at t;have X2:=uU (show Ext a l by rw[n];exact(hx.trans X1).sc (cB i) (cO i+5) (kA ha O.2) _);have s0:l.cell? (aA w.heap.size 0)=some (pP b):=by
  rw[n,uC _ (.inl (by have:=O.1.1;omega))];exact r0
 have P:=t.sb.k0;have J:=cLt s0;have M:=cLt P;have L:cB i<w2.heap.size:=uZ p5;obtain⟨r,m,ad⟩:∃a k,vk=.slice a K.length k:=⟨_,_,(a0d t.sb.kp).1⟩;subst ad;have Y:=t.sb.nb.2 4017;have hB:B<=l.heap.size:=by have:=t.sb.lo.1;omega
 have I:=uU t.sb.kp;have al:¬w.heap.size=b:=by omega
 have af:¬b=w.heap.size:=by omega
 go_wp21;rw[<-n];have NK:=uU (show ∀q,(Value.slice r K.length m).ownBlock=some q->q<w.heap.size from λq A=>(H.sb.kp.lt q A).2);have ag:=uU (show ∀q,(Value.slice r K.length m).ownBlock=some q->q≠b from λq A e=>by have h1:=t.sp.k q A;have h2:=t.sp.b;rw[e]at h1;omega);clear n m1 p0 p5 fc r0 L;have X:=uU (show ∀o,(l.drew.alloc o).ownsRow B 111 1 (.slice r K.length m) K.length (K.map (ndp bn))/\((l.alloc o).drew).ownsRow B 111 1 (.slice r K.length m) K.length (K.map (ndp bn)) from λo=>⟨uN I (λq A=>((eDr l).alloc o).block q (I.lt q A).2),uN I (λq A=>(eAl l o).drew.block q (I.lt q A).2)⟩);go_region_law (refine step_append_lies _ rfl _ _ 115 rfl B 111 i0 (.pointer none) 1 8 underlying115 ae ab aa ac rfl (by decide) (.slice r K.length m) K.length (K.map (ndp bn)) (by first|rfl|simp[Act.eval,Act.put]) (by first|exact(X _).1|exact(X _).2|exact I.alloc _) _ 1 1 [ndp bn i] (by first|rfl|simp[Act.eval,Act.put];rfl) rfl (by intro j u Q;match j,Q with|0,Q=>simp at Q;subst Q;simp[Addr.add,go_sem]) (by intro u hu;simp at hu;subst hu;rfl) (by decide) (by unfold maxLen;omega) (by omega) (by simp;omega) _ rfl ?_;intro g y C v d G ai;have z:=kI (eAl l (.cells #[ndp bn i] 111)) ((hO (l.alloc (.cells #[ndp bn i] 111))).drew);have R:=uU ((t.ext z).push d v (by simpa using G));have Z:C.heap[b]?=l.heap[b]?:=(d.block b (kF M z.size) (λe=>uH ag b e.symm rfl)).trans (z.block b M);have es:C.heap[w.heap.size]?=l.heap[w.heap.size]?:=(d.block w.heap.size (kF J z.size) (λe=>Nat.lt_irrefl _ (NK _ e.symm))).trans (z.block w.heap.size J);have t0:=(cOb w.heap.size 0 es).trans s0;have V:=(cOb b 4017 Z).trans P;have aj:=(fOb b 4017 Z).trans Y;have an:=cLt V;have am:=cLt t0;have X5:=uU (show Ext a (C.setCell (aA b 4017) (sS g (K.length+1) y)) from(a4t (X2.trans z) ((X _).2) ha d).sc b 4017 (kA ha lo) _);clear v d G z Z es);all_goals
  have S:(C.setCell (aA b 4017) (sS g (K.length+1) y)).cell? (aA b 6)=some (iv i):=by have:=R.sb.bx.2.2.2.2.2.2.1;exact this.trans (by rw[uH HI])
  have f6:=R.sb.nb.2 6;have t1:(C.setCell (aA b 4017) (sS g (K.length+1) y)).cell? (aA w.heap.size 0)=some (pP b):=by rw[uC _ (.inl af)];exact t0
  have FN:=uU (R.I ((i:Int)+1));have XN:=uU (X5.sc b 6 (show a.heap.size<=b by omega) (iv ((i:Int)+1)));go_wp21;go_ret;exact⟨by rw[uH EP];rfl,by rw[uH E];exact⟨_,_,FN⟩,XN⟩
theorem RAt.dropped{m:Nat}{g:Int}(h:RAt w b bn hd (g::G))(a:m=(hd+1) % 4000):
  RAt ((w.setCell (aA b 4015) (iv m)).setCell (aA b 4016) (iv G.length)) b bn m G:=by
 have l:=h.hl;simp at l;refine⟨a▸mN _ (by omega),by omega,?_,?_,λk d=>?_,λj i=>?_⟩;rw[uC _ (.inr (by omega))];exact kM _ _ _ h.r0;have:(w.setCell (aA b 4015) (iv m)).cell? (aA b 4016)=some (iv (g::G).length):=by rw[uC _ (.inr (by omega))];exact h.r1
 exact kM _ _ _ this;have f:(m+k) % 4000<4000:=mN _ (by omega);rw[uC _ (.inr (by omega)),uC _ (.inr (by omega))];have:=h.rg (k+1) (by simpa using d);have e:(hd+(k+1)) % 4000=(m+k) % 4000:=by rw[a];omega
 rw[e]at this;simpa using this;have⟨v,c⟩:=h.ro j i;exact⟨v,by rw[uC _ (.inr (by omega)),uC _ (.inr (by omega))];exact c⟩
theorem c9j(b f a:Nat)(g:Int)(G:List Int)(w:World)(h:RAt w b f a (g::G))(d:Nf1 b w):
  Calls prog 271 #[pQ b 15] w λe w'=>e=.returned (.tuple #[])/\Hid (RAt w' b f ((a+1) % 4000) G/\uQ (λq=>q=b) w w'/\Nf1 b w'/\∀o,(o<15\/o=4017)->w'.cell? (aA b o)=w.cell? (aA b o)):=by
 have r:=h.r0;have k:=h.r1;have v:=h.h0;have j:(((g::G).length:Nat):Int)=(G.length:Int)+1:=by simp
 rw[j]at k;have l:G.length+1<=4000:=by simpa using h.hl
 have s:=d.2 4015;have u:=d.2 4016;have⟨m,c⟩:=obE ((a+1) % 4000);have x:((a:Int)+1).tmod 4000=(m:Int):=by have:=b5o (a+1);rw[<-c]at this;simpa using this
 have n:=uU (show RAt ((w.setCell (aA b 4015) (iv m)).setCell (aA b 4016) (iv G.length)) b f m G/\uQ (λq=>q=b) w ((w.setCell (aA b 4015) (iv m)).setCell (aA b 4016) (iv G.length))/\Nf1 b ((w.setCell (aA b 4015) (iv m)).setCell (aA b 4016) (iv G.length))/\∀o,(o<15\/o=4017)->((w.setCell (aA b 4015) (iv m)).setCell (aA b 4016) (iv G.length)).cell? (aA b o)=w.cell? (aA b o) from
  ⟨h.dropped c,uQ.setCell (S:=λq=>q=b) (tE w b 4015 _) (p:=(aA b 4016)) rfl _,(d.set _ _).set _ _,λo t=>by rw[uC _ (.inr (by omega)),uC _ (.inr (by omega))]⟩)
 rw[<-c];clear h j c d;go_in;go_wp21;go_end0;exact⟨rfl,n⟩
theorem SAt.rdrop[qd](h:SAt B w b x ar kr v4 v8 br cB cO bn pb pa pk kn hd vf F vk K role)(r:RAt w' b bn hd' G/\uQ (λq=>q=b) w w'/\Nf1 b w'/\∀o,(o<15\/o=4017)->w'.cell? (aA b o)=w.cell? (aA b o)):SAt B w' b { x with D:=G } ar kr v4 v8 br cB cO bn pb pa pk kn hd' vf F vk K role:=h.ring r.1 r.2.1 r.2.2.1 r.2.2.2
theorem c5r[qd](h:SAt B w b x ar kr v4 v8 br cB cO bn pb pa pk kn hd vf F vk K role)(s:Snd x)(J:x.E=1)(i:Nat)(v:x.I=(i:Int))(d:i<x.A.length)(a:World)(V:a.heap.size<=B)(L:Ext a w):
  Calls prog 276 #[.agg #[pP b]] w λe w'=>e=.returned (yQ (dW x).E b)/\Hid (SAt B w' b (dW x) ar kr v4 v8 br cB cO bn pb pa pk kn hd vf F vk K role)/\Ext a w':=by
 have T:x.I.toNat=i:=by omega
 have k:=uU (show dW x={ (if kU (x.c i)=true then uK x i else x) with I:=(i:Int)+1 } by unfold dW;rw[if_neg (by omega),T,v]);have A:=uU (show(dW x).E=1 by rw[uH k];split;exact((cC x i).2.2.2.2.2.1).trans J;exact J);have Y:=s.ok.n8;have t:=(hO w).alloc (.cells #[pP b] 212);have g:=h.sb.bx.2.2.2.2.2.2.1;rw[v]at g;have U:b<w.heap.size:=h.sb.nb.1;have X:=h.sb.lo.1;go_in;go_wp21;refine(a0x b x.A.length kn bn i _ (t.keep g) (t.keep h.sb.n13) d).mono ?_;rintro e I ⟨rfl,D⟩;have z:I.cell? (aA w.heap.size 0)=some (pP b):=D.keep (by simp[go_sem]);have j:=t.trans D;have f:=h.ext j;go_wp21;refine(b3d (x.c i) bn i (cB i) (cO i) I (f.sb.nd i d).2 (f.rw.s i d)).mono ?_;rintro e y ⟨rfl,m⟩;subst m;cases q:kU (x.c i);focus
  have E:=uU (show dW x={ x with I:=(i:Int)+1 } by rw[uH k,q];rfl);have g:y.cell? (aA b 6)=some (iv i):=by have:=f.sb.bx.2.2.2.2.2.2.1;rw[uH v]at this;exact this
  have O:=f.sb.nb.2 6;have n:=f.I ((i:Int)+1);have l:=(L.trans j).sc b 6 (by omega:a.heap.size<=b) (iv ((i:Int)+1))
 rotate_left
 focus
  have E:=uU (show dW x={ uK x i with I:=(i:Int)+1 } by rw[uH k,q];rfl);go_wp21;refine(b1x i _ f d ((a2h s.ok).2 i d) a V (L.trans j)).mono ?_;rintro e C ⟨rfl,r,P,N⟩;have S:cB i<w.heap.size:=(h.rw.nc i d).1.1;have W:C.cell? (aA w.heap.size 0)=some (pP b):=(cOb w.heap.size 0 (N w.heap.size (cLt z) (by omega) (by omega))).trans z;have g:C.cell? (aA b 6)=some (iv i):=by have:=r.sb.bx.2.2.2.2.2.2.1;rw[(cC x i).2.2.2.2.2.2.1,uH v]at this;exact this
  have O:=r.sb.nb.2 6;have n:=uU (r.I ((i:Int)+1));have l:=P.sc b 6 (by omega:a.heap.size<=b) (iv ((i:Int)+1))
 all_goals
  go_wp2;go_ret;exact⟨by rw[uH A];rfl,by rw[uH E];exact uH n,l⟩
end Go.Proofs.YtolmnenlnpbcfaaGreatDoor
