import Derived.Test.YtgkpaibbdkggiaaGreatDoorDd
set_option maxRecDepth 100000
set_option maxHeartbeats 4000000
namespace Go.Proofs.YtgkpaibbdkggiaaGreatDoor
open Go.RowKit Tryz
attribute [local go_sem ↓] Go.wp_at_zero Go.wp_at_succ
variable{ar ac ag an:Option Addr}{kr kn kc kg b bn hd B br k bx g bc base i j:Nat}{x:Hp}{w w' wr:World}{F L1 L2 G:List Int}{vf v4 v8 vk v1 v2:Value}{pb pk role cB cO:Nat->Nat}{pa:Nat->Option Addr}{K:List Nat}{y:Wd}
def a5h(x:Hp)(y:Wd):Bool:=(y.k == 2) && ((x.c y.a.toNat).J == 0)
theorem a8s:a5h x y=true↔eQ x y:=by simp[a5h,eQ]
theorem b2o(x:Hp)(b:Nat)(y:Wd)(w:World)(h:HAt w b x ar kr ac kc ag kg)(s:y.k=2->0<=y.a/\y.a<x.A.length):
  Calls prog 120 #[pP b,y.v] w λe w'=>e=.returned (.bool (a5h x y))/\Ext w w':=by
 cases q:(y.k == 2)
 focus have E:a5h x y=false:=by simp[a5h,q]
 rotate_left
 focus
  have d:y.k=2:=by simpa using q
  have⟨r,F⟩:=s d;have⟨i,g⟩:=km r;have E:=uU (show a5h x y=((x.c i).J == 0) by simp[a5h,d,g]);obtain⟨n,o,rfl,z,G,u,A,B,D,f,_⟩:=h.C i (by omega);have m:=h.c4;have t:=cLt m;have p:=cLt f;have l:=i0N i;have j:(i:Int)<(x.A.length:Int):=by omega
 all_goals
  go_in;go_wp21;go_quiet (fail);go_wp2;go_ret;exact⟨by rw[uH E];rfl,(eAl w _).drewN _⟩
def qZ(x:Hp)(y:Wd)(m:Bool):Bool:=dY y x.A.length && (!(y.k == 2) || (if (x.c y.a.toNat).st=2 then m else ((x.c y.a.toNat).st == 1) && !zH x y.a.toNat))
theorem a1h{m:Bool}{p:Prop}(a:m=true↔p):qZ x y m=true↔hE x y p:=by grind[Cl.p,qZ,hE,a0o,Hp.c,zH,uW,a2y]
theorem a6k(x:Hp)(b:Nat)(y:Wd)(m:Bool)(w:World)(h:HAt w b x ar kr ac kc ag kg):
  Calls prog 116 #[pP b,y.v,.bool m] w λe w'=>e=.returned (.bool (qZ x y m))/\Ext w w':=by
 have O:=h.c4;have R:=cLt O;have N:b<w.heap.size+1:=by omega
 go_in;go_wp21;go_region_held3 (λw'=>w'.cell? (aA w.heap.size 0)=some (iv y.k)/\w'.cell? (aA w.heap.size 1)=some (iv y.n)/\w'.cell? (aA w.heap.size 2)=some (iv y.a)/\w'.cell? (aA b 4)=some (.slice ac x.A.length kc)) (first|(simp[*];done)|go_keep)
    (first|(go_at_call 118;refine(a5g y x.A.length _).mono ?_;rintro e j ⟨rfl,l⟩;have s:=(cE l).1;simp only[World.size_drew,World.size_alloc]at s))
 rename_i t;have p:Ext w j:=kI ((eAl w _).drew) l;cases r:dY y x.A.length
 ·have E:=uU (show qZ x y m=false by simp[qZ,r]);go_wp2;go_ret;exact⟨by rw[uH E];rfl,p⟩
 cases C:(y.k == 2)
 ·have E:=uU (show qZ x y m=true by simp[qZ,r,C]);go_wp2;go_ret;exact⟨by rw[uH E];rfl,p⟩
 have Q:y.k=2:=by simpa using C
 have M:=a0o.1 r;unfold uJ at M;have A:0<=y.a/\y.a<x.A.length:=by omega
 have q:=uU (show qZ x y m=(if (x.c y.a.toNat).st=2 then m else ((x.c y.a.toNat).st == 1) && !zH x y.a.toNat) by simp[qZ,r,Q]);have z:=h.ext p;have F:=λw' (e:Ext j w')=>a9q x b y.a w' (z.ext e) A.1 A.2;have⟨i,J⟩:=km A.1;rw[J]at F q;rw[mM]at q;obtain⟨d,o,D,I,rfl,p0,S,T,X,Y,U,W,Z,V,P⟩:=z.cell i (by omega);have d4:=z.c4;have L:=i0N i;have K:(i:Int)<(x.A.length:Int):=by omega
 go_wp21;go_region_held3 (λw'=>w'.cell? (aA w.heap.size 2)=some (iv i)/\w'.cell? (aA b 4)=some (sO d o x.A.length kc)/\w'.cell? (aA d (o+i*8))=some (iv (x.c i).st)/\w'.cell? (aA d (o+i*8+1))=some (iv (x.c i).kind)/\w'.cell? (aA d (o+i*8+2))=some (iv (x.c i).T)/\w'.cell? (aA d (o+i*8+3))=some (iv (x.c i).U)/\w'.cell? (aA d (o+i*8+4))=some (iv (x.c i).born)/\w'.cell? (aA d (o+i*8+5))=some (iv (x.c i).J)/\w'.cell? (aA d (o+i*8+6))=some (iv (x.c i).to)/\w'.cell? (aA d (o+i*8+7))=some (.slice D (x.c i).F.length I)) (first|(simp[*];done)|go_keep) (fail);have u:∀f:Obj,Ext w (j.alloc f).drew:=λf=>(p.alloc f).drew
 have y2:∀f:Obj,Ext j (j.alloc f).drew:=λf=>(eAl j f).drew
 cases G:((x.c i).st == 2)
 ·have g:¬(x.c i).st=2:=by simpa using G
  have E:=uU (show qZ x y m=(((x.c i).st == 1) && !zH x i) by rw[uH q,if_neg g]);cases H:((x.c i).st == 1)
  ·go_wp2;go_ret;exact⟨by rw[uH E,H];rfl,u _⟩
  go_wp2_with (go_at_call 117;refine(F _ (y2 (oCl (x.c i) (.slice D (x.c i).F.length I)))).mono ?_;rintro e w' ⟨rfl,rfl⟩);go_ret;exact⟨by rw[uH E,H];simp,u _⟩
 have g:(x.c i).st=2:=by simpa using G
 go_wp2;go_ret;exact⟨by rw[(show qZ x y m=m by rw[uH q,if_pos g])];rfl,u _⟩
theorem b3z[qr](hz:∀q,(default:uL).z q=none)(x:Hp)(w:World)(hR:SlW w (.slice ar x.B.length kr) x.B)(hC:SlC w (.slice ac x.A.length kc) x.A)(hG:SlI w (.slice ag x.D.length kg) x.D)(h0:0<x.B.length)(n1:x.B.length<=100)(n2:x.A.length<=8000)(n3:∀q,q<x.A.length->(x.c q).F.length<=200)(n4:x.D.length<=8000):
  Calls prog 15 #[x.v (.slice ar x.B.length kr) (.slice ac x.A.length kc) (.slice ag x.D.length kg)] w λe w'=>∃g,e=.returned (.pointer (some ⟨g,0,none⟩))/\Hid (∃ar kr ac kc vg br bc pb pa pk role,GAt w.heap.size w' g x ar kr ac kc vg br bc pb pa pk role)/\Ext w w':=by
 have⟨w3,hw3⟩:∃W,W=w.alloc (oHp x (.slice ar x.B.length kr) (.slice ac x.A.length kc) (.slice ag x.D.length kg)):=⟨_,rfl⟩;have hs3:w3.heap.size=w.heap.size+1:=by rw[hw3];simp
 have X3:Ext w w3:=by rw[hw3];exact (hO w).alloc (oHp x (.slice ar x.B.length kr) (.slice ac x.A.length kc) (.slice ag x.D.length kg))
 have SR:=uU (SlW.ext X3 hR);have SC:=uU (SlC.ext X3 hC);have SG:=uU (SlI.ext X3 hG);have BH:=uU (show cK w3 w.heap.size x (.slice ar x.B.length kr) (.slice ac x.A.length kc) (.slice ag x.D.length kg) by rw[hw3];exact cK.new w x _ _ _ _);have⟨iw,hiw,hw0,hw1,hw2⟩:=info_parts b0z;have⟨iq,hiq,hq0,hq1,hq2⟩:=info_parts a2n;have⟨ic,hic,hc0,hc1,hc2⟩:=info_parts a7v;have⟨ii,hii,hi0,hi1,hi2⟩:=info_parts a6h;clear hR hC hG;go_in;go_wp21;rw[<-hw3,<-hs3];have hlt3:w.heap.size<w3.heap.size:=by omega
 clear hw3 hs3;go_loopw [18] (λi wr=>∃(k:Nat)(av:Option Addr)(kv:Nat),k<=x.B.length/\i=.int .i64 k/\Hid (wr.ownsRow (w3.heap.size+1) 48 3 (.slice av k kv) k ((x.B.take k).flatMap fW))/\Hid (cK wr w3.heap.size x (.slice av k kv) (.slice ac x.A.length kc) (.slice ag x.D.length kg)/\(∀o,wr.frozen? ⟨w3.heap.size,o,none⟩=false))/\Hid (Ext w3 wr)) (λi _=>x.B.length-(intOf i).toNat)
 case atStart=>exact⟨0,none,0,kB _,rfl,mB _ _ _ _,(show cK (w3.alloc (oHp x (.slice none 0 0) (.slice ac x.A.length kc) (.slice ag x.D.length kg))) w3.heap.size x (.slice none 0 0) (.slice ac x.A.length kc) (.slice ag x.D.length kg)/\(∀o,(w3.alloc (oHp x (.slice none 0 0) (.slice ac x.A.length kc) (.slice ag x.D.length kg))).frozen? ⟨w3.heap.size,o,none⟩=false) from⟨cK.new w3 x _ _ _ _,λo=>by simp[go_sem]⟩),(hO w3).alloc _⟩
 case round=>
  obtain⟨k,av,kv,hk,rfl,hown,hgc,hex⟩:=hrel;by_cases hlt:k<x.B.length
  ·have⟨b',o,har,p0,p1,p2⟩:∃b' o,ar=some ⟨b',o,none⟩/\yD w3 b' (o+k*3) x.B[k]:=by
    have⟨ad,cap,e,_,hx⟩:=uH SR;simp only[Value.slice.injEq]at e;rw[e.1];exact hx k hlt
   subst har;have p0:=(uH hex).keep p0;have p1:=(uH hex).keep p1;have p2:=(uH hex).keep p2;have g3:=(uH hgc).1.2.2.2.1;have hbg:=cLt g3;have hk0:=i0N k;have hk1:(k:Int)<(x.B.length:Int):=by omega
   have ETK:=uU (show x.B.take (k+1)=x.B.take k++[x.B[k]] by rw[kx hlt]);obtain⟨y,ey⟩:=obE (x.B[k]);rw[<-ey]at p0 p1 p2 ETK;clear ey;go_wp2_with (at_builtin;refine wpList_append_lies _ rfl _ _ 23 rfl (w3.heap.size+1) 48 iw (.agg #[iv 0,iv 0,iv 0]) 3 24 underlying23 hiw hw0 hw1 hw2 rfl (by decide) _ k ((x.B.take k).flatMap fW) rfl (((uH hown).alloc _).alloc _) _ 1 1 (fW y) rfl rfl ?c1 ?c2 (by decide) ?c3 ?c4 ?c5 _ rfl ?_)
   case c1=>intro j u hj;obtain _|_|_|j:=j <;> simp[fW]at hj <;> subst hj <;> simp[go_sem]
   case c2=>intro u hu;simp[fW]at hu;obtain e|e|e:=hu <;> subst e <;> rfl
   case c3=>unfold maxLen;omega
   case c4=>omega
   case c5=>simp;omega
   intro gb cap5 w5 hown5 hgrow hat hglt;have xb:=(eAl wr (oWd y)).alloc (oWd y);have BP:=b3u (o:=3) (u:=.slice (some ⟨gb,0,none⟩) (k+1) cap5) (bg:=w3.heap.size) (Nat.lt_succ_self _) ((uH hex).trans xb) (((uH hown).alloc _).alloc _) (hT _) (kF hbg xb.size) hgrow hown5;have eb:w5.heap[w3.heap.size]?=wr.heap[w3.heap.size]?:=(hgrow.block w3.heap.size (kF hbg xb.size) (λe=>by have:=((uH hown).lt _ e.symm).1;omega)).trans (xb.block _ hbg);have g5:=(cOb w3.heap.size 3 eb).trans g3;have f5:=(fOb w3.heap.size 3 eb).trans ((uH hgc).2 3);have HB:=((uH hgc).1.block eb).set3 (.slice (some ⟨gb,0,none⟩) (k+1) cap5);have FZ:=uU (show ∀o,(w5.setCell (aA w3.heap.size 3) (.slice (some ⟨gb,0,none⟩) (k+1) cap5)).frozen? ⟨w3.heap.size,o,none⟩=false from λo=>by rw[ki];exact(mR (a:=⟨w3.heap.size,o,none⟩) eb).trans ((uH hgc).2 o));clear hown5 hgrow hat xb eb;go_wp21;go_roundw
   case rel=>
    refine⟨k+1,some ⟨gb,0,none⟩,cap5,hlt,by go_num,?_,⟨uH HB,uH FZ⟩,(uH BP).2.1⟩;rw[uH ETK,nS];refine uU ?_;simpa using (uH BP).1
   simp[intOf];omega
  have hk2:k=x.B.length:=by omega
  subst hk2;have OW:=uU (show wr.ownsRow (w3.heap.size+1) 48 3 (.slice av x.B.length kv) x.B.length (x.B.flatMap fW) by have:=uH hown;rw[mG]at this;exact this);obtain⟨w6,hw6⟩:∃W,W=wr:=⟨_,rfl⟩;subst hw6;have g4:=(uH hgc).1.2.2.2.2.1;have f4:=(uH hgc).2 4;have hbg:=cLt g4;have b4:=(uH hex).keep (uH BH).2.2.2.2.1;have C0:=uU (show CS x w3 w6 (w6.setCell (aA w3.heap.size 4) (.slice none 0 0)) (.slice av x.B.length kv) (.slice none 0 0) (.slice ag x.D.length kg) 0 [] from
   ⟨mB _ _ _ _,by simp,λz hz=>by simp at hz,λi j hi=>by simp at hi,(uH hgc).1.set4 _,λo=>by rw[ki];exact(uH hgc).2 o,tJ w6 w3.heap.size 4 _,(uH hex).setCell (hT _) _,hbg⟩)
  clear hown hgc hex hlt hk;go_wp21;clear g4 f4 b4;go_loopw [33] (λi wr=>∃(k:Nat)(avc:Option Addr)(kvc:Nat)(L:List (Cl×Value)),k<=x.A.length/\i=.int .i64 k/\Hid (CS x w3 w6 wr (.slice av x.B.length kv) (.slice avc k kvc) (.slice ag x.D.length kg) k L)) (λi _=>x.A.length-(intOf i).toNat)
  case atStart=>exact⟨0,none,0,[],kB _,rfl,uH C0⟩
  case round=>
   clear C0;have⟨wn,hwn⟩:∃W,W=wr:=⟨_,rfl⟩;subst hwn;obtain⟨k,avc,kvc,L,hk,rfl,hcs⟩:=hrel;by_cases hlt:k<x.A.length
   ·have⟨bc,oc,hac,hbc3,vp0,p0,p1,p2,p3,p4,p5,p6,p7,hP⟩:∃bc oc,ac=some ⟨bc,oc,none⟩/\bc<w3.heap.size/\b9v w3 bc (oc+k*8) (x.c k):=by
     have⟨ad,cap,e,_,hx⟩:=uH SC;have⟨b2,o2,e2,q⟩:=hx k hlt;rw[Hp.c_eq x k hlt]at q;simp only[Value.slice.injEq]at e;exact⟨b2,o2,e.1.trans e2,let ⟨_,p0,_⟩:=q;uQ p0,q⟩
    subst hac;obtain⟨ap,kp,rfl,_,hPx⟩:=hP;have CP:=uU hPx;have X:=(uH hcs).ex;have p0:=X.keep p0;have p1:=X.keep p1;have p2:=X.keep p2;have p3:=X.keep p3;have p4:=X.keep p4;have p5:=X.keep p5;have p6:=X.keep p6;have p7:=X.keep p7;have hl200:=n3 k hlt;have hk0:=i0N k;have hk1:(k:Int)<(x.A.length:Int):=by omega
    clear hPx X;go_wp21;have hsz2:((wn.alloc (oCl (x.c k) (.slice ap (x.c k).F.length kp))).alloc (oCl (x.c k) (.slice none 0 0))).heap.size=wn.heap.size+2:=by simp
    have HZ2:=uU hsz2;clear p0 p1 p2 p3 p4 p5 p6 p7 hsz2;go_loopw [42] (λi wr=>∃(p:Nat)(avp:Option Addr)(kvp:Nat),p<=(x.c k).F.length/\i=.int .i64 p/\Hid (wr.ownsRow (wn.heap.size+2) 53 6 (.slice avp p kvp) p (((x.c k).F.take p).flatMap fP))/\Hid (CB wn wr (x.c k) ap kp (.slice avp p kvp))/\wn.heap.size+2<=wr.heap.size) (λi _=>(x.c k).F.length-(intOf i).toNat)
    case atStart=>exact⟨0,none,0,kB _,rfl,mB _ _ _ _,(CB.V wn (x.c k) ap kp 51 51),by rw[uH HZ2];exact hT _⟩
    case round=>
     obtain⟨p,avp,kvp,hp,rfl,hown,hcb,hsz⟩:=hrel;by_cases hpt:p<(x.c k).F.length
     ·have⟨bp,op,hap,q0,q1,q2,q3,q4,q5⟩:=uH CP p hpt;subst hap;have XX:=(uH hcs).ex.trans (uH hcb).ex;have q0:=XX.keep q0;have q1:=XX.keep q1;have q2:=XX.keep q2;have q3:=XX.keep q3;have q4:=XX.keep q4;have q5:=XX.keep q5;have ETP:=uU (show(x.c k).F.take (p+1)=(x.c k).F.take p++[(x.c k).F[p]] by rw[kx hpt]);have⟨y,ey⟩:=obE ((x.c k).F[p]);rw[<-ey]at q0 q1 q2 q3 q4 q5 ETP;clear ey XX;have hp0:=i0N p;have hp1:(p:Int)<((x.c k).F.length:Int):=by omega
      have n7:=(uH hcb).n7;have hbn:wn.heap.size+1<wr.heap.size:=uQ n7;go_wp2_with (at_builtin;refine wpList_append_lies _ rfl _ _ 49 rfl (wn.heap.size+2) 53 iq (.agg #[iv 0,iv 0,iv 0,iv 0,iv 0,iv 0]) 6 48 underlying49 hiq hq0 hq1 hq2 rfl (by decide) _ p (((x.c k).F.take p).flatMap fP) rfl (((uH hown).alloc _).alloc _) _ 1 1 (fP y) rfl rfl ?c1 ?c2 (by decide) ?c3 ?c4 ?c5 _ rfl ?_)
      case c1=>intro j u hj;obtain _|_|_|_|_|_|j:=j <;> simp[fP]at hj <;> subst hj <;> simp[go_sem]
      case c2=>intro u hu;simp[fP]at hu;obtain e|e|e|e|e|e:=hu <;> subst e <;> rfl
      case c3=>unfold maxLen;omega
      case c4=>omega
      case c5=>simp;omega
      intro gb cap5 w5 hown5 hgrow hat hglt;have xb:=(eAl wr (oPr y)).alloc (oPr y);have BP:=CB.push ((uH hcb).ext xb) (((uH hown).alloc _).alloc _) (by omega) hgrow hown5;have eb:w5.heap[wn.heap.size+1]?=wr.heap[wn.heap.size+1]?:=(hgrow.block (wn.heap.size+1) (kF hbn xb.size) (λe=>by have:=((uH hown).lt _ e.symm).1;omega)).trans (xb.block _ hbn);have g5:=(cOb (wn.heap.size+1) 7 eb).trans n7;have f5:=(fOb (wn.heap.size+1) 7 eb).trans ((uH hcb).f 7);have hsz9:wn.heap.size+2<=(w5.setCell (aA (wn.heap.size+1) 7) (.slice (some ⟨gb,0,none⟩) (p+1) cap5)).heap.size:=by have h1:=hgrow.size;simp at h1;simp only[World.setCell,Array.size_modify];omega
      clear hown5 hgrow hat xb eb;go_wp21;go_roundw
      case rel=>
       refine⟨p+1,some ⟨gb,0,none⟩,cap5,hpt,by go_num,?_,(uH BP).2,hsz9⟩;rw[uH ETP,nS];refine uU ?_;simpa using (uH BP).1
      simp[intOf];omega
     have hp2:p=(x.c k).F.length:=by omega
     subst hp2;have CS1:=(uH hcs).ext (uH hcb).ex;have c4:=(uH CS1).bx.2.2.2.2.1;have⟨s0,s1,s2,s3,s4,s5,s6⟩:=(uH hcb).n;simp only[Nat.zero_add]at s1 s2 s3 s4 s5 s6;have s7:=(uH hcb).n7;have hbg2:=cLt c4;have HP:=uU (show wr.ownsRow (wn.heap.size+2) 53 6 (x.c k,Value.slice avp (x.c k).F.length kvp).2 (x.c k,Value.slice avp (x.c k).F.length kvp).1.F.length ((x.c k,Value.slice avp (x.c k).F.length kvp).1.F.flatMap fP) by
      have:=uH hown;rw[mG]at this;exact this)
     have h67:w6.heap.size<=wn.heap.size+2:=by have:=(uH hcs).on.size;omega
     have h6r:w6.heap.size<=wr.heap.size:=by omega
     clear hpt hp;go_wp2_with (at_builtin;refine wpList_append_lies _ rfl _ _ 24 rfl w6.heap.size 51 ic (.agg #[iv 0,iv 0,iv 0,iv 0,iv 0,iv 0,iv 0,.slice none 0 0]) 8 80 underlying24 hic hc0 hc1 hc2 rfl (by decide) _ k (L.flatMap fC) rfl ((uH CS1).own.alloc _) _ 1 1 (fC (x.c k,Value.slice avp (x.c k).F.length kvp)) rfl rfl ?c1 ?c2 (by decide) ?c3 ?c4 ?c5 _ rfl ?_)
     case c1=>intro j u hj;obtain _|_|_|_|_|_|_|_|j:=j <;> simp[fC]at hj <;> subst hj <;> simp[go_sem]
     case c2=>intro u hu;simp[fC]at hu;obtain e|e|e|e|e|e|e|e:=hu <;> subst e <;> rfl
     case c3=>unfold maxLen;omega
     case c4=>omega
     case c5=>first|exact h6r|omega|(simp;omega)
     intro gb cap5 w5 hown5 hgrow hat hglt;have xb:=(hO wr).alloc (oCl (x.c k) (.slice avp (x.c k).F.length kvp));have PU:=CS.push (g:=gb) ((uH CS1).ext xb) hlt (show(x.c k,Value.slice avp (x.c k).F.length kvp).1=x.A[k] from(Hp.c_eq x k hlt).symm) hgrow hown5 rfl (by simpa using hat) (uN (uH HP) (λq hq=>xb.block q ((uH HP).lt q hq).2)) h67 (show ∀q,(Value.slice avc k kvc).ownBlock=some q->q<wn.heap.size+2 from λq e=>by have:=((uH hcs).own.lt q e).2;omega) (show ∀y,y∈L->∀q,y.2.ownBlock=some q->q<wn.heap.size+2 from λy hy q e=>by have:=(((uH hcs).F y hy).1.lt q e).2;omega);have eb:w5.heap[w3.heap.size]?=wr.heap[w3.heap.size]?:=(hgrow.block w3.heap.size (kF hbg2 xb.size) (λe=>by have:=((uH CS1).own.lt _ e.symm).1;have:=(uH CS1).lt;omega)).trans (xb.block _ hbg2);have d4:=(cOb w3.heap.size 4 eb).trans c4;have df:=(fOb w3.heap.size 4 eb).trans ((uH CS1).fz 4);clear hown5 hgrow hat xb eb;go_wp21;go_roundw
     case rel=>exact⟨k+1,some ⟨gb,0,none⟩,cap5,_,hlt,by go_num,uH PU⟩
     simp[intOf];omega
   have hk2:k=x.A.length:=by omega
   subst hk2;have CSE:=uH hcs;have g8:=(uH CSE).bx.2.2.2.2.2.2.2.2.1;have f8:=(uH CSE).fz 8;have hbgn:=cLt g8;have b8:=(uH CSE).ex.keep (uH BH).2.2.2.2.2.2.2.2.1;have Q0:cK (wn.setCell (aA w3.heap.size 8) (.slice none 0 0)) w3.heap.size x (.slice av x.B.length kv) (.slice avc x.A.length kvc) (.slice none 0 0)/\Nf1 w3.heap.size (wn.setCell (aA w3.heap.size 8) (.slice none 0 0))/\uZ (λq=>q=w3.heap.size) wn (wn.setCell (aA w3.heap.size 8) (.slice none 0 0)):=⟨(uH CSE).bx.set8 _,Nf1.set ⟨hbgn,(uH CSE).fz⟩ _ _,tJ wn w3.heap.size 8 _⟩;clear hcs hk hlt;go_wp21;clear g8 f8 b8;go_loopw [64] (λi wr=>∃(k:Nat)(avg:Option Addr)(kvg:Nat),k<=x.D.length/\i=.int .i64 k/\Hid (wr.ownsRow wn.heap.size 3 1 (.slice avg k kvg) k ((x.D.take k).map iv))/\Hid (cK wr w3.heap.size x (.slice av x.B.length kv) (.slice avc x.A.length kvc) (.slice avg k kvg)/\Nf1 w3.heap.size wr/\uZ (λq=>q=w3.heap.size) wn wr)) (λi _=>x.D.length-(intOf i).toNat)
   case atStart=>exact⟨0,none,0,kB _,rfl,mB _ _ _ _,uH Q0⟩
   case round=>
    clear Q0;obtain⟨k,avg,kvg,hk,rfl,hown,hbx⟩:=hrel;have XR:Ext w3 wr:=(uH hbx).2.2.ext (uH CSE).ex (λq hq e=>by omega);by_cases hlt:k<x.D.length
    ·have⟨bg,og,hag,p0⟩:∃bg og,ag=some ⟨bg,og,none⟩/\a8e w3 bg (og+k*1) x.D[k]:=by
      have⟨ad,cap,e,_,hx⟩:=uH SG;simp only[Value.slice.injEq]at e;rw[e.1];exact hx k hlt
     subst hag;have p0:=XR.keep p0;rw[mq]at p0;have g8:=(uH hbx).1.2.2.2.2.2.2.2.2.1;have hbg2:=cLt g8;have hwn:=(uH hbx).2.2.size;have hk0:=i0N k;have hk1:(k:Int)<(x.D.length:Int):=by omega
     have ETK:=uU (show x.D.take (k+1)=x.D.take k++[x.D[k]] by rw[kx hlt]);have⟨y,ey⟩:=obE (x.D[k]);rw[<-ey]at p0 ETK;clear ey;go_wp2_with (at_builtin;refine wpList_append_lies _ rfl _ _ 25 rfl wn.heap.size 3 ii (iv 0) 1 8 underlying25 hii hi0 hi1 hi2 rfl (by decide) _ k ((x.D.take k).map iv) rfl ((uH hown).alloc _) _ 1 1 [iv y] rfl rfl ?c1 ?c2 (by decide) ?c3 ?c4 ?c5 _ rfl ?_)
     case c1=>intro j u hj;obtain _|j:=j <;> simp at hj;subst hj;simp[go_sem]
     case c2=>intro u hu;simp at hu;subst hu;rfl
     case c3=>unfold maxLen;omega
     case c4=>omega
     case c5=>simp;omega
     intro gb cap5 w5 hown5 hgrow hat hglt;have xb:=(hO wr).alloc (.cells #[iv y] 3);have eb:w5.heap[w3.heap.size]?=wr.heap[w3.heap.size]?:=(hgrow.block w3.heap.size (kF hbg2 xb.size) (λe=>by have:=((uH hown).lt _ e.symm).1;omega)).trans (xb.block _ hbg2);have g5:=(cOb w3.heap.size 8 eb).trans g8;have f5:=(fOb w3.heap.size 8 eb).trans ((uH hbx).2.1.2 8);have OW5:=uU (uN (w':=w5.setCell (aA w3.heap.size 8) (.slice (some ⟨gb,0,none⟩) (k+1) cap5)) hown5 (λq hq=>kP _ _ _ _ (λe=>by have h1:=(hown5.lt q hq).1;have e:q=w3.heap.size:=e;omega)));have HB:=uU (show cK (w5.setCell (aA w3.heap.size 8) (.slice (some ⟨gb,0,none⟩) (k+1) cap5)) w3.heap.size x (.slice av x.B.length kv) (.slice avc x.A.length kvc) (.slice (some ⟨gb,0,none⟩) (k+1) cap5)/\Nf1 w3.heap.size (w5.setCell (aA w3.heap.size 8) (.slice (some ⟨gb,0,none⟩) (k+1) cap5))/\uZ (λq=>q=w3.heap.size) wn (w5.setCell (aA w3.heap.size 8) (.slice (some ⟨gb,0,none⟩) (k+1) cap5)) from
      ⟨((uH hbx).1.block eb).set8 _,(uY (uH hbx).2.1 eb (kA xb.size hgrow.size)).set _ _,by
       have on:=(uH hbx).2.2;refine uZ.setCell (S:=λq=>q=w3.heap.size) ?_ (p:=(aA w3.heap.size 8)) rfl _;refine⟨hgrow.os.trans on.os,hgrow.tape.trans on.tape,hgrow.output.trans on.output,kA on.size (kA xb.size hgrow.size),λq hq hne=>?_⟩;have hq2:q<wr.heap.size:=kF hq on.size;exact((hgrow.block q (kF hq2 xb.size) (λe=>by have:=((uH hown).lt q e.symm).1;omega)).trans (xb.block q hq2)).trans (on.block q hq hne)⟩)
     clear hown5 hgrow hat xb eb;go_wp21;go_roundw
     case rel=>
      refine⟨k+1,some ⟨gb,0,none⟩,cap5,hlt,by go_num,?_,uH HB⟩;rw[uH ETK,mr];refine uU ?_;simpa using uH OW5
     simp[intOf];omega
    have hk2:k=x.D.length:=by omega
    subst hk2;have FIN:∃ar kr ac kc vg br bc pb pa pk role,GAt w.heap.size wr w3.heap.size x ar kr ac kc vg br bc pb pa pk role:=by
     have⟨br,bc,pb,pa,pk,role,h⟩:=GAt.V hz (B:=w.heap.size) (uH CSE) (show wn.ownsRow (w3.heap.size+1) 48 3 (.slice av x.B.length kv) x.B.length (x.B.flatMap fW) from uN (uH OW) (λq hq=>(uH CSE).on.block q ((uH OW).lt q hq).2 (by have:=((uH OW).lt q hq).1;omega))) (λq e=>((uH OW).lt q e).2) h0 (by omega) (uH hbx).2.2 (uH hbx).1 (uH hbx).2.1 (by have:=uH hown;rw[mG]at this;exact this);exact⟨_,_,_,_,_,br,bc,pb,pa,pk,role,h⟩
    clear hown hbx;go_wp21;go_ret;exact⟨_,rfl,uH FIN,X3.trans XR⟩
def Up(w w':World):Prop:=Ext w w'
theorem Up.ext(h:Up w w'):Ext w w':=h
theorem a7w{P:Program}{f:FuncId}{args:Array Value}{v:Value}(h:Calls P f args w' λe w''=>e=.returned v/\Ext w' w'')(c:Up w w'):Calls P f args w' λe w''=>e=.returned v/\Up w w'':=
 h.mono λ_ _ ⟨b,a⟩=>⟨b,kI c a⟩
def b2p(x:Hp)(k l:Nat)(p:Pr):Bool:=if zH x k then dY p.key x.A.length && dY p.val x.A.length else qZ x p.key (!eC x k l) && qZ x p.val (!eC x k l)
theorem b7d{l:Nat}{p:Pr}:b2p x k l p=true↔a3d x k l p:=by
 have v:((!eC x k l)=true↔¬cN x k l):=by rw[<-b2n];simp
 unfold b2p a3d;rw[<-a1h v,<-a1h v,<-a0o,<-a0o,<-a2y];cases zH x k <;> simp
theorem c0g(x:Hp)(b:Nat)(w:World)(h:HAt w b x ar kr ac kc ag kg):
  Calls prog 61 #[pP b] w λe w'=>∃r:Bool,e=.returned (.bool r)/\(r=true↔R4 x)/\Ext w w':=by
 have c3:=h.c3;have lr:=h.lr;have lc:=h.lc;go_in;go_wp21;go_loopw [16] (λi wr=>∃k:Nat,k<=x.B.length/\i=iv k/\(∀j (H:j<x.B.length),j<k->hE x x.B[j] False)/\Ext w wr) (λi _=>x.B.length-(intOf i).toNat)
 case atStart=>exact⟨0,kB _,rfl,λj H h=>by omega,hO _⟩
 case round=>
  obtain⟨k,hk,rfl,s,t⟩:=hrel;have HA:=uU s;by_cases u:k<x.B.length
  ·obtain⟨b',o,rfl,p0,p1,p2⟩:=(h.ext t).R k u;have ah:=i0N k;have aa:(k:Int)<(x.B.length:Int):=by omega
   go_wp21;refine(a6k x b x.B[k] false _ (h.ext (t.alloc _))).mono ?_;rintro e I ⟨rfl,g⟩;have x1:Ext w I:=(t.alloc _).trans g;cases q:qZ x x.B[k] false;have N:=uU (show ¬R4 x from λr=>by
    have:=(a1h (m:=false) (p:=False) (by simp)).2 (r.1 k u);rw[this]at q;simp at q)
   go_wp2;go_ret;exact⟨false,rfl,fNo N,x1⟩;have S:=uU (show ∀j (H:j<x.B.length),j<k+1->hE x x.B[j] False from λj H an=>by
    by_cases e:j=k;subst e;exact(a1h (m:=false) (p:=False) (by simp)).1 q;exact HA j H (by omega))
   go_wp2;go_roundw
   case rel=>exact⟨k+1,by omega,by go_num,S,x1⟩
   simp[intOf];omega
  have A1:=uU (show ∀j (H:j<x.B.length),hE x x.B[j] False from λj H=>uH HA j H (by omega));have c4:=(h.ext t).c4;go_wp21;go_loopw [30] (λi wr=>∃k:Nat,k<=x.A.length/\i=iv k/\(∀j,j<k->¬(uW x j/\dH (x.c j))/\∀l,l<(x.c j).F.length->a3d x j l ((x.c j).p l))/\Ext w wr) (λi _=>x.A.length-(intOf i).toNat)
  case atStart=>exact⟨0,kB _,rfl,λj h=>by omega,t⟩
  case round=>
   obtain⟨k,hk,rfl,s,t⟩:=hrel;have HA:=uU s;by_cases u:k<x.A.length
   ·obtain⟨b',o,ap,kp,rfl,C⟩:=(h.ext t).cell k u;obtain⟨p0,p1,p2,p3,p4,p5,p6,p7,lp,P⟩:=C;have HP:=uU P;have ah:=i0N k;have aa:(k:Int)<(x.A.length:Int):=by omega
    obtain⟨V,hV⟩:=obE (wr.alloc (oCl (x.c k) (.slice ap (x.c k).F.length kp)));have E:=uU (show Ext wr V by rw[hV];exact(hO wr).alloc _);have A:=uU (t.trans E);have v3:V.cell? (aA wr.heap.size 3)=some (iv (x.c k).U):=by rw[hV];simp[go_sem]
    have v7:V.cell? (aA wr.heap.size 7)=some (.slice ap (x.c k).F.length kp):=by rw[hV];simp[go_sem]
    have rs:=cLt v7;have F:=a9q x b k _ (h.ext A) (by omega) (by omega);rw[mM]at F;go_wp21;rw[<-hV];clear hV p0 p1 p2 p3 p4 p5 p6 p7;refine F.mono ?_;rintro e I ⟨rfl,U⟩;subst U;obtain⟨m,hm⟩:=obE (zH x k);have HM:=uU hm;rw[<-hm];clear hm F;go_upto_region 11 with fail;go_cut [48] from 38 to 47 (λv W=>∃u:Bool,v=.bool u/\Hid (u=true↔uW x k/\dH (x.c k))/\I=W)
    case first=>cases m <;> cases U:((x.c k).U == 1) <;> cases T:((x.c k).U == 2) <;> (go_wp21;go_meet;exact⟨_,rfl,by show _↔_;rw[<-a2y,<-uH HM];simp at U T;simp[dH,U,T],rfl⟩)
    case rest=>
    obtain⟨j,rfl,X,rfl⟩:=hcut;cases j;rotate_left;have N:=uU (show ¬R4 x from λr=>(r.2 k u).1 (X.1 rfl));go_wp2;go_ret;first|exact .inl ⟨rfl,N,A⟩|exact⟨false,rfl,fNo N,A⟩
    go_wp21;go_loopw [52] (λi G=>∃l:Nat,l<=(x.c k).F.length/\i=iv l/\Hid (∀j,j<l->a3d x k j ((x.c k).p j))/\Ext I G) (λi _=>(x.c k).F.length-(intOf i).toNat)
    case atStart=>exact⟨0,kB _,rfl,λj h=>by omega,hO _⟩
    case round=>
    obtain⟨l,hl,rfl,W,d⟩:=hrel;by_cases v:l<(x.c k).F.length;rotate_left
    ·have S:=uU (show ∀j,j<k+1->¬(uW x j/\dH (x.c j))/\∀l,l<(x.c j).F.length->a3d x j l ((x.c j).p l) from λj H=>by
      by_cases e:j=k;subst e;exact⟨λF=>(by cases X.2 F),λl' ae=>uH W l' (by omega)⟩;exact HA j (by omega))
     go_wp2;go_roundw
     case rel=>exact⟨k+1,by omega,by go_num,S,A.trans d⟩
     simp[intOf];omega
    obtain⟨b2,o2,rfl,q0,q1,q2,q3,q4,q5⟩:=uH HP l v;have z:=E.trans d;have e0:=z.keep q0;have e1:=z.keep q1;have e2:=z.keep q2;have e3:=z.keep q3;have e4:=z.keep q4;have e5:=z.keep q5;have ad:=i0N l;have ai:(l:Int)<((x.c k).F.length:Int):=by omega
    obtain⟨P,hP⟩:=obE (wr.alloc (oPr ((x.c k).p l)));have Q:=uU (show Ext wr P by rw[hP];exact(hO wr).alloc _);have G:=uU (h.ext ((A.trans d).trans Q));have y:=G.c4;have g0:P.cell? (aA wr.heap.size 0)=some (iv ((x.c k).p l).key.k)/\P.cell? (aA wr.heap.size 1)=some (iv ((x.c k).p l).key.n)/\P.cell? (aA wr.heap.size 2)=some (iv ((x.c k).p l).key.a)/\P.cell? (aA wr.heap.size 3)=some (iv ((x.c k).p l).val.k)/\P.cell? (aA wr.heap.size 4)=some (iv ((x.c k).p l).val.n)/\P.cell? (aA wr.heap.size 5)=some (iv ((x.c k).p l).val.a):=by rw[hP];simp[go_sem]
    have Y:=uU (show b2p x k l ((x.c k).p l)=true->Hid (∀j,j<l+1->a3d x k j ((x.c k).p j)) from λc j H=>by
     by_cases e:j=l;subst e;exact b7d.1 c;exact W j (by omega))
    have N:=uU (show b2p x k l ((x.c k).p l)=false->¬R4 x from λc r=>by rw[b7d.2 ((r.2 k u).2 l v)]at c;cases c)
    cases m
    ·have PB:=uU (show b2p x k l ((x.c k).p l)=(qZ x ((x.c k).p l).key (!eC x k l) && qZ x ((x.c k).p l).val (!eC x k l)) by unfold b2p;rw[<-uH HM];rfl);go_wp21;rw[<-hP];clear hP;refine(b8o x b k l _ G).mono ?_;rintro e w2 ⟨rfl,U⟩;subst U;obtain⟨g0,g1,g2,g3,g4,g5⟩:=g0;go_wp21;refine(a6k x b ((x.c k).p l).key (!eC x k l) _ G).mono ?_;rintro e w3 ⟨rfl,T⟩;have g3:=T.keep g3;have g4:=T.keep g4;have g5:=T.keep g5;have J:=uU (Q.trans T);cases O:qZ x ((x.c k).p l).key (!eC x k l)
     ·have N:=uU (N (by rw[uH PB,O];rfl));go_wp2;go_ret;exact⟨false,rfl,fNo N,(A.trans d).trans J⟩
     go_wp21;refine(a6k x b ((x.c k).p l).val (!eC x k l) _ (G.ext T)).mono ?_;rintro e w4 ⟨rfl,T⟩;cases K:qZ x ((x.c k).p l).val (!eC x k l);have N:=uU (N (by rw[uH PB,O,K];rfl));go_wp2;go_ret;exact⟨false,rfl,fNo N,(A.trans d).trans (J.trans T)⟩;have S:=uU (Y (by rw[uH PB,O,K];rfl));go_wp2;go_roundw
     case rel=>exact⟨l+1,by omega,by go_num,S,d.trans (J.trans T)⟩
     simp[intOf];omega
    have PB:=uU (show b2p x k l ((x.c k).p l)=(dY ((x.c k).p l).key x.A.length && dY ((x.c k).p l).val x.A.length) by unfold b2p;rw[<-uH HM];rfl);have F0:∀w',Up P w'->w'.cell? (aA wr.heap.size 0)=some (iv ((x.c k).p l).key.k)/\w'.cell? (aA wr.heap.size 1)=some (iv ((x.c k).p l).key.n)/\w'.cell? (aA wr.heap.size 2)=some (iv ((x.c k).p l).key.a)/\w'.cell? (aA wr.heap.size 3)=some (iv ((x.c k).p l).val.k)/\w'.cell? (aA wr.heap.size 4)=some (iv ((x.c k).p l).val.n)/\w'.cell? (aA wr.heap.size 5)=some (iv ((x.c k).p l).val.a)/\w'.cell? (aA b 4)=some (sO b' o x.A.length kc):=λw' D=>⟨D.ext.keep g0.1,D.ext.keep g0.2.1,D.ext.keep g0.2.2.1,D.ext.keep g0.2.2.2.1,D.ext.keep g0.2.2.2.2.1,D.ext.keep g0.2.2.2.2.2,D.ext.keep y⟩
    clear g0;go_wp21;rw[<-hP];clear hP;cases O:dY ((x.c k).p l).key x.A.length <;> cases K:dY ((x.c k).p l).val x.A.length
    all_goals
     refine wp_region_quiet (C:=Up P) (by kernel_rfl) (by kernel_rfl) (show Ext _ _ from(eDr _)) ?_;go_simp;iterate 20 (first|go_big_quiet_skip|(go_big_quiet_want;go_big_quiet_op;first|go_big_quiet_on|(apply Exists.intro;refine⟨λw' D=>?_,?_⟩;(first|(go_at_call_of 118 (((x.c k).p l).key.k);exact a7w (a5g ((x.c k).p l).key x.A.length _) D)|(go_at_call_of 118 (((x.c k).p l).val.k);exact a7w (a5g ((x.c k).p l).val x.A.length _) D)|(with_reducible rfl)|(go_simp;first|done|(with_reducible rfl)|(refine⟨?_,?_⟩ <;> with_reducible rfl)));go_big_quiet_on)))
     refine wpQuiet_nil ?_;intro I g;have g:=Q.trans g.ext
    rotate_left 3
    ·have S:=uU (Y (by rw[uH PB,O,K];rfl));go_wp2;go_roundw
     case rel=>exact⟨l+1,by omega,by go_num,S,d.trans g⟩
     simp[intOf];omega
    all_goals
     have N:=uU (N (by rw[uH PB,O,K];rfl));go_wp2;go_ret;exact⟨false,rfl,fNo N,(A.trans d).trans g⟩
   have Y:=uU (show R4 x from⟨A1,λi hi=>uH HA i (by omega)⟩);go_wp2;go_ret;exact⟨true,rfl,⟨λ_=>uH Y,λ_=>rfl⟩,t⟩
def HRd(w:World)(y:Hp)(ar:Option Addr)(kr:Nat)(ac:Option Addr)(kc:Nat)(ag:Option Addr)(kg:Nat):Prop:=SlW w (.slice ar y.B.length kr) y.B/\SlC w (.slice ac y.A.length kc) y.A/\SlI w (.slice ag y.D.length kg) y.D
theorem HRd.ext{y:Hp}(h:HRd w y ar kr ac kc ag kg)(e:Ext w w'):HRd w' y ar kr ac kc ag kg:=⟨SlW.ext e h.1,SlC.ext e h.2.1,SlI.ext e h.2.2⟩
theorem HRd.zero(w:World):HRd w Hp0 none 0 none 0 none 0:=⟨yH.nil,yH.nil,yH.nil⟩
theorem GAt.low[qr](hz:∀q,(default:uL).z q=none){S:Nat->Prop}{vg:Value}(h:GAt B w g x ar kr ac kc vg br bc pb pa pk role)(o:uZ S w w')(hS:∀q,S q->q<B):GAt B w' g x ar kr ac kc vg br bc pb pa pk role:=
 ⟨h.bx.only o (λs=>by have:=hS _ s;have:=h.lo;omega),uY h.nf (o.block g h.nf.1 (λs=>by have:=hS _ s;have:=h.lo;omega)) o.size,h.lo,h.ha,h.hc,h.rw.only o (λhl s=>by have:=hS _ s;have:=(h.rw.nr hl).2;omega) (λhl s=>by have:=hS _ s;have:=(h.rw.nc hl).2;omega) (λq hq hl s=>by have:=hS _ s;have:=(h.rw.pl q hq hl).2.2.2;omega),h.gr.block (λq hq=>o.block q (h.gr.lt q hq).2 (λs=>by have:=hS _ s;have:=(h.gr.lt q hq).1;omega)),h.sp,h.kl,λq o h=>(by rw[hz q]at h;cases h),λhk=>(h.cc hk).block rfl (o.block bc (h.cc hk).nf.1 (λs=>by have:=hS _ s;have:=(h.cc hk).lo;omega)) o.size,λn=>h.rob n (o.block br (h.rw.nr n).1.1 (λs=>by have:=hS _ s;have:=(h.rw.nr n).2;omega))⟩
theorem GAt.rd[qr](h:GAt B w g x ar kr ac kc (.slice ag x.D.length kg) br bc pb pa pk role)(j:x.B.length<=1048576)(k:x.A.length<=1048576)(f:∀q,q<x.A.length->(x.c q).F.length<=200)(l:x.D.length<=1048576):HRd w x ar kr ac kc ag kg:=by
 refine⟨h.rw.slW kr h.ha j,h.rw.slC kc h.hc k f,⟨ag,kg,rfl,by omega,λi b=>?_⟩⟩;have⟨a,d,e,c,_⟩:=h.gr.at i b;exact⟨a,d,e,by rw[mq];exact c⟩
structure VAt(w:World)(b:Nat)(x:Hp)(ar:Option Addr)(kr:Nat)(ac:Option Addr)(kc:Nat)(ag:Option Addr)(kg:Nat)(an:Option Addr)(kn:Nat):Prop where
 H:HAt w b x ar kr ac kc ag kg
 n13:w.cell? ⟨b,13,none⟩=some (.slice an x.A.length kn)
 N:∀i,i<x.A.length->∃bn on bc oc,an=some ⟨bn,on,none⟩/\ac=some ⟨bc,oc,none⟩/\w.cell? ⟨bn,on+i*2,none⟩=some (iv i)/\w.cell? ⟨bn,on+i*2+1,none⟩=some (.pointer (some ⟨bc,oc+i*8,none⟩))
theorem VAt.ext(h:VAt w b x ar kr ac kc ag kg an kn)(e:Ext w w'):VAt w' b x ar kr ac kc ag kg an kn:=
 ⟨h.H.ext e,e.keep h.n13,λi c=>let ⟨bn,on,bc,oc,a,a',p,q⟩:=h.N i c;⟨bn,on,bc,oc,a,a',e.keep p,e.keep q⟩⟩
theorem b1i(c:Cl)(a q bc r:Nat)(b:Option Addr)(d:Nat)(w:World)(h:w.cell? (aA a (q+1))=some (pQ bc r))(g:w.cell? (aA bc (r+7))=some (.slice b c.F.length d))(f:c.F.length<=35184372088832):
  Calls prog 156 #[pQ a q] w λe w'=>e=.returned (iv (1+(c.F.length:Int)))/\w'=w:=by
 go_in;go_wp2;go_ret;exact⟨rfl,rfl⟩
theorem b8r(x:Hp)(b:Nat)(w:World)(h:VAt w b x ar kr ac kc ag kg an kn)(hn:x.A.length<=8000)(J:∀i,i<x.A.length->(x.c i).F.length<=200):
  Calls prog 100 #[pP b] w λe w'=>∃r:Bool,e=.returned (.bool r)/\(r=true↔R3 x)/\Ext w w':=by
 have v:=h.n13;have c0:=h.H.c0;have R:=h.H.c1;go_enter func100,ntmps100;go_wp21;go_loop [3,10] (λn i=>∃(k:Nat)(u:Nat),k<=x.A.length/\i=iv k/\n=iv u/\Hid (u=dZ (x.A.take k))/\u<=201*k) (λ_ i=>x.A.length-(intOf i).toNat)
 case atStart=>exact⟨0,0,kB _,rfl,rfl,by show _=_;simp[dZ],by omega⟩
 case round=>
  obtain⟨k,u,K,rfl,rfl,m,G⟩:=hrel;by_cases a:k<x.A.length
  ·obtain⟨b',o,t,C,rfl,Z,M,O,V,X,Q,T,I,A,P⟩:=h.H.cell k a;obtain⟨B,F,L,S,rfl,j,U,y⟩:=h.N k a;cases j;have D:=J k a;have E:(0:Int)<=(k:Int):=by omega
   have s:(k:Int)<(x.A.length:Int):=by omega
   have d:=a5i x.A k a;rw[Hp.c_eq]at d;cases q:((x.c k).st == 1)
   ·have g:¬(x.c k).st=1:=by simpa using q
    have H:Hid (u=dZ (x.A.take (k+1))):=by have:=uH m;show _=_;rw[d,cL,if_neg g];omega
    go_wp2_with (fail);go_round
    case rel=>exact⟨k+1,u,by omega,by go_num,rfl,H,by omega⟩
    case measure=>simp[intOf];omega
   have g:(x.c k).st=1:=by simpa using q
   have H:Hid (u+(1+(x.c k).F.length)=dZ (x.A.take (k+1))):=by have:=uH m;show _=_;rw[d,cL,if_pos g];omega
   go_wp21;refine(b1i (x.c k) B (F+k*2) _ _ t C _ y I A).mono ?_;rintro e w1 ⟨rfl,rfl⟩;go_wp2_with (fail);go_round
   case rel=>exact⟨k+1,u+(1+(x.c k).F.length),by omega,by go_num,by go_num,H,by omega⟩
   case measure=>simp[intOf];omega
  have l:k=x.A.length:=by omega
  have H:=uU (show u=dZ x.A by have:=uH m;rw[l,mG]at this;exact this);cases p:(x.K == (u:Int))
  ·have N:=uU (show ¬R3 x from λr=>by have:=uH H;have:=r.1;simp at p;omega);go_wp2;go_ret;first|(exact kj ⟨rfl,N,hO _⟩)|(exact⟨false,rfl,⟨λf=>by simp at f,λr=>(N r).elim⟩,hO _⟩)
  by_cases W:(u:Int)<=x.M
  ·have Y:=uU (show R3 x by
    have z:=uH H;have j:x.K=(u:Int):=by simpa using p
    exact⟨by rw[j,z],by omega⟩)
   go_wp2;go_ret;first|(exact kz ⟨rfl,Y,hO _⟩)|(exact⟨true,rfl,⟨λ_=>uH Y,λ_=>rfl⟩,hO _⟩)
  have N:=uU (show ¬R3 x from λr=>by
   have j:x.K=(u:Int):=by simpa using p
   have:=r.2;omega)
  go_wp2;go_ret;first|(exact kj ⟨by simp,N,hO _⟩)|(exact⟨false,by simp,⟨λf=>by simp at f,λr=>(N r).elim⟩,hO _⟩)
theorem b3h(x:Hp)(b:Nat)(w:World)(h:VAt w b x ar kr ac kc ag kg an kn):
  Calls prog 105 #[pP b] w λe w'=>∃r:Bool,e=.returned (.bool r)/\(r=true↔R8 x)/\Ext w w':=by
 have u:=h.n13;have T:=h.H.c5;have lc:=h.H.lc;cases n:(x.E == 6)
 ·have Y:=uU (show R8 x from λi v t=>by simp[t.1]at n);have p:(x.E != 6)=true:=by simpa using n
  go_in;go_wp2;go_ret;first|(exact kz ⟨rfl,Y,hO _⟩)|(exact⟨true,rfl,⟨λ_=>uH Y,λ_=>rfl⟩,hO _⟩)
 have p:(x.E != 6)=false:=by simpa using n
 have B:=uU (show x.E=6 by simpa using n);go_in;go_wp21;go_loopw [16] (λi wr=>∃(k:Nat),k<=x.A.length/\i=iv k/\(∀j,j<k->¬(x.E=6/\x.I<=j/\(x.c j).st=2))/\Ext w wr) (λi _=>x.A.length-(intOf i).toNat)
 case atStart=>exact⟨0,kB _,rfl,λj D=>by omega,hO _⟩
 case round=>
  obtain⟨k,F,rfl,l,a⟩:=hrel;have HA:=uU l;by_cases g:k<x.A.length
  ·have m:=h.ext a;obtain⟨b',o,J,W,rfl,p0,I,K,X,Z,L,U,p7,O,P⟩:=m.H.cell k g;obtain⟨Q,on,G,R,rfl,A,V,M⟩:=m.N k g;cases A;have d6:=m.H.c6;have C:=m.n13;have z:=i0N k;have s:(k:Int)<(x.A.length:Int):=by omega
   have d:¬(x.E=6/\x.I<=k/\(x.c k).st=2)->Hid (∀j,j<k+1->¬(x.E=6/\x.I<=j/\(x.c j).st=2)):=λE j D=>by
    by_cases e:j=k;subst e;exact E;exact HA j (by omega)
   cases q:((x.c k).st == 2)
   ·have S:=d (by simp at q;omega);go_wp21;go_quiet (fail);go_wp2;go_roundw
    case rel=>exact⟨k+1,by omega,by go_num,S,Ext.drewN a _⟩
    simp[intOf];omega
   by_cases y:x.I<=(k:Int)
   ·have N:=uU (show ¬R8 x from λr=>r k g ⟨B,y,by simpa using q⟩);go_wp21;go_quiet (fail);go_wp2;go_ret;first|(exact kj ⟨rfl,N,Ext.drewN a _⟩)|(exact⟨false,rfl,fNo N,Ext.drewN a _⟩)
   have S:=d (by omega);go_wp21;go_quiet (fail);go_wp2;go_roundw
   case rel=>exact⟨k+1,by omega,by go_num,S,Ext.drewN a _⟩
   simp[intOf];omega
  have Y:=uU (show R8 x from λi v=>uH HA i (by omega));go_wp2;go_ret;first|(exact kz ⟨rfl,Y,a⟩)|(exact⟨true,rfl,⟨λ_=>uH Y,λ_=>rfl⟩,a⟩)
def tH(c:Cl):Bool:=(c.st == 1) && (c.J == 0)
def a0p(c:Cl):Bool:=(c.U == 1) || (c.U == 2)
theorem a2z{c:Cl}:a0p c=true↔dH c:=by simp[a0p,dH]
theorem b1j(c:Cl)(a q bc r:Nat)(b:Option Addr)(d:Nat)(w:World)(i:w.cell? (aA a (q+1))=some (pQ bc r))(h:CAt w bc r c b d):
  Calls prog 167 #[pQ a q] w λe w'=>e=.returned (.bool (tH c))/\w'=w:=by
 have g:=h.p0;have f:=h.p5;cases t:(c.st == 1);all_goals
  go_in;go_wp2;go_ret;exact⟨by simp[tH,t],rfl⟩
theorem a8t(c:Cl)(a q bc r:Nat)(b:Option Addr)(d:Nat)(w:World)(g:w.cell? (aA a (q+1))=some (pQ bc r))(h:CAt w bc r c b d):
  Calls prog 166 #[pQ a q] w λe w'=>e=.returned (.bool (a0p c))/\w'=w:=by
 have f:=h.p3;cases t:(c.U == 1);all_goals
  go_in;go_wp2;go_ret;exact⟨by simp[a0p,t],rfl⟩
def a1i(x:Hp):Bool:=(x.E == 1) || (x.E == 2)
theorem b2q(x:Hp)(b:Nat)(w:World)(a:w.cell? (aA b 5)=some (iv x.E)):
  Calls prog 162 #[pP b] w λe w'=>e=.returned (.bool (a1i x))/\w'=w:=by
 cases t:(x.E == 1)
 all_goals
  go_in;go_wp2;go_ret;exact⟨by simp[a1i,t],rfl⟩
theorem d0r(c:Cl)(a q bc r:Nat)(b:Option Addr)(d:Nat)(s:Bool)(g:tH c=s)(w:World)(f:w.cell? (aA a (q+1))=some (pQ bc r))(h:CAt w bc r c b d):
  Calls prog 167 #[pQ a q] w λe w'=>e=.returned (.bool s)/\w'=w:=by grind[Hp.c,tH,HAt.cell,b1j]
theorem b4c(x:Hp)(b i:Nat)(w:World)(h:VAt w b x ar kr ac kc ag kg an kn)(k:i<x.A.length)(d f:Nat)(D:an=some (aA d f)):
  Calls prog 158 #[pP b,pQ d (f+i*2)] w λe w'=>e=.returned (.bool (zH x i))/\Ext w w':=by
 obtain⟨B,p,l,r,g,rfl,F,o⟩:=h.N i k;rw[D]at g;cases g;have⟨u,A,m,t,v,C⟩:=h.H.cell i k;cases v;have E:=h.H.c5;have G:=h.H.c6;cases z:(x.E == 3)
 ·go_in;go_wp21;go_quiet (fail);go_wp2;go_ret;exact⟨by simp[zH,z],(hO w).drewN _⟩
 cases a:tH (x.c i)
 all_goals
  go_in;go_wp21;go_quiet ((go_at_call 167;exact Calls.quiet_of_same ((λn s (y:tH (x.c i)=s)=>d0r (x.c i) d (f+i*2) l (r+i*8) m t s y (w.drewN n) (((hO w).drewN n).keep o) (C.ext ((hO w).drewN n))) _ _ a)));go_wp2;go_ret
 exact⟨by unfold tH at a;unfold zH;cases q:((x.c i).st == 1) <;> simp_all,(hO w).drewN _⟩;exact⟨by unfold tH at a;unfold zH;simp_all,(hO w).drewN _⟩
theorem b1k(x:Hp)(b:Nat)(y:Wd)(l:Bool)(w:World)(h:VAt w b x ar kr ac kc ag kg an kn):
  Calls prog 157 #[pP b,y.v,.bool l] w λe w'=>e=.returned (.bool (qZ x y (!l)))/\Ext w w':=by
 go_in;go_wp21;refine(a8u y b x.A.length an kn _ (Ext.keep (eAl w _) h.n13) h.H.lc).mono ?_;rintro e B ⟨rfl,g⟩;have q:Ext w B:=kI (eAl w _) g;have R:=g.keep (b:=w.heap.size) (o:=0) (v:=iv y.k) (by simp[go_sem]);have V:=g.keep (b:=w.heap.size) (o:=1) (v:=iv y.n) (by simp[go_sem]);have J:=g.keep (b:=w.heap.size) (o:=2) (v:=iv y.a) (by simp[go_sem]);cases s:dY y x.A.length
 ·have E:=uU (show qZ x y (!l)=false by simp[qZ,s]);go_wp21;go_ret;exact⟨by rw[uH E];rfl,q⟩
 cases p:(y.k == 2)
 ·have E:=uU (show qZ x y (!l)=true by simp[qZ,s,p]);go_wp21;refine(a3j y b _ p).mono ?_;rintro e t ⟨rfl,d⟩;go_wp21;go_ret;exact⟨by rw[uH E];rfl,q.trans d⟩
 have P:y.k=2:=by simpa using p
 have L:=a0o.1 s;unfold uJ at L;have O:0<=y.a/\y.a<x.A.length:=by omega
 have r:=uU (show qZ x y (!l)=(if (x.c y.a.toNat).st=2 then !l else ((x.c y.a.toNat).st == 1) && !zH x y.a.toNat) by simp[qZ,s,P]);obtain⟨i,F⟩:=km O.1;rw[F]at r J;rw[mM]at r;have j:i<x.A.length:=by omega
 clear P L O F;have m:=h.ext q;obtain⟨G,M,Y,oc,rfl,rfl,T,D⟩:=m.N i j;obtain⟨U,X,Z,kp,W,C⟩:=m.H.cell i j;cases W;have Q:=uU (λw' (e:Ext B w')=>b4c x b i w' (m.ext e) j G M rfl);have S:=uU (a1f y b x.A.length G M kn i B p m.n13 j);clear h m;go_wp21;refine S.mono ?_;rintro e t ⟨rfl,d⟩;have u:Ext w t:=q.trans d;have u1:=d.keep D;have r0:=d.keep C.p0;have z:=uU (Q t d);clear C T D R V J;cases I:((x.c i).st == 2)
 ·have f:¬(x.c i).st=2:=by simpa using I
  have E:=uU (show qZ x y (!l)=(((x.c i).st == 1) && !zH x i) by rw[uH r,if_neg f]);cases K:((x.c i).st == 1)
  ·go_wp21;go_ret;exact⟨by rw[uH E,K];rfl,u⟩
  go_wp2_with (go_at_call 158;refine z.mono ?_;rintro e w3 ⟨rfl,A⟩);go_ret;exact⟨by rw[uH E,K];simp,u.trans A⟩
 have f:(x.c i).st=2:=by simpa using I
 have E:=uU (show qZ x y (!l) = !l by rw[uH r,if_pos f]);clear f;go_wp21;go_ret;exact⟨by rw[uH E];rfl,u⟩
theorem b6o(x:Hp)(b k:Nat)(w:World)(h:VAt w b x ar kr ac kc ag kg an kn)(A:k<x.A.length)(K L:Nat)(ha:an=some (aA K L)):
  Calls prog 160 #[pP b,pQ K (L+k*2)] w λe w'=>∃r:Bool,e=.returned (.bool r)/\(r=true↔∀l,l<(x.c k).F.length->hE x ((x.c k).p l).key (¬cN x k l)/\hE x ((x.c k).p l).val (¬cN x k l))/\Ext w w':=by
 obtain⟨ad,U,bc,oc,I,rfl,m0,m1⟩:=h.N k A;rw[ha]at I;cases I;have⟨aa,W,ap,kp,Q,C⟩:=h.H.cell k A;cases Q;have p7:=C.p7;have lp:=C.lp;go_in;go_wp21;go_loopw [16] (λi wr=>∃l:Nat,l<=(x.c k).F.length/\i=iv l/\(∀j,j<l->hE x ((x.c k).p j).key (¬cN x k j)/\hE x ((x.c k).p j).val (¬cN x k j))/\Ext w wr) (λi _=>(x.c k).F.length-(intOf i).toNat)
 case atStart=>exact⟨0,kB _,rfl,λj h=>by omega,hO _⟩
 case round=>
  obtain⟨l,hl,rfl,t,d⟩:=hrel;by_cases m:l<(x.c k).F.length
  ·obtain⟨b2,o2,rfl,q0,X,q2,Z,V,q5⟩:=C.P l m;have e0:=d.keep q0;have I:=d.keep X;have Q:=d.keep q2;have e3:=d.keep Z;have e4:=d.keep V;have e5:=d.keep q5;have ab:=i0N l;have ae:(l:Int)<((x.c k).F.length:Int):=by omega
   have q:=d.alloc (oPr ((x.c k).p l));have z:((!eC x k l)=true↔¬cN x k l):=by rw[<-b2n];simp
   have R:=a1h (x:=x) (y:=((x.c k).p l).key) z;have T:=a1h (x:=x) (y:=((x.c k).p l).val) z;go_wp21;have E:=h.ext q;refine(c4c x b K (L+k*2) k l _ E.H.c5 E.H.c6 E.H.c7 (q.keep m0)).mono ?_;rintro e w2 ⟨rfl,s⟩;have M:=q.trans s;have u:=λ(o:Nat) (v:Value) (hc:(wr.alloc (oPr ((x.c k).p l))).cell? (aA wr.heap.size o)=some v)=>s.keep hc
   have u0:=u 0 _ (by simp[go_sem];rfl);have u1:=u 1 _ (by simp[go_sem];rfl);have u2:=u 2 _ (by simp[go_sem];rfl);go_wp21;refine(b1k x b ((x.c k).p l).key (eC x k l) _ (h.ext M)).mono ?_;rintro e w3 ⟨rfl,g⟩;have B:=M.trans g;have v3:=g.keep (u 3 _ (by simp[go_sem];rfl));have v4:=g.keep (u 4 _ (by simp[go_sem];rfl));have v5:=g.keep (u 5 _ (by simp[go_sem];rfl));cases J:qZ x ((x.c k).p l).key (!eC x k l)
   ·have N:¬(∀l,l<(x.c k).F.length->hE x ((x.c k).p l).key (¬cN x k l)/\hE x ((x.c k).p l).val (¬cN x k l)):=λr=>by
     have:=R.2 (r l m).1;rw[this]at J;simp at J
    go_wp2;go_ret;first|(exact kj ⟨rfl,N,B⟩)|(exact⟨false,rfl,fNo N,B⟩)
   go_wp21;refine(b1k x b ((x.c k).p l).val (eC x k l) _ (h.ext B)).mono ?_;rintro e w4 ⟨rfl,D⟩;have F:=B.trans D;cases G:qZ x ((x.c k).p l).val (!eC x k l)
   ·have N:¬(∀l,l<(x.c k).F.length->hE x ((x.c k).p l).key (¬cN x k l)/\hE x ((x.c k).p l).val (¬cN x k l)):=λr=>by
     have:=T.2 (r l m).2;rw[this]at G;simp at G
    go_wp2;go_ret;first|(exact kj ⟨rfl,N,F⟩)|(exact⟨false,rfl,fNo N,F⟩)
   have S:∀j,j<l+1->hE x ((x.c k).p j).key (¬cN x k j)/\hE x ((x.c k).p j).val (¬cN x k j):=λj hj=>by
    by_cases e:j=l;subst e;exact⟨R.1 J,T.1 G⟩;exact t j (by omega)
   go_wp2;go_roundw
   case rel=>exact⟨l+1,by omega,by go_num,S,F⟩
   simp[intOf];omega
  have Y:∀l,l<(x.c k).F.length->hE x ((x.c k).p l).key (¬cN x k l)/\hE x ((x.c k).p l).val (¬cN x k l):=λj hj=>uH t j (by omega);go_wp2;go_ret
  first|(exact kz ⟨rfl,Y,d⟩)|(exact⟨true,rfl,⟨λ_=>uH Y,λ_=>rfl⟩,d⟩)
theorem b4d(x:Hp)(b k:Nat)(w:World)(h:VAt w b x ar kr ac kc ag kg an kn)(t:k<x.A.length)(F G:Nat)(ha:an=some (aA F G)):
  Calls prog 159 #[pP b,pQ F (G+k*2)] w λe w'=>∃r:Bool,e=.returned (.bool r)/\(r=true↔(∀l,l<(x.c k).F.length->uJ ((x.c k).p l).key x.A.length/\uJ ((x.c k).p l).val x.A.length)/\¬dH (x.c k))/\Ext w w':=by
 obtain⟨ae,V,R,oc,z,rfl,m0,T⟩:=h.N k t;rw[ha]at z;cases z;have⟨aa,ab,W,kp,K,C⟩:=h.H.cell k t;cases K;have p7:=C.p7;have lp:=C.lp;go_in;go_wp21;go_loopw [15] (λi wr=>∃l:Nat,l<=(x.c k).F.length/\i=iv l/\(∀j,j<l->uJ ((x.c k).p j).key x.A.length/\uJ ((x.c k).p j).val x.A.length)/\Ext w wr) (λi _=>(x.c k).F.length-(intOf i).toNat)
 case atStart=>exact⟨0,kB _,rfl,λj h=>by omega,hO _⟩
 case round=>
  obtain⟨l,hl,rfl,s,d⟩:=hrel;have J:=uU s;by_cases g:l<(x.c k).F.length
  ·obtain⟨b2,o2,rfl,X,q1,q2,Q,q4,q5⟩:=C.P l g;have e0:=d.keep X;have z:=d.keep q1;have K:=d.keep q2;have e3:=d.keep Q;have e4:=d.keep q4;have e5:=d.keep q5;have U:=i0N l;have ad:(l:Int)<((x.c k).F.length:Int):=by omega
   have m:=d.alloc (oPr ((x.c k).p l));go_wp21;refine(a8u ((x.c k).p l).key b x.A.length an kn _ (h.ext m).n13 h.H.lc).mono ?_;rintro e w3 ⟨rfl,q⟩;have y:=m.trans q;have u:=λ(o:Nat) (v:Value) (hc:(wr.alloc (oPr ((x.c k).p l))).cell? (aA wr.heap.size o)=some v)=>q.keep hc
   have v3:=u 3 _ (by simp[go_sem];rfl);have v4:=u 4 _ (by simp[go_sem];rfl);have v5:=u 5 _ (by simp[go_sem];rfl);cases B:dY ((x.c k).p l).key x.A.length
   ·have N:¬((∀l,l<(x.c k).F.length->uJ ((x.c k).p l).key x.A.length/\uJ ((x.c k).p l).val x.A.length)/\¬dH (x.c k)):=λr=>by
     have:=a0o.2 (r.1 l g).1;rw[this]at B;simp at B
    go_wp2;go_ret;first|(exact kj ⟨rfl,N,y⟩)|(exact⟨false,rfl,fNo N,y⟩)
   go_wp21;refine(a8u ((x.c k).p l).val b x.A.length an kn _ (h.ext y).n13 h.H.lc).mono ?_;rintro e w4 ⟨rfl,E⟩;have D:=y.trans E;cases A:dY ((x.c k).p l).val x.A.length
   ·have N:¬((∀l,l<(x.c k).F.length->uJ ((x.c k).p l).key x.A.length/\uJ ((x.c k).p l).val x.A.length)/\¬dH (x.c k)):=λr=>by
     have:=a0o.2 (r.1 l g).2;rw[this]at A;simp at A
    go_wp2;go_ret;first|(exact kj ⟨rfl,N,D⟩)|(exact⟨false,rfl,fNo N,D⟩)
   have S:∀j,j<l+1->uJ ((x.c k).p j).key x.A.length/\uJ ((x.c k).p j).val x.A.length:=λj hj=>by
    by_cases e:j=l;subst e;exact⟨a0o.1 B,a0o.1 A⟩;exact J j (by omega)
   go_wp2;go_roundw
   case rel=>exact⟨l+1,by omega,by go_num,S,D⟩
   simp[intOf];omega
  have I:=uU (a8t (x.c k) F (G+k*2) R (oc+k*8) W kp wr (d.keep T) (C.ext d));cases L:a0p (x.c k)
  ·have Z:(∀l,l<(x.c k).F.length->uJ ((x.c k).p l).key x.A.length/\uJ ((x.c k).p l).val x.A.length)/\¬dH (x.c k):=⟨(show ∀l,l<(x.c k).F.length->uJ ((x.c k).p l).key x.A.length/\uJ ((x.c k).p l).val x.A.length from λj hj=>uH J j (by omega)),λM=>by rw[<-a2z,L]at M;simp at M⟩;go_wp2_with (go_at_call 166;refine I.mono ?_;rintro e w' ⟨rfl,rfl⟩);go_ret;first|(exact kz ⟨by simp,Z,d⟩)|(exact⟨true,by simp,⟨λ_=>uH Z,λ_=>rfl⟩,d⟩)
  have N:¬((∀l,l<(x.c k).F.length->uJ ((x.c k).p l).key x.A.length/\uJ ((x.c k).p l).val x.A.length)/\¬dH (x.c k)):=λr=>r.2 (a2z.1 L);go_wp2_with (go_at_call 166;refine I.mono ?_;rintro e w' ⟨rfl,rfl⟩);go_ret
  first|(exact kj ⟨by simp,N,d⟩)|(exact⟨false,by simp,fNo N,d⟩)
theorem b6p(x:Hp)(b:Nat)(w:World)(h:VAt w b x ar kr ac kc ag kg an kn):
  Calls prog 101 #[pP b] w λe w'=>∃r:Bool,e=.returned (.bool r)/\(r=true↔R4 x)/\Ext w w':=by
 have c3:=h.H.c3;have lr:=h.H.lr;have lc:=h.H.lc;go_in;go_wp21;go_loopw [13] (λi wr=>∃k:Nat,k<=x.B.length/\i=iv k/\(∀j (n:j<x.B.length),j<k->hE x x.B[j] False)/\Ext w wr) (λi _=>x.B.length-(intOf i).toNat)
 case atStart=>exact⟨0,kB _,rfl,λj n h=>by omega,hO _⟩
 case round=>
  obtain⟨k,Q,rfl,g,d⟩:=hrel;have HA:=uU g;by_cases a:k<x.B.length
  ·obtain⟨b',o,rfl,p0,p1,p2⟩:=(h.ext d).H.R k a;have I:=i0N k;have D:(k:Int)<(x.B.length:Int):=by omega
   go_wp21;refine(b1k x b x.B[k] true _ (h.ext (d.alloc _))).mono ?_;rintro e X ⟨rfl,G⟩;have K:Ext w X:=(d.alloc _).trans G;cases q:qZ x x.B[k] (!true);have N:¬R4 x:=λr=>by
    have:=(a1h (m:=!true) (p:=False) (by simp)).2 (r.1 k a);rw[this]at q;simp at q
   go_wp2;go_ret;first|(exact kj ⟨rfl,N,K⟩)|(exact⟨false,rfl,fNo N,K⟩)
   have S:∀j (n:j<x.B.length),j<k+1->hE x x.B[j] False:=λj n Z=>by
    by_cases e:j=k;subst e;exact(a1h (m:=!true) (p:=False) (by simp)).1 q;exact HA j n (by omega)
   go_wp2;go_roundw
   case rel=>exact⟨k+1,by omega,by go_num,S,K⟩
   simp[intOf];omega
  have T:=uU (show ∀j (n:j<x.B.length),hE x x.B[j] False from λj n=>uH HA j n (by omega));have L:=(h.ext d).n13;go_wp21;go_loopw [27] (λi wr=>∃k:Nat,k<=x.A.length/\i=iv k/\(∀j,j<k->¬(uW x j/\dH (x.c j))/\∀l,l<(x.c j).F.length->a3d x j l ((x.c j).p l))/\Ext w wr) (λi _=>x.A.length-(intOf i).toNat)
  case atStart=>exact⟨0,kB _,rfl,λj h=>by omega,d⟩
  case round=>
   obtain⟨k,Q,rfl,g,d⟩:=hrel;have HA:=uU g;by_cases a:k<x.A.length
   ·have A:=h.ext d;obtain⟨F,J,bc,oc,rfl,rfl,m0,m1⟩:=A.N k a;have L:=A.n13;have I:=i0N k;have D:(k:Int)<(x.A.length:Int):=by omega
    go_wp21;refine(b4c x b k _ A a F J rfl).mono ?_;rintro e w2 ⟨rfl,z⟩;have P:=A.ext z;have M:=d.trans z;cases O:zH x k
    ·have C:=uU (show ¬uW x k from λs=>by rw[<-a2y,O]at s;simp at s);go_wp21;refine(b6o x b k _ P a F J rfl).mono ?_;rintro e U ⟨r,rfl,y,v⟩;have t:=M.trans v;cases r
     ·have N:¬R4 x:=λB=>by
       have:=y.2 (λl u=>((B.2 k a).2 l u).2 C);simp at this
      go_wp2;go_ret;first|(exact kj ⟨rfl,N,t⟩)|(exact⟨false,rfl,fNo N,t⟩)
     have S:∀j,j<k+1->¬(uW x j/\dH (x.c j))/\∀l,l<(x.c j).F.length->a3d x j l ((x.c j).p l):=λj n=>by
      by_cases e:j=k;subst e;exact⟨λs=>uH C s.1,λl u=>⟨λs=>(C s).elim,λ_=>y.1 rfl l u⟩⟩;exact HA j (by omega)
     go_wp2;go_roundw
     case rel=>exact⟨k+1,by omega,by go_num,S,t⟩
     simp[intOf];omega
    have E:=a2y.1 O;go_wp21;refine(b4d x b k _ P a F J rfl).mono ?_;rintro e U ⟨r,rfl,y,v⟩;have t:=M.trans v;cases r
    ·have N:¬R4 x:=λB=>by
      have:=y.2 ⟨λl u=>((B.2 k a).2 l u).1 E,λV=>(B.2 k a).1 ⟨E,V⟩⟩;simp at this
     go_wp2;go_ret;first|(exact kj ⟨rfl,N,t⟩)|(exact⟨false,rfl,fNo N,t⟩)
    have S:∀j,j<k+1->¬(uW x j/\dH (x.c j))/\∀l,l<(x.c j).F.length->a3d x j l ((x.c j).p l):=λj n=>by
     by_cases e:j=k;subst e;exact⟨λs=>(y.1 rfl).2 s.2,λl u=>⟨λ_=>(y.1 rfl).1 l u,λW=>(W E).elim⟩⟩;exact HA j (by omega)
    go_wp2;go_roundw
    case rel=>exact⟨k+1,by omega,by go_num,S,t⟩
    simp[intOf];omega
   have Y:R4 x:=⟨T,λi hi=>uH HA i (by omega)⟩;go_wp2;go_ret;first|(exact kz ⟨rfl,Y,d⟩)|(exact⟨true,rfl,⟨λ_=>uH Y,λ_=>rfl⟩,d⟩)
theorem a6p(b:Nat)(w:World)(a:w.cell? (aA b 8)=some (.slice ag 0 kg)):
  Calls prog 164 #[pP b] w λe w'=>e=.returned (.slice none 0 0)/\w'=w:=by
 go_in;go_wp2;go_ret;exact⟨rfl,rfl⟩
theorem a6q(x:Hp)(b i:Nat)(w:World)(h:VAt w b x ar kr ac kc ag kg an kn)(t:0<x.D.length)(s:x.D[0]=(i:Int))(d:i<x.A.length)(bc g:Nat)(j:Option Addr)(k:Nat)(u:ac=some (aA bc g))(C:CAt w bc (g+i*8) (x.c i) j k):
  Calls prog 164 #[pP b] w λe w'=>e=.returned (.slice j (x.c i).F.length k)/\∃m,w'=w.drewN m:=by
 obtain⟨y,A,n,o,rfl,f,v,D⟩:=h.N i d;rw[u]at f;cases f;obtain⟨E,z,rfl,a⟩:=h.H.G 0 t;unfold a8e at a;rw[s]at a;simp only[Nat.zero_mul,Nat.add_zero]at a;have B:=h.H.c8;have q:=h.n13;have F:=C.p7;have l:((x.D.length:Int) == 0)=false:=beq_eq_false_iff_ne.2 (by omega);have r:=i0N i;have p:(i:Int)<(x.A.length:Int):=by omega
 go_in;go_wp21;go_quiet (fail);go_wp2;go_ret;exact⟨rfl,_,rfl⟩
theorem b4e(x:Hp)(b:Nat)(w:World)(c:w.cell? (aA b 6)=some (iv x.A.length))(a:w.cell? (aA b 13)=some (.slice an x.A.length kn)):
  Calls prog 165 #[pP b] w λe w'=>e=.returned (.slice none 0 0)/\∃m,w'=w.drewN m:=by
 go_in;go_wp21;go_quiet (fail);go_wp2;go_ret;exact⟨rfl,_,rfl⟩
theorem b4f(x:Hp)(b i:Nat)(w:World)(h:VAt w b x ar kr ac kc ag kg an kn)(r:x.I=(i:Int))(a:i<x.A.length)(bc f:Nat)(g:Option Addr)(j:Nat)(s:ac=some (aA bc f))(C:CAt w bc (f+i*8) (x.c i) g j):
  Calls prog 165 #[pP b] w λe w'=>e=.returned (.slice g (x.c i).F.length j)/\∃m,w'=w.drewN m:=by
 obtain⟨u,y,k,l,rfl,d,t,z⟩:=h.N i a;rw[s]at d;cases d;have p:=h.H.c6;rw[r]at p;have o:=h.n13;have A:=C.p7;have v:((i:Int) == (x.A.length:Int))=false:=beq_eq_false_iff_ne.2 (by omega);have q:=i0N i;have n:(i:Int)<(x.A.length:Int):=by omega
 go_in;go_wp21;go_quiet (fail);go_wp21;go_quiet (fail);go_wp2;go_ret;exact⟨rfl,_,by rw[World.drewN_drewN]⟩
theorem b6q(y:Wd)(b:Nat)(w:World)(c:(y.k == 2)=false):
  Calls prog 210 #[pP b,y.v] w λe w'=>e=.returned (.bool false)/\Ext w w':=by
 go_in;go_wp21;refine(a3j y b _ c).mono ?_;rintro e d ⟨rfl,a⟩;go_wp2;go_ret;exact⟨rfl,kI (eAl w _) a⟩
theorem b1m(x:Hp)(b:Nat)(w:World)(h:VAt w b x ar kr ac kc ag kg an kn)(r1:R1 x)(Q:R2 x)(P:R5 x):
  Calls prog 103 #[pP b] w λe w'=>∃r:Bool,Hid (e=.returned (.bool r))/\(r=true↔R6 x)/\Ext w w':=by
 have R:=h.H.c5;have N:=h.H.c6;have S:=h.H.c7;obtain⟨O,G⟩:=r1.E;obtain⟨B,I⟩:=r1.I;have K:=r1.sub.1;have d:x.E=0\/x.E=1\/x.E=2\/x.E=3\/x.E=4\/x.E=5\/x.E=6:=by omega
 obtain a|a|a|a|a|a|a:=d
 ·have Y:=uU (c6c (x:=x) (kj a));cases q:(x.I == 0);all_goals
   go_in;go_wp2;go_ret;exact⟨_,rfl,by have:=uH Y;rw[q]at this;simpa using this,hO _⟩
 ·have Y:=uU (R6_1 (x:=x) (kj a));go_in;go_wp2;go_ret;exact⟨_,rfl,Y,hO _⟩
 ·cases q:(x.I == 0)
  ·have Y:=uU (show ¬R6 x from λr=>by have:=(r.2.1 a).1;simp at q;omega);go_in;go_wp21;go_quiet (fail);go_wp2;go_ret;exact⟨false,rfl,fNo Y,(hO _).drewN _⟩
  by_cases m:x.D.length=0
  ·have Y:=uU (show decide (x.sub<=0)=true↔R6 x by
    have u:x.I=0:=by simpa using q
    unfold R6;simp[a,m,u];omega)
   have D:=h.H.c8;rw[m]at D;have k:=uU (λn=>a6p b (w.drewN n) (((hO w).drewN n).keep D));go_in;go_wp21;go_quiet ((go_at_call 164;exact Calls.quiet_of_same (k _)));go_wp2;go_ret;exact⟨_,rfl,Y,(hO _).drewN _⟩
  have g:0<x.D.length:=by omega
  have s:=P.2.2 x.D[0] (k7 g);obtain⟨i,l⟩:=km s.1;have L:x.g0=i:=by simp[Hp.g0,g,l]
  have Y:=uU (show decide (x.sub<=((x.c i).F.length:Int))=true↔R6 x by
   have u:x.I=0:=by simpa using q
   have z:x.D≠[]:=λe=>by simp[e]at m
   unfold R6;rw[L];simp[a,z,u])
  obtain⟨A,o,t,v,y,C⟩:=h.H.cell i (by omega);have k:=uU (λn=>a6q x b i (w.drewN n) (h.ext ((hO w).drewN n)) g l (by omega) A o t v y (C.ext ((hO w).drewN n)));go_in;go_wp21;go_quiet ((go_at_call 164;exact Calls.quiet_of (k _)));go_wp2;go_ret;exact⟨_,rfl,Y,(hO _).drewN _⟩
 ·have Y:=uU (R6_1 (x:=x) (kz (kj a)));go_in;go_wp2;go_ret;exact⟨_,rfl,Y,hO _⟩
 ·have Y:=uU (c6c (x:=x) (kz a));cases q:(x.I == 0);all_goals
   go_in;go_wp2;go_ret;exact⟨_,rfl,by have:=uH Y;rw[q]at this;simpa using this,hO _⟩
 ·obtain⟨i,l⟩:=km B;by_cases j:i<x.A.length;focus
   have Y:=uU (show decide (x.sub<=((x.c i).F.length:Int))=true↔R6 x by
    have M:¬(i:Int)=(x.A.length:Int):=by omega
    by_cases p:(x.c i).st=1;unfold R6;simp[a,l,p,M];have J:(x.c i).F.length=0:=by
     obtain c|c|c:=Q.1 i j;exact c.2.1.2.2.2.2.2;exact c.2.1.2.2.2.2.2;exact absurd c.1 p
    unfold R6;simp[a,l,p,J];omega)
   obtain⟨A,o,t,v,y,C⟩:=h.H.cell i j;have k:=uU (λn=>b4f x b i (w.drewN n) (h.ext ((hO w).drewN n)) l j A o t v y (C.ext ((hO w).drewN n)))
  rotate_left
  focus
   have F:x.I=x.A.length:=by omega
   have Y:=uU (show decide (x.sub<=0)=true↔R6 x by
    unfold R6;simp[a,F];omega)
   have E:=N;rw[F]at E;have k:=uU (λn=>b4e x b (w.drewN n) (((hO w).drewN n).keep E) (((hO w).drewN n).keep h.n13))
  all_goals
   go_in;go_wp21;go_quiet ((go_at_call 165;exact Calls.quiet_of (k _)));go_wp2;go_ret;exact⟨_,rfl,Y,(hO _).drewN _⟩
 have Y:=uU (R6_1 (x:=x) (kz (kz a)));go_in;go_wp2;go_ret;exact⟨_,rfl,Y,hO _⟩
def hwB(x:Hp)(y:Wd):Bool:=(y.k == 2) && tH (x.c y.a.toNat)
theorem b4g(x:Hp)(y:Wd)(b i:Nat)(w:World)(h:VAt w b x ar kr ac kc ag kg an kn)(z:(y.k == 2)=true)(f:i<x.A.length):
  Calls prog 210 #[pP b,.agg #[iv y.k,iv y.n,iv i]] w λe w'=>e=.returned (.bool (tH (x.c i)))/\Ext w w':=by
 obtain⟨g,j,m,r,rfl,rfl,B,q⟩:=h.N i f;have⟨t,v,p,s,u,C⟩:=h.H.cell i f;cases u;have l:=(hO w).alloc (.cells #[iv y.k,iv y.n,iv i] 48);go_in;go_wp21;refine(a1f y b x.A.length g j kn i _ z (l.keep h.n13) f).mono ?_;rintro e D ⟨rfl,o⟩;have d:=l.trans o;go_wp21;refine(b1j (x.c i) g (j+i*2) m (r+i*8) p s _ (d.keep q) (C.ext d)).mono ?_;rintro e A ⟨rfl,rfl⟩;go_wp2;go_ret;exact⟨rfl,d⟩
theorem a6r(x:Hp)(y:Wd)(b:Nat)(w:World)(h:VAt w b x ar kr ac kc ag kg an kn)(g:uJ y x.A.length):
  Calls prog 210 #[pP b,y.v] w λe w'=>e=.returned (.bool (hwB x y))/\Ext w w':=by
 cases d:(y.k == 2)
 have:hwB x y=false:=by simp[hwB,d]
 rw[this];exact b6q y b w d;have f:0<=y.a/\y.a<x.A.length:=by simp at d;unfold uJ at g;omega
 have e:hwB x y=tH (x.c y.a.toNat):=by simp[hwB,d]
 rw[e];have:=b4g x y b y.a.toNat w h d (by omega);rwa [qh f.1]at this
theorem a9s(x:Hp)(b n cap:Nat)(C:Option Addr)(f:Nat->Pr)(w:World)(h:VAt w b x ar kr ac kc ag kg an kn)
  (lp:n<=35184372088832) (P:∀k,k<n->∃b' o',C=some (aA b' o')/\qY w b' (o'+k*6) (f k)) (O:∀k,k<n->uJ (f k).key x.A.length/\uJ (f k).val x.A.length) :
  Calls prog 169 #[pP b,.slice C n cap] w λe w'=>∃r:Bool,Hid (e=.returned (.bool r))/\(r=true↔∃k,k<n/\(hwB x (f k).key=true\/hwB x (f k).val=true))/\Ext w w':=by
 go_in;go_wp21;go_loopw [9] (λi wr=>∃l:Nat,l<=n/\i=iv l/\(∀j,j<l->¬(hwB x (f j).key=true\/hwB x (f j).val=true))/\Ext w wr) (λi _=>n-(intOf i).toNat)
 case atStart=>exact⟨0,kB _,rfl,λj h=>by omega,hO _⟩
 case round=>
  obtain⟨l,V,rfl,q,c⟩:=hrel;have A:=uU q;by_cases d:l<n
  ·obtain⟨Z,U,rfl,F,M,H,D,K,I⟩:=P l d;have p:=O l d;have e0:=c.keep F;have R:=c.keep M;have e2:=c.keep H;have e3:=c.keep D;have T:=c.keep K;have W:=c.keep I;have E:=i0N l;have L:(l:Int)<(n:Int):=by omega
   have g:=c.alloc (oPr (f l));go_wp21;refine(a6r x (f l).key b _ (h.ext g) p.1).mono ?_;rintro e Q ⟨rfl,m⟩;have s:=g.trans m;have u:=λ(o:Nat) (v:Value) (hc:(wr.alloc (oPr (f l))).cell? (aA wr.heap.size o)=some v)=>m.keep hc
   have u3:=u 3 _ (by simp[go_sem];rfl);have u4:=u 4 _ (by simp[go_sem];rfl);have u5:=u 5 _ (by simp[go_sem];rfl);cases B:hwB x (f l).key
   ·go_wp21;refine(a6r x (f l).val b _ (h.ext s) p.2).mono ?_;rintro e X ⟨rfl,t⟩;have z:=s.trans t;cases y:hwB x (f l).val
    ·have S:∀j,j<l+1->¬(hwB x (f j).key=true\/hwB x (f j).val=true):=λj hj=>by
      by_cases e:j=l;subst e;simp[B,y];exact A j (by omega)
     go_wp2;go_roundw
     case rel=>exact⟨l+1,by omega,by go_num,S,z⟩
     simp[intOf];omega
    have Y:∃k,k<n/\(hwB x (f k).key=true\/hwB x (f k).val=true):=⟨l,d,.inr y⟩;go_wp2;go_ret;exact⟨true,rfl,⟨λ_=>uH Y,λ_=>rfl⟩,z⟩
   go_wp2;go_ret;exact⟨true,rfl,⟨λ_=>(show ∃k,k<n/\(hwB x (f k).key=true\/hwB x (f k).val=true) from⟨l,d,.inl B⟩),λ_=>rfl⟩,s⟩
  go_wp2;go_ret;exact⟨false,rfl,fNo (show ¬∃k,k<n/\(hwB x (f k).key=true\/hwB x (f k).val=true) from λ⟨k,hk,hh⟩=>uH A k (by omega) hh),c⟩
structure FAt(w:World)(b:Nat)(x:Hp)(base:Nat)(vf:Value)(F:List Int):Prop where
 L:eX w base b 14 vf F
 O:Ho F
 P:F.Perm (a6u x x.A.length)
theorem FAt.ext(h:FAt w b x base vf F)(e:Ext w w'):FAt w' b x base vf F:=⟨h.L.ext e,h.O,h.P⟩
theorem a4t(x:Hp)(k:Nat)(z:Int):z∈a6u x k↔∃i,i<k/\(x.c i).st=0/\(i:Int)=z:=by
 unfold a6u;rw[a1j];simp[a5k,a6s]
theorem d0w(P:F.Perm (a6u x x.A.length))(h:F.length=0)(k:Nat)(a:k<x.A.length):(x.c k).st≠0:=λe=>by
 have:(k:Int)∈F:=P.mem_iff.2 ((a4t _ _ _).2 ⟨k,a,e,rfl⟩);rw[nw.1 h]at this;cases this
theorem d0x(P:F.Perm (a6u x x.A.length))(O:Ho F)(h:0<F.length)(t:Nat)(d:t<x.A.length)(f:(x.c t).st=1):
  (t:Int)<it F 0↔∀k:Nat,k<t->(x.c k).st≠0:=by
 constructor;intro b k a e;have:=O.least (P.mem_iff.2 ((a4t _ _ _).2 ⟨k,by omega,e,rfl⟩));omega;grind[a4t,a3s,a6u,Ho,Hp.c,it]
theorem b6r(x:Hp)(b i:Nat)(w:World)(h:VAt w b x ar kr ac kc ag kg an kn)(hF:FAt w b x base vf F)(hi:i<x.A.length)(U V:Nat)(ha:an=some (aA U V)):
  Calls prog 154 #[pP b,pQ U (V+i*2)] w λe w'=>∃r:Bool,Hid (e=.returned (.bool r))/\(r=true↔qD x i (x.c i))/\Ext w w':=by
 obtain⟨az,ab,bc,oc,G,rfl,m0,m1⟩:=h.N i hi;rw[ha]at G;cases G;obtain⟨ao,ae,ap,kp,Q,C⟩:=h.H.cell i hi;cases Q;have c5:=h.H.c5;have av:=h.n13;have lc:=h.H.lc;have p6:=C.p6;have o:=uU (λn s (hs:a8k (x.c i)=s)=>bare_is (x.c i) U (V+i*2) bc (oc+i*8) ap kp s hs (w.drewN n) (((hO w).drewN n).keep m1) (C.ext ((hO w).drewN n)));have HV:=uU h;have a:=uU hF;subst ha;go_in;go_upto_region 1 with fail;go_cut [33] from 7 to 32 (λv W=>∃u:Bool,v=.bool u/\Hid (u=(decide (x.E<4) || !a8k (x.c i) || !cH (x.c i).to 0 ((i:Int)-1)))/\∃n,W=w.drewN n)
 case first=>
  cases K:decide (x.E<4)
  focus have bb:=of_decide_eq_false K
  rotate_left
  focus have bb:=of_decide_eq_true K
  rotate_left
  cases l:a8k (x.c i)
  rotate_left
  cases D:cH (x.c i).to 0 ((i:Int)-1)
  all_goals
   go_wp21;go_quiet (first|(go_at_call 152;exact Calls.quiet_of_same (o _ _ l))|(go_at_call 30;first|(refine Calls.quiet_of_same (a0q _ _ _ false ?_ _);assumption)|(refine Calls.quiet_of_same (a0q _ _ _ true ?_ _);assumption)));go_wp21;go_meet;exact⟨_,rfl,by show _=_;simp only[*];rfl,_,rfl⟩
 case rest=>
 obtain⟨u,rfl,U,n,rfl⟩:=hcut;cases u;rotate_left;have N:=uU (show ¬qD x i (x.c i) from λm=>by have:=uH U;rw[a7x.2 m.1,show cH (x.c i).to 0 ((i:Int)-1)=true from decide_eq_true ⟨m.2.2.1,by have:=m.2.2.2.1;omega⟩]at this;simp at this;have:=m.2.1;omega);go_wp2;go_ret;exact⟨false,rfl,fNo N,(hO w).drewN _⟩;have z:=uH U;simp at z;have am:=a0f z.2;obtain⟨t,B⟩:∃t:Nat,(x.c i).to=(t:Int):=⟨(x.c i).to.toNat,by omega⟩;have y:t<x.A.length:=by omega
 obtain⟨ak,aq,al,aj,G,Q,k0,k1⟩:=HV.N t y;cases G;cases Q;obtain⟨ah,ai,aa,ba,e3,C3⟩:=HV.H.cell t y;cases e3;have s0:=C3.p0;have aw:=i0N t;have ax:(t:Int)<(x.A.length:Int):=by omega
 have j:=uU (show qD x i (x.c i)↔(x.c t).st=1/\(x.E=4->∀k:Nat,k<t->(x.c k).st≠0) by
  unfold qD;rw[B];have e:∀k:Nat,(k:Int)<(t:Int)↔k<t:=λk=>by omega
  simp only[e,Int.toNat_natCast];simp[a7x.1 z.1.2,z.1.1];omega)
 rw[B]at p6;clear z am B;cases E:((x.c t).st == 1);have N:=uU (show ¬qD x i (x.c i) from λm=>by have:=(j.1 m).1;simp[this]at E);have R:((x.c t).st != 1)=true:=by simpa using E
 go_wp21;go_quiet (fail);go_wp2;go_ret;exact⟨false,rfl,fNo N,by first|exact((hO w).drewN _).drewN _|exact(hO w).drewN _⟩;have R:((x.c t).st != 1)=false:=by simpa using E
 obtain⟨g,d,T,Z⟩:∃(g:Int)(d:Bool),Hid (∀n,Calls prog 206 #[pQ b 14] (w.drewN n) λe w'=>e=.returned (.tuple #[iv g,.bool d])/\w'=w.drewN n)/\Hid ((d=true->g > (t:Int))↔∀k:Nat,k<t->(x.c k).st≠0):=by
  have a:=uH a;by_cases X:F.length=0;obtain⟨ad,d,rfl⟩:=a.L.empty X;exact⟨0,false,λn=>a5e _ b 14 ad d (((hO w).drewN n).keep a.L.hd),λ_ k M=>d0w a.P X k (by omega),nofun⟩;obtain⟨g,d,rfl,_⟩:=a.L.form (by omega);exact⟨_,true,λn=>a2o _ b 14 g 0 F.length d _ (by omega) (((hO w).drewN n).keep a.L.hd) (((hO w).drewN n).keep (a.L.cell 0 (by omega))),by show _↔_;rw[<-d0x a.P a.O (by omega) t y (by simpa using E)];simp⟩
 cases q:(x.E != 4) <;> cases d <;> by_cases S:g > (t:Int) <;> (go_wp21;go_quiet (fail);go_wp21;refine(T _).mono ?_;rintro e I ⟨rfl,rfl⟩;go_wp2;go_ret;refine⟨_,rfl,?_,by first|exact((hO w).drewN _).drewN _|exact(hO w).drewN _⟩;rw[uH j,<-uH Z];simp at E q;simp[E,q,S])
theorem a2e:a1i x=true↔uD x:=by simp[a1i,uD]
theorem a8w(x:Hp)(b:Nat)(s:Bool)(c:a1i x=s)(w:World)(a:w.cell? (aA b 5)=some (iv x.E)):
  Calls prog 162 #[pP b] w λe w'=>e=.returned (.bool s)/\w'=w:=by
 rw[<-c];exact b2q x b w a
def a0e(x:Hp)(i:Nat):Bool:=a1i x || ((x.E == 3) && decide (x.I<=(i:Int)))
theorem a8m:a0e x i=true↔a3u x i:=by
 simp[a0e,a3u,a2e]
theorem a6w(x:Hp)(b g q i:Nat)(w:World)(k:w.cell? (aA b 5)=some (iv x.E))(l:w.cell? (aA b 6)=some (iv x.I))(m:w.cell? (aA g q)=some (iv i)):
  Calls prog 161 #[pP b,pQ g q] w λe w'=>e=.returned (.bool (a0e x i))/\Ext w w':=by
 have c:=uU (λn s (j:a1i x=s)=>a8w x b s j (w.drewN n) (((hO w).drewN n).keep k));cases a:a1i x
 ·cases f:(x.E == 3)
  ·have E:=uU (show a0e x i=false by simp[a0e,a,f]);go_in;go_wp21;go_quiet ((go_at_call 162;exact Calls.quiet_of_same (c _ _ a)));go_wp2;go_ret;exact⟨by rw[uH E];rfl,(hO w).drewN _⟩
  ·by_cases d:x.I<=(i:Int)
   focus have E:=uU (show a0e x i=true by simp[a0e,f,d])
   rotate_left
   focus
    have E:=uU (show a0e x i=false by simp[a0e,a];omega);have h:decide (x.I<=(i:Int))=false:=decide_eq_false d
   all_goals
    go_in;go_wp21;go_quiet ((go_at_call 162;exact Calls.quiet_of_same (c _ _ a)));go_wp2;go_ret;exact⟨by rw[uH E];rfl,(hO w).drewN _⟩
 ·have E:=uU (show a0e x i=true by simp[a0e,a]);go_in;go_wp21;go_quiet ((go_at_call 162;exact Calls.quiet_of_same (c _ _ a)));go_wp2;go_ret;exact⟨by rw[uH E];rfl,(hO w).drewN _⟩
def b8u(x:Hp):Prop:=(∀g,g∈x.D->(0<=g/\g<x.A.length)/\(x.c g.toNat).J=1)/\x.D.Nodup
theorem b8v(x:Hp)(k:Nat)(h:k<x.D.length):x.D[k]=it x.D k:=b2m _ _ h
theorem a9v(x:Hp)(b:Nat)(w:World)(h:VAt w b x ar kr ac kc ag kg an kn)(hn:x.D.length<=8000):
  Calls prog 163 #[pP b] w λe w'=>∃r:Bool,Hid (e=.returned (.bool r))/\(r=true↔b8u x)/\Ext w w':=by
 have c8:=h.H.c8;have hb:=cLt c8;have lc:=h.H.lc;have HV:=uU h;go_in;go_wp21;go_loopw [12] (λi wr=>∃(k:Nat)(v:Value)(m:List Int),k<=x.D.length/\i=iv k/\Hid (∀j,j<k->(0<=it x.D j/\it x.D j<x.A.length)/\(x.c (it x.D j).toNat).J=1)/\eX wr w.heap.size w.heap.size 0 v m/\Ho m/\m.Perm (x.D.take k)/\Ext w wr) (λi _=>x.D.length-(intOf i).toNat)
 case atStart=>exact⟨0,_,[],kB _,rfl,λj J=>by omega,eX.nil (by simp[go_sem]) (by simp[go_sem]),Ho.nil,by simp,(hO w).alloc _⟩
 case round=>
  obtain⟨k,v,m,B,rfl,HA,ls,ho,T,a⟩:=hrel;have l:=uU ls;have W:=uU ho;have Y:=uU T;have s:m.length<=1000000000:=by have:=T.length_eq;simp at this;omega
  by_cases d:k<x.D.length
  ·have F:=HV.ext a;obtain⟨bg,og,rfl,u⟩:=F.H.G k d;unfold a8e at u;rw[b8v x k d]at u;have ae:=F.n13;have o:=uU F;have af:=i0N k;have aa:(k:Int)<(x.D.length:Int):=by omega
   obtain⟨y,O⟩:∃z,it x.D k=z:=⟨_,rfl⟩;rw[O]at u;have U:=uU O;have p:=uU (show y∈x.D by rw[<-O];exact a3s _ _ d);have S:w.heap.size<=wr.heap.size:=a.size;simp only[Nat.mul_one]at u;cases n:cH y 0 ((x.A.length:Int)-1)
   ·have N:=uU (show ¬b8u x from λr=>by have:=a8j n;have:=(r.1 y p).1;omega);go_wp21;refine(a0q _ _ _ false n _).mono ?_;rintro e K ⟨rfl,rfl⟩;go_wp2;go_ret;exact⟨false,rfl,fNo N,a⟩
   obtain⟨i,hi⟩:∃i:Nat,y=(i:Int):=⟨y.toNat,by have:=a0f n;omega⟩;subst hi;have t:i<x.A.length:=by have:=a0f n;omega
   obtain⟨bn,on,bc,oc,e1,e2,m0,m1⟩:=o.N i t;subst e1;subst e2;obtain⟨ad,ab,ap,kp,e3,C⟩:=o.H.cell i t;cases e3;have p5:=C.p5;have I:=i0N i;have Q:(i:Int)<(x.A.length:Int):=by omega
   cases D:((x.c i).J == 1)
   ·have M:((x.c i).J != 1)=true:=by simpa using D
    have N:=uU (show ¬b8u x from λr=>by have:=(r.1 _ p).2;simp at this D;omega);go_wp21;refine(a0q _ _ _ true n _).mono ?_;rintro e K ⟨rfl,rfl⟩;go_wp2;go_ret;exact⟨false,rfl,fNo N,a⟩
   have M:((x.c i).J != 1)=false:=by simpa using D
   have OK:=uU (show ∀j,j<k+1->(0<=it x.D j/\it x.D j<x.A.length)/\(x.c (it x.D j).toNat).J=1 from λj J=>by
    by_cases e:j=k;rw[e,uH U];exact⟨⟨I,Q⟩,by simpa using D⟩;exact HA j (by omega))
   have TK:=uU (show x.D.take (k+1)=x.D.take k++[(i:Int)] by
    rw[<-uH U,<-b8v x k d];exact(List.take_append_getElem d).symm)
   go_wp21;refine(a0q _ _ _ true n _).mono ?_;rintro e K ⟨rfl,rfl⟩;go_wp21;refine(b4h _ w.heap.size w.heap.size 0 v m (i:Int) l S W (by omega)).mono ?_;rintro e X ⟨rfl,L,A,l3,o3,p3,E⟩;have R:=uU (show eX X w.heap.size w.heap.size 0 L A/\Ho A/\A.Perm (x.D.take (k+1))/\Ext w X from
    ⟨l3,o3,by rw[uH TK];exact(p3.trans (Y.cons _)).trans (nP _ _).symm,E.ext a (hT _) (λk B=>(l.rlt k B).1)⟩)
   go_wp2;go_roundw
   case rel=>exact⟨k+1,L,A,by omega,by go_num,OK,R⟩
   simp[intOf];omega
  have P:k=x.D.length:=by omega
  have V:=uU (show m.Nodup↔x.D.Nodup by have:=uH Y;rw[P,mG]at this;exact this.nodup_iff);have A1:=uU (show ∀g,g∈x.D->(0<=g/\g<x.A.length)/\(x.c g.toNat).J=1 from λg hg=>by
   obtain⟨j,J,e⟩:=mQ hg;rw[b8v x j J]at e;rw[<-e];exact HA j (by omega))
  go_wp21;refine(b4i _ w.heap.size w.heap.size 0 v m l W s).mono ?_;rintro e K ⟨r,rfl,Z,L,E⟩;have E2:=uU (E.ext a (hT _) (λk B=>(l.rlt k B).1));have RR:=uU (show r=true↔b8u x from⟨λe=>⟨A1,V.1 (Z.1 e)⟩,λq=>Z.2 (V.2 q.2)⟩);go_wp2;go_ret;exact⟨r,rfl,RR,E2⟩
theorem b4j(x:Hp)(b:Nat)(w:World)(h:VAt w b x ar kr ac kc ag kg an kn)(R:x.D.length<=8000)(Q:x.A.length<=8000):
  Calls prog 102 #[pP b] w λe w'=>∃r:Bool,Hid (e=.returned (.bool r))/\(r=true↔R5 x)/\Ext w w':=by
 have Y:=h.n13;have HV:=uU h;go_in;go_wp21;go_loopw [3,11] (λs i wr=>∃(k u:Nat),k<=x.A.length/\i=iv k/\s=iv u/\u<=k/\Hid (u=(a5z x k).length)/\Hid (∀j,j<k->(x.c j).J=2->a3u x j)/\Ext w wr) (λ_ i _=>x.A.length-(intOf i).toNat)
 case atStart=>exact⟨0,0,kB _,rfl,rfl,hT _,rfl,λj O=>by omega,hO _⟩
 case round=>
  obtain⟨k,u,hk,rfl,rfl,S,G,HA,a⟩:=hrel;by_cases g:k<x.A.length
  ·have z:=HV.ext a;obtain⟨bn,on,bc,oc,rfl,rfl,m0,m1⟩:=z.N k g;obtain⟨Z,W,ap,kp,e2,C⟩:=z.H.cell k g;cases e2;have p5:=C.p5;have ad:=z.n13;have d:=uU z;have aa:=i0N k;have V:(k:Int)<(x.A.length:Int):=by omega
   have v:((x.c k).J=2->a3u x k)->Hid (∀j,j<k+1->(x.c j).J=2->a3u x j):=λQ j O=>by
    by_cases e:j=k;rw[e];exact Q;exact HA j (by omega)
   have E:=uU v;cases y:((x.c k).J == 1)
   ·have A:=uU (show u=(a5z x (k+1)).length by have:=uH G;unfold a5z at *;rw[a2p _ _ _ (by simpa[a6v]using y)];exact this);cases I:((x.c k).J == 2)
    ·have t:=uH E (λe=>by rw[e]at I;simp at I);go_wp2;go_roundw
     case rel=>exact⟨k+1,u,by omega,by go_num,rfl,by omega,A,t,a⟩
     simp[intOf];omega
    go_wp21;refine(a6w x b bn (on+k*2) k _ d.H.c5 d.H.c6 m0).mono ?_;rintro e T ⟨rfl,o⟩;have L:=a.trans o;cases K:a0e x k
    ·have N:=uU (show ¬R5 x from λr=>by
      have:=((a8v x).1 r).1 k g (by simpa using I);rw[<-a8m,K]at this;simp at this)
     go_wp2;go_ret;exact⟨false,rfl,fNo N,L⟩
    have t:=uH E (λ_=>a8m.1 K);go_wp2;go_roundw
    case rel=>exact⟨k+1,u,by omega,by go_num,rfl,by omega,A,t,L⟩
    simp[intOf];omega
   have A:=uU (show u+1=(a5z x (k+1)).length by have:=uH G;unfold a5z at *;rw[a3t _ _ _ (by simpa[a6v]using y)];simp;exact this);have t:=uH E (λe=>by rw[e]at y;simp at y);go_wp2;go_roundw
   case rel=>exact⟨k+1,u+1,by omega,by go_num,by go_num,by omega,A,t,a⟩
   simp[intOf];omega
  have B:k=x.A.length:=by omega
  have U:=uU (show u=(a5z x x.A.length).length by have:=uH G;rw[B]at this;exact this);have J:=uU (show ∀j,j<x.A.length->(x.c j).J=2->a3u x j from λj O=>uH HA j (by omega));have M:=HV.ext a;have d8:=M.H.c8;have d:=uU M;go_wp21;refine(b2q x b _ d.H.c5).mono ?_;rintro e T ⟨rfl,rfl⟩;cases P:a1i x
  ·have NM:=uU (show ¬uD x from λm=>by rw[<-a2e,P]at m;simp at m);by_cases ab:0<u
   ·have N:=uU (show ¬R5 x from λr=>by
     have:=((a8v x).1 r).2.1 NM;have:=uH U;omega)
    go_wp2;go_ret;exact⟨false,rfl,fNo N,a⟩
   have p:u=0:=by omega
   subst p;cases n:((x.D.length:Int) == 0)
   ·have N:=uU (show ¬R5 x from λr=>by
     have:=((a8v x).1 r).2.2.1;have:=uH U;have ae:=beq_eq_false_iff_ne.1 n;omega)
    go_wp2;go_ret;exact⟨false,rfl,fNo N,a⟩
   go_wp21;refine(a9v x b _ d R).mono ?_;rintro e w3 ⟨r,rfl,l,o⟩;have D:=a.trans o;have F:=uU (show r=true↔R5 x by
    rw[a8v];refine⟨λe=>⟨J,λ_=>U.symm,?_,(l.1 e).1,(l.1 e).2⟩,λq=>l.2 ⟨q.2.2.2.1,q.2.2.2.2⟩⟩;have:=uH U;simp at n;rw[n];exact this)
   go_wp2;go_ret;exact⟨r,rfl,F,D⟩
  have YM:=uU (a2e.1 P);cases n:((x.D.length:Int) == (u:Int))
  ·have N:=uU (show ¬R5 x from λr=>by
    have:=((a8v x).1 r).2.2.1;have:=uH U;simp at n;omega)
   go_wp2;go_ret;exact⟨false,rfl,fNo N,a⟩
  go_wp21;refine(a9v x b _ d R).mono ?_;rintro e w3 ⟨r,rfl,l,o⟩;have D:=a.trans o;have F:=uU (show r=true↔R5 x by
   rw[a8v];refine⟨λe=>⟨J,λX=>(X YM).elim,?_,(l.1 e).1,(l.1 e).2⟩,λq=>l.2 ⟨q.2.2.2.1,q.2.2.2.2⟩⟩;have:=uH U;simp at n;omega)
  go_wp2;go_ret;exact⟨r,rfl,F,D⟩
def kH(x:Hp)(p:Nat->Bool):Nat->Nat
 | 0=>0
 | k+1=>kH x p k+(if p k=true then 1+(x.c k).F.length else 0)
theorem c1g{x:Hp}{p:Nat->Bool}(h:∀i,i<x.A.length->(x.c i).F.length<=200)(k:Nat)(a:k<=x.A.length):kH x p k<=201*k:=by
 induction k with
 | zero=>simp[kH]
 | succ k ih=>
  have:=h k (by omega);have:=ih (by omega);simp only[kH];split <;> omega
theorem b7i(x:Hp)(b r:Nat)(p:Nat->Bool)(w:World)(h:HAt w b x ar kr ac kc ag kg)(B:∀i,i<x.A.length->w.cell? (aA r i)=some (.bool (p i)))(A:x.A.length<=8000)(a:∀i,i<x.A.length->(x.c i).F.length<=200):
  Calls prog 74 #[pP b,sS r x.A.length x.A.length] w λe w'=>e=.returned (iv (kH x p x.A.length:Int))/\w'=w:=by
 have O:=h.c4;go_enter func74,ntmps74;go_wp21;go_loop [5,10] (λn i=>∃(k u:Nat),k<=x.A.length/\i=iv k/\n=iv u/\Hid (u=kH x p k)) (λ_ i=>x.A.length-(intOf i).toNat)
 case atStart=>exact⟨0,0,kB _,rfl,rfl,rfl⟩
 case round=>
  obtain⟨k,u,j,rfl,rfl,g⟩:=hrel;have t:u<=201*k:=by have:=uH g;rw[this];exact (λk j=>c1g (p:=p) a k j) k j
  by_cases d:k<x.A.length
  ·have q:=B k d;obtain⟨Q,o,D,J,rfl,N,C,E,K,L,F,I,M,G,P⟩:=h.cell k d;have H:=a k d;have z:(0:Int)<=(k:Int):=by omega
   have s:(k:Int)<(x.A.length:Int):=by omega
   cases f:p k
   ·rw[f]at q;have m:=uU (show u=kH x p (k+1) by have:=uH g;simp only[kH,f];simp;exact this);go_wp2_with (fail);go_round
    case rel=>exact⟨k+1,u,by omega,by go_num,rfl,m⟩
    case measure=>simp[intOf];omega
   rw[f]at q;go_wp2_with (fail);go_round
   case rel=>exact⟨k+1,u+(1+(x.c k).F.length),by omega,by go_num,by go_num,(show u+(1+(x.c k).F.length)=kH x p (k+1) by have:=uH g;simp only[kH,f];simp;omega)⟩
   case measure=>simp[intOf];omega
  have l:k=x.A.length:=by omega
  go_wp2;go_ret;exact⟨by rw[<-(show u=kH x p x.A.length by have:=uH g;rw[l]at this;exact this)];rfl,rfl⟩
def d1e(x:Hp)(r:Nat):Prop:=(qU x 0/\∃p:Nat->Bool,(∀i,p i=true↔cU x i)/\r=kH x p x.A.length)\/(¬qU x 0/\r=0)
theorem c4p(x:Hp)(b:Nat)(w:World)(h:HAt w b x ar kr ac kc ag kg)(k:qU x 0):
  Calls prog 76 #[pP b] w λe w'=>∃r:Nat,Hid (e=.returned (iv (r:Int)))/\d1e x r/\Ext w w':=by
 have a:=uU k;go_in;go_wp21;refine(c1c x b _ h a.all.2.1 a.all.2.2.2 a.n8).mono ?_;rintro e m ⟨v,L,rfl,j,f,c⟩;go_wp21;refine(b7i x b w.heap.size (λi=>decide ((i:Int)∈L)) _ (h.ext c) j.s a.n8 a.p200).mono ?_;rintro e l ⟨rfl,rfl⟩;go_wp2;go_ret;exact⟨_,rfl,.inl ⟨a,_,λi=>by simpa using uH f i,rfl⟩,c⟩
theorem a5a:(prog.info? 107).map (λi=>(i.zero,i.size,i.bytes))=some (some (.agg #[iv 0,.pointer none]),2,16):=by kernel_rfl
theorem mkNodes(n:Nat)(f:n<=1048576)(w:World):∃z,(Instr.makeSlice 92 (iv n) (iv n)).run prog w=.ok (sS w.heap.size n n) (w.alloc (.cells (madeCells z (n*2)) 107)):=by
 have⟨e,d,a,c,b⟩:=info_parts a5a;have h:=run_make (P:=prog) w 92 107 e _ underlying92 d a .i64 .i64 n n (by omega) (nB _) (by rw[b];omega) (by omega);rw[c]at h;simp only[Int.toNat_natCast]at h;exact⟨_,h⟩
theorem d2d(x:Hp)(w:World)(b:Nat)
  (c:∀o v,#[iv x.M,iv x.K,iv x.born,.slice ar x.B.length kr,.slice ac x.A.length kc,iv x.E,iv x.I,iv x.sub,.slice ag x.D.length kg,iv x.per,iv x.V,iv x.Q,iv x.S][o]?=some v->w.cell? (aA b o)=some v)
  (q:SlW w (.slice ar x.B.length kr) x.B) (m:SlC w (.slice ac x.A.length kc) x.A) (n:SlI w (.slice ag x.D.length kg) x.D):HAt w b x ar kr ac kc ag kg:=by
 have⟨y,u,f,k,R⟩:=q;have⟨t,s,e,l,C⟩:=m;have⟨r,z,d,h,G⟩:=n;simp only[Value.slice.injEq]at f e d;obtain⟨rfl,_,rfl⟩:=f;obtain⟨rfl,_,rfl⟩:=e;obtain⟨rfl,_,rfl⟩:=d;refine⟨c 0 _ rfl,c 1 _ rfl,c 2 _ rfl,c 3 _ rfl,c 4 _ rfl,c 5 _ rfl,c 6 _ rfl,c 7 _ rfl,c 8 _ rfl,c 9 _ rfl,c 10 _ rfl,c 11 _ rfl,c 12 _ rfl,k,l,h,R,?_,G⟩;intro i g;have⟨j,o,a,p⟩:=C i g;rw[Hp.c_eq]at p;exact⟨j,o,a,p⟩
structure Opn(w wr:World)(x:Hp)(bx b bn k j:Nat)(ar:Option Addr)(kr:Nat)(ac:Option Addr)(kc:Nat)(ag:Option Addr)(kg:Nat)(vf:Value)(F:List Int):Prop where
 e:Ext w wr
 hb:w.heap.size<=bx/\bx<b/\b<bn/\bn<wr.heap.size
 x4:wr.cell? ⟨bx,4,none⟩=some (.slice ac x.A.length kc)
 c:∀o v,#[iv x.M,iv x.K,iv x.born,.slice ar x.B.length kr,.slice ac x.A.length kc,iv x.E,iv x.I,iv x.sub,.slice ag x.D.length kg,iv x.per,iv x.V,iv x.Q,iv x.S][o]?=some v->wr.cell? ⟨b,o,none⟩=some v
 n13:wr.cell? ⟨b,13,none⟩=some (.slice (some ⟨bn,0,none⟩) x.A.length x.A.length)
 n:∀i,i<k->∃bc oc,ac=some ⟨bc,oc,none⟩/\wr.cell? ⟨bn,i*2,none⟩=some (iv i)/\wr.cell? ⟨bn,i*2+1,none⟩=some (.pointer (some ⟨bc,oc+i*8,none⟩))
 o:∀j,j<x.A.length*2->yQ wr bn j
 f:eX wr (bn+1) b 14 vf F
 fo:Ho F
 fp:F.Perm (a6u x j)
theorem Opn.len(h:Opn w wr x bx b bn k j ar kr ac kc ag kg vf F):F.length<=j:=by
 rw[h.fp.length_eq];exact a2q _ _ _
theorem Opn.same(h:Opn w wr x bx b bn k j ar kr ac kc ag kg vf F)(d:w'.heap=wr.heap)(r:w'.os=wr.os)(m:w'.tape=wr.tape)(s:w'.output=wr.output):
  Opn w w' x bx b bn k j ar kr ac kc ag kg vf F:=by
 have e:Ext wr w':=⟨r,m,s,d▸hT _,λk _=>by rw[d]⟩;exact⟨h.e.trans e,⟨h.hb.1,h.hb.2.1,h.hb.2.2.1,d▸h.hb.2.2.2⟩,e.keep h.x4,λo v q=>e.keep (h.c o v q),e.keep h.n13,λi g=>let ⟨bc,oc,a,p,q⟩:=h.n i g;⟨bc,oc,a,e.keep p,e.keep q⟩,λj l=>(h.o j l).ext e,h.f.ext e,h.fo,h.fp⟩
theorem Opn.lay{oc:Nat}(h:Opn w wr x bx b bn k k ar kr ac kc ag kg vf F)(z:ac=some (aA bc oc))(G:k<x.A.length):
  Opn w ((wr.setCell (aA bn (k*2)) (iv k)).setCell (aA bn (k*2+1)) (pQ bc (oc+k*8))) x bx b bn (k+1) k ar kr ac kc ag kg vf F:=by
 have⟨m,u,r,s⟩:=h.hb;have A:=h.o (k*2) (by omega);have C:=h.o (k*2+1) (by omega);have d:∀B O,B≠bn->((wr.setCell (aA bn (k*2)) (iv k)).setCell (aA bn (k*2+1)) (pQ bc (oc+k*8))).cell? (aA B O)=wr.cell? (aA B O):=λB O g=>by
  rw[uC _ (.inl (λe=>g e.symm)),uC _ (.inl (λe=>g e.symm))]
 have l:∀B:Nat,B≠bn->((wr.setCell (aA bn (k*2)) (iv k)).setCell (aA bn (k*2+1)) (pQ bc (oc+k*8))).heap[B]?=wr.heap[B]?:=λB g=>by
  rw[kP _ _ _ _ (g:B≠bn),kP _ _ _ _ (g:B≠bn)]
 refine⟨(h.e.setCell (by show w.heap.size<=bn;omega) _).setCell (by show w.heap.size<=bn;omega) _,⟨m,u,r,by simpa[World.setCell]using s⟩,by rw[d _ _ (by omega)];exact h.x4,λo v q=>by rw[d _ _ (by omega)];exact h.c o v q,by rw[d _ _ (by omega)];exact h.n13,λi E=>?_,λj D=>((h.o j D).set _ _).set _ _,⟨by rw[d _ _ (by omega)];exact h.f.hd,?_,?_,h.f.apart⟩,h.fo,h.fp⟩
 ·by_cases e:i=k
  ·subst e;refine⟨bc,oc,z,?_,(C.set _ _).same _⟩;rw[uC _ (.inr (by omega))];exact A.same _
  have⟨t,y,a,p,q⟩:=h.n i (by omega);refine⟨t,y,a,?_,?_⟩;all_goals
   rw[uC _ (.inr (by omega)),uC _ (.inr (by omega))];assumption
 rw[ki,ki];exact h.f.hf;exact uN h.f.own (λB g=>l B (by have:=(h.f.rlt B g).1;omega))
theorem Opn.skip(h:Opn w wr x bx b bn (k+1) k ar kr ac kc ag kg vf F)(a:a5k x 0 k=false):
  Opn w wr x bx b bn (k+1) (k+1) ar kr ac kc ag kg vf F:=
 ⟨h.e,h.hb,h.x4,h.c,h.n13,h.n,h.o,h.f,h.fo,by unfold a6u;rw[a2p _ _ _ a];exact h.fp⟩
theorem Opn.put{v':Value}{F':List Int}(h:Opn w wr x bx b bn (k+1) k ar kr ac kc ag kg vf F)(J:a5k x 0 k=true)
  (l:eX w' (bn+1) b 14 v' F') (o:Ho F') (p:F'.Perm ((k:Int)::F)) (q:QFr b 14 vf v' wr w'):Opn w w' x bx b bn (k+1) (k+1) ar kr ac kc ag kg v' F':=by
 have⟨m,t,s,g⟩:=h.hb;have d:∀B,B<=bn->vf.ownBlock≠some B:=λB y e=>by have:=(h.f.rlt B e).1;omega
 refine⟨q.ext h.e (by omega) (λB y=>by have:=(h.f.rlt B y).1;omega),⟨m,t,s,kF g q.size⟩,q.A h.x4 (by omega) (d _ (by omega)),λo v r=>?_,q.hdr 13 (by omega)▸h.n13,λi D=>?_,λj I=>?_,l,o,?_⟩;have K:o<13:=by
  obtain u|u:=ky o 13;exact u;rw[mp (by simpa using u)]at r;cases r
 rw[q.hdr o (by omega)];exact h.c o v r;have⟨z,E,a,A,C⟩:=h.n i D;exact⟨z,E,a,q.A A (by omega) (d _ (by omega)),q.A C (by omega) (d _ (by omega))⟩;have⟨⟨v,H⟩,G⟩:=h.o j I;refine⟨⟨v,q.A H (by omega) (d _ (by omega))⟩,?_⟩;rw[mR (w:=wr) (a:=(aA bn j)) (q.block bn g (by omega) (d _ (by omega)))];exact G;unfold a6u;rw[a3t _ _ _ J];exact(p.trans (h.fp.cons _)).trans (nP _ _).symm
theorem Opn.done(h:Opn w wr x bx b bn x.A.length x.A.length ar kr ac kc ag kg vf F)
  (k:SlW w (.slice ar x.B.length kr) x.B) (j:SlC w (.slice ac x.A.length kc) x.A) (g:SlI w (.slice ag x.D.length kg) x.D) :
  VAt wr b x ar kr ac kc ag kg (some (aA bn 0)) x.A.length/\FAt wr b x (bn+1) vf F:=
 ⟨⟨d2d x wr b h.c (SlW.ext h.e k) (SlC.ext h.e j) (SlI.ext h.e g),h.n13,λi d=>let ⟨bc,oc,a,p,q⟩:=h.n i d;⟨bn,0,bc,oc,rfl,a,by simpa using p,by simpa using q⟩⟩,h.f,h.fo,h.fp⟩
abbrev ndp(bn i:Nat):Value:=.pointer (some ⟨bn,i*2,none⟩)
structure SSep(x:Hp)(role:Nat->Nat)(b br:Nat)(cB:Nat->Nat)(bn:Nat)(pb pk:Nat->Nat)(vf vk:Value):Prop where
 b:role b=0
 n:role bn=1
 r:0<x.B.length->role br=2
 c:∀q,q<x.A.length->role (cB q)=3
 f:∀q,vf.ownBlock=some q->role q=4
 k:∀q,vk.ownBlock=some q->role q=5
 p:∀q,q<x.A.length->0<pk q->role (pb q)=6+q
structure RAt(w:World)(b bn hd:Nat)(G:List Int):Prop where
 h0:hd<4000
 hl:G.length<=4000
 r0:w.cell? ⟨b,4015,none⟩=some (iv hd)
 r1:w.cell? ⟨b,4016,none⟩=some (iv G.length)
 rg:∀i (hi:i<G.length),w.cell? ⟨b,15+(hd+i) % 4000,none⟩=some (ndp bn G[i].toNat)
 ro:∀j,j<4000->∃v,w.cell? ⟨b,15+j,none⟩=some v
def NdB(w:World)(bn kn:Nat):Prop:=bn<w.heap.size/\∀j,j<kn*2->yQ w bn j
theorem NdB.of(h:NdB w bn kn)(e:w'.heap[bn]?=w.heap[bn]?)(f:w.heap.size<=w'.heap.size):NdB w' bn kn:=
 ⟨kF h.1 f,λj d=>by
  have⟨⟨v,c⟩,b⟩:=h.2 j d;exact⟨⟨v,(cOb bn j e).trans c⟩,(fOb bn j e).trans b⟩⟩
structure SB(B:Nat)(w:World)(b:Nat)(x:Hp)(ar:Option Addr)(kr:Nat)(v4 v8:Value)(br:Nat)(cB cO:Nat->Nat)(bn:Nat)(kn hd:Nat)(vf:Value)(F:List Int)(vk:Value)(K:List Nat):Prop where
 bx:cK w b x (.slice ar x.B.length kr) v4 v8
 ha:0<x.B.length->ar=some ⟨br,0,none⟩
 n13:w.cell? ⟨b,13,none⟩=some (.slice (some ⟨bn,0,none⟩) x.A.length kn)
 nd:∀i,i<x.A.length->w.cell? ⟨bn,i*2,none⟩=some (iv i)/\w.cell? ⟨bn,i*2+1,none⟩=some (.pointer (some ⟨cB i,cO i,none⟩))
 fr:eX w B b 14 vf F
 rg:RAt w b bn hd x.D
 k0:w.cell? ⟨b,4017,none⟩=some vk
 kp:w.ownsRow B 97 1 vk K.length (K.map (ndp bn))
 nb:Nf1 b w
 lo:B<=b/\B<=bn/\NdB w bn kn
structure SAt[qr](B:Nat)(w:World)(b:Nat)(x:Hp)(ar:Option Addr)(kr:Nat)(v4 v8:Value)(br:Nat)(cB cO:Nat->Nat)(bn:Nat)(pb:Nat->Nat)(pa:Nat->Option Addr)(pk:Nat->Nat)(kn hd:Nat)(vf:Value)(F:List Int)(vk:Value)(K:List Nat)(role:Nat->Nat):Prop where
 sb:SB B w b x ar kr v4 v8 br cB cO bn kn hd vf F vk K
 rw:Rwn B w x br cB cO pb pa pk
 sp:SSep x role b br cB bn pb pk vf vk
 pr:Prt w role
theorem b5n(a:Nat):((a:Int).tmod 4000)=((a % 4000:Nat):Int):=by
 rw[Int.tmod_eq_emod_of_nonneg (by omega)];omega
theorem RAt.of(h:RAt w b bn hd G)(e:∀o,15<=o->o<4017->w'.cell? (aA b o)=w.cell? (aA b o)):RAt w' b bn hd G:=
 ⟨h.h0,h.hl,(e 4015 (by omega) (by omega)).trans h.r0,(e 4016 (by omega) (by omega)).trans h.r1,λi a=>(e _ (by omega) (by have:(hd+i) % 4000<4000:=mT _ (by omega);omega)).trans (h.rg i a),λj c=>let ⟨v,q⟩:=h.ro j c;⟨v,(e _ (by omega) (by omega)).trans q⟩⟩
theorem RAt.block(h:RAt w b bn hd G)(e:w'.heap[b]?=w.heap[b]?):RAt w' b bn hd G:=h.of λo _ _=>cOb b o e
theorem RAt.put{m:Nat}(h:RAt w b bn hd G)(o:G.length<4000)(f:m=(hd+G.length) % 4000):
  RAt ((w.setCell (aA b (15+m)) (ndp bn i)).setCell (aA b 4016) (iv (G.length+1))) b bn hd (G++[(i:Int)]):=by
 have d:m<4000:=f▸mT _ (by omega);refine⟨h.h0,by simp;omega,by rw[uC _ (.inr (by omega)),uC _ (.inr (by omega))];exact h.r0,?_,λk g=>?_,λj n=>?_⟩;have:(w.setCell (aA b (15+m)) (ndp bn i)).cell? (aA b 4016)=some (iv G.length):=by rw[uC _ (.inr (by omega))];exact h.r1
 rw[kM _ _ _ this];simp;have l:(hd+k) % 4000<4000:=mT _ (by omega);rw[uC _ (.inr (by omega))];by_cases e:k=G.length
 ·subst e;have⟨v,c⟩:=h.ro m d;rw[<-f,kM _ _ _ c];simp
 have a:k<G.length:=by simp at g;omega
 rw[uC _ (.inr (by have:=h.h0;omega)),h.rg k a];simp[a];rw[uC _ (.inr (by omega))];have⟨v,c⟩:=h.ro j n;exact cell?_setCell_some c
theorem a0t(w:World)(p:Addr):w.drew.cell? p=w.cell? p:=kT (a:=p) rfl
theorem SB.same(h:SB B w b x ar kr v4 v8 br cB cO bn kn hd vf F vk K)(f:w.heap.size<=w'.heap.size)(c:w'.heap[b]?=w.heap[b]?)(d:w'.heap[bn]?=w.heap[bn]?)(g:∀q,vf.ownBlock=some q->w'.heap[q]?=w.heap[q]?)(j:∀q,vk.ownBlock=some q->w'.heap[q]?=w.heap[q]?):SB B w' b x ar kr v4 v8 br cB cO bn kn hd vf F vk K where
 bx:=h.bx.block c
 ha:=h.ha
 n13:=(cOb b 13 c).trans h.n13
 nd:=λi e=>⟨(cOb bn _ d).trans (h.nd i e).1,(cOb bn _ d).trans (h.nd i e).2⟩
 fr:=⟨(cOb b 14 c).trans h.fr.hd,(fOb b 14 c).trans h.fr.hf,uN h.fr.own g,h.fr.apart⟩
 rg:=h.rg.block c
 k0:=(cOb b 4017 c).trans h.k0
 kp:=uN h.kp j
 nb:=uY h.nb c f
 lo:=⟨h.lo.1,h.lo.2.1,h.lo.2.2.of d f⟩
theorem SAt.ext[qr](h:SAt B w b x ar kr v4 v8 br cB cO bn pb pa pk kn hd vf F vk K role)(e:Ext w w'):SAt B w' b x ar kr v4 v8 br cB cO bn pb pa pk kn hd vf F vk K role:=
 ⟨h.sb.same e.size (e.block b h.sb.nb.1) (e.block bn h.sb.lo.2.2.1) (λq a=>e.block q (h.sb.fr.own.lt q a).2) (λq a=>e.block q (h.sb.kp.lt q a).2),h.rw.ext e,h.sp,h.pr.of (λq a _=>e.block q a) (λ_ _ h=>h)⟩
theorem SAt.push[qr]{W w5:World}{cap:Nat}(h:SAt B W b x ar kr v4 v8 br cB cO bn pb pa pk kn hd vf F vk K role)(O:W.grownBy w5 vk.ownBlock)(Q:w5.ownsRow B 97 1 (sS g (K.length+1) cap) (K.length+1) (K.map (ndp bn)++[ndp bn i]))(I:vk.ownBlock=some g\/g=W.heap.size):
  SAt B (w5.setCell (aA b 4017) (sS g (K.length+1) cap)) b x ar kr v4 v8 br cB cO bn pb pa pk kn hd vf F (sS g (K.length+1) cap) (K++[i]) (λq=>if q=g then 5 else role q):=by
 have t:∀q,q<W.heap.size->role q≠5->q≠g:=λq d y e=>by
  obtain a|a:=I;exact y (e▸h.sp.k g a);omega
 have z:∀q,q<W.heap.size->role q≠5->w5.heap[q]?=W.heap[q]?:=λq d y=>O.block q d (λe=>y (h.sp.k q e.symm))
 have D:=h.sb.nb.1;have M:role b≠5:=by rw[h.sp.b];omega
 have A:=z b D M;have w:=t b D M;have l:∀q,q<W.heap.size->role q≠5->q≠b->(w5.setCell (aA b 4017) (sS g (K.length+1) cap)).heap[q]?=W.heap[q]?:=λq d y E=>(kP _ _ _ _ E).trans (z q d y)
 have C:∀o,o≠4017->(w5.setCell (aA b 4017) (sS g (K.length+1) cap)).cell? (aA b o)=W.cell? (aA b o):=λo L=>(uC _ (.inr (λe=>L e.symm))).trans (cOb b o A)
 have u:W.heap.size<=(w5.setCell (aA b 4017) (sS g (K.length+1) cap)).heap.size:=by have:=O.size;simpa[World.setCell]using this
 have N:role bn≠5:=by rw[h.sp.n];omega
 have H:bn≠b:=λe=>by have s:=h.sp.n;have v:=h.sp.b;rw[e]at s;omega
 have G:=l bn h.sb.lo.2.2.1 N H;have P:∀q,vf.ownBlock=some q->(w5.setCell (aA b 4017) (sS g (K.length+1) cap)).heap[q]?=W.heap[q]?:=λq d=>l q (h.sb.fr.own.lt q d).2 (by rw[h.sp.f q d];omega) (λe=>by have s:=h.sp.f q d;have v:=h.sp.b;rw[e]at s;omega)
 refine⟨⟨h.sb.bx.of λo L=>C o (by omega),h.sb.ha,(C 13 (by omega)).trans h.sb.n13,λk J=>⟨(cOb bn _ G).trans (h.sb.nd k J).1,(cOb bn _ G).trans (h.sb.nd k J).2⟩,⟨(C 14 (by omega)).trans h.sb.fr.hd,?_,uN h.sb.fr.own P,h.sb.fr.apart⟩,h.sb.rg.of λo _ v=>C o (by omega),?_,?_,?_,⟨h.sb.lo.1,h.sb.lo.2.1,h.sb.lo.2.2.of G u⟩⟩,?_,?_,h.pr.of (λq d s=>l q d (by rw[s];omega) (λe=>by have v:=h.sp.b;rw[e]at s;omega)) (λq d s=>by(try dsimp only);rw[if_neg (t q d (by rw[s];omega))];exact s)⟩;rw[ki];exact(fOb b 14 A).trans h.sb.fr.hf;exact kM _ _ _ ((cOb b 4017 A).trans h.sb.k0);have:=uN (w':=w5.setCell (aA b 4017) (sS g (K.length+1) cap)) Q (λq d=>kP _ _ _ _ (λe=>w (by simp[Value.ownBlock]at d;rw[d];exact e.symm)));simpa using this;refine⟨kF D u,λj=>?_⟩;rw[ki];exact(fOb b j A).trans (h.sb.nb.2 j);exact h.rw.same u (λm=>l br (h.rw.nr m).1.1 (by rw[h.sp.r m];omega) (λe=>by have s:=h.sp.r m;have v:=h.sp.b;rw[e]at s;omega)) (λq d=>l (cB q) (h.rw.nc q d).1.1 (by rw[h.sp.c q d];omega) (λe=>by have s:=h.sp.c q d;have v:=h.sp.b;rw[e]at s;omega)) (λq d m=>l (pb q) (h.rw.pl q d m).2.1.1 (by rw[h.sp.p q d m];omega) (λe=>by have s:=h.sp.p q d m;have v:=h.sp.b;rw[e]at s;omega));refine⟨?_,?_,λm=>?_,λq d=>?_,λq d=>?_,λq d=>?_,λq d m=>?_⟩
 ·rw[if_neg w];exact h.sp.b
 rw[if_neg (t bn h.sb.lo.2.2.1 N)];exact h.sp.n;rw[if_neg (t br (h.rw.nr m).1.1 (by rw[h.sp.r m];omega))];exact h.sp.r m;rw[if_neg (t (cB q) (h.rw.nc q d).1.1 (by rw[h.sp.c q d];omega))];exact h.sp.c q d;rw[if_neg (t q (h.sb.fr.own.lt q d).2 (by rw[h.sp.f q d];omega))];exact h.sp.f q d;simp[Value.ownBlock]at d;rw[if_pos d.symm];rw[if_neg (t (pb q) (h.rw.pl q d m).2.1.1 (by rw[h.sp.p q d m];omega))];exact h.sp.p q d m
def a1n(x:Hp)(i:Nat):Bool:=x.E == 4 || (x.E == 3 && decide ((i:Int)<x.I))
theorem c8m(x:Hp)(b d i:Nat)(w:World)(g:w.cell? (aA b 5)=some (iv x.E))(f:w.cell? (aA b 6)=some (iv x.I))(h:w.cell? (aA d (i*2))=some (iv i)):
  Calls prog 53 #[pP b,ndp d i] w λe w'=>e=.returned (.bool (a1n x i))/\Ext w w':=by
 cases a:(x.E == 4)
 cases c:(x.E == 3)
 ·have E:=uU (show a1n x i=false by simp[a1n,a,c]);go_enter func53,ntmps53;go_wp21;go_quiet (fail);go_wp21;go_ret;exact⟨by rw[uH E];rfl,Ext.drewN (hO _) _⟩
 have E:=uU (show a1n x i=decide ((i:Int)<x.I) by simp[a1n,a,c]);go_enter func53,ntmps53;go_wp21;go_quiet (fail);go_wp21;go_ret;exact⟨by rw[uH E];rfl,Ext.drewN (hO _) _⟩;go_enter func53,ntmps53;go_wp21;go_quiet (fail);go_wp21;go_ret;exact⟨by rw[(show a1n x i=true by simp[a1n,a])];rfl,Ext.drewN (hO _) _⟩
theorem c1s(b g c i:Nat)(G:List Int)(w:World)(h:RAt w b g c G)(f:Nf1 b w)(s:G.length<4000):
  Calls prog 52 #[pQ b 15,ndp g i] w λe w'=>e=.returned (.tuple #[])/\RAt w' b g c (G++[(i:Int)])/\uZ (λq=>q=b) w w'/\Nf1 b w'/\∀o,(o<15\/o=4015\/o=4017)->w'.cell? (aA b o)=w.cell? (aA b o):=by
 have x:=h.r0;have y:=h.r1;have C:=h.h0;have⟨u,r⟩:=h.ro ((c+G.length) % 4000) (mT _ (by omega));have n:=f.2 (15+(c+G.length) % 4000);have A:=f.2 4016;have⟨m,d⟩:∃m,m=(c+G.length) % 4000:=⟨_,rfl⟩;rw[<-d]at r n;have l:m<4000:=d▸mT _ (by omega);have B:((c:Int)+(G.length:Int)).tmod 4000=(m:Int):=by have:=b5n (c+G.length);rw[<-d]at this;simpa using this
 have z:(0:Int)<=(m:Int):=by omega
 have t:(m:Int)<4000:=by omega
 have k:=uU d;have H:=uU h;clear h d;go_enter func52,ntmps52;go_wp21;go_region;all_goals
  go_wp21;go_end0;refine⟨rfl,(H.put s k).block rfl,(uZ.setCell (S:=λq=>q=b) (tJ w b (15+m) _) (p:=(aA b 4016)) rfl _).drew,⟨by have:=f.1;simpa[World.setCell]using this,λj=>by rw[show ∀(W:World)(p:Addr),W.drew.frozen? p=W.frozen? p from λW p=>mR (a:=p) rfl,ki,ki];exact f.2 j⟩,λo v=>?_⟩;rw[a0t,uC _ (.inr (by omega)),uC _ (.inr (by omega))]
def yY(p:Int)(b:Nat):Value:=if p=1 then .iface 210 (.agg #[.pointer (some ⟨b,0,none⟩)]) else if p=2 then .iface 211 (.agg #[.pointer (some ⟨b,0,none⟩)]) else if p=3 then .iface 212 (.agg #[.pointer (some ⟨b,0,none⟩)]) else if p=4 then .iface 213 (.agg #[.pointer (some ⟨b,0,none⟩)]) else if p=5 then .iface 214 (.agg #[.pointer (some ⟨b,0,none⟩)]) else if p=6 then .iface 215 (.agg #[.pointer (some ⟨b,0,none⟩)]) else .nilIface
theorem b3q(p:Int)(b:Nat)(w:World)(a:w.cell? (aA b 5)=some (iv p))(c:0<=p/\p<=6):
  Calls prog 150 #[pP b] w λe w'=>e=.returned (yY p b)/\w'=w:=by
 have h:p=0\/p=1\/p=2\/p=3\/p=4\/p=5\/p=6:=by omega
 obtain rfl|rfl|rfl|rfl|rfl|rfl|rfl:=h;all_goals
  go_in;go_wp2;go_ret;exact⟨rfl,rfl⟩
theorem a4j(a:Int)(b n f:Nat)(c:Option Addr)(w:World)(g:w.cell? (aA b 6)=some (iv a))(d:w.cell? (aA b 13)=some (.slice c n f))(h:(a == (n:Int))=true):
  Calls prog 204 #[pP b] w λe w'=>e=.returned (.pointer none)/\Ext w w':=by
 go_in;go_wp21;go_quiet (fail);go_wp2;go_ret;exact⟨rfl,(hO _).drewN _⟩
theorem a0w(b n d a i:Nat)(w:World)(l:w.cell? (aA b 6)=some (iv i))(c:w.cell? (aA b 13)=some (sS a n d))(k:i<n):
  Calls prog 204 #[pP b] w λe w'=>e=.returned (ndp a i)/\Ext w w':=by
 have h:((i:Int) == (n:Int))=false:=by simp;omega
 have f:=i0N i;have j:(i:Int)<(n:Int):=by omega
 go_in;go_wp21;go_quiet (fail);obtain⟨g,rfl⟩:∃m,m=nq:=⟨_,rfl⟩;go_wp21;go_quiet (fail);go_wp2;go_ret;exact⟨rfl,((hO _).drewN _).drewN _⟩
theorem SAt.boxed[qr]{x':Hp}(h:SAt B w b x ar kr v4 v8 br cB cO bn pb pa pk kn hd vf F vk K role)(o:uZ (λq=>q=b) w w')(H:Nf1 b w')(z:x'.B=x.B)(m:x'.A=x.A)(O:x'.D=x.D)(N:cK w' b x' (.slice ar x.B.length kr) v4 v8)(c:∀k,13<=k->w'.cell? (aA b k)=w.cell? (aA b k)):
  SAt B w' b x' ar kr v4 v8 br cB cO bn pb pa pk kn hd vf F vk K role:=by
 have l:∀q,q<w.heap.size->role q≠0->w'.heap[q]?=w.heap[q]?:=λq g M=>o.block q g (λe=>M (e▸h.sp.b))
 have G:=l bn h.sb.lo.2.2.1 (by rw[h.sp.n];omega);have C:∀q,x'.c q=x.c q:=λq=>by simp only[Hp.c,m]
 have j:=h.rw.same o.size (λu=>l br (h.rw.nr u).1.1 (by rw[h.sp.r u];omega)) (λq g=>l (cB q) (h.rw.nc q g).1.1 (by rw[h.sp.c q g];omega)) (λq g u=>l (pb q) (h.rw.pl q g u).2.1.1 (by rw[h.sp.p q g u];omega));refine⟨⟨z▸N,z▸h.sb.ha,m▸(c 13 (by omega)).trans h.sb.n13,λk y=>?_,⟨(c 14 (by omega)).trans h.sb.fr.hd,H.2 14,uN h.sb.fr.own (λq g=>l q (h.sb.fr.own.lt q g).2 (by rw[h.sp.f q g];omega)),h.sb.fr.apart⟩,?_,(c 4017 (by omega)).trans h.sb.k0,uN h.sb.kp (λq g=>l q (h.sb.kp.lt q g).2 (by rw[h.sp.k q g];omega)),H,⟨h.sb.lo.1,h.sb.lo.2.1,h.sb.lo.2.2.of G o.size⟩⟩,?_,?_,h.pr.of (λq g A=>l q g (by rw[A];omega)) (λ_ _ h=>h)⟩;rw[m]at y;exact⟨(cOb bn _ G).trans (h.sb.nd k y).1,(cOb bn _ G).trans (h.sb.nd k y).2⟩;rw[O];exact h.sb.rg.of λo A _=>c o (by omega)
 refine⟨λi I=>?_,λq g=>?_,λq g=>?_,λq g k y=>?_,λq g u=>?_,?_,?_,?_,λq E g t v A J=>?_,λq E g t v=>?_,λq g=>?_⟩
 ·have D:i<x.B.length:=z▸I;have L:x'.B[i]=x.B[i]:=by simp[z]
  rw[L];exact j.r i D
 rw[m]at g;rw[C];exact j.s q g;rw[m]at g;rw[C];exact j.p7 q g;rw[m]at g;rw[C]at y ⊢;exact j.p q g k y;rw[m]at g ⊢;exact j.pl q g u;rw[z];exact j.nr;rw[m];exact j.nc;rw[m];exact j.d;rw[m]at g t;exact j.dp q E g t v A J;rw[m]at g t;exact j.dc q E g t v;rw[m]at g;rw[C];exact j.kp q g;refine⟨h.sp.b,h.sp.n,z▸h.sp.r,m▸h.sp.c,h.sp.f,h.sp.k,λq g u=>?_⟩;rw[m]at g;exact h.sp.p q g u
def kU(x:Hp):Nat:=if x.E=1\/x.E=2 then 16000 else if x.E=3 then 8000+(x.A.length-x.I.toNat) else if x.E=4\/x.E=5 then 8000 else if x.E=6 then x.I.toNat else 0
def KOk(x:Hp)(h:Nat)(K:List Nat):Prop:=K.Pairwise (· < ·)/\(∀i,i∈K->i<h/\(x.c i).st=1)/\∀i,i<h->(x.c i).st=1->i ∉ K->∀j,j<x.A.length->(x.c j).st=0->i<j
structure zQ(C:Nat)(x:Hp)(F:List Int)(K:List Nat):Prop where
 ho:Ho F
 al:∀i,i<x.A.length->(x.c i).st=0->(i:Int)∈F
 nn:∀v,v∈F->0<=v
 le:F.length+kU x<=C
 k3:x.E=3->KOk x x.I.toNat K
 k4:x.E=4->K.Pairwise (· < ·)/\(∀i,i∈K->i<x.A.length/\(x.c i).st=1)/\∀i,i<x.A.length->(x.c i).st=1->i ∉ K->∀j,j<x.A.length->(x.c j).st=0->i<j
 k0:x.E≠3->x.E≠4->K=[]
theorem SAt.turned[qr](h:SAt B w b x ar kr v4 v8 br cB cO bn pb pa pk kn hd vf F vk K role)(cs:List Cl)(M:cs.length=x.A.length)(v:Nat->Nat)(D:Nat->Option Addr)(y:Nat->Nat)(s:Nat->Nat)
  (o:uZ (λq=>∃j,j<x.A.length/\q=cB j) w w') (Y:∀j,j<x.A.length->Nf1 (cB j) w') (J:CapP { x with A:=cs } y)
  (Z:∀q,q<x.A.length->S7 w' (cB q) (cO q) (({ x with A:=cs }:Hp).c q))
  (X:∀q,q<x.A.length->w'.cell? (aA (cB q) (cO q+7))=some (.slice (D q) (({ x with A:=cs }:Hp).c q).F.length (y q)))
  (E:∀q,q<x.A.length->0<y q->(v q<x.A.length/\y q=pk (v q))/\(x.c (v q)).F=(({ x with A:=cs }:Hp).c q).F/\D q=pa (v q)/\s (pb (v q))=6+q)
  (t:∀q,role q<6->s q=role q) :
  SAt B w' b { x with A:=cs } ar kr v4 v8 br cB cO bn (λq=>pb (v q)) D y kn hd vf F vk K s:=by
 have m:∀q,q<w.heap.size->role q≠3->w'.heap[q]?=w.heap[q]?:=λq g A=>o.block q g (λ⟨j,L,e⟩=>A (e▸h.sp.c j L))
 have i:({ x with A:=cs }:Hp).A.length=x.A.length:=M;have Q:∀q,q<x.A.length->0<pk q->w'.heap[pb q]?=w.heap[pb q]?:=λq g M=>m (pb q) (h.rw.pl q g M).2.1.1 (by rw[h.sp.p q g M];omega)
 have l:=h.sb.same o.size (m b h.sb.nb.1 (by rw[h.sp.b];omega)) (m bn h.sb.lo.2.2.1 (by rw[h.sp.n];omega)) (λq g=>m q (h.sb.fr.own.lt q g).2 (by rw[h.sp.f q g];omega)) (λq g=>m q (h.sb.kp.lt q g).2 (by rw[h.sp.k q g];omega));refine⟨⟨l.bx,l.ha,i▸l.n13,λk z=>l.nd k (by rw[i]at z;exact z),l.fr,l.rg,l.k0,l.kp,l.nb,l.lo⟩,⟨λk z=>?_,λq g=>?_,λq g=>?_,λq g k z=>?_,λq g u=>?_,λA=>⟨uY (h.rw.nr A).1 (m br (h.rw.nr A).1.1 (by rw[h.sp.r A];omega)) o.size,(h.rw.nr A).2⟩,λq g=>⟨Y q (by rw[i]at g;exact g),(h.rw.nc q (by rw[i]at g;exact g)).2⟩,λq g=>h.rw.d q (by rw[i]at g;exact g),λq P g C H I h2=>?_,λq P g C H=>h.rw.dc q P (by rw[i]at g;exact g) (by rw[i]at C;exact C) H,J⟩,⟨?_,?_,λA=>?_,λq g=>?_,λq g=>?_,λq g=>?_,λq g u=>?_⟩,h.pr.of (λq g I=>m q g (by rw[I];omega)) (λq _ I=>(t q (by rw[I];omega))▸I)⟩;exact(h.rw.r k z).of λj _=>cOb br _ (m br (h.rw.nr (by have:k<x.B.length:=z;omega)).1.1 (by rw[h.sp.r (by have:k<x.B.length:=z;omega)];omega))
 rw[i]at g;exact Z q g;rw[i]at g;exact X q g;rw[i]at g;have⟨⟨G,_⟩,N,_⟩:=E q g (by have:=J q (i▸g);omega);have U:(({ x with A:=cs }:Hp).c q).p k=(x.c (v q)).p k:=by simp only[Cl.p,N]
 rw[<-N]at z;rw[U];exact(h.rw.p (v q) G k z).of λj _=>cOb (pb (v q)) _ (Q (v q) G (h.rw.pw G (by omega)))
 rw[i]at g;have⟨⟨G,O⟩,N,S,_⟩:=E q g u;rw[O]at u;have⟨W,T,R,V⟩:=h.rw.pl (v q) G u;exact⟨S.trans W,O▸eN T (Q (v q) G u) o.size,⟨R.1,λj L=>R.2 j (by rw[i]at L;exact L)⟩,V⟩;grind[Grw.at,Nf1,CapP,S7,Hp.c];rw[t b (by rw[h.sp.b];omega)];exact h.sp.b;rw[t bn (by rw[h.sp.n];omega)];exact h.sp.n;have:=h.sp.r A;rw[t br (by omega)];exact this;rw[i]at g;have:=h.sp.c q g;rw[t (cB q) (by omega)];exact this;have:=h.sp.f q g;rw[t q (by omega)];exact this;have:=h.sp.k q g;rw[t q (by omega)];exact this;rw[i]at g;exact(E q g u).2.2.2
theorem SAt.wiped[qr](h:SAt B w b x ar kr v4 v8 br cB cO bn pb pa pk kn hd vf F vk K role)(i:Nat)(c:i<x.A.length)(f d:Int):
  SAt B (zD w (cB i) (cO i) f d) b { x with A:=x.A.set i ⟨f,0,0,0,0,0,d,[]⟩ } ar kr v4 v8 br cB cO bn pb (λq=>if q=i then none else pa q) (λq=>if q=i then 0 else pk q) kn hd vf F vk K role:=by
 have g:=Hp.c_set x i ⟨f,0,0,0,0,0,d,[]⟩ c;have⟨r,o⟩:=a4v w (cB i) (cO i) f d _ _ (h.rw.s i c) (h.rw.p7 i c);have m:=a3x w (cB i) (cO i) f d;refine h.turned (x.A.set i ⟨f,0,0,0,0,0,d,[]⟩) (by simp) (λq=>q) _ _ role ((a0c _ _ _ _ _).mono (λq e=>⟨i,c,e⟩)) (λq a=>a7i (h.rw.nc q a).1 (a9z (h.rw.nc i c).1 _ _ _) (a0c _ _ _ _ _)) (λq a=>?_) (λq a=>?_) (λq a=>?_) (λq a l=>?_) (λ_ _=>rfl);have k:q<x.A.length:=by simpa using a
 rw[g q];by_cases e:q=i;grind[zD];simp only[if_neg e];exact h.rw.kp q k;rw[g q];by_cases e:q=i
 ·grind[zD]
 rw[if_neg e];exact(h.rw.s q a).of λj n=>h.rw.far8 c a e (hT _) (a0c _ _ _ _ _) m j (by omega)
 rw[g q];by_cases e:q=i
 ·grind[zD]
 simp only[if_neg e];rw[h.rw.far8 c a e (hT _) (a0c _ _ _ _ _) m 7 (by omega)];exact h.rw.p7 q a;rw[g q];by_cases e:q=i
 ·rw[if_pos e]at l;omega
 rw[if_neg e]at l;exact⟨⟨a,if_neg e⟩,by rw[if_neg e],if_neg e,h.sp.p q a l⟩
theorem SAt.s1[qr](h:SAt B w b x ar kr v4 v8 br cB cO bn pb pa pk kn hd vf F vk K role)(k:Nat)(l:k<13)(v:Int){y:Hp}(a:y.B=x.B)(c:y.A=x.A)(d:y.D=x.D)(e:hbL y (.slice ar x.B.length kr) v4 v8=(hbL x (.slice ar x.B.length kr) v4 v8).set k (iv v)):SAt B (w.setCell (aA b k) (iv v)) b y ar kr v4 v8 br cB cO bn pb pa pk kn hd vf F vk K role:=
 h.boxed (tJ w b k _) (h.sb.nb.set _ _) a c d (h.sb.bx.st k _ e) (λj c=>uC _ (.inr (by omega)))
theorem SAt.phased[qr](h:SAt B w b x ar kr v4 v8 br cB cO bn pb pa pk kn hd vf F vk K role)(a:Int):
  SAt B ((w.setCell (aA b 6) (iv a)).setCell (aA b 7) (iv 0)) b { x with I:=a,sub:=0 } ar kr v4 v8 br cB cO bn pb pa pk kn hd vf F vk K role:=
 (h.s1 6 (by omega) a (y:={ x with I:=a }) rfl rfl rfl rfl).s1 7 (by omega) 0 rfl rfl rfl rfl
theorem Ext.sd{a:World}(h:Ext a w)(o:a.heap.size<=b)(k:Nat)(v:Value):Ext a (w.setCell (aA b k) v):=h.sc b k o v
theorem a7k[qr](h:SAt B w b x ar kr v4 v8 br cB cO bn pb pa pk kn hd vf F vk K role)(p:Int)(k:x.E=p)(v:(p == 5)=false)(j:(p == 6)=false)(y:0<=p/\p<=6)(a:World)(z:a.heap.size<=B)(l:Ext a w):
  Calls prog 82 #[pP b] w λe w'=>e=.returned (yY (p+1) b)/\Hid (SAt B w' b (dC x (p+1) 0) ar kr v4 v8 br cB cO bn pb pa pk kn hd vf F vk K role)/\Ext a w':=by
 have i:=h.sb.bx.2.2.2.2.2.1;have q:=h.sb.bx.2.2.2.2.2.2.1;have t:=h.sb.bx.2.2.2.2.2.2.2.1;rw[k]at i;have m:=h.sb.nb.2 5;have o:=h.sb.nb.2 6;have r:=h.sb.nb.2 7;have u:=h.sb.lo.1;have s:wrap64 (p+1)=p+1:=by unfold wrap64;omega
 have f:=uU ((h.phased 0).s1 5 (by omega) (p+1) (y:=dC x (p+1) 0) rfl rfl rfl rfl);have c:=kA z u;have g:=uU (((l.sd c 6 (iv 0)).sd c 7 (iv 0)).sd c 5 (iv (p+1)));have d:0<=p+1/\p+1<=6:=⟨by omega,by simp at j;omega⟩;go_in;go_wp21;refine(b3q (p+1) b _ (f.sb.bx.2.2.2.2.2.1) d).mono ?_;rintro e n ⟨rfl,c⟩;subst c;go_wp2;go_ret;exact⟨rfl,f,g⟩
theorem turn_5[qr](h:SAt B w b x ar kr v4 v8 br cB cO bn pb pa pk kn hd vf F vk K role)(j:x.E=5)(a:World)(y:a.heap.size<=B)(l:Ext a w):
  Calls prog 82 #[pP b] w λe w'=>e=.returned (yY 6 b)/\Hid (SAt B w' b (dC x 6 x.A.length) ar kr v4 v8 br cB cO bn pb pa pk kn hd vf F vk K role)/\Ext a w':=by
 have g:=h.sb.bx.2.2.2.2.2.1;have s:=h.sb.bx.2.2.2.2.2.2.1;have u:=h.sb.bx.2.2.2.2.2.2.2.1;have i:=h.sb.n13;rw[j]at g;have m:=h.sb.nb.2 5;have o:=h.sb.nb.2 6;have t:=h.sb.nb.2 7;have v:=h.sb.lo.1;have d:=uU (((h.phased 0).s1 6 (by omega) x.A.length (y:={ x with I:=x.A.length,sub:=0 }) rfl rfl rfl rfl).s1 5 (by omega) 6 (y:=dC x 6 x.A.length) rfl rfl rfl rfl);have c:=kA y v;have f:=uU ((((l.sd c 6 (iv 0)).sd c 7 (iv 0)).sd c 6 (iv x.A.length)).sd c 5 (iv 6));go_in;go_wp21;refine(b3q 6 b _ (d.sb.bx.2.2.2.2.2.1) (by omega)).mono ?_;rintro e n ⟨rfl,c⟩;subst c;go_wp2;go_ret;exact⟨rfl,d,f⟩
theorem turn_6[qr]{B:Nat}{w:World}{b:Nat}{x:Hp}{ar:Option Addr}{kr:Nat}{v4 v8:Value}{br bn:Nat}{cB cO:Nat->Nat}{pb:Nat->Nat}{pa:Nat->Option Addr}{pk:Nat->Nat}{kn hd:Nat}{vf:Value}{F:List Int}{vk:Value}{K:List Nat}{role:Nat->Nat}(h:SAt B w b x ar kr v4 v8 br cB cO bn pb pa pk kn hd vf F vk K role)(j:x.E=6)(H:0<=x.Q/\x.Q<=1000000000)(a:World)(I:a.heap.size<=B)(s:Ext a w):
  Calls prog 82 #[pP b] w λe w'=>e=.returned (yY 0 b)/\Hid (SAt B w' b { dC x 0 0 with Q:=if x.Q<1000000000 then x.Q+1 else x.Q } ar kr v4 v8 br cB cO bn pb pa pk kn hd vf F vk K role)/\Ext a w':=by
 have n:=h.sb.bx.2.2.2.2.2.1;have E:=h.sb.bx.2.2.2.2.2.2.1;have C:=h.sb.bx.2.2.2.2.2.2.2.1;have o:=h.sb.bx.2.2.2.2.2.2.2.2.2.2.2.1;rw[j]at n;have t:=h.sb.nb.2 5;have A:=h.sb.nb.2 6;have G:=h.sb.nb.2 7;have l:=h.sb.nb.2 11;have D:=h.sb.lo.1;obtain⟨r,g⟩:=obE (if x.Q<1000000000 then x.Q+1 else x.Q);have wr:wrap64 (x.Q+1)=x.Q+1:=by unfold wrap64;omega
 have f:=uU (show ∀v,(v=x.Q+1/\x.Q+1<=1000000000)\/(v=1000000000/\1000000000<=x.Q+1)->v=r from λv z=>by rw[g];split <;> omega);rw[<-g];have i:=uU (((h.phased 0).s1 5 (by omega) 0 (y:=dC x 0 0) rfl rfl rfl rfl).s1 11 (by omega) r (y:={ dC x 0 0 with Q:=r }) rfl rfl rfl rfl);have c:=kA I D;have m:=uU ((((s.sd c 6 (iv 0)).sd c 7 (iv 0)).sd c 5 (iv 0)).sd c 11 (iv r));clear h j g;go_in;go_wp21;all_goals
  first
  | (have c:(1000000000:Int)=r:=uH f _ (.inr ⟨rfl,by omega⟩);rw[c])
  | (have c:x.Q+1=r:=uH f _ (.inl ⟨rfl,by omega⟩);rw[c])
  | (have c:min (x.Q+1) 1000000000=r:=uH f _ (by omega);rw[c])
  refine(b3q 0 b _ (i.sb.bx.2.2.2.2.2.1) (by omega)).mono ?_;rintro e u ⟨rfl,d⟩;subst d;go_wp21;go_ret;exact⟨rfl,i,m⟩
theorem b3a(c:Cl)(d i f b:Nat)(w:World)(h:w.cell? (aA d (i*2+1))=some (pQ f b))(s:S7 w f b c):
  Calls prog 166 #[ndp d i] w λe w'=>e=.returned (.bool (kZ c))/\w'=w:=by
 have g:=s.2.2.2.1;cases a:(c.U == 1)
 ·have E:=uU (show kZ c=(c.U == 2) by simp[kZ,a]);go_in;go_wp2;go_ret;exact⟨by rw[uH E];rfl,rfl⟩
 go_in;go_wp2;go_ret;exact⟨by rw[(show kZ c=true by simp[kZ,a])];rfl,rfl⟩
theorem SAt.I[qr](h:SAt B w b x ar kr v4 v8 br cB cO bn pb pa pk kn hd vf F vk K role)(a:Int):
  SAt B (w.setCell (aA b 6) (iv a)) b { x with I:=a } ar kr v4 v8 br cB cO bn pb pa pk kn hd vf F vk K role:=by
 refine h.boxed (x':={ x with I:=a }) (tJ w b 6 _) (h.sb.nb.set _ _) rfl rfl rfl (h.sb.bx.set6 a) (λk c=>uC _ (.inr (by omega)))
theorem c8o[qr](h:SAt B w b x ar kr v4 v8 br cB cO bn pb pa pk kn hd vf F vk K role)(o:x.E=1)(i:x.I=x.A.length)(a:World)(q:a.heap.size<=B)(p:Ext a w):
  Calls prog 272 #[.agg #[pP b]] w λe w'=>e=.returned (yY (eH x).E b)/\Hid (SAt B w' b (eH x) ar kr v4 v8 br cB cO bn pb pa pk kn hd vf F vk K role)/\Ext a w':=by
 have E:=uU (show eH x=dC x (1+1) 0 by unfold eH;rw[if_pos i];rfl);have c:=(hO w).alloc (.cells #[pP b] 210);go_in;go_wp21;refine(a4j x.I b x.A.length kn (some (aA bn 0)) _ (c.keep h.sb.bx.2.2.2.2.2.2.1) (c.keep h.sb.n13) (by simpa using i)).mono ?_;rintro e l ⟨rfl,g⟩;have s:l.cell? (aA w.heap.size 0)=some (pP b):=g.keep (by simp[go_sem]);have f:=c.trans g;go_wp21;refine(a7k (h.ext f) 1 o rfl rfl (by omega) a q (p.trans f)).mono ?_;rintro e r ⟨rfl,k,n⟩;go_wp2;go_ret;exact⟨by rw[uH E];rfl,uH E▸uH k,n⟩
structure Two(w wr:World)(x:Hp)(k:Nat)(v1 v2:Value)(L1 L2:List Int):Prop where
 e:Ext w wr
 s1:eX wr w.heap.size w.heap.size 0 v1 L1
 s2:eX wr w.heap.size (w.heap.size+1) 0 v2 L2
 d1:v1.ownBlock≠some (w.heap.size+1)
 d2:v2.ownBlock≠some w.heap.size
 d3:∀k,v2.ownBlock=some k->v1.ownBlock≠some k
 h1:Ho L1
 h2:Ho L2
 p1:L1.Perm (a6t x k)
 p2:L2.Perm (a4h x k)
theorem Two.len(h:Two w wr x k v1 v2 L1 L2):L1.length<=k/\L2.length<=k:=
 ⟨by rw[h.p1.length_eq];exact a2q _ _ _,by rw[h.p2.length_eq];exact a2q _ _ _⟩
theorem Two.ext(h:Two w wr x k v1 v2 L1 L2)(e:Ext wr w'):Two w w' x k v1 v2 L1 L2:=
 ⟨h.e.trans e,h.s1.ext e,h.s2.ext e,h.d1,h.d2,h.d3,h.h1,h.h2,h.p1,h.p2⟩
theorem Two.skip(h:Two w wr x k v1 v2 L1 L2)(a:a5k x 1 k=false)(b:a5k x 2 k=false):Two w wr x (k+1) v1 v2 L1 L2:=
 ⟨h.e,h.s1,h.s2,h.d1,h.d2,h.d3,h.h1,h.h2,by unfold a6t;rw[a2p _ _ _ a];exact h.p1,by unfold a4h;rw[a2p _ _ _ b];exact h.p2⟩
theorem Two.put1{v1':Value}{L1':List Int}(h:Two w wr x k v1 v2 L1 L2)(c:a5k x 1 k=true)(d:a5k x 2 k=false)
  (l:eX w' w.heap.size w.heap.size 0 v1' L1') (o:Ho L1') (p:L1'.Perm (c4d x k::L1)) (q:QFr w.heap.size 0 v1 v1' wr w'):Two w w' x (k+1) v1' v2 L1' L2:=by
 have i:=h.s2.hlt;refine⟨q.ext h.e (hT _) (λk a=>(h.s1.rlt k a).1),l,h.s2.other q (by omega) h.d1 h.d2 h.d3,?_,h.d2,?_,o,h.h2,?_,by unfold a4h;rw[a2p _ _ _ d];exact h.p2⟩;obtain e|⟨g,e,b⟩:=q.own
 ·rw[e];exact h.d1
 rw[e];intro f;cases f;omega;intro k a;obtain e|⟨g,e,b⟩:=q.own
 ·rw[e];exact h.d3 k a
 rw[e];intro f;cases f;have:=(h.s2.rlt k a).2;omega;unfold a6t;rw[a3t _ _ _ c];exact(p.trans (h.p1.cons _)).trans (nP _ _).symm
theorem Two.put2{v2':Value}{L2':List Int}(h:Two w wr x k v1 v2 L1 L2)(i:a5k x 1 k=false)(j:a5k x 2 k=true)
  (l:eX w' w.heap.size (w.heap.size+1) 0 v2' L2') (o:Ho L2') (p:L2'.Perm (toOf x k::L2)) (q:QFr (w.heap.size+1) 0 v2 v2' wr w'):Two w w' x (k+1) v1 v2' L1 L2':=by
 have m:=h.s1.hlt;refine⟨q.ext h.e (by omega) (λk a=>(h.s2.rlt k a).1),h.s1.other q (by omega) h.d2 h.d1 (λk d c=>h.d3 k c d),l,h.d1,?_,?_,h.h1,o,by unfold a6t;rw[a2p _ _ _ i];exact h.p1,?_⟩;obtain e|⟨g,e,b⟩:=q.own
 ·rw[e];exact h.d2
 rw[e];intro f;cases f;omega;intro k a f;obtain e|⟨g,e,b⟩:=q.own
 ·rw[e]at a;exact h.d3 k a f
 rw[e]at a;cases a;have:=(h.s1.rlt _ f).2;omega;unfold a4h;rw[a3t _ _ _ j];exact(p.trans (h.p2.cons _)).trans (nP _ _).symm
theorem Two.V(w:World)(x:Hp)(a b:TypeId):Two w ((w.alloc (.cells #[.slice none 0 0] a)).alloc (.cells #[.slice none 0 0] b)) x 0 (.slice none 0 0) (.slice none 0 0) [] []:=by
 refine⟨(eAl w _).alloc _,eX.nil (by simp[go_sem]) (by simp[go_sem]),eX.nil (by simp[go_sem]) (by simp[go_sem]),by simp[Value.ownBlock],by simp[Value.ownBlock],by simp[Value.ownBlock],Ho.nil,Ho.nil,nE _,nE _⟩
theorem b3r{s:Int}(t:Int)(h:((x.c k).st == s)=true)(a:s≠t):a5k x t k=false:=by
 simp[a5k]at *;omega
theorem b6v(x:Hp)(b:Nat)(w:World)(h:VAt w b x ar kr ac kc ag kg an kn)(hF:FAt w b x base vf F)(hn:x.A.length<=8000):
  Calls prog 99 #[pP b] w λe w'=>∃r:Bool,Hid (e=.returned (.bool r))/\(r=true↔R2 x)/\Ext w w':=by
 have M:=h.n13;have hb:=cLt M;have HV:=uU h;have X:=uU hF;clear h hF;go_in;go_wp21;go_loopw [12] (λi wr=>∃(k:Nat)(z y:Value)(t n:List Int),k<=x.A.length/\i=iv k/\Hid (∀j,j<k->cQ x j)/\Two w wr x k z y t n) (λi _=>x.A.length-(intOf i).toNat)
 case atStart=>exact⟨0,_,_,[],[],kB _,rfl,λj hj=>by omega,Two.V w x _ _⟩
 case round=>
  clear M;obtain⟨k,z,y,t,n,T,rfl,HA,a⟩:=hrel;have m:=uU a;by_cases l:k<x.A.length
  ·have E:=HV.ext a.e;have G:=X.ext a.e;obtain⟨Z,on,bc,oc,rfl,rfl,m0,W⟩:=E.N k l;obtain⟨ae,ad,ap,kp,e2,C⟩:=E.H.cell k l;cases e2;have p0:=C.p0;have p4:=C.p4;have p6:=C.p6;have af:=E.n13;have HC:=uU C;have J:=uU E;have Y:=uU G;have ah:=i0N k;have ab:(k:Int)<(x.A.length:Int):=by omega
   have Q:w.heap.size<=wr.heap.size:=a.e.size;have R:t.length<=1000000000:=by have:=a.len.1;omega
   have K:n.length<=1000000000:=by have:=a.len.2;omega
   clear a C E G;have u:cQ x k->Hid (∀j,j<k+1->cQ x j):=λhc j hj=>by
    by_cases e:j=k;rw[e];exact hc;exact HA j (by omega)
   have ST:=uU u;clear u;cases U:((x.c k).st == 0)
   ·cases L:((x.c k).st == 1)
    ·cases P:((x.c k).st == 2)
     ·have N:=uU (show ¬R2 x from λr=>by
       have:=r.1 k l;unfold cQ at this;simp at U L P;omega)
      go_wp21;go_ret;exact⟨false,rfl,fNo N,m.e⟩
     go_wp21;refine(b6r x b k _ J Y l Z on rfl).mono ?_;rintro e w2 ⟨r,rfl,g,p⟩;have s:=uU (m.ext p);cases r
     ·have N:=uU (show ¬R2 x from λr=>by
       have d:=r.1 k l;unfold cQ at d;have h3:(x.c k).st=2:=by simpa using P
       have:=g.2 (by obtain d|d|d:=d <;> first|exact d.2|omega);simp at this)
      clear g;go_wp21;go_ret;exact⟨false,rfl,fNo N,s.e⟩
     have I:=uU (ST (.inr (.inl ⟨by simpa using P,g.1 rfl⟩)));have u6:=p.keep p6;have um:=p.keep W;clear g;go_wp21;refine(b4h _ w.heap.size (w.heap.size+1) 0 y n (x.c k).to s.s2 (kA Q p.size) s.h2 (by omega)).mono ?_;rintro e w3 ⟨rfl,V,L3,O,B,D,o⟩;have A:=uU (s.put2 (b3r 1 P (by omega)) P O B D o);clear O B D o;go_wp21;go_roundw
     case rel=>exact⟨k+1,z,V,t,L3,by omega,by go_num,I,A⟩
     simp[intOf];omega
    go_wp21;refine(b8t x (x.c k) b Z (on+k*2) _ _ ap kp _ J.H.c2 W HC).mono ?_;rintro e w2 ⟨r,rfl,g,p⟩;have s:=uU (m.ext p);cases r
    ·have N:=uU (show ¬R2 x from λr=>by
      have d:=r.1 k l;unfold cQ at d;have h3:(x.c k).st=1:=by simpa using L
      have:=g.2 (by obtain d|d|d:=d <;> first|exact d.2|omega);simp at this)
     clear g;go_wp21;go_ret;exact⟨false,rfl,fNo N,s.e⟩
    have I:=uU (ST (.inr (.inr ⟨by simpa using L,g.1 rfl⟩)));have u4:=p.keep p4;have um:=p.keep W;clear g;go_wp21;refine(b4h _ w.heap.size w.heap.size 0 z t (x.c k).born s.s1 (kA Q p.size) s.h1 (by omega)).mono ?_;rintro e w3 ⟨rfl,V,L3,O,B,D,o⟩;have A:=uU (s.put1 L (b3r 2 L (by omega)) O B D o);clear O B D o;go_wp21;go_roundw
    case rel=>exact⟨k+1,V,y,L3,n,by omega,by go_num,I,A⟩
    simp[intOf];omega
   have S0:=uU (show(x.c k).st=0 by simpa using U);go_wp21;refine(c0j (x.c k) Z (on+k*2) _ _ ap kp _ W HC).mono ?_;rintro e w2 ⟨rfl,rfl⟩;cases tb:a8k (x.c k)
   ·have N:=uU (show ¬R2 x from λr=>by
     have d:=r.1 k l;unfold cQ at d;have h3:=uH S0;have:a5d (x.c k):=by obtain d|d|d:=d <;> first|exact d.2.1|omega
     rw[<-a7x,tb]at this;simp at this)
    go_wp21;go_ret;exact⟨false,rfl,fNo N,m.e⟩
   cases S:((x.c k).to == 0)
   ·have aa:((x.c k).to != 0)=true:=by simpa using S
    have N:=uU (show ¬R2 x from λr=>by
     have d:=r.1 k l;unfold cQ at d;have h3:=uH S0;simp at S;omega)
    go_wp21;go_ret;exact⟨false,rfl,fNo N,m.e⟩
   have aa:((x.c k).to != 0)=false:=by simpa using S
   have I:=uU (ST (.inl ⟨S0,a7x.1 tb,by simpa using S⟩));have A:=uU (m.skip (b3r 1 U (by omega)) (b3r 2 U (by omega)));go_wp21;go_roundw
   case rel=>exact⟨k+1,z,y,t,n,by omega,by go_num,I,A⟩
   simp[intOf];omega
  have v:k=x.A.length:=by omega
  have A1:=uU (show ∀j,j<x.A.length->cQ x j from λj hj=>uH HA j (by omega));have AP:=uU (c7m x A1);have P1:=uU (show t.Nodup↔(a6t x x.A.length).Nodup by have:=a.p1;rw[v]at this;exact this.nodup_iff);have P2:=uU (show n.Nodup↔(a4h x x.A.length).Nodup by have:=a.p2;rw[v]at this;exact this.nodup_iff);have R:t.length<=1000000000:=by have:=a.len.1;omega
  have K:n.length<=1000000000:=by have:=a.len.2;omega
  clear a v;go_wp21;refine(b4i _ w.heap.size w.heap.size 0 z t m.s1 m.h1 R).mono ?_;rintro e w2 ⟨r,rfl,g,V,o⟩;have E2:=uU (o.ext m.e (hT _) (λk T=>(m.s1.rlt k T).1));have S2:=uU (m.s2.other o (by omega) m.d1 m.d2 m.d3);clear o;cases r
  ·have N:=uU (show ¬R2 x from λr=>by
    have:=g.2 (P1.2 (AP.1 r.2).1);simp at this)
   clear g;go_wp21;go_ret;exact⟨false,rfl,fNo N,E2⟩
  have B1:=uU (P1.1 (g.1 rfl));clear g;go_wp21;refine(b4i _ w.heap.size (w.heap.size+1) 0 y n S2 m.h2 K).mono ?_;rintro e w3 ⟨r,rfl,g,v4,q4⟩;have E3:=uU (q4.ext E2 (by omega) (λk T=>(S2.rlt k T).1));have RR:=uU (show r=true↔R2 x from⟨λe=>⟨A1,AP.2 ⟨B1,P2.1 (g.1 e)⟩⟩,λq=>g.2 (P2.2 (AP.1 q.2).2)⟩);clear q4 g;go_wp21;go_ret;exact⟨r,rfl,RR,E3⟩
structure HNt(w:World)(b:Nat)(x:Hp)(ar:Option Addr)(kr:Nat)(ac:Nat->Option Addr):Prop where
 c3:w.cell? ⟨b,3,none⟩=some (.slice ar x.B.length kr)
 lr:x.B.length<=35184372088832
 R:∀i (hi:i<x.B.length),∃b' o,ar=some ⟨b',o,none⟩/\yD w b' (o+i*3) x.B[i]
 C:∀i,i<x.A.length->∃b' o,ac i=some ⟨b',o,none⟩/\b9v w b' o (x.c i)
theorem HNt.ext{ac:Nat->Option Addr}(h:HNt w b x ar kr ac)(e:Ext w w'):HNt w' b x ar kr ac:=
 ⟨e.keep h.c3,h.lr,λi c=>let ⟨b',o,a,p⟩:=h.R i c;⟨b',o,a,p.ext e⟩,λi c=>let ⟨b',o,a,p⟩:=h.C i c;⟨b',o,a,p.ext e⟩⟩
theorem HNt.cell{ac:Nat->Option Addr}(h:HNt w b x ar kr ac)(i:Nat)(v:i<x.A.length):
  ∃b' o ap kp,ac i=some (aA b' o)/\CAt w b' o (x.c i) ap kp:=by
 obtain⟨b',o,e,y,u,d,g,p,r,f,m,t,ap,kp,rfl,j,P⟩:=h.C i v;exact⟨b',o,ap,kp,e,u,d,g,p,r,f,m,t,j,λk a=>by have⟨n,l,s,q⟩:=P k a;rw[Cl.p_eq _ _ a]at q;exact⟨n,l,s,q⟩⟩
structure VNt(w:World)(b:Nat)(x:Hp)(ar:Option Addr)(kr:Nat)(ac:Nat->Option Addr)(an:Option Addr)(kn:Nat):Prop where
 H:HNt w b x ar kr ac
 n13:w.cell? ⟨b,13,none⟩=some (.slice an x.A.length kn)
 N:∀i,i<x.A.length->∃bn on bc oc,an=some ⟨bn,on,none⟩/\ac i=some ⟨bc,oc,none⟩/\w.cell? ⟨bn,on+i*2,none⟩=some (iv i)/\w.cell? ⟨bn,on+i*2+1,none⟩=some (.pointer (some ⟨bc,oc,none⟩))
theorem VNt.ext{ac:Nat->Option Addr}(h:VNt w b x ar kr ac an kn)(e:Ext w w'):VNt w' b x ar kr ac an kn:=
 ⟨h.H.ext e,e.keep h.n13,λi c=>let ⟨bn,on,bc,oc,a,a',p,q⟩:=h.N i c;⟨bn,on,bc,oc,a,a',e.keep p,e.keep q⟩⟩
structure c1v(w:World)(b:Nat)(x:Hp)(ac:Nat->Option Addr)(an:Option Addr)(kn:Nat):Prop where
 n13:w.cell? ⟨b,13,none⟩=some (.slice an x.A.length kn)
 N:∀i,i<x.A.length->∃bn on bc oc,an=some ⟨bn,on,none⟩/\ac i=some ⟨bc,oc,none⟩/\w.cell? ⟨bn,on+i*2+1,none⟩=some (.pointer (some ⟨bc,oc,none⟩))/\w.cell? ⟨bc,oc,none⟩=some (iv (x.c i).st)/\w.cell? ⟨bc,oc+6,none⟩=some (iv (x.c i).to)
theorem c1v.ext{ac:Nat->Option Addr}(h:c1v w b x ac an kn)(e:Ext w w'):c1v w' b x ac an kn:=
 ⟨e.keep h.n13,λi hi=>let ⟨bn,on,bc,oc,a,a',p,q,r⟩:=h.N i hi;⟨bn,on,bc,oc,a,a',e.keep p,e.keep q,e.keep r⟩⟩
theorem VNt.f{ac:Nat->Option Addr}(h:VNt w b x ar kr ac an kn):c1v w b x ac an kn:=
 ⟨h.n13,λi c=>by
  have⟨g,l,k,j,a,d,p,q⟩:=h.N i c;have⟨r,n,o,m,e,C⟩:=h.H.cell i c;rw[d]at e;cases e;exact⟨g,l,k,j,a,d,q,C.p0,C.p6⟩⟩
theorem SAt.usedTo[qr](h:SAt B w b x ar kr v4 v8 br cB cO bn pb pa pk kn hd vf F vk K role)(u:Int):
  SAt B (w.setCell (aA b 1) (iv u)) b { x with K:=u } ar kr v4 v8 br cB cO bn pb pa pk kn hd vf F vk K role:=by
 refine h.boxed (x':={ x with K:=u }) (tJ w b 1 _) (h.sb.nb.set _ _) rfl rfl rfl (h.sb.bx.set1 u) (λk a=>uC _ (.inr (by omega)))
theorem SAt.subs[qr](h:SAt B w b x ar kr v4 v8 br cB cO bn pb pa pk kn hd vf F vk K role)(v:Int):
  SAt B (w.setCell (aA b 7) (iv v)) b { x with sub:=v } ar kr v4 v8 br cB cO bn pb pa pk kn hd vf F vk K role:=by
 refine h.boxed (x':={ x with sub:=v }) (tJ w b 7 _) (h.sb.nb.set _ _) rfl rfl rfl (h.sb.bx.set7 v) (λk a=>uC _ (.inr (by omega)))
theorem qU.r16(h:qU x 0):0<x.B.length/\x.B.length<=100:=by have:=h.all.1.B;omega
