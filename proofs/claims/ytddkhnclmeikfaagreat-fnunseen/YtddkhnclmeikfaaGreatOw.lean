import Derived.Test.YtddkhnclmeikfaaGreatSp1
set_option maxRecDepth 100000
set_option maxHeartbeats 4000000
namespace Go.Proofs.YtddkhnclmeikfaaGreat
open Go.RowKit Go.Proofs.Tryz
attribute [local go_sem ↓] Go.wp_at_zero Go.wp_at_succ
variable{x:Hp}{k:Nat}
def qY(x:Hp)(k:Nat):List Nat:=(List.range k).filter (λi=>(x.c i).st == 1 && a1u x i)
theorem b8g(h:((x.c k).st == 1 && a1u x k)=false):qY x (k+1)=qY x k:=by
 unfold qY;rw[List.range_succ,List.filter_append,List.filter_cons_of_neg (by simp [h]),List.filter_nil,List.append_nil]
theorem c5p(h:((x.c k).st == 1 && a1u x k)=true):qY x (k+1)=qY x k++[k]:=by
 unfold qY;rw[List.range_succ,List.filter_append,List.filter_cons_of_pos (by simpa using h),List.filter_nil]
theorem c5q(x:Hp)(k:Nat):(qY x k).length<=k:=by grind [qY,Hp.c,a1u]
theorem slI_nth{w:World}{xs:List Int}{ad:Option Addr}{n cap:Nat}(h:SlI w (.slice ad n cap) xs)(k:Nat)(hk:k<xs.length):∃b o,ad=some ⟨b,o,none⟩/\a6w w b (o+k*1) xs[k]:=by
 obtain⟨ad2,cap2,e,_,hx⟩:=h;simp only [Value.slice.injEq] at e;rw[e.1];exact hx k hk
theorem c9r:(prog.info? 126).map (λi=>(i.zero,i.size,i.bytes))=some (some (.pointer none),1,8):=by kernel_rfl
def b3y[Inhabited uQ](B:Nat)(w:World)(s:Nat)(x:Hp):Prop:=∃ar kr a4 n4 k4 a8 n8 k8 br cB cO bn pb pa pk kn hd vf F vk role,SAt B w s x ar kr (.slice a4 n4 k4) (.slice a8 n8 k8) br cB cO bn pb pa pk kn hd vf F vk (qY x x.A.length) role/\Ho F/\F.Perm (a7f x x.A.length)/\2*x.M<=(kn:Int)
theorem b2x[Inhabited uQ](hz:∀q,(default:uQ).z q=none)(x:Hp)(b:Nat)(w:World){ar:Option Addr}{kr:Nat}{ac:Option Addr}{kc:Nat}{ag:Option Addr}{kg:Nat}{an:Option Addr}{kn:Nat}(h:VAt w b x ar kr ac kc ag kg an kn)(r1:R1 x)(r2:R2 x)(r5:R5 x)(hg4:x.D.length<=4000):
  Calls prog 79 #[.pointer (some ⟨b,0,none⟩)] w λe w'=>∃s,e=.returned (.pointer (some ⟨s,0,none⟩))/\Hid (b3y w.heap.size w' s x)/\Ext w w':=by
 have hn8:x.A.length<=8000:=by have:=r1.M;have:=r1.A;omega
 have n1:x.B.length<=1048576:=by rw[r1.B];omega
 have h200:=d0r r2;have SR:=uU (show SlW w (.slice ar x.B.length kr) x.B from⟨ar,kr,rfl,h.H.lr,h.H.R⟩);have SC:=uU (show SlC w (.slice ac x.A.length kc) x.A from⟨ac,kc,rfl,h.H.lc,λi hi=>by obtain⟨b',o,e,q⟩:=h.H.C i hi;rw[<-Hp.c_eq x i hi] at q;exact⟨b',o,e,q⟩⟩);have SG:=uU (show SlI w (.slice ag x.D.length kg) x.D from⟨ag,kg,rfl,h.H.lg,h.H.G⟩);have HH:=uU h;have c0:=h.H.c0;have c1:=h.H.c1;have c2:=h.H.c2;have c3:=h.H.c3;have c4:=h.H.c4;have c5:=h.H.c5;have c6:=h.H.c6;have c7:=h.H.c7;have c8:=h.H.c8;have c9:=h.H.c9;have c10:=h.H.c10;have c11:=h.H.c11;have c12:=h.H.c12;have Q1:=uU r1;have G5:=uU r5.2.2;have C8:=uU c8;have C0:=uU c0;have hr0:0<x.B.length:=by rw[r1.B];omega
 obtain⟨i0,hi0,hy0,hy1,hy2⟩:=info_parts c9r;clear h r1 r2 r5;go_enter func79,ntmps79;go_wp2_with fail;refine(c4z x ag x.D.length kg w SR SC n1 hn8 h200).mono ?_;rintro e w1 ⟨vr,vc,rfl,hown,x1⟩;obtain⟨br,bc,pb,pa,pk,ar1,kr1,ac1,kc1,rfl,har,rfl,hac,hrw,_⟩:=uH hown;have RW:=uU hrw;have HAR:=uU har;have HAC:=uU hac;clear hown hrw har hac c0 c1 c2 c3 c4 c5 c6 c7 c8 c9 c10 c11 c12;go_wp2_with fail;refine(c1c x _ (RW.slW kr1 HAR n1) (RW.slC kc1 HAC (by omega) h200) (SlI.ext x1 SG)).mono ?_;rintro e w2 ⟨b2,rfl,x2,hor⟩
 obtain⟨bx,bn,vf,F,hop⟩:∃bx bn vf F,Opn w1 w2 x bx b2 bn x.A.length x.A.length ar1 kr1 ac1 kc1 ag kg vf F:=by
  rcases uH hor with⟨hn,_⟩ | ⟨_,q⟩
  ·exact absurd Q1 hn
  ·exact q
 have OP:=uU hop;have d0:=hop.c 0 _ rfl;have d1:=hop.c 1 _ rfl;have d2:=hop.c 2 _ rfl;have d3:=hop.c 3 _ rfl;have d4:=hop.c 4 _ rfl;have d5:=hop.c 5 _ rfl;have d6:=hop.c 6 _ rfl;have d7:=hop.c 7 _ rfl;have d8:=hop.c 8 _ rfl;have d9:=hop.c 9 _ rfl;have d10:=hop.c 10 _ rfl;have d11:=hop.c 11 _ rfl;have d12:=hop.c 12 _ rfl;have d13:=hop.n13;obtain⟨avf,kvf,hvf⟩:∃a k,vf=.slice a F.length k:=⟨_,_,(a1d hop.f.own).1⟩;subst hvf;have d14:=hop.f.hd;obtain⟨role0,hst⟩:=SAt.V (T:=132) hz OP RW x1.size HAR HAC hr0 (stZ_at Tryz.zeroCells132 (iv x.M) (iv x.K) (iv x.born) (.slice ar1 x.B.length kr1) (.slice ac1 x.A.length kc1) (iv x.E) (iv x.I) (iv x.sub) (.slice ag x.D.length kg) (iv x.per) (iv x.V) (iv x.Q) (iv x.S) (.slice (some ⟨bn,0,none⟩) x.A.length x.A.length) (.slice avf F.length kvf) a8r.1 a8r.2.1 a8r.2.2.1 a8r.2.2.2);generalize (λ_:Nat=>bc)=cB at hst;generalize (λq:Nat=>q*8)=cO at hst;have ST:=uU hst;have e8:w2.cell? ⟨b,8,none⟩=some (.slice ag x.D.length kg):=x2.keep (x1.keep C8);have hb2:b<w2.heap.size:=uL e8;clear hor hop hst;go_wp2_with fail;obtain⟨W3,hW3⟩:∃W,W=w2.alloc (.cells (((((((((((((((Tryz.zeroCells132.setIfInBounds 0 (iv x.M)).setIfInBounds 1 (iv x.K)).setIfInBounds 2 (iv x.born)).setIfInBounds 3 (.slice ar1 x.B.length kr1)).setIfInBounds 4 (.slice ac1 x.A.length kc1)).setIfInBounds 5 (iv x.E)).setIfInBounds 6 (iv x.I)).setIfInBounds 7 (iv x.sub)).setIfInBounds 8 (.slice ag x.D.length kg)).setIfInBounds 9 (iv x.per)).setIfInBounds 10 (iv x.V)).setIfInBounds 11 (iv x.Q)).setIfInBounds 12 (iv x.S)).setIfInBounds 13 (.slice (some ⟨bn,0,none⟩) x.A.length x.A.length)).setIfInBounds 14 (.slice avf F.length kvf)) 132):=⟨_,rfl⟩;have ST3:=uU (show SAt w.heap.size W3 w2.heap.size { x with D:=[] } ar1 kr1 (.slice ac1 x.A.length kc1) (.slice ag x.D.length kg) br cB cO bn pb pa pk x.A.length 0 (.slice avf F.length kvf) F (.slice none 0 0) [] role0 by rw[hW3];exact ST);have X3:Ext w W3:=by rw[hW3];exact(x1.trans x2).alloc _
 rw[<-hW3];have FF:=uU (And.intro OP.fo OP.fp);clear hW3 ST OP d0 d1 d2 d3 d4 d5 d6 d7 d8 d9 d10 d11 d12 d13 d14 e8 hb2;have n13:=ST3.sb.n13;have e0:W3.cell? ⟨b,0,none⟩=some (iv x.M):=X3.keep C0;have e8:W3.cell? ⟨b,8,none⟩=some (.slice ag x.D.length kg):=X3.keep C8;obtain⟨m,hm⟩:∃m:Nat,2*x.M-(x.A.length:Int)=(m:Int):=⟨(2*x.M-(x.A.length:Int)).toNat,by have:=Q1.A;omega⟩;have HM:=uU (show x.A.length+m<=8000 by have:=Q1.M;omega);have HM2:=uU (show 2*x.M=((x.A.length+m:Nat):Int) by omega);have hbs:w2.heap.size<W3.heap.size:=ST3.sb.nb.1;have NBS:=uU (show ¬b=w2.heap.size from λe=>by have h1:=ST3.sb.lo.1;have h8:b<w.heap.size:=uL C8;omega);have hbb:b<W3.heap.size:=uL e0
 have V12:=uU (show IntKind.i64.wrap (IntKind.i64.wrap (2*x.M)-(x.A.length:Int))=(m:Int) by
  have hr:=Q1.M;have e1:IntKind.i64.wrap (2*x.M)=2*x.M:=by rw[IntKind.wrap_i64];omega
  rw[e1,IntKind.wrap_i64];omega)
 clear hm;go_wp2_with fail;go_cut [] (λwx=>∃bn2 kn2,Hid (∃role',SAt w.heap.size wx w2.heap.size { x with D:=[] } ar1 kr1 (.slice ac1 x.A.length kc1) (.slice ag x.D.length kg) br cB cO bn2 pb pa pk kn2 0 (.slice avf F.length kvf) F (.slice none 0 0) [] role')/\Hid (Ext w wx)/\Hid (2*x.M<=(kn2:Int)))
 case first=>
  go_region_with (go_at_call 140;rw[uH V12];refine(d3r (ST3.ext (Ext.refl W3).drew) rfl (by have:=X3.size;simpa using this) m HM).mono ?_;rintro e w4 ⟨bn2,kn2,rfl,hs4,hc4⟩;have q13:=hc4.1;have qf:=hc4.2.1;have SS4:=uU hs4;have KN4:=uU (show 2*x.M<=(kn2:Int) by have h1:=uH HM2;have h2:x.A.length+m<=kn2:=hc4.2.2.2;omega);have X4:=uU (show Ext w (w4.setCell ⟨w2.heap.size,13,none⟩ (.slice (some ⟨bn2,0,none⟩) x.A.length kn2)) from(X3.drew.trans hc4.2.2.1).setCell ST3.sb.lo.1 _);have f8:=(X3.drew.trans hc4.2.2.1).keep C8;have hw4:w2.heap.size<w4.heap.size:=uL q13;have hbw:b<w4.heap.size:=uL f8;have nbs:¬b=w2.heap.size:=uH NBS;have nsb:¬w2.heap.size=b:=λe=>uH NBS e.symm;clear hs4 hc4)
  all_goals
   go_wp2_with fail;go_meet;exact⟨bn2,kn2,SS4,X4,KN4⟩
 case rest=>
  obtain⟨bn2,kn2,hst,hex,hkn⟩:=hcut;obtain⟨role0,hst⟩:=uH hst;clear n13 e0 e8 hbs hbb NBS X3 ST3 V12 HM;have ST3:=uU hst;have X3:=uU hex;have e8:=X3.keep C8;have hbb:b<wc.heap.size:=uL e8;clear hst hex;go_wp2_with fail;go_loopw [47] (λi wr=>∃(k:Nat),k<=x.D.length/\i=.int .i64 k/\Hid (SAt w.heap.size wr w2.heap.size { x with D:=x.D.take k } ar1 kr1 (.slice ac1 x.A.length kc1) (.slice ag x.D.length kg) br cB cO bn2 pb pa pk kn2 0 (.slice avf F.length kvf) F (.slice none 0 0) [] role0)/\Hid (Ext w wr)) (λi _=>x.D.length-(intOf i).toNat)
  case atStart=>exact⟨0,Nat.zero_le _,rfl,ST3,X3⟩
  case round=>
   clear ST3;obtain⟨k,hk,rfl,hst,hex⟩:=hrel;by_cases hlt:k<x.D.length
   ·obtain⟨bg,og,hag3,hg1⟩:=slI_nth SG k hlt;subst hag3;have hg2:=hex.keep hg1;obtain⟨j,hj⟩:∃j:Nat,x.D[k]=(j:Int):=⟨x.D[k].toNat,by have:=(G5 x.D[k] (List.getElem_mem hlt)).1;omega⟩;have hjn:j<x.A.length:=by have:=(G5 x.D[k] (List.getElem_mem hlt)).2;omega
    rw[hj,Nat.mul_one] at hg2;have n13:=hst.sb.n13;have j0:(0:Int)<=(j:Int):=by omega
    have j1:(j:Int)<(x.A.length:Int):=by omega
    have k0:(0:Int)<=(k:Int):=by omega
    have k1:(k:Int)<(x.D.length:Int):=by omega
    have HJ:=uU (show x.D.take (k+1)=x.D.take k++[(j:Int)] by rw[List.take_succ_eq_append_getElem hlt,hj]);have hl4:(x.D.take k).length<4000:=by rw[List.length_take];omega
    clear hg1 hj;go_wp2_with fail;go_region_with (go_at_call 141;refine(c2k w2.heap.size bn2 0 j (x.D.take k) _ (hst.ext ((Ext.refl wr).drew)).sb.rg (hst.ext ((Ext.refl wr).drew)).sb.nb hl4).mono ?_;rintro e w5 ⟨rfl,hr5,ho5,hn5,hc5⟩;have R:=uU ((hst.ext ((Ext.refl wr).drew)).ring hr5 ho5 hn5 (λo ho=>hc5 o (by omega)));have XX:=uU (ho5.ext hex.drew (λq hq e=>by have:=hst.sb.lo.1;omega));clear hr5 ho5 hn5 hc5)
    all_goals
     go_wp2_with fail;go_roundw
     case rel=>exact⟨k+1,by omega,by go_num,by rw[uH HJ];exact uH R,XX⟩
     case measure=>simp [intOf];omega
   ·have hk2:k=x.D.length:=by omega
    subst hk2;have S4:=uU (show SAt w.heap.size wr w2.heap.size x ar1 kr1 (.slice ac1 x.A.length kc1) (.slice ag x.D.length kg) br cB cO bn2 pb pa pk kn2 0 (.slice avf F.length kvf) F (.slice none 0 0) (qY x 0) role0 by have:=uH hst;rw[List.take_length] at this;exact this);have n13:=S4.sb.n13;obtain⟨w4,hw4⟩:∃W,W=wr:=⟨_,rfl⟩;subst hw4;have X4:=uU hex;clear hst hex hlt hk;go_wp2_with fail;clear n13;go_loopw [69] (λi wr=>∃(k:Nat) (avk:Option Addr) (kvk:Nat) (role:Nat->Nat),k<=x.A.length/\i=.int .i64 k/\Hid (SAt w.heap.size wr w2.heap.size x ar1 kr1 (.slice ac1 x.A.length kc1) (.slice ag x.D.length kg) br cB cO bn2 pb pa pk kn2 0 (.slice avf F.length kvf) F (.slice avk (qY x k).length kvk) (qY x k) role)/\Hid (Ext w wr)) (λi _=>x.A.length-(intOf i).toNat)
    case atStart=>exact⟨0,none,0,role0,Nat.zero_le _,rfl,S4,X4⟩
    case round=>
     clear S4;obtain⟨k,avk,kvk,role,hk,rfl,hst,hex⟩:=hrel;by_cases hlt:k<x.A.length
     ·have n13:=hst.sb.n13;obtain⟨m0,m1⟩:=hst.sb.nd k hlt;have s0:=(hst.rw.s k hlt).1;have k0:(0:Int)<=(k:Int):=by omega
      have k1:(k:Int)<(x.A.length:Int):=by omega
      have hkl:=c5q x k;cases q1:((x.c k).st == 1)
      ·have R:=uU (show SAt w.heap.size wr w2.heap.size x ar1 kr1 (.slice ac1 x.A.length kc1) (.slice ag x.D.length kg) br cB cO bn2 pb pa pk kn2 0 (.slice avf F.length kvf) F (.slice avk (qY x (k+1)).length kvk) (qY x (k+1)) role by rw[b8g (by simp [q1])];exact hst);go_wp2_with fail;go_roundw
       case rel=>exact⟨k+1,avk,kvk,role,by omega,by go_num,R,hex⟩
       case measure=>simp [intOf];omega
      ·go_wp2_with fail;refine(c8f x w2.heap.size bn2 k _ hst.sb.bx.2.2.2.2.2.1 hst.sb.bx.2.2.2.2.2.2.1 m0).mono ?_;rintro e w5 ⟨rfl,q5⟩;have H5:=uU (hst.ext q5);have X5:=uU (hex.trans q5);cases q2:a1u x k
       ·have R:=uU (show SAt w.heap.size w5 w2.heap.size x ar1 kr1 (.slice ac1 x.A.length kc1) (.slice ag x.D.length kg) br cB cO bn2 pb pa pk kn2 0 (.slice avf F.length kvf) F (.slice avk (qY x (k+1)).length kvk) (qY x (k+1)) role by rw[b8g (by simp [q2])];exact H5);clear n13 m0 m1 s0 hst hex;go_wp2_with fail;go_roundw
        case rel=>exact⟨k+1,avk,kvk,role,by omega,by go_num,R,X5⟩
        case measure=>simp [intOf];omega
       ·have KY:=uU (c5p (x:=x) (k:=k) (by simp [q1,q2]));have k17:=H5.sb.k0;have f17:=H5.sb.nb.2 4017;have hbs:w2.heap.size<w5.heap.size:=H5.sb.nb.1;have hB:w.heap.size<=w5.heap.size:=X5.size;clear n13 m0 m1 s0 hst hex;go_wp2_with (at_builtin;refine wpList_append_lies _ rfl _ _ 130 rfl w.heap.size 126 i0 (.pointer none) 1 8 underlying130 hi0 hy0 hy1 hy2 rfl (by decide) _ (qY x k).length ((qY x k).map (ndp bn2)) rfl (H5.sb.kp.alloc _) _ 1 1 [ndp bn2 k] rfl rfl ?c1 ?c2 (by decide) ?c3 ?c4 ?c5 _ rfl ?_)
        case c1=>
         intro j u hj
         match j,hj with
         | 0,hj=>simp at hj;subst hj;simp [Addr.add,go_sem]
        case c2=>intro u hu;simp at hu;subst hu;rfl
        case c3=>unfold maxLen;omega
        case c4=>omega
        case c5=>simp;omega
        intro g cap w6 hown hgrow hat hglt;have xb:=(Ext.refl w5).alloc (.cells #[ndp bn2 k] 126);have R:=uU ((H5.ext xb).push (i:=k) hgrow hown (by simpa using hat));have e17:=(World.cell?_of_block (a:=⟨w2.heap.size,4017,none⟩) (hgrow.block w2.heap.size (Nat.lt_of_lt_of_le hbs xb.size) (λe=>by have h1:=H5.sp.k _ e.symm;have h2:=H5.sp.b;omega))).trans (xb.keep k17);have g17:=(World.frozen?_of_block (a:=⟨w2.heap.size,4017,none⟩) (hgrow.block w2.heap.size (Nat.lt_of_lt_of_le hbs xb.size) (λe=>by have h1:=H5.sp.k _ e.symm;have h2:=H5.sp.b;omega))).trans (((uK xb).2 _ 4017 hbs).trans f17);have X6:=uU (show Ext w (w6.setCell ⟨w2.heap.size,4017,none⟩ (.slice (some ⟨g,0,none⟩) ((qY x k).length+1) cap)) from(a2g (X5.trans xb) (H5.sb.kp.alloc _) (Nat.le_refl _) hgrow).setCell H5.sb.lo.1 _);clear hown hgrow hat xb k17 f17;go_wp2_with fail;go_roundw
        case rel=>exact⟨k+1,some ⟨g,0,none⟩,cap,_,by omega,by go_num,by rw[uH KY,List.length_append];exact uH R,X6⟩
        case measure=>simp [intOf];omega
     ·have hk2:k=x.A.length:=by omega
      subst hk2;have FIN:=uU (show b3y w.heap.size wr w2.heap.size x from⟨_,_,_,_,_,_,_,_,_,_,_,_,_,_,_,_,_,_,_,_,_,hst,FF.1,FF.2,hkn⟩);clear hst;go_wp2_with fail;go_ret;exact⟨_,rfl,FIN,hex⟩
end Go.Proofs.YtddkhnclmeikfaaGreat
