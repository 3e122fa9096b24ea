import Derived.Test.YtddkhnclmeikfaaGreatUv1
set_option maxRecDepth 100000
set_option maxHeartbeats 4000000
namespace Go.Proofs.YtddkhnclmeikfaaGreat
open Go.RowKit Go.Proofs.Tryz
attribute [local go_sem ↓] Go.wp_at_zero Go.wp_at_succ
theorem c9m(x:Hp)(b:Nat)(w:World){ar:Option Addr}{kr:Nat}{ac:Nat->Option Addr}{kn:Nat}(bn on:Nat)(h:VNt w b x ar kr ac (some (aA bn on)) kn)(ok:dX x 0):
  Calls prog 66 #[pP b] w λe w'=>∃vr vn,Hid (e=.returned (.agg #[vr,vn]))/\Hid (b5i x w.heap.size w' vr vn)/\Ext w w':=by
 have r2:=ok.all.2.1;have r4:=ok.all.2.2.2;have ao:=ok.n8;have ax:=ok.p200;have lr:=h.H.lr;have al:x.B.length<=1048576:=by have:=ok.all.1.B;omega
 have xg:=(Ext.refl w).alloc (.cells #[.slice none 0 0,.slice none 0 0] 44);have HV:=uU h;have Q2:=uU r2;have Q4:=uU r4;clear h r2 r4 ok;go_enter func66,ntmps66;go_wp2_with fail;refine(b0q x b _ bn on (HV.ext xg) ao).mono ?_;rintro e S ⟨g,ba,N,rfl,T,X,x1⟩;have X1:=xg.trans x1;have WN:=uU (show IsW x N from⟨T.2.2,X.2.nodup_iff.2 (List.Pairwise.filter _ List.nodup_range),X.1⟩);have aq:=uU T.1;go_wp2_with fail;refine(b9a x b _ bn on (HV.ext X1) Q2 Q4 ao N WN g ba (λk hk=>by obtain⟨gb,go,a,c,_⟩:=uH aq k hk;exact⟨gb,go,a,c⟩)).mono ?_;rintro e A ⟨rfl,v,Q,x2⟩;have X2:=X1.trans x2;have OI:=uU (b5c Q2 Q4 WN);obtain⟨O,hO⟩:∃O,O=yC x N:=⟨_,rfl⟩;rw[<-hO] at Q OI;have EO:=uU hO;have NB:=uU Q;have bj:=Q.len;have c2:=Q.c2;obtain⟨av,cv,hv,bd⟩:=Q.form;subst hv;have n3:=(HV.ext X2).H.c3;have bi:S.heap.size+1<A.heap.size:=NB.rlt.1;have bu:b<A.heap.size:=uL n3
 obtain⟨zr,mr⟩:=mkWdU x.B.length al;obtain⟨zn,mn⟩:=mkNdU O.length (by omega);clear Q T X hO;go_wp2_with fail;go_cut [5] (λs5 wx=>∃y r u,s5=pP u/\Hid (GBox x O.length A wx y r u))
 case first=>
  go_region_held3 (λW=>W.cell? (aA b 3)=some (.slice ar x.B.length kr)/\W.cell? (aA (S.heap.size+1) 2)=some (.slice av O.length cv)) (first | (refine And.intro (Ext.keep (w:=A) (by repeat (first | exact Ext.refl _ | refine Ext.drew ?_ | refine Ext.alloc ?_ _)) n3) (Ext.keep (w:=A) (by repeat (first | exact Ext.refl _ | refine Ext.drew ?_ | refine Ext.alloc ?_ _)) c2)) | go_keep) (fail)
  all_goals
   go_wp2_with fail;go_meet
   first
    | (with_reducible exact⟨_,_,_,rfl,uU (gb_ABG x O.length A zr zn)⟩)
    | (with_reducible exact⟨_,_,_,rfl,uU (gb_AGB x O.length A zr zn)⟩)
    | (with_reducible exact⟨_,_,_,rfl,uU (gb_BAG x O.length A zr zn)⟩)
    | (with_reducible exact⟨_,_,_,rfl,uU (gb_BGA x O.length A zr zn)⟩)
    | (with_reducible exact⟨_,_,_,rfl,uU (gb_GAB x O.length A zr zn)⟩)
    | (with_reducible exact⟨_,_,_,rfl,uU (gb_GBA x O.length A zr zn)⟩)
 case rest=>
  obtain⟨y,r,u,rfl,an⟩:=hcut;obtain⟨ab,ag,U,ak,gd,gx⟩:=uH an;obtain⟨f,hf⟩:∃f:Nat->Wd,∀q (h:q<x.B.length),f q=nw x O x.B[q]:=⟨λq=>nw x O (x.B.getD q ⟨0,0,0⟩),λq h=>by simp [h]⟩;have M:=X2.trans gx;have c3:=(HV.ext M).H.c3;have W0:=uU (show a6d wc y x.B.length 0 f/\eJ wc r (O.length*5)/\(wc.cell? (aA u 0)=some (sS y x.B.length x.B.length)/\wc.cell? (aA u 1)=some (sS r O.length O.length))/\Ext A wc from⟨⟨λq h=>by omega,ab.1,ab.2⟩,ag,⟨U,ak⟩,gx⟩);have F:=uU gd;have HF:=uU hf;clear an ab ag U ak gd gx hf mr mn n3 c2 M;go_wp2_with fail;go_loopw [37] (λi wr=>∃k:Nat,k<=x.B.length/\i=iv k/\Hid (a6d wr y x.B.length k f/\eJ wr r (O.length*5)/\(wr.cell? (aA u 0)=some (sS y x.B.length x.B.length)/\wr.cell? (aA u 1)=some (sS r O.length O.length))/\Ext A wr)) (λi _=>x.B.length-(intOf i).toNat)
  case atStart=>exact⟨0,Nat.zero_le _,rfl,W0⟩
  case round=>
   clear W0 c3;obtain⟨k,hk,rfl,l⟩:=hrel;have M:=X2.trans l.2.2.2;by_cases t:k<x.B.length
   ·obtain⟨b',o,rfl,p0,p1,p2⟩:=(HV.ext M).H.R k t;have g0:=l.2.2.1.1;have bw:y<wr.heap.size:=l.1.n.1;have J:¬u=y:=λe=>F.2.1 e.symm
    have am:¬y=u:=F.2.1
    have aw:¬y=wr.heap.size:=by omega
    have bv:(0:Int)<=(k:Int):=by omega
    have bz:(k:Int)<(x.B.length:Int):=by omega
    have xa:=(Ext.refl wr).alloc (.cells #[iv x.B[k].k,iv x.B[k].n,iv x.B[k].a] 152);have MY:=uU (a2b Q2 Q4 k t);have XA:=M.trans xa;have YA:=l.2.2.2.trans xa;go_wp2_with fail;go_region_held3 (λW=>W.cell? (aA u 0)=some (sS y x.B.length x.B.length)/\W.cell? (aA wr.heap.size 0)=some (iv x.B[k].k)/\W.cell? (aA wr.heap.size 1)=some (iv x.B[k].n)/\W.cell? (aA wr.heap.size 2)=some (iv x.B[k].a)) (go_keep) (first | (go_at_call 104;refine(b2a x x.B[k] b S.heap.size (S.heap.size+1) S.heap.size bn on _ O _ (HV.ext XA.drew) Q2 (NB.ext YA.drew) MY (OI.g k t)).mono ?_;rintro e w3 ⟨rfl,Z⟩;have y3:=Ext.trans ((Ext.refl _).drew) Z;have s0:w3.cell? (aA wr.heap.size 0)=some (iv x.B[k].k):=y3.keep (by simp [go_sem]);have s1:w3.cell? (aA wr.heap.size 1)=some (iv x.B[k].n):=y3.keep (by simp [go_sem]);have s2:w3.cell? (aA wr.heap.size 2)=some (iv x.B[k].a):=y3.keep (by simp [go_sem]);have D:=xa.trans y3;have sb:=D.keep g0;have R1:=uU (a6d.step (l.1.ext D) t);rw[uH HF k t] at R1;obtain⟨⟨t0,d0⟩,f0⟩:=(l.1.o (k*3) (by omega)).ext D;obtain⟨⟨t1,d1⟩,f1⟩:=(l.1.o (k*3+1) (by omega)).ext D;obtain⟨⟨t2,d2⟩,f2⟩:=(l.1.o (k*3+2) (by omega)).ext D;clear Z))
    all_goals
     have B:=uU (show a6d _ y x.B.length (k+1) f/\eJ _ r (O.length*5)/\(World.cell? _ (aA u 0)=some (sS y x.B.length x.B.length)/\World.cell? _ (aA u 1)=some (sS r O.length O.length))/\Ext A _ from⟨R1.1,(l.2.1.ext D).only R1.2 (λe=>F.1 e.symm),⟨R1.2.keep J sb,R1.2.keep J (D.keep l.2.2.1.2)⟩,R1.2.ext (l.2.2.2.trans D) (λq hq e=>by have:=F.2.2.2.1;omega)⟩);go_wp2_with fail;go_roundw
     case rel=>exact⟨k+1,by omega,by go_num,B⟩
     case measure=>simp [intOf];omega
   ·have V:k=x.B.length:=by omega
    subst V;obtain⟨L,ay⟩:∃L:Nat->Nat,∀q (h:q<O.length),L q=O[q]:=⟨λq=>O.getD q 0,λq h=>by simp [h]⟩;have G:=NB.ext l.2.2.2;have c2:=G.c2;have J0:=uU (show ∃I,yN wr r O.length 0 A.heap.size (λq=>x.c (L q)) (np x O) (λ_=>0) I/\(∀q,q<0->I q≠y/\I q≠u) from⟨λ_=>0,⟨λq h=>by omega,λq h=>by omega,λq q' h=>by omega,l.2.1⟩,λq h=>by omega⟩);have HI:=uU (show a6d wr y x.B.length x.B.length f/\(wr.cell? (aA u 0)=some (sS y x.B.length x.B.length)/\wr.cell? (aA u 1)=some (sS r O.length O.length))/\Ext A wr from⟨l.1,l.2.2.1,l.2.2.2⟩);have HO:=uU ay;clear l G M t hk ay;go_wp2_with fail;go_loopw [55] (λi wr=>∃k:Nat,k<=O.length/\i=iv k/\Hid (∃I,yN wr r O.length k A.heap.size (λq=>x.c (L q)) (np x O) (λ_=>0) I/\(∀q,q<k->I q≠y/\I q≠u))/\Hid (a6d wr y x.B.length x.B.length f/\(wr.cell? (aA u 0)=some (sS y x.B.length x.B.length)/\wr.cell? (aA u 1)=some (sS r O.length O.length))/\Ext A wr)) (λi _=>O.length-(intOf i).toNat)
    case atStart=>exact⟨0,Nat.zero_le _,rfl,J0,HI⟩
    case round=>
     clear J0 HI c2;obtain⟨k,hk,rfl,E,l⟩:=hrel;have M:=X2.trans l.2.2;by_cases t:k<O.length
     ·obtain⟨gq,rfl⟩:=bd (by omega);have G:=NB.ext l.2.2;obtain⟨j,ej⟩:∃j,j=O[k]:=⟨_,rfl⟩;have cj:=G.cell k t;rw[<-ej] at cj;have EJ:=uU (show L k=j by rw[uH HO k t,ej]);have JO:=uU (show j∈O by rw[ej];exact List.getElem_mem t);have aa:=G.rg j JO;obtain⟨bc,oc,ap,kp,e1,C⟩:=HV.H.cell j aa;obtain⟨bt,bp,bm,bo,e2,e3,m0,ae⟩:=HV.N j aa;rw[e1] at e3;cases e2;cases e3;have p1:=M.keep C.p1;have p2:=M.keep C.p2;have p3:=M.keep C.p3;have m1:=M.keep ae;have bf:bn<w.heap.size:=uL ae;have bh:bc<w.heap.size:=uL C.p1;have az:w.heap.size<=A.heap.size:=X2.size;have g1:=l.2.1.2;obtain⟨I,NR,Y⟩:=uH E;have bk:r<wr.heap.size:=NR.o.2.1;have hP:=ax j aa;have J:¬u=r:=λe=>F.2.2.1 e.symm
      have am:¬r=u:=F.2.2.1;have ad:¬bn=r:=λe=>by have:=F.2.2.2.2.1;omega
      have aw:¬r=bn:=λe=>ad e.symm
      have bb:¬bc=r:=λe=>by have:=F.2.2.2.2.1;omega
      have bs:¬r=bc:=λe=>bb e.symm
      have k0:(0:Int)<=(k:Int):=by omega
      have k1:(k:Int)<(O.length:Int):=by omega
      have K:=uU NR;have af:=uU Y;clear NR Y E C m0 ae e1 ej G;have Y3:=l.2.2;go_wp2_with fail;go_region_held3 (λW=>W.cell? (aA u 1)=some (sS r O.length O.length)/\W.cell? (aA bn (on+j*2+1))=some (ptr bc (oc))/\W.cell? (aA bc (oc+1))=some (iv (x.c j).kind)/\W.cell? (aA bc (oc+2))=some (iv (x.c j).T)/\W.cell? (aA bc (oc+3))=some (iv (x.c j).U)) (go_keep) (first | (go_at_call 105;refine(c4c x b S.heap.size (S.heap.size+1) S.heap.size bn on j _ O _ (HV.ext M.drew) Q2 Q4 (NB.ext Y3.drew) OI JO hP).mono ?_;rintro e w3 ⟨rfl,ah,Z⟩;have D:=Ext.trans ((Ext.refl wr).drew) Z;have sb:=D.keep g1;have sm:=D.keep m1;have s1:=D.keep p1;have s2:=D.keep p2;have s3:=D.keep p3;have R1:=uU (yN.step (P:=wr.heap.size) (K.ext D) t (by rw[show x.c (L k)=x.c j by rw[uH EJ]];exact ah.1) ah.2 (by have:=Y3.size;omega) (by omega) (λq hq e=>by have:=(K.p q hq).2.1.1;omega) rfl);simp only [uH EJ] at R1;obtain⟨⟨t0,d0⟩,f0⟩:=(K.o.1 (k*5) (by omega)).ext D;obtain⟨⟨t1,d1⟩,f1⟩:=(K.o.1 (k*5+1) (by omega)).ext D;obtain⟨⟨t2,d2⟩,f2⟩:=(K.o.1 (k*5+2) (by omega)).ext D;obtain⟨⟨t3,d3⟩,f3⟩:=(K.o.1 (k*5+3) (by omega)).ext D;obtain⟨⟨t4,d4⟩,f4⟩:=(K.o.1 (k*5+4) (by omega)).ext D;clear Z))
      all_goals
       have B:=uU (show(∃I,yN _ r O.length (k+1) A.heap.size (λq=>x.c (L q)) (np x O) (λ_=>0) I/\(∀q,q<k+1->I q≠y/\I q≠u))/\(a6d _ y x.B.length x.B.length f/\(World.cell? _ (aA u 0)=some (sS y x.B.length x.B.length)/\World.cell? _ (aA u 1)=some (sS r O.length O.length))/\Ext A _) from⟨⟨_,R1.1,λq hq=>by
         by_cases e:q=k
         ·subst e;simp only [if_true];have:=l.1.n.1;have:=uL l.2.1.1;exact⟨by omega,λz=>by simp at *;omega⟩
         ·simp only [e,if_false];exact af q (by omega)⟩,(l.1.ext D).only R1.2 (λe=>F.1 e),⟨R1.2.keep J (D.keep l.2.1.1),R1.2.keep J sb⟩,R1.2.ext (Y3.trans D) (λq hq e=>by have:=F.2.2.2.2.1;omega)⟩)
       go_wp2_with fail;go_roundw
       case rel=>exact⟨k+1,by omega,by go_num,B.1,B.2⟩
       case measure=>simp [intOf];omega
     ·have V:k=O.length:=by omega
      subst V;obtain⟨I,NR,Y⟩:=uH E;have J0:=uU (show yN wr r O.length O.length A.heap.size (λq=>x.c (L q)) (np x O) (rkN N L 0) I from⟨NR.s,NR.p,NR.d,NR.o⟩);have af:=uU Y;have HI:=uU l;clear NR Y E l M t hk;go_wp2_with fail;go_loopw [92] (λi wr=>∃k:Nat,k<=N.length/\i=iv k/\Hid (yN wr r O.length O.length A.heap.size (λq=>x.c (L q)) (np x O) (rkN N L k) I)/\Hid (a6d wr y x.B.length x.B.length f/\(wr.cell? (aA u 0)=some (sS y x.B.length x.B.length)/\wr.cell? (aA u 1)=some (sS r O.length O.length))/\Ext A wr)) (λi _=>N.length-(intOf i).toNat)
      case atStart=>exact⟨0,Nat.zero_le _,rfl,J0,HI⟩
      case round=>
       clear J0 HI;obtain⟨k,hk,rfl,E,l⟩:=hrel;have Y3:=l.2.2;by_cases t:k<N.length
       ·obtain⟨gb,go,hg,U,_⟩:=aq k t;subst hg;have gc:=(x2.trans Y3).keep U;have HM:=uU (show N[k]∈O from OI.s _ ((WN.m N[k]).1 (List.getElem_mem t)).1 ((WN.m N[k]).1 (List.getElem_mem t)).2);have G:=NB.ext Y3.drew;obtain⟨et,hu,hz⟩:=b5e;obtain⟨i1,ai,_,aj,_⟩:=info_parts a2j;have lk:=G.m.get hu a2o ai (by rw[aj];omega) N[k] HM;have c1:=(NB.ext Y3).c1;have g1:=l.2.1.2;have ST:=uU (d0u WN.nd OI.nd HO t HM);have au:O.idxOf N[k]<O.length:=List.idxOf_lt_length_iff.2 HM;obtain⟨m,em⟩:∃m,m=O.idxOf N[k]:=⟨_,rfl⟩;rw[<-em] at lk ST au;have R1:=uU (yN.rank E m au ((k:Int)+1) ST.1 ST.2);obtain⟨⟨t3,d3⟩,f3⟩:=E.o.1 (m*5+3) (by omega);have J:¬u=r:=λe=>F.2.2.1 e.symm
        have am:¬r=u:=F.2.2.1;have ad:¬S.heap.size+1=r:=λe=>by have:=F.2.2.2.2.1;omega
        have aw:¬r=S.heap.size+1:=λe=>ad e.symm
        have k0:(0:Int)<=(k:Int):=by omega
        have k1:(k:Int)<(N.length:Int):=by omega
        have m0:(0:Int)<=(m:Int):=by omega
        have m1:(m:Int)<(O.length:Int):=by omega
        have bx:N.length<=8000:=by have:=a6b WN.nd (λi hi=>((WN.m i).1 hi).1);omega
        have B:=uU (show yN _ r O.length O.length A.heap.size (λq=>x.c (L q)) (np x O) (rkN N L (k+1)) I/\(a6d _ y x.B.length x.B.length f/\(World.cell? _ (aA u 0)=some (sS y x.B.length x.B.length)/\World.cell? _ (aA u 1)=some (sS r O.length O.length))/\Ext A _) from⟨R1.1,l.1.only R1.2 (λe=>F.1 e),⟨R1.2.keep J l.2.1.1,R1.2.keep J g1⟩,R1.2.ext Y3 (λq hq e=>by have:=F.2.2.2.2.1;omega)⟩);clear em hu hz ai aj G U;go_wp2_with fail;go_region_held3 (λW=>W.cell? (aA u 1)=some (sS r O.length O.length)/\W.cell? (aA (S.heap.size+1) 1)=some (Value.map (some S.heap.size))) (go_keep) (fail)
        all_goals
         go_wp2_with fail;go_roundw
         case rel=>exact⟨k+1,by omega,by go_num,B.1.ext ((Ext.refl _).drew),⟨B.2.1.ext ((Ext.refl _).drew),⟨B.2.2.1.1,B.2.2.1.2⟩,B.2.2.2.drew⟩⟩
         case measure=>simp [intOf];omega
       ·have V:k=N.length:=by omega
        subst V;have E1:=x1.trans (x2.trans Y3);have r0:=E1.keep (b:=w.heap.size) (o:=0) (v:=.slice none 0 0) (by simp [go_sem]);have r1:=E1.keep (b:=w.heap.size) (o:=1) (v:=.slice none 0 0) (by simp [go_sem]);have bl:=(uK E1).2;have y0:=l.2.1.1;have y1:=l.2.1.2;have az:w.heap.size<A.heap.size:=by have:=(x1.trans x2).size;simp at this;omega
        have be:¬u=w.heap.size:=λe=>by have:=F.2.2.2.2.2;omega
        have B:=uU (show ∀W,uX (λq=>q=w.heap.size) wr W->b5i x w.heap.size W (sS y x.B.length x.B.length) (sS r O.length O.length)/\Ext w W from λW hW=>by
         have g4:=F.2.2.2.1;have g5:=F.2.2.2.2.1;refine⟨⟨N,O,y,r,I,f,L,WN,EO,rfl,rfl,l.1.only hW (λe=>by omega),HF,HO,(E.only hW (λe=>by omega) (λq hq e=>by have:=(E.p q hq).2.2.1;omega)).less (by omega),F.1,λq hq=>(af q hq).1,by omega,by omega⟩,hW.ext (X2.trans Y3) (λq hq e=>by omega)⟩)
        clear E l;go_wp2_with fail;refine bodyPost_ret (v:=.agg #[sS y x.B.length x.B.length,sS r O.length O.length]) (by simp [results,results66,go_sem,r0,r1]) rfl ⟨_,_,rfl,uH B _ ?_⟩
        repeat (first | refine uX.setCell ?_ (by simp) _ | exact uX.refl _ _)
end Go.Proofs.YtddkhnclmeikfaaGreat
