import Derived.Test.YtddkhnclmeikfaaGreatUv1
set_option maxRecDepth 100000
set_option maxHeartbeats 4000000
namespace Go.Proofs.YtddkhnclmeikfaaGreat
open Go.RowKit Go.Proofs.Tryz
attribute [local go_sem ↓] Go.wp_at_zero Go.wp_at_succ
theorem c3a(x:Hp)(b:Nat)(w:World){ar:Option Addr}{kr:Nat}{ac:Option Addr}{kc:Nat}{ag:Option Addr}{kg:Nat}(h:HAt w b x ar kr ac kc ag kg)(ok:dX x 0):
  Calls prog 74 #[.pointer (some ⟨b,0,none⟩)] w λe w'=>∃vr vn,Hid (e=.returned (.agg #[vr,vn]))/\Hid (∃N,IsW x N/\∀W,uX (λq=>q<w.heap.size) w' W->SlW W vr (gR x N)/\SlN W vn (gL x N))/\Ext w w':=by
 have r2:=ok.all.2.1;have r4:=ok.all.2.2.2;have hn8:=ok.n8;have h200:=ok.p200;have hR100:x.B.length<=100:=by have:x.B.length=16:=ok.all.1.B;omega
 have xg:=(Ext.refl w).alloc (.cells #[.slice none 0 0,.slice none 0 0] 44);have HH:=uU h;have Q2:=uU r2;have Q4:=uU r4;obtain⟨iw,hiw,hw0,hw1,hw2⟩:=info_parts b1m;clear h r2 r4 ok;go_enter func74,ntmps74;go_wp2_with fail;refine(b3d x b _ ((uH HH).ext xg) (uH Q2) (uH Q4) hn8).mono ?_;rintro e w1 ⟨v,O,N,rfl,hs,hord,x1⟩;have X1:=xg.trans x1;have WN:=uU (uH hord).2.1;have OI:=uU (show OrdIs x O by rw[(uH hord).1];exact b5c (uH Q2) (uH Q4) (uH hord).2.1);have EO:=uU (uH hord).1;obtain⟨ad,cap,hv,hgl⟩:=hs.form;rw[b6r] at hv hgl;subst hv;have RW:=uU (Rw1.mk hs.own);clear hs hord;go_wp2_with fail;refine(b3a x b _ ((uH HH).ext X1) hn8).mono ?_;rintro e w2 ⟨vw,M,rfl,hrw,⟨hpm,hsr⟩,x2⟩;obtain⟨N2,hM,hN2⟩:=b7n (uH Q2) hpm hsr;obtain rfl:N=N2:=(uH WN).uniq (uH Q2) hN2;subst hM;obtain⟨adw,capw,hvw,hgw⟩:=hrw.form;rw[b6r] at hvw hgw;subst hvw;have RM:=uU hrw;have X2:=X1.trans x2;have c4:=((uH HH).ext X2).c4;have hOn:O.length<=8000:=by have:=a6b (uH OI).nd (λi hi=>(((uH OI).r i hi).good (uH Q2) (uH Q4)).1);omega
 have hNn:N.length<=8000:=by have:=a6b (uH WN).nd (λi hi=>(((uH WN).m i).1 hi).1);omega
 have hmk:=mkIntU x.A.length (by omega) w2;have S0:=uU (WhP.V w2 x.A.length O 3);clear hrw hpm hsr hN2;go_wp2_with fail;go_loopw [35] (λi wr=>∃k:Nat,k<=O.length/\i=.int .i64 k/\Hid (WhP wr w2.heap.size x.A.length k O/\Ext w2 wr)) (λi _=>O.length-(intOf i).toNat)
 case atStart=>exact⟨0,Nat.zero_le _,rfl,uH S0,(Ext.refl w2).alloc _⟩
 case round=>
  clear S0 c4 hmk;obtain⟨k,hk,rfl,hinv⟩:=hrel;by_cases hlt:k<O.length
  ·obtain⟨g,rfl⟩:=hgl (by omega);obtain⟨a1,a2,a3⟩:=((uH RW).ext (x2.trans (uH hinv).2)).cell k (by rw[b6r];exact hlt);rw[c0v hlt] at a1;have hjn:=(((uH OI).r O[k] (List.getElem_mem hlt)).good (uH Q2) (uH Q4)).1;obtain⟨vv,cv,_,fv⟩:=(uH hinv).1.1 O[k] hjn;have R:=uU (And.intro (WhP.step (uH hinv).1 (uH OI).nd hlt) ((uH hinv).2.setCell (p:=⟨w2.heap.size,O[k],none⟩) (Nat.le_refl _) (iv (k:Nat))));have k0:(0:Int)<=(k:Int):=by omega
   have k1:(k:Int)<(O.length:Int):=by omega
   obtain⟨j,ej⟩:∃j,j=O[k]:=⟨_,rfl⟩;rw[<-ej] at a1 cv fv hjn R;have j0:(0:Int)<=(j:Int):=by omega
   have j1:(j:Int)<(x.A.length:Int):=by omega
   clear a2 a3 ej hinv;go_wp2_with fail;go_roundw
   case rel=>exact⟨k+1,by omega,by go_num,uH R⟩
   case measure=>simp [intOf];omega
  ·have hk2:k=O.length:=by omega
   subst hk2;have WH:=uU (uH hinv).1.at;have Y3:=(uH hinv).2;obtain⟨w3,hw3⟩:∃W,W=wr:=⟨_,rfl⟩;subst hw3;have c3:=(((uH HH).ext X2).ext (Y3.alloc (.cells #[.slice none 0 0,.slice none 0 0] 44))).c3;have G0:=uU (show(w3.alloc (.cells #[.slice none 0 0,.slice none 0 0] 44)).cell? ⟨w3.heap.size,0,none⟩=some (.slice none 0 0)/\(w3.alloc (.cells #[.slice none 0 0,.slice none 0 0] 44)).cell? ⟨w3.heap.size,1,none⟩=some (.slice none 0 0)/\(∀o,(w3.alloc (.cells #[.slice none 0 0,.slice none 0 0] 44)).frozen? ⟨w3.heap.size,o,none⟩=false) from⟨by simp [go_sem],by simp [go_sem],λo=>by simp [go_sem]⟩);clear hinv hlt hk;go_wp2_with fail;go_loopw [50] (λi wr=>∃(k:Nat) (v:Value),k<=x.B.length/\i=.int .i64 k/\Hid (wr.ownsRow (w3.heap.size+1) 152 3 v k (((x.B.map (nw x O)).take k).flatMap fW))/\Hid (wr.cell? ⟨w3.heap.size,0,none⟩=some v/\wr.cell? ⟨w3.heap.size,1,none⟩=some (.slice none 0 0)/\(∀o,wr.frozen? ⟨w3.heap.size,o,none⟩=false))/\Hid (Ext w3 wr)) (λi _=>x.B.length-(intOf i).toNat)
   case atStart=>exact⟨0,_,Nat.zero_le _,rfl,World.ownsRow_nil _ _ _ _,uH G0,(Ext.refl w3).alloc _⟩
   case round=>
    clear G0 c3;obtain⟨k,v,hk,rfl,hown,hgc,hex⟩:=hrel;have X3:=(X2.trans Y3).trans (uH hex);by_cases hlt:k<x.B.length
    ·obtain⟨b',o,rfl,p0,p1,p2⟩:=((uH HH).ext X3).R k hlt;have hb':b'<wr.heap.size:=uL p0;have g0:=(uH hgc).1;have g2:=(uH hgc).2.2 0;have hbg:w3.heap.size<wr.heap.size:=uL g0;have hk0:(0:Int)<=(k:Int):=by omega
     have hk1:(k:Int)<(x.B.length:Int):=by omega
     have xa:=(Ext.refl wr).alloc (.cells #[iv x.B[k].k,iv x.B[k].n,iv x.B[k].a] 152);have MY:=uU (a2b (uH Q2) (uH Q4) k hlt);have XA:=X3.trans xa;have YA:=(uH hex).trans xa;have ETK:=uU (show(x.B.map (nw x O)).take (k+1)=(x.B.map (nw x O)).take k++[nw x O x.B[k]] by rw[List.take_succ_eq_append_getElem (by simpa using hlt),List.getElem_map]);have nq:¬wr.heap.size=w3.heap.size:=by omega
     have nq2:¬w3.heap.size=wr.heap.size:=by omega
     have hvb:∀q,v.ownBlock=some q->w3.heap.size+1<=q/\q<wr.heap.size:=λq e=>(uH hown).lt q e
     go_wp2_with fail
     go_region_law (first
      | (refine step_append_lies _ rfl _ _ 30 rfl (w3.heap.size+1) 152 iw (.agg #[iv 0,iv 0,iv 0]) 3 24 underlying30 hiw hw0 hw1 hw2 rfl (by decide) v k (((x.B.map (nw x O)).take k).flatMap fW) (by first | rfl | simp [Act.eval,Act.put]) ((uH O4).alloc _) _ 1 1 (fW (nw x O x.B[k])) (by first | rfl | simp [Act.eval,Act.put];rfl) rfl (by
        intro j u hj
        match j,hj with
        | 0,hj=>simp [fW] at hj;subst hj;simp [Addr.add,go_sem]
        | 1,hj=>simp [fW] at hj;subst hj;simp [Addr.add,go_sem]
        | 2,hj=>simp [fW] at hj;subst hj;simp [Addr.add,go_sem]) (by intro u hu;simp [fW] at hu;rcases hu with e | e | e <;> subst e <;> rfl) (by decide) (by unfold maxLen;omega) (by omega) (by simp;omega) _ rfl ?_;intro gb cap5 w5 hown5 hgrow hat hglt;have nb:∀q,q<w4.heap.size->v.ownBlock≠some q->w5.heap[q]?=w4.heap[q]?:=λq hq hv=>(hgrow.block q (by simp;omega) (λe=>hv e.symm)).trans (Below.heap_alloc w4 _ q hq);have t0:=(World.cell?_of_block (a:=⟨wr.heap.size,0,none⟩) (nb wr.heap.size hs4 (λe=>by have:=(hvb _ e).2;omega))).trans s0;have t1:=(World.cell?_of_block (a:=⟨wr.heap.size,1,none⟩) (nb wr.heap.size hs4 (λe=>by have:=(hvb _ e).2;omega))).trans s1;have t2:=(World.cell?_of_block (a:=⟨wr.heap.size,2,none⟩) (nb wr.heap.size hs4 (λe=>by have:=(hvb _ e).2;omega))).trans s2;have e0:=(World.cell?_of_block (a:=⟨w3.heap.size,0,none⟩) (nb w3.heap.size hs5 (λe=>by have:=(hvb _ e).1;omega))).trans d0;have ef:=(World.frozen?_of_block (a:=⟨w3.heap.size,0,none⟩) (nb w3.heap.size hs5 (λe=>by have:=(hvb _ e).1;omega))).trans (((uK z4).2 w3.heap.size 0 hbg).trans g2))
      | (go_simp;go_wp2_with (go_at_call 136;refine(a8e x x.B[k] b w2.heap.size O _ ((uH HH).ext XA.drew) ((uH WH).ext YA.drew) (uH MY) ((uH OI).g k hlt)).mono ?_;rintro e w4 ⟨rfl,hq4⟩;have y4:=Ext.trans ((Ext.refl _).drew) hq4;have z4:=xa.trans y4;have s0:w4.cell? ⟨wr.heap.size,0,none⟩=some (iv x.B[k].k):=y4.keep (by simp [go_sem]);have s1:w4.cell? ⟨wr.heap.size,1,none⟩=some (iv x.B[k].n):=y4.keep (by simp [go_sem]);have s2:w4.cell? ⟨wr.heap.size,2,none⟩=some (iv x.B[k].a):=y4.keep (by simp [go_sem]);have d0:=z4.keep g0;have O4:=uU (uN (uH hown) (λq hq=>z4.block q (hvb q hq).2));have hs4:wr.heap.size<w4.heap.size:=uL s0;have hs5:w3.heap.size<w4.heap.size:=uL d0;clear hq4)))
     all_goals
      have zA:=z4.alloc (.cells #[iv (nw x O x.B[k]).k,iv (nw x O x.B[k]).n,iv (nw x O x.B[k]).a] 152);have BP:=uU (b4h (o:=0) (u:=.slice (some ⟨gb,0,none⟩) (k+1) cap5) (bg:=w3.heap.size) (Nat.lt_succ_self _) ((uH hex).trans zA) ((uH O4).alloc _) (Nat.le_refl _) (Nat.lt_of_lt_of_le hbg zA.size) hgrow hown5);have ZA:=uU zA;clear hown5 hgrow t0 t1 t2 e0 ef nb s0 s1 s2 d0 zA z4 y4 hat hglt;go_wp2_with fail;go_roundw
      case rel=>
       refine⟨k+1,_,hlt,by go_num,?_,⟨(uH BP).2.2.2.2.1 v ((uH ZA).keep g0),((uH BP).2.2.1 1 (by omega)).trans ((uH ZA).keep (uH hgc).2.1),λo'=>((uH BP).2.2.2.1 o').trans (((uK (uH ZA)).2 _ o' hbg).trans ((uH hgc).2.2 o'))⟩,(uH BP).2.1⟩;rw[uH ETK,List.flatMap_append];refine uU ?_
       simpa using (uH BP).1
      case measure=>simp [intOf];omega
    ·have hk2:k=x.B.length:=by omega
     subst hk2;have OW:=uU (show wr.ownsRow (w3.heap.size+1) 152 3 v (x.B.map (nw x O)).length ((x.B.map (nw x O)).flatMap fW) by have e0:(x.B.map (nw x O)).take x.B.length=x.B.map (nw x O):=List.take_of_length_le (by simp);have:=uH hown;rw[e0] at this;rw[List.length_map];exact this);have RG:=uU (show SlW wr v (x.B.map (nw x O)) from ownW (by have e0:(x.B.map (nw x O)).take x.B.length=x.B.map (nw x O):=List.take_of_length_le (by simp);have:=uH hown;rw[e0] at this;rw[List.length_map];exact this) (by rw[List.length_map];omega));have hbg:w3.heap.size<wr.heap.size:=uL (uH hgc).1;have GV:=uU (uH hgc).1;have N0:=uU (show NS x O N w3 wr wr (.slice none 0 0) 0 [] from⟨World.ownsRow_nil _ _ _ _,by simp,λz hz=>by simp at hz,rfl,(uH hgc).2.1,(uH hgc).2.2,uX.refl _ _,uH hex,hbg⟩);obtain⟨w6,hw6⟩:∃W,W=wr:=⟨_,rfl⟩;subst hw6;have vb:=uU (λq e=>(uH hown).lt q e);clear hown hgc hex hlt hk X3;obtain⟨iq,hiq,hq0,hq1,hq2⟩:=info_parts a3v;obtain⟨io,hio,ho0,ho1,ho2⟩:=info_parts b5h;go_wp2_with fail;go_loopw [66] (λi wr=>∃(k:Nat) (vn:Value) (L:List (Nd×Value)),k<=O.length/\i=.int .i64 k/\Hid (NS x O N w3 w6 wr vn k L)) (λi _=>O.length-(intOf i).toNat)
     case atStart=>exact⟨0,_,_,Nat.zero_le _,rfl,uH N0⟩
     case round=>
      clear N0;obtain⟨wn,hwn⟩:∃W,W=wr:=⟨_,rfl⟩;subst hwn;obtain⟨k,vn,L,hk,rfl,hns⟩:=hrel;by_cases hlt:k<O.length
      ·obtain⟨g,rfl⟩:=hgl (by omega);have EX:=uU ((X2.trans Y3).trans (uH hns).ex);have a1:=(((uH RW).ext ((x2.trans Y3).trans (uH hns).ex)).cell k (by rw[b6r];exact hlt)).1;rw[c0v hlt] at a1;have GD:=uU (((uH OI).r O[k] (List.getElem_mem hlt)).good (uH Q2) (uH Q4));have hjn:=(uH GD).1;have MO:=uU (List.getElem_mem hlt);have K1:=uU (show ∀z:Nd×Value,z.1=dJ x O N O[k]->z.1=dJ x O N O[k] from λ_ h=>h);obtain⟨j,ej⟩:∃j,j=O[k]:=⟨_,rfl⟩;have EJ:=uU ej;rw[<-ej] at a1 GD hjn MO;clear ej K1;obtain⟨bc,oc,ap,kp,rfl,CA⟩:=((uH HH).ext (uH EX)).cell j hjn;have C4:=((uH HH).ext (uH EX)).c4;have hl200:=h200 j hjn;have k0:(0:Int)<=(k:Int):=by omega
       have k1:(k:Int)<(O.length:Int):=by omega
       have j0:(0:Int)<=(j:Int):=by omega
       have j1:(j:Int)<(x.A.length:Int):=by omega
       have hbc:bc<wn.heap.size:=uL CA.p0;have p0:=CA.p0;have p1:=CA.p1;have p2:=CA.p2;have p3:=CA.p3;have p4:=CA.p4;have p5:=CA.p5;have p6:=CA.p6;have p7:=CA.p7;have CP:=uU CA.P;clear CA;go_wp2_with fail;have B0:=uU (show NB wn _ (x.c j) ap kp (rkJ N 0 j) (.slice none 0 0) by rw[d3e];exact NB.V wn (x.c j) ap kp 62 99);clear p0 p1 p2 p3 p4 p5 p6 p7 a1 C4;go_loopw [86] (λi W=>∃m:Nat,m<=N.length/\i=.int .i64 m/\Hid (NB wn W (x.c j) ap kp (rkJ N m j) (.slice none 0 0))) (λi _=>N.length-(intOf i).toNat)
       case atStart=>exact⟨0,Nat.zero_le _,rfl,uH B0⟩
       case round=>
        clear B0;obtain⟨m,hm,rfl,hnb⟩:=hrel;by_cases hmt:m<N.length
        ·obtain⟨gw,rfl⟩:=hgw (by omega);have b1:=(((uH RM).ext ((Y3.trans (uH hns).ex).trans (uH hnb).ex)).cell m (by rw[b6r];exact hmt)).1;rw[c0v hmt] at b1;have m0:(0:Int)<=(m:Int):=by omega
         have m1:(m:Int)<(N.length:Int):=by omega
         by_cases hit:N[m]=j
         ·rw[hit] at b1;have R:=uU (show NB wn _ (x.c j) ap kp (rkJ N (m+1) j) (.slice none 0 0) by rw[rkJ_hit (uH WN).nd hmt hit];exact(uH hnb).rank);have n3:=(uH hnb).n3;have f3:=(uH hnb).f 3;go_wp2_with fail;go_roundw
          case rel=>exact⟨m+1,hmt,by go_num,uH R⟩
          case measure=>simp [intOf];omega
         ·have R:=uU (show NB wn wr (x.c j) ap kp (rkJ N (m+1) j) (.slice none 0 0) by rw[d3f hmt hit];exact uH hnb);obtain⟨jm,ejm⟩:∃q,q=N[m]:=⟨_,rfl⟩;rw[<-ejm] at b1 hit;have hit2:¬(jm:Int)=(j:Int):=by omega
          have hit3:((jm:Int) == (j:Int))=false:=by simpa using hit2
          clear ejm;go_wp2_with fail;go_roundw
          case rel=>exact⟨m+1,hmt,by go_num,uH R⟩
          case measure=>simp [intOf];omega
        ·have hm2:m=N.length:=by omega
         subst hm2;obtain⟨w7,hw7⟩:∃W,W=wr:=⟨_,rfl⟩;subst hw7;have q7:=(uH hnb).p7;have P0:=uU (show w7.ownsRow w7.heap.size 154 6 (.slice none 0 0) 0 (((((x.c j).F.map (np x O))).take 0).flatMap fP) from World.ownsRow_nil _ _ _ _);have h7:wn.heap.size+1<w7.heap.size:=uL (uH hnb).n0;clear hmt hm;go_wp2_with fail;go_loopw [101] (λi W=>∃(p:Nat) (v:Value),p<=(x.c j).F.length/\i=.int .i64 p/\Hid (W.ownsRow w7.heap.size 154 6 v p ((((x.c j).F.map (np x O)).take p).flatMap fP))/\Hid (NB wn W (x.c j) ap kp (rkJ N N.length j) v)/\w7.heap.size<=W.heap.size) (λi _=>(x.c j).F.length-(intOf i).toNat)
         case atStart=>exact⟨0,_,Nat.zero_le _,rfl,uH P0,uH hnb,Nat.le_refl _⟩
         case round=>
          clear P0 q7 hnb;obtain⟨p,vp,hp,rfl,hown,hnb,hsz⟩:=hrel;by_cases hpt:p<(x.c j).F.length
          ·obtain⟨bp,op,rfl,q0,q1,q2,q3,q4,q5⟩:=(uH CP) p hpt;have q0:=(uH hnb).ex.keep q0;have q1:=(uH hnb).ex.keep q1;have q2:=(uH hnb).ex.keep q2;have q3:=(uH hnb).ex.keep q3;have q4:=(uH hnb).ex.keep q4;have q5:=(uH hnb).ex.keep q5;have MP:=uU (a0j (uH Q2) (uH Q4) j p (uH GD) hpt);have MI:=uU ((uH OI).p j (uH MO) p hpt hpt);have ETP:=uU (show((x.c j).F.map (np x O)).take (p+1)=((x.c j).F.map (np x O)).take p++[np x O ((x.c j).p p)] by rw[List.take_succ_eq_append_getElem (by simpa using hpt),List.getElem_map,Cl.p_eq _ _ hpt]);obtain⟨y,ey⟩:∃y,y=(x.c j).p p:=⟨_,rfl⟩;rw[<-ey] at q0 q1 q2 q3 q4 q5 MP MI ETP;clear ey;have p0:(0:Int)<=(p:Int):=by omega
           have p1:(p:Int)<((x.c j).F.length:Int):=by omega
           have hbp:bp<wr.heap.size:=uL q0;have n4:=(uH hnb).n4;have f4:=(uH hnb).f 4;have hbn:wn.heap.size+1<wr.heap.size:=uL n4;have xa:=(Ext.refl wr).alloc (.cells #[iv y.key.k,iv y.key.n,iv y.key.a,iv y.val.k,iv y.val.n,iv y.val.a] 154);have EA:=uU ((((X2.trans Y3).trans (uH hns).ex).trans (uH hnb).ex).trans xa);have YA:=uU (((uH hns).ex.trans (uH hnb).ex).trans xa);have nq:¬wr.heap.size=wn.heap.size+1:=by omega
           have nq2:¬wn.heap.size+1=wr.heap.size:=by omega
           have W7:=uU (show w7.heap.size<=wr.heap.size from hsz);have hvb:∀q,vp.ownBlock=some q->w7.heap.size<=q/\q<wr.heap.size:=λq e=>(uH hown).lt q e
           go_wp2_with fail
           go_region_law (first
            | (refine step_append_lies _ rfl _ _ 60 rfl w7.heap.size 154 iq (.agg #[iv 0,iv 0,iv 0,iv 0,iv 0,iv 0]) 6 48 underlying60 hiq hq0 hq1 hq2 rfl (by decide) vp p ((((x.c j).F.map (np x O)).take p).flatMap fP) (by first | rfl | simp [Act.eval,Act.put]) ((uH O9).alloc _) _ 1 1 (fP (np x O y)) (by first | rfl | simp [Act.eval,Act.put];rfl) rfl (by
              intro i u hi
              match i,hi with
              | 0,hi=>simp [fP] at hi;subst hi;simp [Addr.add,go_sem,np]
              | 1,hi=>simp [fP] at hi;subst hi;simp [Addr.add,go_sem,np]
              | 2,hi=>simp [fP] at hi;subst hi;simp [Addr.add,go_sem,np]
              | 3,hi=>simp [fP] at hi;subst hi;simp [Addr.add,go_sem,np]
              | 4,hi=>simp [fP] at hi;subst hi;simp [Addr.add,go_sem,np]
              | 5,hi=>simp [fP] at hi;subst hi;simp [Addr.add,go_sem,np]) (by intro u hu;simp [fP] at hu;rcases hu with e | e | e | e | e | e <;> subst e <;> rfl) (by decide) (by unfold maxLen;omega) (by omega) (by have:=(uH Z9).size;have:=uH W7;simp;omega) _ rfl ?_;intro gb cap5 w5 hown5 hgrow hat hglt;have e0:=(World.cell?_of_block (a:=⟨wn.heap.size+1,4,none⟩) ((hgrow.block (wn.heap.size+1) (by simp;omega) (λe=>by have:=(hvb _ e.symm).1;omega)).trans (Below.heap_alloc w9 _ _ hs9))).trans d9;have ef:=(World.frozen?_of_block (a:=⟨wn.heap.size+1,4,none⟩) ((hgrow.block (wn.heap.size+1) (by simp;omega) (λe=>by have:=(hvb _ e.symm).1;omega)).trans (Below.heap_alloc w9 _ _ hs9))).trans (((uK (uH Z9)).2 _ 4 hbn).trans f4))
            | (go_simp;go_wp2_with (first
             | (go_at_call 136;refine(a8e x y.val b w2.heap.size O w8 ((uH HH).ext (uH E8)) ((uH WH).ext (uH Y8)) (uH MP).2 (uH MI).2).mono ?_;rintro e w9 ⟨rfl,hq9⟩;have d9:=hq9.keep d8;have Z9:=uU ((uH Z8).trans hq9);have hs9:wn.heap.size+1<w9.heap.size:=uL d9;have O9:=uU (uN (uH hown) (λq hq=>(uH Z9).block q (hvb q hq).2));clear hq9)
             | (go_at_call 136;refine(a8e x y.key b w2.heap.size O _ ((uH HH).ext (uH EA).drew) ((uH WH).ext (uH YA).drew) (uH MP).1 (uH MI).1).mono ?_;rintro e w8 ⟨rfl,hq8⟩;have y8:=Ext.trans ((Ext.refl _).drew) hq8;have s3:w8.cell? ⟨wr.heap.size,3,none⟩=some (iv y.val.k):=y8.keep (by simp [go_sem]);have s4:w8.cell? ⟨wr.heap.size,4,none⟩=some (iv y.val.n):=y8.keep (by simp [go_sem]);have s5:w8.cell? ⟨wr.heap.size,5,none⟩=some (iv y.val.a):=y8.keep (by simp [go_sem]);have d8:=(xa.trans y8).keep n4;have Z8:=uU (xa.trans y8);have E8:=uU ((uH EA).trans y8);have Y8:=uU ((uH YA).trans y8);clear hq8 y8))))
           all_goals
            have zA:=(uH Z9).alloc (.cells #[iv (nw x O y.key).k,iv (nw x O y.key).n,iv (nw x O y.key).a,iv (nw x O y.val).k,iv (nw x O y.val).n,iv (nw x O y.val).a] 154);have BP:=uU (NB.push ((uH hnb).ext zA) ((uH O9).alloc _) h7 hgrow hown5);have hsz9:w7.heap.size<=(w5.setCell ⟨wn.heap.size+1,4,none⟩ (.slice (some ⟨gb,0,none⟩) (p+1) cap5)).heap.size:=by have:=hgrow.size;have:=zA.size;simp only [World.setCell,Array.size_modify];omega
            clear hown5 hgrow hat hglt zA;go_wp2_with fail;go_roundw
            case rel=>
             refine⟨p+1,_,hpt,by go_num,?_,(uH BP).2,hsz9⟩;rw[uH ETP,List.flatMap_append];refine uU ?_
             simpa using (uH BP).1
            case measure=>simp [intOf];omega
          ·have hp2:p=(x.c j).F.length:=by omega
           subst hp2;have c1:=((uH hns).ext (uH hnb).ex).c1;have cf:=((uH hns).ext (uH hnb).ex).fz 1;have n0:=(uH hnb).n0;have n1:=(uH hnb).n1;have n2:=(uH hnb).n2;have n3:=(uH hnb).n3;have n4:=(uH hnb).n4;have hbn:wn.heap.size+1<wr.heap.size:=uL n4;have hbg2:w3.heap.size<wr.heap.size:=uL c1;have ZN:=uU (show(dJ x O N j,vp).1=dJ x O N O[k] from congrArg (dJ x O N) (uH EJ))
           have HP:=uU (show wr.ownsRow w7.heap.size 154 6 (dJ x O N j,vp).2 (dJ x O N j,vp).1.F.length ((dJ x O N j,vp).1.F.flatMap fP) by
            have:=uH hown;rw[List.take_of_length_le (by simp)] at this
            simpa [dJ] using this)
           have NS1:=uU ((uH hns).ext (uH hnb).ex);have LL:=uU (show L.length=k by have:=congrArg List.length (uH hns).eq;simpa [Nat.min_eq_left hk] using this);have h67:w6.heap.size<=w7.heap.size:=by have:=(uH hns).on.size;omega
           have h6r:w6.heap.size<=wr.heap.size:=by omega
           have hvn:∀q,vn.ownBlock=some q->q<w7.heap.size:=λq e=>by have:=((uH hns).own.lt q e).2;omega
           have V1:=uU (show vp.oneCell'=true by rcases (uH hown).2 with⟨h0,_⟩ | ⟨_,_,_,h0,_⟩ <;> rw[h0] <;> rfl);clear hpt hp;go_wp2_with (at_builtin;refine wpList_append_lies _ rfl _ _ 42 rfl w6.heap.size 99 io (.agg #[iv 0,iv 0,iv 0,iv 0,.slice none 0 0]) 5 56 underlying42 hio ho0 ho1 ho2 rfl (by decide) vn k (L.flatMap fN) rfl ((uH NS1).own.alloc _) _ 1 1 (fN (dJ x O N j,vp)) rfl rfl ?c1 ?c2 (by decide) ?c3 ?c4 ?c5 _ rfl ?_)
           case c1=>
            intro i u hi
            match i,hi with
            | 0,hi=>simp [fN] at hi;subst hi;simp [go_sem,dJ]
            | 1,hi=>simp [fN] at hi;subst hi;simp [go_sem,dJ]
            | 2,hi=>simp [fN] at hi;subst hi;simp [go_sem,dJ]
            | 3,hi=>simp [fN] at hi;subst hi;simp [go_sem,dJ]
            | 4,hi=>simp [fN] at hi;subst hi;simp [go_sem]
           case c2=>intro u hu;simp [fN] at hu;rcases hu with e | e | e | e | e <;> subst e <;> first | rfl | exact uH V1
           case c3=>unfold maxLen;omega
           case c4=>omega
           case c5=>first | exact h6r | omega | (simp;omega)
           intro gb cap5 w5 hown5 hgrow hat hglt;have xb:=(Ext.refl wr).alloc (.cells #[iv (x.c j).kind,iv (x.c j).T,iv (x.c j).U,iv (rkJ N N.length j),vp] 99);have PU:=uU (NS.push (g:=gb) ((uH NS1).ext xb) hlt (uH ZN) hgrow hown5 rfl (by simpa using hat) (uN (uH HP) (λq hq=>xb.block q ((uH HP).lt q hq).2)) h67 hvn);have d1:=(World.cell?_of_block (a:=⟨w3.heap.size,1,none⟩) (hgrow.block w3.heap.size (Nat.lt_of_lt_of_le hbg2 xb.size) (λe=>by have:=((uH NS1).own.lt _ e.symm).1;have:=(uH NS1).lt;omega))).trans (xb.keep c1);have df:=(World.frozen?_of_block (a:=⟨w3.heap.size,1,none⟩) (hgrow.block w3.heap.size (Nat.lt_of_lt_of_le hbg2 xb.size) (λe=>by have:=((uH NS1).own.lt _ e.symm).1;have:=(uH NS1).lt;omega))).trans (((uK xb).2 _ 1 hbg2).trans cf);clear hown5 hgrow hat xb;go_wp2_with fail;go_roundw
           case rel=>exact⟨k+1,_,_,hlt,by go_num,uH PU⟩
           case measure=>simp [intOf];omega
      ·have hk2:k=O.length:=by omega
       subst hk2;have hns':=uH hns;have c0:=hns'.c0.trans (uH GV);have c1:=hns'.c1
       have NL:=uU (show SlN wn vn (O.map (dJ x O N)) by
        have ll:L.length=O.length:=by have:=congrArg List.length hns'.eq;simpa using this
        have e1:L.map (·.1)=O.map (dJ x O N):=by rw[hns'.eq,List.take_of_length_le (Nat.le_refl _)]
        rw[<-e1]
        exact ownN (by rw[ll];exact hns'.own) (by omega) (λz hz=>ownP (hns'.F z hz).1 (by
         have hz1:z.1∈O.map (dJ x O N):=by rw[<-e1];exact List.mem_map.2 ⟨z,hz,rfl⟩
         obtain⟨i,hi,ei⟩:=List.mem_map.1 hz1;rw[<-ei];have:=h200 i (((uH OI).r i hi).good (uH Q2) (uH Q4)).1;simp only [dJ,List.length_map];omega)))
       have hz3:w.heap.size<w3.heap.size:=by have h1:=x1.size;simp at h1;have:=x2.size;have:=Y3.size;omega
       have FIN:=uU (show ∀W,uX (λq=>q<=w.heap.size) wn W->SlW W v (x.B.map (nw x O))/\SlN W vn (O.map (dJ x O N)) from λW hW=>by
        have cw:∀q,w3.heap.size<q->q<w6.heap.size->W.heap[q]?=w6.heap[q]?:=λq h1 h2=>(hW.block q (Nat.lt_of_lt_of_le h2 hns'.on.size) (by omega)).trans (hns'.on.block q h2 (by omega))
        have cn:∀q,w6.heap.size<=q->q<wn.heap.size->W.heap[q]?=wn.heap[q]?:=λq h1 h2=>hW.block q h2 (by have:=hns'.lt;omega)
        refine⟨ownW (uN (uH OW) (λq hq=>cw q ((uH OW).lt q hq).1 ((uH OW).lt q hq).2)) (by rw[List.length_map];omega),?_⟩;have ll:L.length=O.length:=by have:=congrArg List.length hns'.eq;simpa using this
        have e1:L.map (·.1)=O.map (dJ x O N):=by rw[hns'.eq,List.take_of_length_le (Nat.le_refl _)]
        have hW1:=uN hns'.own (λq hq=>cn q (hns'.own.lt q hq).1 (hns'.own.lt q hq).2);rw[<-e1]
        exact ownN (by rw[ll];exact hW1) (by omega) (λz hz=>ownP (uN (hns'.F z hz).1 (λq hq=>cn q ((hns'.F z hz).1.lt q hq).1 ((hns'.F z hz).1.lt q hq).2)) (by
         have hz1:z.1∈O.map (dJ x O N):=by rw[<-e1];exact List.mem_map.2 ⟨z,hz,rfl⟩
         obtain⟨i,hi,ei⟩:=List.mem_map.1 hz1;rw[<-ei];have:=h200 i (((uH OI).r i hi).good (uH Q2) (uH Q4)).1;simp only [dJ,List.length_map];omega)))
       have EXX:=uU ((X2.trans Y3).trans hns'.ex);obtain⟨vra,vrc,rfl,_,_⟩:=uH RG;obtain⟨vna,vnc,rfl,_,_⟩:=uH NL;have EG:=(((x1.trans x2).trans Y3).trans hns'.ex);have r0:=EG.keep (b:=w.heap.size) (o:=0) (v:=.slice none 0 0) (by simp [go_sem]);have r1:=EG.keep (b:=w.heap.size) (o:=1) (v:=.slice none 0 0) (by simp [go_sem]);have rf0:wn.frozen? ⟨w.heap.size,0,none⟩=false:=((uK EG).2 w.heap.size 0 (by simp)).trans (by simp [go_sem]);have rf1:wn.frozen? ⟨w.heap.size,1,none⟩=false:=((uK EG).2 w.heap.size 1 (by simp)).trans (by simp [go_sem]);have hzw:w.heap.size<wn.heap.size:=uL r0;clear hns' EG;go_wp2_with fail;refine bodyPost_ret (v:=.agg #[.slice vra (x.B.map (nw x O)).length vrc,.slice vna (O.map (dJ x O N)).length vnc]) (by simp [results,results74,go_sem,r0,r1]) rfl ⟨_,_,rfl,?_⟩;refine(λ(F:uX (λq=>q=w.heap.size) wn _)=>⟨⟨N,uH WN,λW hW=>by rw[gR,gL,<-uH EO];exact uH FIN W ((F.mono (λq e=>Nat.le_of_eq e)).trans (hW.mono (λq e=>Nat.le_of_lt e)))⟩,F.ext (uH EXX) (λq hq e=>by omega)⟩) ?_
       repeat (first | refine uX.setCell ?_ (by simp) _ | exact uX.refl _ _)
end Go.Proofs.YtddkhnclmeikfaaGreat
