import Derived.Test.YtmfgdjfpchplmaaGreatDoorJr
import Derived.Test.YtmfgdjfpchplmaaGreatDoorJv
set_option maxRecDepth 100000
set_option maxHeartbeats 6000000
namespace Go.Proofs.YtmfgdjfpchplmaaGreatDoor
open Go.RowKit Go.Proofs.Tryz
attribute [local go_sem ↓] Go.wp_at_zero Go.wp_at_succ
theorem way_9[ql]{C B:Nat}{w:World}{b bd ba bs:Nat}{x:Hp}{a p c:Nat}{n:Int}(h:SOq C B w b x)(s:Snd x)(hd:(default:uL).z bd=some (yH b 9 a p c n (a8a ba bs)))(za:(default:uL).z ba=some (c1r 9 a p c n))(zs:(default:uL).z bs=some (c5m b))(hC:C+64000<=1000000000)(ha:a<16)(hcc:c<=200)(v:World)(hv:v.heap.size<=B)(hx:Ext v w):
  Calls prog 162 #[.pointer (some ⟨bd,0,none⟩)] w λe w'=>qW C B b x a p c n 9 v e w':=by
 have D:=uU (tN.of (h.obj hd));have H:=uU h;have HD:=uU hd;obtain⟨br,kr,hr⟩:=h.B s;have R:=uU hr;obtain⟨F,d1,d2,d3,d,d5,d6⟩:=uH D;have bc:=cLt F;have QA:=uU (λW(xW:Ext w W)=>a1r (R.ext xW) (D.ext xW) ha);by_cases hk:(x.r a).k=2
 ·obtain⟨en,ea,hi,st,nd⟩:=s.at a ha hk;obtain⟨i,hI⟩:=obE (x.at a);have HI:=uU hI;rw[<-hI] at ea hi st nd;have J:=uU hk;have T:=s.ok.p200 i hi;have S:=uU s;obtain⟨bn,kn,cb,co,ap,kp,hc⟩:=h.cel i hi;have CE:=uU hc;have QC:=uU (λW(xW:Ext w W)=>a1z (R.ext xW) (CE.ext xW) (D.ext xW) ha hk ea hi);have QR:=uU (λW(xW:Ext w W)=>c5n (op:=9) (a:=a) (p:=p) (c:=c) (n:=n) (H.ext xW) (by omega) S za zs c (by omega) v hv (hx.trans xW));obtain⟨l,hl⟩:=obE ((x.c i).F.length);have P:=uU hl;rw[<-hl] at T;clear h s hd hr hk ea en hI hc st nd hl za zs;go_in;go_wp21;refine(QA _ (hO w)).mono ?_;rintro e w5 ⟨rfl,x5⟩;go_wp21;refine(QC _ x5).mono ?_;rintro e w6 ⟨rfl,x6⟩;have o:=uU (x5.trans x6);have C6:=uU (CE.ext o);have X:=C6.m1;have E:=C6.p7;rw[<-uH P] at E;have ac:=cLt X;have au:=cLt E;have D6:=uU (D.ext o);clear F d1 d2 d3 d d5 d6;obtain⟨F,d1,d2,d3,d,d5,d6⟩:=uH D6;have ab:=cLt d;clear x5 x6;by_cases hlc:l+c<=200
  ·have q1:¬((l:Int)+(c:Int) > 200):=by omega
   go_wp21;go_quiet (fail);obtain⟨W7,hW7⟩:∃W,W=w6.drewN nq:=⟨_,rfl⟩;have I:Ext w6 W7:=by rw[hW7];exact(hO _).drewN _
   rw[<-hW7];have X7:=uU (o.trans I);have D7:=uU (D6.ext I);clear hW7 I X E ac au F d1 d2 d3 d d5 d6 ab C6 D6 o;obtain⟨F,d1,d2,d3,d,d5,d6⟩:=uH D7;have ag:=cLt d;go_wp21;go_cut [6] (λs6 wx=>∃(y:Hp)(cd:Int),s6=b6t cd/\Hid (b1p x 9 c y cd)/\Hid (SOq (C+16000) B wx b y)/\Hid (Ext v wx))
   case first=>
    go_region_with (go_at_call 117;refine(QR _ (by first|exact X7|exact X7.trans (eDr _))).mono ?_;rintro e w8 ⟨y,cd,he,hp,g8,x8⟩;have e2:=uH he;subst e2;have G:=uU g8;have N:=uU x8;have g:=uU hp;clear he g8 x8 hp)
    all_goals
     go_wp21;go_meet
     first|exact⟨y,cd,rfl,g,G,N⟩|exact⟨y,cd,rfl,g,G.ext (eDr _),N.drew⟩
   case rest=>
    obtain⟨w8,hw8⟩:∃W,W=wc:=⟨_,rfl⟩;subst hw8;obtain⟨z,cd,rfl,hp,g8,x8⟩:=hcut;have G:=uU g8;have N:=uU x8;have g:=uU hp;clear g8 x8 hp QR F d1 d2 d3 d d5 d6 ag D7 X7;have RI:tY x c z/\cd=if zW z c=true then 0 else 4:=by
     rcases uH g with q|q
     ·exact absurd q.1.1 (by decide)
     ·exact q.2
    obtain⟨hz,hcd⟩:=RI;have HZ:=uU hz;clear hz g;cases hf:zW z c
    all_goals
     rw[hf] at hcd;simp at hcd;subst hcd;have HF:=uU hf;clear hf
    ·rw[show b6t 4=.iface 154 (.agg #[iv 4]) from rfl];go_wp21;go_ret2;exact⟨z,4,0,rfl,.inr ⟨J,by rw[<-uH HI];exact⟨rfl,.inr ⟨by rw[<-uH P];exact hlc,z,HZ,.inl ⟨HF,rfl,rfl⟩⟩⟩⟩,G.wide (by omega),N⟩
    ·rw[show b6t 0=.nilIface from rfl];have O:=HZ.snd S;obtain⟨k1,k2⟩:=KpN.M S ha J HZ;obtain⟨_,ea,hi2,st2,_⟩:=O.at a ha k1;rw[<-uH HI,<-uH P] at k2;obtain⟨m,hM⟩:=obE (z.at a);have HM:=uU hM;rw[<-hM] at ea hi2 st2 k2;have SZ:=uU O;have KL:=uU k2;have L:=uU hi2;have aq:=uU st2;have aj:=uU (show z.K+c<=z.M by have e:=uH HF;unfold zW at e;exact of_decide_eq_true e);obtain⟨br2,kr2,hr2⟩:=G.B O;have R8:=uU hr2;have D8:=uU (tN.of (G.obj HD));obtain⟨bn2,kn2,cb2,co2,ap2,kp2,hc2,hg2⟩:=G.growr (by rw[O.r1.B];omega) m hi2 c (by rw[k2];exact hlc) v hv N;have Z:=uU hc2;have GR:=uU hg2;have am:((z.r a).k == 2)=true:=by simpa using k1
     have U:=uU (λW(xW:Ext w8 W)=>a1r (R8.ext xW) (D8.ext xW) ha);obtain⟨yk,hyk⟩:∃u,u=(z.r a).k:=⟨_,rfl⟩;obtain⟨yn,hyn⟩:∃u,u=(z.r a).n:=⟨_,rfl⟩;have YK:=uU hyk;have YN:=uU hyn;have A:=uU (λW(xW:Ext w8 W)=>a1g ⟨yk,yn,(m:Int)⟩ b z.A.length bn2 0 kn2 m W (by rw[hyk];simpa using k1) (xW.keep Z.n13) L);simp only [Nat.zero_add] at A;clear hyk hyn;have EA:=uU ea;clear hM k1 k2 O hi2 st2 hr2 hc2 hg2 ea am;have V:=D8.d0;have ad:=cLt V;go_wp21;go_cut [4] (λs4 wx=>s4=ndp bn2 m/\Hid (Ext w8 wx))
     case first=>
      go_region_with (first|(have _:=t;go_at_call 184;refine(A _ t).mono ?_;rintro e w9 ⟨rfl,x9⟩;have X9:=uU (t.trans x9);clear x9)|(go_at_call 193;refine(U _ (eDr w8)).mono ?_;rintro e wa ⟨rfl,xa⟩;have j:=kF (eDr w8) xa;obtain⟨q0,q1,q2⟩:=(R8.ext j).r a ha;rw[uH EA] at q2;rw[<-uH YK] at q0;rw[<-uH YN] at q1;have e0:=(D8.ext j).d0;have az:=cLt q0;have ay:=cLt e0;have t:=uU j;clear j xa))
      all_goals
       go_wp21;go_meet;exact⟨rfl,X9⟩
     case rest=>
      obtain⟨w9,hw9⟩:∃W,W=wc:=⟨_,rfl⟩;subst hw9;obtain⟨rfl,x9⟩:=hcut;have X9:=uU x9;clear x9 V ad U A;have K:=uU (Z.ext X9);have D9:=uU (D8.ext X9);have X:=K.m1;have E:=K.p7;have f7:=K.f (co2+7);have d:=D9.d4;have ao:=D9.d0;have ah:=cLt X;have al:=cLt E;have af:=cLt d;obtain⟨l2,hl2⟩:=obE ((z.c m).F.length);have an:=uU (show ∀(W1:World),Ext w9 W1->∀ty,∃a' k' w',(Builtin.append_ #[78,3] ty #[.slice ap2 l2 kp2,.int .i64 c]).run prog W1=.ok (.slice a' (l2+c) k') w'/\AppS (C+16000) B b z m c bn2 cb2 co2 ap2 kp2 v a' k' w' from λW1 e ty=>by rw[hl2];exact GR W1 ty (X9.trans e));have Q:=uU hl2;rw[<-hl2] at E;clear hl2 GR;go_wp21;go_cut [] (λwx=>Hid (SOq (C+16000) B wx b (hD z m (tW (z.c m) c)))/\Hid (Ext v wx))
      case first=>
       go_region_law (refine c8r _ rfl _ _ rfl ap2 l2 kp2 c (l2+c) _ (by first|rfl|simp [Act.eval,Act.put]) (by first|rfl|simp [Act.eval,Act.put];rfl) (an _ (by first|exact hO _|exact(eDr _))) ?_;intro a' k' w10 hap;have ae:=hap.m1;have M:=hap.p7;rw[<-uH Q] at M;have bb:=hap.f7;have av:=cLt ae;have aw:=cLt M;have g:=uU hap;clear hap)
       all_goals
        go_wp21;go_meet;exact⟨by rw[uH Q];first|exact g.so _ (hO _)|exact g.so _ (eDr _)|exact(g.so _ (hO _)).ext (eDr _),by first|exact g.ex.setCell (p:=⟨cb2,co2+7,none⟩) (kB hv K.lo.1) _|exact g.ex.drew.setCell (p:=⟨cb2,co2+7,none⟩) (kB hv K.lo.1) _|exact(g.ex.setCell (p:=⟨cb2,co2+7,none⟩) (kB hv K.lo.1) _).drew⟩
      case rest=>
       obtain⟨w11,hw11⟩:∃W,W=wc:=⟨_,rfl⟩;subst hw11;obtain⟨g11,x11⟩:=hcut;have Y:=uU g11;have ar:=uU x11;clear g11 x11 X E f7 d ao ah al af;have aa:=uU (tN.of (Y.obj HD));have d:=aa.d4;have F:=aa.d0;have ax:=cLt d;have sg:=SZ.grow m c L aq (by rw[uH KL];exact hlc) aj;have QM:=uU (λW(xW:Ext w11 W)=>c5t (Y.ext xW) (by omega) c (by omega) (show Snd (zY (hD z m (tW (z.c m) c)) c) from sg) v hv (ar.trans xW));clear sg;go_wp21;go_region_with (go_at_call 194;refine(QM _ (eDr w11)).mono ?_;rintro e w12 ⟨y,he,hp,g12,x12⟩;have e2:=uH he;subst e2;have ai:=uU g12;have ak:=uU x12;have PC:=uU hp;clear he g12 x12 hp)
       all_goals
        go_wp21;go_ret2;exact⟨y,0,0,rfl,.inr ⟨J,by rw[<-uH HI];exact⟨rfl,.inr ⟨by rw[<-uH P];exact hlc,z,HZ,.inr ⟨HF,rfl,by rw[<-uH HM];exact uH PC⟩⟩⟩⟩,ai.wide (by omega),ak⟩
  ·have q1:(l:Int)+(c:Int) > 200:=by omega
   go_wp21;go_quiet (fail);go_wp21;go_ret2;exact⟨x,5,0,rfl,.inr ⟨J,by rw[<-uH HI];exact⟨rfl,.inl ⟨by rw[<-uH P];omega,rfl,rfl⟩⟩⟩,(H.wide (show C<=C+64000 by omega)).ext (Ext.drewN o _),hx.trans (Ext.drewN o _)⟩
 ·have J:=uU hk;have QC:=uU (λW(xW:Ext w W)=>a5e (R.ext xW) (D.ext xW) ha hk);clear h s hd hr hk;go_in;go_wp21;refine(QA _ (hO w)).mono ?_;rintro e w5 ⟨rfl,x5⟩;go_wp21;refine(QC _ x5).mono ?_;rintro e w6 ⟨rfl,x6⟩;have o:=uU (x5.trans x6);clear x5 x6;go_wp21;go_ret2;exact⟨x,2,0,rfl,.inl ⟨J,rfl,rfl,rfl⟩,(H.wide (show C<=C+64000 by omega)).ext o,hx.trans o⟩
end Go.Proofs.YtmfgdjfpchplmaaGreatDoor
