import Derived.Test.YtolmnenlnpbcfaaGreatDoorSx7
import Derived.Test.YtolmnenlnpbcfaaGreatDoorSo3
set_option maxRecDepth 100000
set_option maxHeartbeats 4000000
namespace Go.Proofs.YtolmnenlnpbcfaaGreatDoor
open Go.RowKit Go.Proofs.Tryz
attribute [local go_sem ↓] Go.wp_at_zero Go.wp_at_succ
attribute [local go_sem] He.v He.v1 He.v2
theorem seg2{u0 u2 u3 u4 u5 u6 u9 u10 u11 u12 u13 u14 u15 u16 u17 u18 u19 u20 u21 u22 u23 u24 u25 u26 u27 u28 u29 u30 u31 u32 u33 u34 u35 u36 u37 u38 u39 u40 u41 u42 u43 u44 u45 u46 u47 u48 u49 u50 u51 u52 u53 u54 u55 u56 u57 u58 u59 u60 u61 u62 u63 u64 u65 u66 u67 u68 u69 u70 u71 u72 u73 u74 u75 u76 u77 u78 u79 u80 u81 u82 u83 u84 u85 u86 u87 u88 u89 u90 u91 u92 u93 u94 u95 u96 u97 u98 u99 u100 u101 u102 u103 u104 u105 u106 u107 u108 u109 u110 u111 u112 u113 u114 u115 u116:Value}(w w6:World)(av:Option Addr)(nv kv:Nat)(rb:Nat)(b1:rb<256)(QB:Hid (∀W,Ext w W->Calls prog 13 #[.slice av nv kv,iv 0] W λe w'=>e=.returned (iv rb)/\w'=W))(q r:Nat)(D F:He)(SD:Hid (Snd D.z))(E1:Hid (D.z=F.z))(DX:Hid (D.bx q w6))(FX:Hid (F.bx r w6))(DV:Hid (D.at w6))(FV:Hid (F.rd w6))(X:Hid (Ext w w6)):Code.wp prog (tls 7 (Tryz.f3.body.getD .skip)) (bodyPost prog Tryz.f3 λe w'=>e=.returned (.bool true)/\Ext w w') ⟨#[u0,.slice av nv kv,u2,u3,u4,u5,u6,.pointer (some ⟨q,0,none⟩),.pointer (some ⟨r,0,none⟩),u9,u10,u11,u12,u13,u14,u15,u16,u17,u18,u19,u20,u21,u22,u23,u24,u25,u26,u27,u28,u29,u30,u31,u32,u33,u34,u35,u36,u37,u38,u39,u40,u41,u42,u43,u44,u45,u46,u47,u48,u49,u50,u51,u52,u53,u54,u55,u56,u57,u58,u59,u60,u61,u62,u63,u64,u65,u66,u67,u68,u69,u70,u71,u72,u73,u74,u75,u76,u77,u78,u79,u80,u81,u82,u83,u84,u85,u86,u87,u88,u89,u90,u91,u92,u93,u94,u95,u96,u97,u98,u99,u100,u101,u102,u103,u104,u105,u106,u107,u108,u109,u110,u111,u112,u113,u114,u115,u116],[]⟩ w6:=by
 conv=>arg 2;dsimp only[Tryz.f3,tls,Option.getD]
 conv=>arg 4;dsimp only
 obtain⟨t0,t1,t2,t3,t4,t5,t6,t7,t8,t9,t10,t11,t12⟩:=uH DX;have hp:=uZ t0
 go_wp21;refine(seI DV SD).mono ?_;rintro e w7 ⟨G,ga,gb,rfl,gn,GV,x7⟩;have SG:=uU (gn.snd SD);have SF:=uU (show Snd F.z from uH E1▸uH SD);have FX:=uU (He.bxe FX x7);have FV:=uU (show F.rd w7 from He.rde FV x7);have X:=uU (X.trans x7);clear x7 DX DV t0 t1 t2 t3 t4 t5 t6 t7 t8 t9 t10 t11 t12 hp SD
 go_upto_region 11 with(fail)
 obtain⟨W7,hW⟩:=obE (w7.alloc (.cells (G.c2 ga gb) 40));rw[<-hW];obtain⟨s,hs⟩:=obE w7.heap.size;rw[<-hs]
 have xa:Ext w7 W7:=by rw[hW];exact(hO _).alloc _
 have GX:=uU (show G.bx s W7 by rw[hW,hs];exact(He.new2 G ga gb w7 _).1)
 have FX:=uU (He.bxe FX xa);have GV:=uU (He.ate GV xa);have FV:=uU (show F.rd W7 from He.rde FV xa);have X:=uU (X.trans xa);clear xa hW hs
 have KP:=uU (λ(W:World)(e:Ext W7 W)=>show G.bx s W/\F.bx r W from⟨He.bxe GX e,He.bxe FX e⟩)
 have QI:=uU (λ(W:World)(e:Ext W7 W)=>(okI (He.ate GV e) SG.ok).mono λ_ _ h=>kG h.1 (e.trans h.2))
 have QS:=uU (λ(W:World)(e:Ext W7 W)=>(seS (e:=F) (He.rde FV e) SF).mono λ_ W' ⟨d,a,b,h,i,j,x⟩=>show∃(d:He)(a b:Int),_=Ending.returned (d.v2 a b)/\Hid (d.rd W'/\d.z=G.z)/\Ext W7 W' from⟨d,a,b,h,⟨j,((show b7g F.z G.z from uH E1▸uH gn).uniq i).symm⟩,e.trans x⟩)
 have fd:=fieldS;clear FX FV
 go_region_held3 (λW=>G.bx s W/\F.bx r W) ((with_reducible refine uH KP _ ?_;with_reducible (first|exact hO _|assumption|(refine mP ?_;first|exact hO _|assumption))))
  (first
   | (go_at_call 6;refine(QI _ (by first|exact hO _|exact eDr _|assumption)).mono ?_;rintro e wa ⟨rfl,xa⟩)
   | (go_at_call 11;refine(QS _ (by assumption)).mono ?_;rintro e wb ⟨H,ha,hb,rfl,HV,xb⟩)
   | (go_at_call 7;refine(c4k (He.ate GV xb) HV.1 HV.2).mono ?_;rintro e wd ⟨rfl,xe⟩;have xd:Ext W7 wd:=xb.trans xe))
 go_upto_if 82 with(fail)
 go_cut [] (λwx=>wx=wd)
 case first=>go_wp21;go_meet;exact rfl
 case rest=>
  subst hcut;refine ‹∀ (a:Act)(w:World),Code.wp prog _ _ a w->_› _ _ ?_;exact seg3 w _ av nv kv rb b1 QB s G SG (He.bxe GX xd) (He.ate GV xd) (X.trans xd)
theorem seg1{u0 u2 u3 u4 u7 u8 u9 u10 u11 u12 u13 u14 u15 u16 u17 u18 u19 u20 u21 u22 u23 u24 u25 u26 u27 u28 u29 u30 u31 u32 u33 u34 u35 u36 u37 u38 u39 u40 u41 u42 u43 u44 u45 u46 u47 u48 u49 u50 u51 u52 u53 u54 u55 u56 u57 u58 u59 u60 u61 u62 u63 u64 u65 u66 u67 u68 u69 u70 u71 u72 u73 u74 u75 u76 u77 u78 u79 u80 u81 u82 u83 u84 u85 u86 u87 u88 u89 u90 u91 u92 u93 u94 u95 u96 u97 u98 u99 u100 u101 u102 u103 u104 u105 u106 u107 u108 u109 u110 u111 u112 u113 u114 u115 u116:Value}(w w2:World)(av:Option Addr)(nv kv:Nat)(rb:Nat)(b1:rb<256)(QB:Hid (∀W,Ext w W->Calls prog 13 #[.slice av nv kv,iv 0] W λe w'=>e=.returned (iv rb)/\w'=W))(HG:Hid (∀W,Ext w W->W.cell? ⟨0,0,none⟩=some (rty 123)))(p:Nat)(E:He)(A:Ak)(S:Hid (Snd E.z))(BX:Hid (E.bx p w2))(AX:Hid (ABx w2 (p+1) A))(V:Hid (E.at w2))(X:Hid (Ext w w2)):Code.wp prog (tls 4 (Tryz.f3.body.getD .skip)) (bodyPost prog Tryz.f3 λe w'=>e=.returned (.bool true)/\Ext w w') ⟨#[u0,.slice av nv kv,u2,u3,u4,.pointer (some ⟨p,0,none⟩),.pointer (some ⟨p+1,0,none⟩),u7,u8,u9,u10,u11,u12,u13,u14,u15,u16,u17,u18,u19,u20,u21,u22,u23,u24,u25,u26,u27,u28,u29,u30,u31,u32,u33,u34,u35,u36,u37,u38,u39,u40,u41,u42,u43,u44,u45,u46,u47,u48,u49,u50,u51,u52,u53,u54,u55,u56,u57,u58,u59,u60,u61,u62,u63,u64,u65,u66,u67,u68,u69,u70,u71,u72,u73,u74,u75,u76,u77,u78,u79,u80,u81,u82,u83,u84,u85,u86,u87,u88,u89,u90,u91,u92,u93,u94,u95,u96,u97,u98,u99,u100,u101,u102,u103,u104,u105,u106,u107,u108,u109,u110,u111,u112,u113,u114,u115,u116],[]⟩ w2:=by
 conv=>arg 2;dsimp only[Tryz.f3,tls,Option.getD]
 conv=>arg 4;dsimp only
 obtain⟨t0,t1,t2,t3,t4,t5,t6,t7,t8,t9,t10,t11,t12⟩:=uH BX;obtain⟨⟨a0,a1,a2,a3,a4⟩,_⟩:=uH AX;have hp:=uZ t0;have ha:=uZ a0
 go_wp21;refine(doI V S _ _ _ _ _ (HG _ X)).mono ?_;rintro e w3 ⟨D,ca,cb,rfl,dn,DV,x3⟩;have SD:=uU (a7i.snd S dn)
 have BX:=uU (He.bxe BX x3);have AX:=uU (ABx.e AX x3);have V:=uU (He.ate V x3);have X:=uU (X.trans x3);clear x3 t0 t1 t2 t3 t4 t5 t6 t7 t8 t9 t10 t11 t12 a0 a1 a2 a3 a4 hp ha
 obtain⟨t0,t1,t2,t3,t4,t5,t6,t7,t8,t9,t10,t11,t12⟩:=uH BX;obtain⟨⟨a0,a1,a2,a3,a4⟩,_⟩:=uH AX;have hp:=uZ t0;have ha:=uZ a0
 go_wp21
 obtain⟨W3,hW⟩:=obE (w3.alloc (.cells (D.c2 ca cb) 37));rw[<-hW];obtain⟨q,hq⟩:=obE w3.heap.size;rw[<-hq]
 have xa:Ext w3 W3:=by rw[hW];exact(hO _).alloc _
 have DX:=uU (show D.b2 ca cb q W3 by rw[hW,hq];exact He.new2 D ca cb w3 _)
 refine(doS (He.ate V xa).1 S _ _ _ _ _).mono ?_;rintro e w4 ⟨F,cc,cd,rfl,fn,FV,x4⟩;obtain⟨e1,rfl,rfl⟩:=dn.uniq S.ok fn;have E1:=uU e1;clear e1
 have DX:=uU (He.b2e DX x4);have DV:=uU (He.ate DV (xa.trans x4));have X:=uU (X.trans (xa.trans x4));clear xa x4 hW hq BX AX V t0 t1 t2 t3 t4 t5 t6 t7 t8 t9 t10 t11 t12 a0 a1 a2 a3 a4 hp ha dn fn S
 obtain⟨⟨t0,t1,t2,t3,t4,t5,t6,t7,t8,t9,t10,t11,t12⟩,t13,t14⟩:=uH DX;have hp:=uZ t0
 go_wp21
 obtain⟨W4,hW⟩:=obE (w4.alloc (.cells (F.c2 ca cb) 37));rw[<-hW];obtain⟨r,hr⟩:=obE w4.heap.size;rw[<-hr]
 have xa:Ext w4 W4:=by rw[hW];exact(hO _).alloc _
 have FX:=uU (show F.b2 ca cb r W4 by rw[hW,hr];exact He.new2 F ca cb w4 _)
 refine(okI (He.ate DV xa) SD.ok).mono ?_;rintro e w5 ⟨rfl,x5⟩;have xa:=xa.trans x5
 have DX:=uU (He.b2e DX xa);have FX:=uU (He.b2e FX x5);have DV:=uU (He.ate DV xa);have FV:=uU (show F.rd w5 from He.rde FV xa);have X:=uU (X.trans xa);clear xa x5 hW hr t0 t1 t2 t3 t4 t5 t6 t7 t8 t9 t10 t11 t12 t13 t14 hp
 obtain⟨⟨t0,t1,t2,t3,t4,t5,t6,t7,t8,t9,t10,t11,t12⟩,t13,t14⟩:=uH DX;obtain⟨⟨s0,s1,s2,s3,s4,s5,s6,s7,s8,s9,s10,s11,s12⟩,s13,s14⟩:=uH FX;have hp:=uZ t0;have hr:=uZ s0
 go_wp21
 refine(c4k DV FV E1.symm).mono ?_;rintro e w6 ⟨rfl,x6⟩
 have DX:=uU (He.b2e DX x6);have FX:=uU (He.b2e FX x6);have DV:=uU (He.ate DV x6);have FV:=uU (show F.rd w6 from He.rde FV x6);have X:=uU (X.trans x6);clear x6 t0 t1 t2 t3 t4 t5 t6 t7 t8 t9 t10 t11 t12 t13 t14 hp s0 s1 s2 s3 s4 s5 s6 s7 s8 s9 s10 s11 s12 s13 s14 hr
 obtain⟨_,t13,t14⟩:=uH DX;obtain⟨_,s13,s14⟩:=uH FX;have hp:=uZ t13;have hr:=uZ s13
 go_upto_if 65 with(fail)
 go_cut [] (λwx=>wx=w6)
 case first=>go_wp21;go_meet;exact rfl
 case rest=>
  subst hcut;refine ‹∀ (a:Act)(w:World),Code.wp prog _ _ a w->_› _ _ ?_;exact seg2 w _ av nv kv rb b1 QB q r D F SD E1 DX.1 FX.1 DV FV X
theorem c4m(w:World)(u v:Value)(hu:ByAt w u)(hv:ByAt w v)(hg:w.cell? ⟨0,0,none⟩=some (rty 123)):
  Calls prog 3 #[u,v] w λe w'=>e=.returned (.bool true)/\Ext w w':=by
 have Q:=uU (drawH hu);obtain⟨rb,b1,QB⟩:=d5q hv;have QB:=uU QB;have HG:=uU (λW (e:Ext w W)=>e.keep hg);obtain⟨au,nu,ku,rfl,l1,_⟩:=hu;obtain⟨av,nv,kv,rfl,l2,_⟩:=hv
 have n1:¬((nu:Int)>1048576):=by omega
 have n2:¬((nv:Int)>1048576):=by omega
 clear hg l1 l2;go_in;go_wp21;refine Q.mono ?_;rintro e w1 ⟨E,A,rfl,V1,x1⟩;clear Q
 go_wp21
 obtain⟨W1,hW⟩:=obE ((w1.alloc (.cells E.c 27)).alloc (.cells #[iv A.op,iv A.a,iv A.b,iv A.c,iv A.n] 29));rw[<-hW];obtain⟨p,hp⟩:=obE w1.heap.size;rw[<-hp]
 have xa:Ext w1 W1:=by rw[hW];exact((hO _).alloc _).alloc _
 have BX:=uU (show E.bx p W1 by rw[hW,hp];exact He.bxe (He.new E w1 _) ((hO _).alloc _))
 have AX:=uU (show ABx W1 (p+1) A by rw[hW,hp];have:=ABx.new (w1.alloc (.cells E.c 27)) A 29;simpa using this)
 have V:=uU (He.ate V1 xa);have X:=uU (x1.trans xa);clear hW hp xa x1 V1
 refine(a0q E.z W1 V.1.1 V.1.2.1 V.1.2.2).mono ?_;rintro e w2 ⟨n,rfl,k,x2⟩
 have BX:=uU (He.bxe BX x2);have AX:=uU (ABx.e AX x2);have V:=uU (He.ate V x2);have X:=uU (X.trans x2);clear x2
 go_upto_if 27 with(fail)
 go_cut [] (λwx=>Hid (Snd E.z)/\Hid (E.bx p wx)/\Hid (ABx wx (p+1) A)/\Hid (E.at wx)/\Hid (Ext w wx))
 case first=>
  obtain⟨t0,t1,t2,t3,t4,t5,t6,t7,t8,t9,t10,t11,t12⟩:=uH BX;obtain⟨⟨a0,a1,a2,a3,a4⟩,_⟩:=uH AX
  have hp:=uZ t0;have ha:=uZ a0
  by_cases hn:n=0
  ·subst hn;go_wp21;go_meet;exact⟨k.snd,BX,AX,V,X⟩
  ·have t:(n != 0)=true:=by simpa using hn
   go_upto_region 5 with(fail)
   have KP:=uU (λ(W:World)(e:Ext w2 W)=>show E.bx p W/\W.cell? ⟨p+1,0,none⟩=some (iv A.op)/\W.cell? ⟨p+1,1,none⟩=some (iv A.a)/\W.cell? ⟨p+1,2,none⟩=some (iv A.b)/\W.cell? ⟨p+1,3,none⟩=some (iv A.c)/\W.cell? ⟨p+1,4,none⟩=some (iv A.n) from⟨He.bxe BX e,e.keep a0,e.keep a1,e.keep a2,e.keep a3,e.keep a4⟩)
   have QI:=uU (λ(W:World)(e:Ext w2 W)=>(okI (He.ate V e) k).mono λ_ _ h=>kG h.1 (e.trans h.2))
   have QS:=uU (λ(W:World)(e:Ext w2 W)=>(okS (He.ate V e) k).mono λ_ _ h=>kG h.1 (e.trans h.2))
   have QD:=uU (λ(W:World)(e:Ext w2 W)=>(doN (He.ate V e) (λo=>hn (k.uniq o)) A.op A.a A.b A.c A.n).mono λ_ _ h=>kG h.1 (e.trans h.2))
   have fd:=fieldD;clear t0 t1 t2 t3 t4 t5 t6 t7 t8 t9 t10 t11 t12 a0 a1 a2 a3 a4 BX AX V
   go_region_held3 (λW=>E.bx p W/\W.cell? ⟨p+1,0,none⟩=some (iv A.op)/\W.cell? ⟨p+1,1,none⟩=some (iv A.a)/\W.cell? ⟨p+1,2,none⟩=some (iv A.b)/\W.cell? ⟨p+1,3,none⟩=some (iv A.c)/\W.cell? ⟨p+1,4,none⟩=some (iv A.n)) ((with_reducible refine uH KP _ ?_;with_reducible (first|exact hO _|assumption|(refine mP ?_;first|exact hO _|assumption))))
    (first
     | (go_at_call 6;refine(QI _ (by first|exact hO _|exact eDr _|assumption)).mono ?_;rintro e wa ⟨rfl,xa⟩)
     | (go_at_call 5;refine(QS _ (by assumption)).mono ?_;rintro e wb ⟨rfl,xb⟩)
     | (go_at_call 8;refine(QD _ (by assumption)).mono ?_;rintro e wd ⟨rfl,xd⟩)
     | (go_at_call 7;refine(c4k (He.z0 wd) (He.z0 wd).1 rfl).mono ?_;rintro e we ⟨rfl,xe⟩;have xf:Ext w2 we:=xd.trans xe))
   go_wp21;go_ret;exact⟨rfl,X.trans xf⟩
 case rest=>
  clear BX AX V X k n;obtain⟨S,BX,AX,V,X⟩:=hcut;refine ‹∀ (a:Act)(w:World),Code.wp prog _ _ a w->_› _ _ ?_;exact seg1 w _ av nv kv rb b1 QB HG p E A S BX AX V X
end Go.Proofs.YtolmnenlnpbcfaaGreatDoor
