import Derived.Test.YtddkhnclmeikfaaGreatPxp
set_option maxRecDepth 100000
set_option maxHeartbeats 1000000
namespace Go.Proofs.YtddkhnclmeikfaaGreat
open Go.RowKit
attribute [local go_sem ↓] Go.wp_at_zero Go.wp_at_succ
variable{K:List Nat}{x:Hp}{F F':List Int}{C B bn l b kr br kn hd j:Nat}{w:World}{ar:Option Addr}{v4 v8 vf vk:Value}{cB cO pb pk role:Nat->Nat}{pa:Nat->Option Addr}
theorem word_fn[Inhabited uQ](h:SAt B w b x ar kr v4 v8 br cB cO bn pb pa pk kn hd vf F vk K role)(j:Nat)(hj:j<x.B.length)(y:Wd)(hr:0<x.B.length)(a:World)(hx:Ext a w)(hb:a.heap.size<=br):
  ∀W,Ext w W->SAt B (dV W br (j*3) y) b { x with B:=x.B.set j y } ar kr v4 v8 br cB cO bn pb pa pk kn hd vf F vk K role/\Ext a (dV W br (j*3) y)/\(∀d o v,d≠br->w.cell? ⟨d,o,none⟩=some v->(dV W br (j*3) y).cell? ⟨d,o,none⟩=some v)/\∀q,q<w.heap.size->q≠br->(dV W br (j*3) y).heap[q]?=w.heap[q]?:=λW xW=>by
 have g1:=h.ext xW;have ow:=a0e W br (j*3) y;refine⟨g1.setr j hj y ow (b2w (g1.rw.nr hr).1 _ _) (a6g W br (j*3) y _ (g1.rw.r j hj)) (λm hm=>a0u W br (j*3) y m hm),ow.ext (hx.trans xW) (λq hq e=>by omega),λd o v hd hv=>?_,λq h1 h2=>?_⟩
 ·exact(World.cell?_of_block (a:=⟨d,o,none⟩) (ow.block d (Nat.lt_of_lt_of_le (uL hv) xW.size) hd)).trans (xW.keep hv)
 ·exact(ow.block q (Nat.lt_of_lt_of_le h1 xW.size) h2).trans (xW.block q h1)
theorem c5o[Inhabited uQ](h:SAt B w b x ar kr v4 v8 br cB cO bn pb pa pk kn hd vf F vk K role)(s:Snd x)(t f:Nat)(htf:t≠f)(ht:t<x.A.length)(hf:f<x.A.length)(a:World)(ha:a.heap.size<=B)(hx:Ext a w):
  Calls Tryz.prog 334 #[.agg #[.pointer (some ⟨b,0,none⟩)],ndp bn f,ndp bn t] w λe w'=>e=.returned (.tuple #[])/\Hid (∃pb' pa' pk' role',SAt B w' b (eU x t f) ar kr v4 v8 br cB cO bn pb' pa' pk' kn hd vf F vk K role'/\∀q,q<w.heap.size->q≠br->(∀j,j<x.A.length->q≠cB j)->w'.heap[q]?=w.heap[q]?)/\Ext a w':=by
 have H:=uU h;have S:=uU s;have XA:=(Ext.refl w).alloc (.cells #[.pointer (some ⟨b,0,none⟩)] 236);have r0:0<x.B.length:=by have:=s.r1.B;omega
 have r16:x.B.length<=16:=by have:=s.r1.B;omega
 have n8:=s.ok.n8;have c3:=h.sb.bx.2.2.2.1;rw[h.sb.ha r0] at c3;have hbw:b<w.heap.size:=h.sb.nb.1;have lo:=h.sb.lo.1;have HS:=uU (h.ext XA);have XS:=uU (hx.trans XA);have d3:=XA.keep c3;have M0:=uU (show(w.alloc (.cells #[.pointer (some ⟨b,0,none⟩)] 236)).cell? ⟨w.heap.size,0,none⟩=some (.pointer (some ⟨b,0,none⟩)) by simp [go_sem]);have BRW:=uU (show br<w.heap.size/\B<=br from⟨(h.rw.nr r0).1.1,(h.rw.nr r0).2⟩);clear h s c3 XA;go_enter Tryz.func334,Tryz.ntmps334;go_wp2_with fail;go_loopw [16] (λi wr=>∃j:Nat,j<=x.B.length/\i=.int .i64 j/\Hid (SAt B wr b (rgR x t f j) ar kr v4 v8 br cB cO bn pb pa pk kn hd vf F vk K role)/\Hid (Ext a wr/\wr.cell? ⟨w.heap.size,0,none⟩=some (.pointer (some ⟨b,0,none⟩))/\∀q,q<w.heap.size->q≠br->wr.heap[q]?=w.heap[q]?)) (λi _=>x.B.length-(intOf i).toNat)
 case atStart=>exact⟨0,Nat.zero_le _,rfl,by rw[c9t];exact uH HS,XS,M0,λq hq _=>Below.heap_alloc w _ q hq⟩
 case round=>
  clear HS XS d3 M0;obtain⟨j,hj,rfl,hG,hxr⟩:=hrel;by_cases hlt:j<x.B.length
  ·obtain⟨hl,er⟩:=c9r x t f j hlt;obtain⟨e0,e1,e2⟩:=hG.rw.r j hl;rw[er] at e0 e1 e2;have hbr:br<wr.heap.size:=uL e0;have FM:=uU (S.r4.1 j hlt).1;have hj0:(0:Int)<=(j:Int):=by omega
   have hj1:(j:Int)<(x.B.length:Int):=by omega
   have m0:=hxr.2.1;have hs0:w.heap.size<wr.heap.size:=uL m0;have SU:=uU (b9o x t f j hlt);have SS:=uU (c9s x t f j hlt);obtain⟨⟨yk,yn,ya⟩,hr⟩:∃r,r=x.B[j]:=⟨_,rfl⟩;rw[<-hr] at e0 e1 e2 FM SU SS;clear hr er;simp only at e0 e1 e2;have XB:=(Ext.refl wr).alloc (.cells #[iv yk,iv yn,iv ya] 152);have d0:=XB.keep m0;have c13:=XB.keep hG.sb.n13;have XB2:=uU XB;clear XB;cases q:(yk == 2)
   ·have qn:¬yk=2:=by simpa using q
    have en:∀W,(binOp .eql 126 (.pointer none) (ndp bn f)).run Tryz.prog W=.ok (.bool false) W:=λW=>ptr_nil bn (f*2) W
    have NX:=uU (show rgR x t f (j+1)=rgR x t f j from uH SS (by unfold mvW;rw[if_neg (λh=>qn h.1)]));go_wp2_with fail;go_region_with (go_at_call 199;refine(a7j ⟨yk,yn,ya⟩ b _ q).mono ?_;rintro e w3 ⟨rfl,x3⟩;have X3:=uU (Ext.trans XB2 (Ext.trans (Ext.refl _).drew x3));clear x3)
    all_goals
     have R:=uU (show SAt B w3 b (rgR x t f (j+1)) ar kr v4 v8 br cB cO bn pb pa pk kn hd vf F vk K role by rw[uH NX];exact hG.ext X3);have RX:=uU (show Ext a w3/\w3.cell? ⟨w.heap.size,0,none⟩=some (.pointer (some ⟨b,0,none⟩))/\∀q,q<w.heap.size->q≠br->w3.heap[q]?=w.heap[q]? from⟨hxr.1.trans X3,X3.keep hxr.2.1,λq h1 h2=>(X3.block q (by omega)).trans (hxr.2.2 q h1 h2)⟩);go_wp2_with fail;go_roundw
     case rel=>exact⟨j+1,by omega,by go_num,R,RX⟩
     case measure=>simp [intOf];omega
   ·obtain rfl:yk=2:=by simpa using q
    have fm:yn=0/\0<=ya/\ya<x.A.length:=by have:=uH FM;unfold uE at this;simp only at this;omega
    obtain⟨i,rfl⟩:∃i:Nat,ya=(i:Int):=⟨ya.toNat,by omega⟩;obtain rfl:yn=0:=fm.1;have hi:i<x.A.length:=by omega
    by_cases hif:i=f
    ·subst hif;have en:∀W,(binOp .eql 126 (.pointer (some ⟨bn,i*2,none⟩)) (ndp bn i)).run Tryz.prog W=.ok (.bool true) W:=λW=>ptr_yes bn (i*2) W
     have NX:=uU (show({ rgR x t i j with B:=(rgR x t i j).B.set j ⟨2,0,t⟩ }:Hp)=rgR x t i (j+1) by have:=uH SU;unfold mvW at this;rw[if_pos ⟨rfl,rfl⟩] at this;exact this);go_wp2_with fail;go_region_with (go_at_call 199;refine(a2v ⟨2,0,(i:Int)⟩ b x.A.length bn 0 kn i _ rfl ((Ext.refl _).drew.keep c13) hi).mono ?_;rintro e w3 ⟨rfl,x3⟩;rw[Nat.zero_add];have X3:=uU (Ext.trans XB2 (Ext.trans (Ext.refl _).drew x3));clear x3)
     all_goals
      have R3:=uU (hG.ext X3);have k0:=X3.keep m0
      have k3:w3.cell? ⟨b,3,none⟩=some (.slice (some ⟨br,0,none⟩) x.B.length kr):=by
       have h3:=R3.sb.bx.2.2.2.1;have hrl:(rgR x t i j).B.length=x.B.length:=by simp [rgR];omega
       rw[R3.sb.ha (by omega),hrl] at h3;exact h3
      have g0:=X3.keep e0;have g1:=X3.keep e1;have g2:=X3.keep e2;have hrl:0<(rgR x t i j).B.length:=by simp [rgR];omega
      have gf:=(R3.rw.nr hrl).1.2;have hbr3:br<w3.heap.size:=uL g0;have hb3:b<w3.heap.size:=uL k3;have hs3:w.heap.size<w3.heap.size:=uL k0;have T0:=uU (R3.sb.nd t ht).1;have FN:=uU (word_fn R3 j hl ⟨2,0,t⟩ hrl a (hxr.1.trans X3) (by have:=BRW.2;omega));rw[uH NX] at FN;unfold dV at FN;dsimp only at FN;have FQ:=uU (show ∀q,q<w3.heap.size->q≠br->q<w.heap.size->w3.heap[q]?=w.heap[q]? from λq h0 h2 h1=>(X3.block q (by omega)).trans (hxr.2.2 q h1 h2));clear e0 e1 e2 m0 d0 c13 hrl;go_wp2_with fail;go_region_with (go_at_call 319;refine(b5s bn (t*2) t _ ((Ext.refl _).drew.keep T0)).mono ?_;rintro e w4 ⟨rfl,x4⟩;have x34:=Ext.trans (Ext.refl w3).drew x4;have l0:=x34.keep k0;have l3:=x34.keep k3;have o0:=x34.keep g0;have o1:=x34.keep g1;have o2:=x34.keep g2;have of:=λm=>((cD x34).2 br m hbr3).trans (gf m);have hb4:br<w4.heap.size:=uL o0;have X4:=uU x34;clear x4 x34)
      all_goals
       go_wp2_with fail;go_roundw
       case rel=>exact⟨j+1,by omega,by go_num,(FN w4 X4).1,(FN w4 X4).2.1,(FN w4 X4).2.2.1 w.heap.size 0 _ (by have:=BRW.1;omega) k0,λq h1 h2=>((FN w4 X4).2.2.2 q (by omega) h2).trans (FQ q (by omega) h2 h1)⟩
       case measure=>simp [intOf];omega
    ·have nif:¬i*2=f*2:=by omega
     have en:∀W,(binOp .eql 126 (.pointer (some ⟨bn,i*2,none⟩)) (ndp bn f)).run Tryz.prog W=.ok (.bool false) W:=λW=>ptr_no bn (i*2) (f*2) W nif
     have NX:=uU (show rgR x t f (j+1)=rgR x t f j from uH SS (by unfold mvW;rw[if_neg (λh=>by have:=h.2;simp only at this;omega)]));go_wp2_with fail;go_region_with (go_at_call 199;refine(a2v ⟨2,0,(i:Int)⟩ b x.A.length bn 0 kn i _ rfl ((Ext.refl _).drew.keep c13) hi).mono ?_;rintro e w3 ⟨rfl,x3⟩;rw[Nat.zero_add];have X3:=uU (Ext.trans XB2 (Ext.trans (Ext.refl _).drew x3));clear x3)
     all_goals
      have R:=uU (show SAt B w3 b (rgR x t f (j+1)) ar kr v4 v8 br cB cO bn pb pa pk kn hd vf F vk K role by rw[uH NX];exact hG.ext X3);have RX:=uU (show Ext a w3/\w3.cell? ⟨w.heap.size,0,none⟩=some (.pointer (some ⟨b,0,none⟩))/\∀q,q<w.heap.size->q≠br->w3.heap[q]?=w.heap[q]? from⟨hxr.1.trans X3,X3.keep hxr.2.1,λq h1 h2=>(X3.block q (by omega)).trans (hxr.2.2 q h1 h2)⟩);go_wp2_with fail;go_roundw
      case rel=>exact⟨j+1,by omega,by go_num,R,RX⟩
      case measure=>simp [intOf];omega
  ·have je:j=x.B.length:=by omega
   subst je;have HR:=uU hG;obtain⟨a0,a1,a2,a3,a4,a5,a6⟩:S7 wr (cB f) (cO f) (x.c f):=HR.rw.s f hf;have a7:wr.cell? ⟨cB f,cO f+7,none⟩=some (.slice (pa f) (x.c f).F.length (pk f)):=HR.rw.p7 f hf;obtain⟨b0,b1,b2,b3,b4,b5,b6⟩:S7 wr (cB t) (cO t) (x.c t):=HR.rw.s t ht;have b7:wr.cell? ⟨cB t,cO t+7,none⟩=some (.slice (pa t) (x.c t).F.length (pk t)):=HR.rw.p7 t ht;have fct:=(HR.rw.nc t ht).1.2;have fcf:=(HR.rw.nc f hf).1.2;obtain⟨nt0,nt1⟩:=HR.sb.nd t ht;obtain⟨nf0,nf1⟩:=HR.sb.nd f hf;have hbf:cB f<wr.heap.size:=uL a0;have hbt:cB t<wr.heap.size:=uL b0;have hbn:bn<wr.heap.size:=uL nt0;have NBT:=uU (show ¬bn=cB t from λe=>by have h1:=HR.sp.n;have h2:=HR.sp.c t ht;rw[e] at h1;omega);have NBF:=uU (show ¬bn=cB f from λe=>by have h1:=HR.sp.n;have h2:=HR.sp.c f hf;rw[e] at h1;omega);have nbt:¬bn=cB t:=uH NBT;have ntb:¬cB t=bn:=λe=>uH NBT e.symm
   have nbf:¬bn=cB f:=uH NBF;have nfb:¬cB f=bn:=λe=>uH NBF e.symm
   have XR:=uU hxr.1;have QR:=uU hxr.2.2;have HBC:=uU (And.intro (HR.rw.nc t ht) (HR.rw.nc f hf));have F8:=uU (λk hk=>(HR.ext (Ext.refl wr).drew).rw.far8 ht hf (λe=>htf e.symm) (Nat.le_refl _) (a0h wr.drew (cB t) (cO t) (x.c f) (.slice (pa f) (x.c f).F.length (pk f))) (a3a wr.drew (cB t) (cO t) (x.c f) (.slice (pa f) (x.c f).F.length (pk f))) k hk);have LTS:=uU (show t<x.A.length/\f<x.A.length/\t≠f from⟨ht,hf,htf⟩);have hsz:w.heap.size<wr.heap.size:=uL hxr.2.1;clear hG hxr hj;go_wp2_with fail
   go_region
   all_goals
    obtain⟨W5,hW5⟩:∃W,W=(qE wr (cB t) (cO t) (x.c f) (.slice (pa f) (x.c f).F.length (pk f))).drew:=⟨_,rfl⟩;have W5E:=uU (show W5=qE wr.drew (cB t) (cO t) (x.c f) (.slice (pa f) (x.c f).F.length (pk f)) by rw[hW5,b2v]);have N5:=(a0h wr.drew (cB t) (cO t) (x.c f) (.slice (pa f) (x.c f).F.length (pk f))).block bn (by simpa using hbn) nbt;have mt0:W5.cell? ⟨bn,t*2,none⟩=some (iv t):=by rw[uH W5E,World.cell?_of_block (a:=⟨bn,t*2,none⟩) N5];exact nt0
    have mf1:W5.cell? ⟨bn,f*2+1,none⟩=some (.pointer (some ⟨cB f,cO f,none⟩)):=by rw[uH W5E,World.cell?_of_block (a:=⟨bn,f*2+1,none⟩) N5];exact nf1
    have d0:W5.cell? ⟨cB f,cO f,none⟩=some (iv (x.c f).st):=by rw[uH W5E];exact(F8 0 (by omega)).trans a0
    have d1:W5.cell? ⟨cB f,cO f+1,none⟩=some (iv (x.c f).kind):=by rw[uH W5E];exact(F8 1 (by omega)).trans a1
    have d2:W5.cell? ⟨cB f,cO f+2,none⟩=some (iv (x.c f).T):=by rw[uH W5E];exact(F8 2 (by omega)).trans a2
    have d3:W5.cell? ⟨cB f,cO f+3,none⟩=some (iv (x.c f).U):=by rw[uH W5E];exact(F8 3 (by omega)).trans a3
    have d4:W5.cell? ⟨cB f,cO f+4,none⟩=some (iv (x.c f).born):=by rw[uH W5E];exact(F8 4 (by omega)).trans a4
    have d5:W5.cell? ⟨cB f,cO f+5,none⟩=some (iv (x.c f).J):=by rw[uH W5E];exact(F8 5 (by omega)).trans a5
    have d6:W5.cell? ⟨cB f,cO f+6,none⟩=some (iv (x.c f).to):=by rw[uH W5E];exact(F8 6 (by omega)).trans a6
    have d7:W5.cell? ⟨cB f,cO f+7,none⟩=some (.slice (pa f) (x.c f).F.length (pk f)):=by rw[uH W5E];exact(F8 7 (by omega)).trans a7
    have fc5:∀j,W5.frozen? ⟨cB f,j,none⟩=false:=by rw[uH W5E];exact(a6s (w1:=wr.drew) (uV HBC.2.1 rfl (by simp)) (a4r (w:=wr.drew) (uV HBC.1.1 rfl (by simp)) _ _ _) (a0h wr.drew (cB t) (cO t) (x.c f) (.slice (pa f) (x.c f).F.length (pk f)))).2
    have hb5:cB f<W5.heap.size:=uL d0;have hn5:bn<W5.heap.size:=uL mt0
    have G6:=uU (show ∃pb' pa' pk' role',SAt B (zZ W5 (cB f) (cO f) 2 t) b (eU x t f) ar kr v4 v8 br cB cO bn pb' pa' pk' kn hd vf F vk K role' by
     rw[<-rgR_all,uH W5E];exact b9n (HR.ext (Ext.refl wr).drew) t f LTS.2.2 LTS.1 LTS.2.1)
    have X6:=uU (show Ext a (zZ W5 (cB f) (cO f) 2 t) by
     refine(a0g W5 (cB f) (cO f) 2 t).ext ?_ (λq hq e=>by have:=HBC.2.2;omega);rw[uH W5E];exact(a0h wr.drew (cB t) (cO t) (x.c f) _).ext XR.drew (λq hq e=>by have:=HBC.1.2;omega))
    have Q6:=uU (show ∀q,q<w.heap.size->q≠br->(∀j,j<x.A.length->q≠cB j)->(zZ W5 (cB f) (cO f) 2 t).heap[q]?=w.heap[q]? from λq h1 h2 h3=>by
     have hw:q<wr.drew.heap.size:=by simpa using (show q<wr.heap.size by omega)
     rw[(a0g W5 (cB f) (cO f) 2 t).block q (by rw[uH W5E];exact Nat.lt_of_lt_of_le hw (a0h wr.drew (cB t) (cO t) (x.c f) _).size) (h3 f hf),W5E,(a0h wr.drew (cB t) (cO t) (x.c f) _).block q hw (h3 t ht)];exact QR q h1 h2)
    unfold qE at hW5;rw[<-hW5];clear hW5 N5 a0 a1 a2 a3 a4 a5 a6 a7 b0 b1 b2 b3 b4 b5 b6 b7 fct fcf hbf hbt hbn nt0 nt1 nf0 nf1;obtain⟨W6,hW6⟩:∃W,W=zZ W5 (cB f) (cO f) 2 t:=⟨_,rfl⟩;rw[<-hW6] at G6 X6 Q6;unfold zZ at hW6;go_wp2_with fail
    go_region
    all_goals
     rw[<-hW6];go_wp2_with fail
     go_end0
     obtain⟨pb',pa',pk',role',g6⟩:=G6;exact⟨rfl,⟨pb',pa',pk',role',g6.ext (Ext.refl _).drew,Q6⟩,X6.drew⟩
theorem SAt.keptAs[Inhabited uQ](h:SAt B w b x ar kr v4 v8 br cB cO bn pb pa pk kn hd vf F vk K role){vk':Value}{K':List Nat}(ow:w.ownsRow B 126 1 vk' K'.length (K'.map (ndp bn)))(hb:∀q,vk'.ownBlock=some q->vk.ownBlock=some q):
  SAt B (w.setCell ⟨b,4017,none⟩ vk') b x ar kr v4 v8 br cB cO bn pb pa pk kn hd vf F vk' K' role:=by
 have far:∀q,q≠b->(w.setCell ⟨b,4017,none⟩ vk').heap[q]?=w.heap[q]?:=λq hne=>Below.heap_setCell _ _ _ _ hne
 have cb:∀o,o≠4017->(w.setCell ⟨b,4017,none⟩ vk').cell? ⟨b,o,none⟩=w.cell? ⟨b,o,none⟩:=λo ho=>uC _ (.inr (λe=>ho e.symm))
 have ne:∀q,role q≠0->q≠b:=λq hq e=>hq (by rw[e];exact h.sp.b)
 have hsz:w.heap.size<=(w.setCell ⟨b,4017,none⟩ vk').heap.size:=by simp [World.setCell]
 have fn:=far bn (ne bn (by rw[h.sp.n];omega));refine⟨⟨h.sb.bx.of λo ho=>cb o (by omega),h.sb.ha,(cb 13 (by omega)).trans h.sb.n13,λk hk=>⟨(World.cell?_of_block (a:=⟨bn,_,none⟩) fn).trans (h.sb.nd k hk).1,(World.cell?_of_block (a:=⟨bn,_,none⟩) fn).trans (h.sb.nd k hk).2⟩,⟨(cb 14 (by omega)).trans h.sb.fr.hd,?_,uN h.sb.fr.own (λq hq=>far q (ne q (by rw[h.sp.f q hq];omega))),h.sb.fr.apart⟩,h.sb.rg.of λo _ h2=>cb o (by omega),?_,?_,h.sb.nb.set _ _,⟨h.sb.lo.1,h.sb.lo.2.1,h.sb.lo.2.2.of fn hsz⟩⟩,?_,?_,h.pr.of (λq hq h1=>far q (ne q (by rw[h1];omega))) (λ_ _ h=>h)⟩
 ·rw[World.frozen?_setCell];exact h.sb.fr.hf
 ·exact World.cell?_setCell_same _ _ _ h.sb.k0
 ·exact uN ow (λq hq=>far q (ne q (by rw[h.sp.k q (hb q hq)];omega)))
 ·exact h.rw.same hsz (λhl=>far br (ne br (by rw[h.sp.r hl];omega))) (λq hq=>far (cB q) (ne (cB q) (by rw[h.sp.c q hq];omega))) (λq hq hl=>far (pb q) (ne (pb q) (by rw[h.sp.p q hq hl];omega)))
 ·exact⟨h.sp.b,h.sp.n,h.sp.r,h.sp.c,h.sp.f,λq hq=>h.sp.k q (hb q hq),h.sp.p⟩
theorem c2b{e:TypeId}{a:Option Addr}{k:Nat}(h:w.ownsRow B e 1 (.slice a (K++[l]).length k) (K++[l]).length ((K++[l]).map (ndp bn))):w.ownsRow B e 1 (.slice a K.length k) K.length (K.map (ndp bn)):=by
 obtain⟨_,h2⟩:=h;refine⟨by simp,?_⟩;rcases h2 with⟨_,h0⟩ | ⟨g,cap,cur,e1,e2,e3,e4,e5,e6,e7⟩
 ·simp at h0
 ·injection e1 with e1 e1b e1c
  subst e1 e1c;refine .inr ⟨g,_,cur,rfl,e2,e3,by simp at e4;omega,e5,e6,?_⟩;have:=congrArg (List.take K.length) e7;rw[List.take_take] at this;simp at this
  simpa using this
theorem a8p(x:Hp)(hd:∀i j,i<x.A.length->j<x.A.length->(x.c i).st=1->(x.c j).st=0->i<j):unit4 x=dN x 5 0:=by
 unfold unit4;obtain⟨a,b,c⟩:=a0o x;rw[if_pos];rcases a0w x x.A.length with⟨e,_⟩ | ⟨f,e,hf,h1,_⟩
 ·rw[e];omega
 ·rw[e];rcases Nat.lt_or_ge (cH x) x.A.length with l | l
  ·have:=hd f _ hf l h1 (c l);omega
  ·omega
theorem c9w(x:Hp)(j l:Nat)(hj:j<x.A.length)(h0:(x.c j).st=0)(hm:∀q,q<j->(x.c q).st≠0)(hl:l<x.A.length)(h1:(x.c l).st=1)(hx:∀i,l<i->i<x.A.length->(x.c i).st≠1)(hjl:j<l):unit4 x=eU x j l:=by
 have e1:=b2t x j hj hm h0
 have e2:a1k x x.A.length=(l:Int):=by
  rcases a0w x x.A.length with⟨_,h⟩ | ⟨f,e,hf,h2,h3⟩
  ·exact absurd h1 (h l hl)
  ·rcases Nat.lt_trichotomy f l with q | q | q
   ·exact absurd h1 (h3 l q hl)
   ·rw[e,q]
   ·exact absurd h2 (hx f q hf)
 unfold unit4;rw[e1,e2,if_neg (by omega)];rfl
theorem c9x(h:tN C x F K)(hp:x.E=4)(g:b3w x F F'):tN C (dN x 5 0) F' [] where
 ho:=g.1
 al:=λi hi hs=>g.2.2.2 i hi hs (h.al i hi hs)
 nn:=λv hv=>h.nn v (g.2.2.1 v hv)
 le:=by
  have h1:=h.le;have h2:=g.2.1;have e1:yY x=8000:=by unfold yY;rw[if_neg (by omega),if_neg (by omega),if_pos (by omega)]
  have e2:yY (dN x 5 0)=8000:=rfl;omega
 k3:=λe=>by simp [dN] at e
 k4:=λe=>by simp [dN] at e
 k0:=λ_ _=>rfl
theorem c5p(h:tN C x F K)(g:b3w x F F')(t:GapT x F' none):unit4 x=dN x 5 0:=a8p x λi j hi hj h1 h0=>by
 have:=g.2.2.2 j hj h0 (h.al j hj h0);have t':F'=[]:=t;rw[t'] at this;exact absurd this (by simp)
theorem c9y(h:tN C x F [])(hp:x.E=4):unit4 x=dN x 5 0:=a8p x λi j hi hj h1 h0=>(h.k4 hp).2.2 i hi h1 (by simp) j hj h0
theorem b7a(h:(K++[l]).Pairwise (· < ·)):∀i,i∈K->i<l:=λi hi=>(List.pairwise_append.1 h).2.2 i hi l (by simp)
theorem c5q(h:tN C x F (K++[l]))(hp:x.E=4)(g:b3w x F F')(t:GapT x F' (some j))(hl:l<j):unit4 x=dN x 5 0:=a8p x λi q hi hq h1 h0=>by
 have k4:=h.k4 hp;by_cases e:i∈K++[l]
 ·have hil:i<=l:=by
   rcases List.mem_append.1 e with e | e
   ·have:=b7a k4.1 i e;omega
   ·simp at e;omega
  have:=t.2.2 q (g.2.2.2 q hq h0 (h.al q hq h0));omega
 ·exact k4.2.2 i hi h1 e q hq h0
theorem c5r(h:tN C x F K)(g:b3w x F F')(t:GapT x F' (some j)):∀q,q<x.A.length->(x.c q).st=0->j<=q:=λq hq h0=>by
 have:=t.2.2 q (g.2.2.2 q hq h0 (h.al q hq h0));omega
theorem moveH_c(x:Hp)(t f:Nat)(ht:t<x.A.length)(hf:f<x.A.length)(q:Nat):(eU x t f).c q=if q=f then mvC t else if q=t then x.c f else x.c q:=mvd_c x t f ht hf q
theorem go_move(h:tN C x F (K++[l]))(hp:x.E=4)(g:b3w x F F')(t:GapT x F' (some j))(hl:¬l<j):l<x.A.length/\j≠l/\unit4 x=eU x j l/\tN C (eU x j l) F' K:=by
 have k4:=h.k4 hp;obtain⟨hll,hl1⟩:=k4.2.1 l (by simp);have hjl:j≠l:=λe=>by have:=t.2.1;rw[e,hl1] at this;omega
 have lt:=c5r h g t;have c:=moveH_c x j l t.1 hll;refine⟨hll,hjl,c9w x j l t.1 t.2.1 (λq hq e=>by have:=lt q (by have:=t.1;omega) e;omega) hll hl1 (λi h1 h2 h3=>?_) (by omega),?_⟩
 ·by_cases e:i∈K++[l]
  ·rcases List.mem_append.1 e with e | e
   ·have:=b7a k4.1 i e;omega
   ·simp at e;omega
  ·have:=k4.2.2 i h2 h3 e j t.1 t.2.1;omega
 ·have len:(eU x j l).A.length=x.A.length:=by simp [eU]
  have free:∀i,((eU x j l).c i).st=0->(x.c i).st=0/\i≠j/\i≠l:=λi hi=>by
   rw[c i] at hi;by_cases e1:i=l
   ·rw[if_pos e1] at hi;simp [mvC] at hi
   ·rw[if_neg e1] at hi;by_cases e2:i=j
    ·rw[if_pos e2,hl1] at hi;omega
    ·rw[if_neg e2] at hi;exact⟨hi,e2,e1⟩
  refine⟨g.1,λi hi hs=>?_,λv hv=>h.nn v (g.2.2.1 v hv),?_,λe=>?_,λ_=>⟨?_,λi hi=>?_,λi hi h1 hn q hq h0=>?_⟩,λ_ e=>absurd hp e⟩
  ·rw[len] at hi;exact g.2.2.2 i hi (free i hs).1 (h.al i hi (free i hs).1)
  ·have h1:=h.le;have h2:=g.2.1;have e1:yY x=8000:=by unfold yY;rw[if_neg (by omega),if_neg (by omega),if_pos (by omega)]
   have hp2:(eU x j l).E=4:=hp;have e2:yY (eU x j l)=8000:=by unfold yY;rw[if_neg (by omega),if_neg (by omega),if_pos (by omega)]
   omega
  ·have hp2:(eU x j l).E=4:=hp;omega
  ·exact(List.pairwise_append.1 k4.1).1
  ·have:=b7a k4.1 i hi;obtain⟨a1,a2⟩:=k4.2.1 i (List.mem_append_left _ hi);refine⟨by rw[len];exact a1,?_⟩;rw[c i,if_neg (by omega),if_neg (λe=>by have:=t.2.1;rw[<-e,a2] at this;omega)];exact a2
  ·rw[len] at hi hq;obtain⟨f1,f2,f3⟩:=free q h0;rw[c i] at h1;by_cases e1:i=l
   ·rw[if_pos e1] at h1;simp [mvC] at h1
   ·rw[if_neg e1] at h1;by_cases e2:i=j
    ·have:=lt q hq f1;omega
    ·rw[if_neg e2] at h1;exact k4.2.2 i hi h1 (λe=>by rcases List.mem_append.1 e with e | e;exact hn e;simp at e;exact e1 e) q hq f1
end Go.Proofs.YtddkhnclmeikfaaGreat
