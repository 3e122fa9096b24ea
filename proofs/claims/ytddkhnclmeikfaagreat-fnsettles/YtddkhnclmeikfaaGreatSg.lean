import Derived.Test.YtddkhnclmeikfaaGreatDn2
import Derived.Test.YtddkhnclmeikfaaGreatWf
import Derived.Lib.AppendZerosOnto
import Derived.Lib.Walk
set_option maxRecDepth 100000
set_option maxHeartbeats 4000000
namespace Go.Proofs.YtddkhnclmeikfaaGreat
open Go.RowKit
attribute [local go_sem ↓] Go.wp_at_zero Go.wp_at_succ
variable{x:Hp}{B kr br b bn hd U bc kc bg kg kn:Nat}{w w':World}{pa:Nat->Option Addr}{pk pb cB cO role:Nat->Nat}{ar:Option Addr}{vf vk v4 v8:Value}{F:List Int}{S:Nat->Prop}{K:List Nat}
theorem scan_of{z:Hp}(r:a3p z x)(hl:z.cells.length=x.cells.length):uV z=uV x:=by
 obtain⟨_,_,_,r4,r5,r6,_⟩:=r;unfold uV;rw[r4,r5,r6,hl]
theorem zis_of(s:Snd x)(H:Nat->Bool)(hH:∀i,H i=true↔dK x i)(k:Nat)(hk:k<x.cells.length)(hh:H k=true):ZIs x (stTo x H k) k:=by
 have r:=a2v x H k;have hl:=a2c x H k;have cu:=b3j x H k;have g:=a5a x H s.ok.p200 k (by omega);have n8:=s.ok.n8;obtain⟨_,_,_,r4,r5,r6,_⟩:=r;have hd:=s.r1.hand;have us:0<=x.used/\x.used<=4000:=by have h3:=s.r3;have h1:=s.r1.room;unfold R3 at h3;omega
 refine⟨hl,λq=>c3j x H k (by omega) q,?_,hk,scan_of (a2v x H k) hl,?_,?_,λe=>?_,?_,s.ok.p200 k hk⟩
 ·rw[a7b x H k (by omega) k,if_neg (by omega)]
 ·rw[r5,hl];omega
 ·rw[r6,hl];exact s.r5.2.2
 ·rw[cu.2,b0t x H k e k (Nat.le_refl _)];exact b3h s hk (((hH k).1 hh).good s.r2 s.r4).2.1 e
 ·rw[cu.1,a5v];omega
theorem c2w[Inhabited uZ](h:SAt B w b x ar kr v4 v8 br cB cO bn pb pa pk kn hd vf F vk K role)(s:Snd x)(a:World)(ha:a.heap.size<=B)(hx:Ext a w):
  Calls Tryz.prog 89 #[.pointer (some ⟨b,0,none⟩)] w λe w'=>∃H:Nat->Bool,Hid (e=.returned (.tuple #[.int .i64 (eC x H x.cells.length),.int .i64 (tQ x H x.cells.length)]))/\Hid (∀i,H i=true↔dK x i)/\Hid (SAt B w' b (dD x H) ar kr v4 v8 br cB cO bn pb pa pk kn hd vf F vk K role)/\Ext a w':=by
 have n8:=s.ok.n8;have p2:=uU s.ok.p200;have V:=uU (h.vn (by rw[s.r1.regs];omega) s.ok.p200);have QH:=uU (b3r x b w bn 0 V s.r2 s.r4 n8 s.ok.p200 (λw1 h1=>a3r x b w1 bn 0 h1 n8));have HS:=uU h;have SN:=uU s;have CP:=uU h.rw.kp;clear h s;go_enter Tryz.func89,Tryz.ntmps89;go_wp2_with fail;refine QH.mono ?_;rintro e w1 ⟨rfl,Mt,hm,hlt,hh,x1⟩;have S1:=uU (HS.ext x1);have c13:=S1.sb.n13;have hb1:b<w1.heap.size:=uL c13;obtain⟨H,hH⟩:∃H:Nat->Bool,H=λi=>decide (i∈Mt):=⟨_,rfl⟩
 have HH:=uU hH;have HI:=uU (show ∀i,H i=true↔dK x i from λi=>by rw[hH];show decide (i∈Mt)=true↔_;rw[decide_eq_true_iff];exact hh i)
 have M1:=uU (show zQ w1 w.heap.size bn (Mt.map (λi=>i*2))/\w.heap.size<w1.heap.size from by
  refine⟨?_,hlt⟩;have:=hm;simp only [Nat.zero_add] at this;exact this)
 have X1:=uU (hx.trans x1)
 have BL:=uU (show b<w.heap.size/\bn<w.heap.size/\(∀q,q<x.cells.length->cB q<w.heap.size)/\∀q,q<x.cells.length->0<(x.c q).prs.length->pb q<w.heap.size from
  ⟨HS.sb.nb.1,HS.sb.lo.2.2.1,λq hq=>(HS.rw.nc q hq).1.1,λq hq hl=>(HS.rw.pl q hq (HS.rw.pw hq hl)).2.1.1⟩)
 have GLE:=uU (a5a x H p2);clear hm hh hH x1 HS V QH hx;go_wp2_with fail;go_loopw [2,3,17] (λg d i wr=>∃k:Nat,k<=x.cells.length/\i=.int .i64 k/\g=.int .i64 (eC x H k)/\d=.int .i64 (tQ x H k)/\Hid (SAt B wr b (stTo x H k) ar kr v4 v8 br cB cO bn pb pa pk kn hd vf F vk K role)/\Hid (zQ wr w.heap.size bn (Mt.map (λi=>i*2))/\w.heap.size<wr.heap.size)/\Hid (Ext a wr)) (λ_ _ i _=>x.cells.length-(intOf i).toNat)
 case atStart=>exact⟨0,Nat.zero_le _,rfl,rfl,rfl,S1,M1,X1⟩
 case round=>
  clear S1 M1 X1 c13 hb1;obtain⟨k,hk,rfl,rfl,rfl,hS,hM,hX⟩:=hrel;by_cases hlt2:k<x.cells.length
  ·have c13:=hS.sb.n13;rw[a2c] at c13;have hb2:b<wr.heap.size:=uL c13;have hk0:(0:Int)<=(k:Int):=by omega
   have hk1:(k:Int)<(x.cells.length:Int):=by omega
   have gle:=uH GLE k (by omega);have gle2:=uH GLE (k+1) (by omega);have dle:=b6v x H k;have hzk:k<(stTo x H k).cells.length:=by rw[a2c];exact hlt2
   go_wp2_with fail;refine(a5x w.heap.size bn (k*2) _ _ hM.1).mono ?_;rintro e w2 ⟨rfl,q2⟩;have D:=uU (show decide (k*2∈Mt.map (λi=>i*2))=H k by rw[uH HH,decide_eq_decide];exact c3z);rw[uH D];have S2:=uU (hS.ext q2);have M2:=uU (show zQ w2 w.heap.size bn (Mt.map (λi=>i*2))/\w.heap.size<w2.heap.size from⟨hM.1.block (q2.block _ hM.2),Nat.lt_of_lt_of_le hM.2 q2.size⟩);have X2:=uU (hX.trans q2);clear hS hM hX q2 c13 hb2 D;cases t:H k
   ·have CK:=uU (show(stTo x H k).c k=x.c k by rw[a7b x H k (by omega) k,if_neg (by omega)]);have GN:=uU (show eC x H (k+1)=eC x H k by show(if H k=true then _ else _)=_;rw[if_neg (by simp [t])]);have m1:=(S2.sb.nd k hzk).2;have s7:=S2.rw.s k hzk;rw[uH CK] at s7;have p3:=s7.2.2.2.1;have hm1:bn<w2.heap.size:=uL m1;have hp3:cB k<w2.heap.size:=uL p3;cases tl:((x.c k).last == 1)
    ·have E:=uU (show stTo x H (k+1)=stTo x H k by show a1b x H k _=_;unfold a1b;rw[if_neg (by simp [t]),if_neg (by simpa using tl)]);have DN:=uU (show tQ x H (k+1)=tQ x H k by show(if yU x H k=true then _ else _)=_;rw[if_neg (by simp [yU,tl])]);clear s7;go_wp2_with fail;go_roundw
     case rel=>exact⟨k+1,by omega,by go_num,by rw[uH GN],by rw[uH DN],by rw[uH E];exact uH S2,M2,X2⟩
     case measure=>simp [intOf];omega
    ·have E:=uU (show stTo x H (k+1)={ stTo x H k with cells:=(stTo x H k).cells.set k (b1y (x.c k)) } by show a1b x H k _=_;unfold a1b;rw[if_neg (by simp [t]),if_pos (by simpa using tl)]);have DN:=uU (show tQ x H (k+1)=tQ x H k+1 by show(if yU x H k=true then _ else _)=_;rw[if_pos (by simp [yU,tl,t])]);have nf:=(S2.rw.nc k hzk).1;have f3:=nf.2 (cO k+3)
     have R:=uU (show SAt B (w2.setCell ⟨cB k,cO k+3,none⟩ (iv 2)) b (stTo x H (k+1)) ar kr v4 v8 br cB cO bn pb pa pk kn hd vf F vk K role/\(zQ (w2.setCell ⟨cB k,cO k+3,none⟩ (iv 2)) w.heap.size bn (Mt.map (λi=>i*2))/\w.heap.size<(w2.setCell ⟨cB k,cO k+3,none⟩ (iv 2)).heap.size)/\Ext a (w2.setCell ⟨cB k,cO k+3,none⟩ (iv 2)) from by
      refine⟨?_,⟨M2.1.block (Below.heap_setCell _ _ _ _ (by show w.heap.size≠cB k;have:=BL.2.2.1 k hlt2;omega)),by have:=M2.2;simpa [World.setCell] using this⟩,X2.setCell (p:=⟨cB k,cO k+3,none⟩) (Nat.le_trans ha (S2.rw.nc k hzk).2) _⟩;rw[uH E];refine S2.setc hzk (by rw[uH CK];rfl) (uX.setCell (S:=λq=>q=cB k) (uX.refl _ w2) (p:=⟨cB k,cO k+3,none⟩) rfl _) ?_ (λj hj=>uC _ (.inr (by omega))) (nf.set _ _);obtain⟨a0,a1,a2,a3,a4,a5,a6⟩:=s7;refine⟨?_,?_,?_,World.cell?_setCell_same _ _ _ a3,?_,?_,?_⟩
      ·rw[uC _ (.inr (by omega))];exact a0
      ·rw[uC _ (.inr (by omega))];exact a1
      ·rw[uC _ (.inr (by omega))];exact a2
      ·rw[uC _ (.inr (by omega))];exact a4
      ·rw[uC _ (.inr (by omega))];exact a5
      ·rw[uC _ (.inr (by omega))];exact a6)
     clear s7;go_wp2_with fail;go_roundw
     case rel=>exact⟨k+1,by omega,by go_num,by rw[uH GN],by rw[uH DN];go_num,R.1,R.2.1,R.2.2⟩
     case measure=>simp [intOf];omega
   ·have GN:=uU (show eC x H (k+1)=eC x H k+eZ x H (x.c k) (x.c k).prs by show(if H k=true then _ else _)=_;rw[if_pos t]);have DN:=uU (show tQ x H (k+1)=tQ x H k by show(if yU x H k=true then _ else _)=_;rw[if_neg (by simp [yU,t])]);have E:=uU (show stTo x H (k+1)=goH x H k (stTo x H k) by show a1b x H k _=_;unfold a1b;rw[if_pos t];rfl);have QL:=uU (c6t S2 w.heap.size Mt k M2.1 M2.2 ⟨by have:=BL.1;omega,λj hj=>by have:=BL.2.2.1 j hj;omega,by have:=BL.2.1;omega,λq=>by have:=BL.2.2.2 k hlt2 q;omega⟩ (zis_of SN H HI k hlt2 t) SN.r2 (λj hj=>a4d SN.r2 SN.r4 k j (((HI k).1 t).good SN.r2 SN.r4) hj) (CP k hlt2) a ha X2);rw[<-uH HH] at QL;have ggl:eC x H k+eZ x H (x.c k) (x.c k).prs<=2000000:=by rw[<-uH GN];omega
    go_wp2_with fail;refine QL.mono ?_;rintro e w3 ⟨rfl,S3,M3,X3⟩;clear S2 M2 X2 QL;go_wp2_with fail;go_roundw
    case rel=>exact⟨k+1,by omega,by go_num,by rw[uH GN];go_num,by rw[uH DN],by rw[uH E];exact uH S3,M3,X3⟩
    case measure=>simp [intOf];omega
  ·have ke:k=x.cells.length:=by omega
   subst ke;rw[a5b] at hS;go_wp2_with fail;go_ret2;exact⟨H,rfl,HI,hS,hX⟩
theorem c9z{w:World}{p:Addr}{v:Value}(h:w.cell? p=some v):w.setCell p v=w:=by
 have key:(w.setCell p v).heap=w.heap:=by
  unfold World.cell? at h;unfold World.setCell;apply Array.ext_getElem?;intro i;rw[Array.getElem?_modify];by_cases e:p.block=i
  ·subst e;rw[if_pos rfl];cases hh:w.heap[p.block]? with
   | none=>rfl
   | some o=>
    rw[hh] at h;cases o with
    | cells c t f=>
     simp only at h;by_cases hs:p.spot.isSome=true
     ·simp [hs] at h
     ·simp only [hs] at h;simp only [Option.map_some,hs]
      congr 1
      have hc:c.setIfInBounds p.off v=c:=by
       apply Array.ext_getElem?;intro k;rw[Array.getElem?_setIfInBounds];by_cases e2:p.off=k
       ·subst e2;rw[if_pos rfl];have:=(Array.getElem?_eq_some_iff.1 h).1;rw[if_pos this];exact h.symm
       ·rw[if_neg e2]
      simp [hc]
    | _=>simp at h
  ·rw[if_neg e]
 unfold World.setCell at key ⊢;simp only at key;rw[key]
theorem c6u:(Tryz.prog.info? 124).map (λi=>(i.zero,i.size,i.bytes))=some (some (.agg #[.int .i64 0,.pointer none]),2,16):=by kernel_rfl
theorem c6v(base:Option Addr)(l n:Nat)(w:World)(hn:n=0):
  Calls Tryz.prog 140 #[.slice base l l,.int .i64 n] w λe w'=>e=.returned (.slice base l l)/\w'=w:=by
 subst hn;have h2:wrap64 ((l:Int)-(l:Int))=0:=by unfold wrap64;omega
 go_enter Tryz.func140,Tryz.ntmps140
 go_wp2
 go_ret;exact⟨rfl,rfl⟩
def d0a(w:World)(l n:Nat)(cs:List Value)(e:Ending)(w':World):Prop:=∃k m,e=.returned (.slice (some ⟨w.heap.size,0,none⟩) l k)/\l+n<=k/\m.size=(k-l)*2/\w'=w.drew.alloc (.cells (cs.toArray++m) 124)
theorem d0b(bn l n:Nat)(cs:List Value)(w:World)(hl:l+n<=8000)(hn:0<n)(hcl:cs.length=l*2)(hcs:∀j v,cs[j]?=some v->w.cell? ⟨bn,j,none⟩=some v):
  Calls Tryz.prog 140 #[.slice (some ⟨bn,0,none⟩) l l,.int .i64 n] w λe w'=>d0a w l n cs e w':=by
 obtain⟨i0,hi0,hz0,hz1,hz2⟩:∃i,Tryz.prog.info? 124=some i/\i.zero=some (.agg #[.int .i64 0,.pointer none])/\i.size=2/\i.bytes=16:=by
  have:=c6u;cases h:Tryz.prog.info? 124 with
  | none=>rw[h] at this;simp at this
  | some i=>rw[h] at this;simp at this;exact⟨i,rfl,this.1,this.2.1,this.2.2⟩
 have h2:wrap64 ((l:Int)-(l:Int))=0:=by unfold wrap64;omega
 have hold:(Builtin.firstCells i0.size l (.slice (some ⟨bn,0,none⟩) l l)).run Tryz.prog w.drew=.ok cs.toArray w.drew:=run_firstCells_some w.drew i0.size l ⟨bn,0,none⟩ l l cs (by rw[hcl,hz1]) (λj v hj=>by
  have:(⟨bn,0,none⟩:Addr).add j=⟨bn,j,none⟩:=by unfold Addr.add;split <;> simp_all
  rw[this];exact hcs j v hj)
 have hrz:∀ty,(Builtin.append_ #[117,3] ty #[.slice (some ⟨bn,0,none⟩) l l,.int .i64 (n:Int)]).run Tryz.prog w=.ok (.slice (some ⟨w.heap.size,0,none⟩) (l+n) (grownCap w (l+n) l 124)) (w.drew.alloc (.cells (cs.toArray++Builtin.zeroCells (Value.agg #[.int .i64 0,.pointer none]).cells n++Builtin.zeroCells (Value.agg #[.int .i64 0,.pointer none]).cells (grownCap w (l+n) l 124-(l+n))) 124)):=λty=>
  Go.Lib.run_append_grow_zeros w 117 3 ty 124 i0 _ .i64 .i64 Tryz.underlying117 Tryz.underlying3 hi0 hz0 (some ⟨bn,0,none⟩) l l cs hold n hn (by omega) (by omega) (by omega) (by rw[hz2];omega) (growslice_fits (by omega) (by rw[hz2];omega))
 have hGn:l+n<=grownCap w (l+n) l 124:=grownCap_ge w _ _ _;obtain⟨G,hG⟩:∃G,G=grownCap w (l+n) l 124:=⟨_,rfl⟩;rw[<-hG] at hrz hGn
 have hG63:G<=9223372036854775807:=by
  have:=grownCap_le_maxLen w (l+n) l 124 (by unfold maxLen;omega);rw[<-hG] at this;unfold maxLen at this;omega
 have n0:¬((n:Int)<0):=by omega
 have n1:wrap64 ((n:Int)-0)=n:=by unfold wrap64;omega
 have n2:(n:Int) > 0:=by omega
 have HGN:=uU hGn;clear hold hG hcs hcl;go_enter Tryz.func140,Tryz.ntmps140;go_wp2_with (at_builtin;refine Go.Lib.wpList_append_run _ rfl _ _ _ _ rfl _ _ rfl rfl _ _ (hrz _) ?_);go_ret;exact⟨G,Builtin.zeroCells (Value.agg #[.int .i64 0,.pointer none]).cells n++Builtin.zeroCells (Value.agg #[.int .i64 0,.pointer none]).cells (G-(l+n)),rfl,HGN,by have:=uH HGN;simp only [Array.size_append,Go.size_zeroCells];show n*2+(G-(l+n))*2=_;omega,rfl⟩
def tX(cB cO:Nat->Nat)(n:Nat):List Value:=(List.range (n*2)).map (λj=>if j % 2=0 then iv (j / 2:Nat) else .pointer (some ⟨cB (j / 2),cO (j / 2),none⟩))
theorem c0u(cB cO:Nat->Nat)(n j:Nat)(h:j<n*2):(tX cB cO n)[j]?=some (if j % 2=0 then iv (j / 2:Nat) else .pointer (some ⟨cB (j / 2),cO (j / 2),none⟩)):=by
 unfold tX;rw[List.getElem?_map,List.getElem?_range h];rfl
theorem SAt.regrow[Inhabited uZ](h:SAt B w b x ar kr v4 v8 br cB cO bn pb pa pk kn hd vf F vk [] role)(hg:x.gray=[])(hB:B<=w.heap.size)(k:Nat)(m:Array Value)(T:TypeId)(hmk:x.cells.length<=k/\m.size=(k-x.cells.length)*2):
  SAt B ((w.drew.alloc (.cells ((tX cB cO x.cells.length).toArray++m) T)).setCell ⟨b,13,none⟩ (.slice (some ⟨w.heap.size,0,none⟩) x.cells.length k)) b x ar kr v4 v8 br cB cO w.heap.size pb pa pk k hd vf F vk [] (λq=>if q=w.heap.size then 1 else role q):=by
 have hb:=h.sb.nb.1;have nb:b≠w.heap.size:=by omega
 have far1:∀q,q<w.heap.size->(w.drew.alloc (.cells ((tX cB cO x.cells.length).toArray++m) T)).heap[q]?=w.heap[q]?:=λq hq=>Below.heap_alloc w.drew _ q hq
 have far:∀q,q<w.heap.size->q≠b->((w.drew.alloc (.cells ((tX cB cO x.cells.length).toArray++m) T)).setCell ⟨b,13,none⟩ (.slice (some ⟨w.heap.size,0,none⟩) x.cells.length k)).heap[q]?=w.heap[q]?:=λq hq hn=>(Below.heap_setCell _ _ _ _ hn).trans (far1 q hq)
 have cb:∀o,o≠13->((w.drew.alloc (.cells ((tX cB cO x.cells.length).toArray++m) T)).setCell ⟨b,13,none⟩ (.slice (some ⟨w.heap.size,0,none⟩) x.cells.length k)).cell? ⟨b,o,none⟩=w.cell? ⟨b,o,none⟩:=λo ho=>(uC _ (.inr (λe=>ho e.symm))).trans (World.cell?_of_block (a:=⟨b,o,none⟩) (far1 b hb))
 have hsz:w.heap.size+1=((w.drew.alloc (.cells ((tX cB cO x.cells.length).toArray++m) T)).setCell ⟨b,13,none⟩ (.slice (some ⟨w.heap.size,0,none⟩) x.cells.length k)).heap.size:=by simp [World.setCell]
 have hnew:((w.drew.alloc (.cells ((tX cB cO x.cells.length).toArray++m) T)).setCell ⟨b,13,none⟩ (.slice (some ⟨w.heap.size,0,none⟩) x.cells.length k)).heap[w.heap.size]?=some (.cells ((tX cB cO x.cells.length).toArray++m) T):=(Below.heap_setCell _ _ _ _ (λe=>nb e.symm)).trans (heap_alloc_new w.drew _)
 have cn:∀j,j<x.cells.length*2->((w.drew.alloc (.cells ((tX cB cO x.cells.length).toArray++m) T)).setCell ⟨b,13,none⟩ (.slice (some ⟨w.heap.size,0,none⟩) x.cells.length k)).cell? ⟨w.heap.size,j,none⟩=some (if j % 2=0 then iv (j / 2:Nat) else .pointer (some ⟨cB (j / 2),cO (j / 2),none⟩)):=λj hj=>by
  rw[cell_of_row _ w.heap.size j _ _ (0,0) hnew,<-c0u cB cO x.cells.length j hj];have hl:j<(tX cB cO x.cells.length).toArray.size:=by simp [tX];exact hj
  rw[Array.getElem?_append_left hl];simp
 have rb:∀q,role q≠0->q≠b:=λq hq e=>hq (by rw[e];exact h.sp.b)
 have nfb:Nf1 b ((w.drew.alloc (.cells ((tX cB cO x.cells.length).toArray++m) T)).setCell ⟨b,13,none⟩ (.slice (some ⟨w.heap.size,0,none⟩) x.cells.length k)):=(cU h.sb.nb (far1 b hb) (by simp)).set _ _;have c13:(w.drew.alloc (.cells ((tX cB cO x.cells.length).toArray++m) T)).cell? ⟨b,13,none⟩=some (.slice (some ⟨bn,0,none⟩) x.cells.length kn):=(World.cell?_of_block (a:=⟨b,13,none⟩) (far1 b hb)).trans h.sb.n13;refine⟨⟨h.sb.bx.of λo ho=>cb o (by omega),h.sb.ha,World.cell?_setCell_same _ _ _ c13,λi hi=>⟨?_,?_⟩,⟨(cb 14 (by omega)).trans h.sb.fr.hd,nfb.2 14,uN h.sb.fr.own (λq hq=>far q (h.sb.fr.own.lt q hq).2 (rb q (by rw[h.sp.f q hq];omega))),h.sb.fr.apart⟩,?_,(cb 4017 (by omega)).trans h.sb.k0,?_,nfb,⟨h.sb.lo.1,hB,by omega,?_⟩⟩,h.rw.same (by omega) (λhl=>far br (h.rw.nr hl).1.1 (rb br (by rw[h.sp.r hl];omega))) (λq hq=>far (cB q) (h.rw.nc q hq).1.1 (rb (cB q) (by rw[h.sp.c q hq];omega))) (λq hq hl=>far (pb q) (h.rw.pl q hq hl).2.1.1 (rb (pb q) (by rw[h.sp.p q hq hl];omega))),?_,h.pr.of (λq hq h1=>far q hq (rb q (by rw[h1];omega))) (λq hq h1=>by(try dsimp only);rw[if_neg (by omega)];exact h1)⟩
 ·have:=cn (i*2) (by omega);rw[if_pos (by omega),show i*2 / 2=i by omega] at this;exact this
 ·have:=cn (i*2+1) (by omega);rw[if_neg (by omega),show(i*2+1) / 2=i by omega] at this;exact this
 ·have r:=h.sb.rg;rw[hg] at r;rw[hg];exact⟨r.h0,r.hl,(cb 4015 (by omega)).trans r.r0,(cb 4016 (by omega)).trans r.r1,λi hi=>by simp at hi,λj hj=>let ⟨v,q⟩:=r.ro j hj;⟨v,(cb _ (by omega)).trans q⟩⟩
 ·have:=h.sb.kp;exact uN (by simpa using this) (λq hq=>far q (h.sb.kp.lt q hq).2 (rb q (by rw[h.sp.k q hq];omega)))
 ·intro j hj;have hl:j<((tX cB cO x.cells.length).toArray++m).size:=by simp [tX];omega
  refine⟨⟨((tX cB cO x.cells.length).toArray++m)[j],?_⟩,?_⟩
  ·rw[cell_of_row _ w.heap.size j _ _ (0,0) hnew];exact Array.getElem?_eq_getElem hl
  ·rw[World.frozen?_setCell];simp [go_sem]
 ·have ne:∀q,q<w.heap.size->¬q=w.heap.size:=λq hq=>by omega
  refine⟨?_,if_pos rfl,λhl=>?_,λq hq=>?_,λq hq=>?_,λq hq=>?_,λq hq hl=>?_⟩
  ·rw[if_neg nb];exact h.sp.b
  ·rw[if_neg (ne br (h.rw.nr hl).1.1)];exact h.sp.r hl
  ·rw[if_neg (ne (cB q) (h.rw.nc q hq).1.1)];exact h.sp.c q hq
  ·rw[if_neg (ne q (h.sb.fr.own.lt q hq).2)];exact h.sp.f q hq
  ·rw[if_neg (ne q (h.sb.kp.lt q hq).2)];exact h.sp.k q hq
  ·rw[if_neg (ne (pb q) (h.rw.pl q hq hl).2.1.1)];exact h.sp.p q hq hl
theorem d0c[Inhabited uZ](h:SAt B w b x ar kr v4 v8 br cB cO bn pb pa pk x.cells.length hd vf F vk [] role)(hg:x.gray=[])(hB:B<=w.heap.size)(m:Nat)(hm:x.cells.length+m<=8000):
  Calls Tryz.prog 140 #[.slice (some ⟨bn,0,none⟩) x.cells.length x.cells.length,.int .i64 m] w λe w'=>∃bn' kn',e=.returned (.slice (some ⟨bn',0,none⟩) x.cells.length kn')/\Hid (∃role',SAt B (w'.setCell ⟨b,13,none⟩ (.slice (some ⟨bn',0,none⟩) x.cells.length kn')) b x ar kr v4 v8 br cB cO bn' pb pa pk kn' hd vf F vk [] role')/\Hid (w'.cell? ⟨b,13,none⟩=some (.slice (some ⟨bn,0,none⟩) x.cells.length x.cells.length)/\w'.frozen? ⟨b,13,none⟩=false/\Ext w w'/\x.cells.length+m<=kn'):=by
 rcases Nat.eq_zero_or_pos m with e | e
 ·refine(c6v (some ⟨bn,0,none⟩) x.cells.length m w e).mono ?_;rintro e w' ⟨rfl,rfl⟩;refine⟨bn,x.cells.length,rfl,⟨role,?_⟩,h.sb.n13,h.sb.nb.2 13,Ext.refl _,by omega⟩;rw[c9z h.sb.n13];exact h
 ·refine(d0b bn x.cells.length m (tX cB cO x.cells.length) w hm e (by simp [tX]) (λj v hj=>?_)).mono ?_
  ·have hj2:j<x.cells.length*2:=by have:=(List.getElem?_eq_some_iff.1 hj).1;simpa [tX] using this
   rw[c0u cB cO x.cells.length j hj2] at hj;rw[<-hj];obtain⟨p0,p1⟩:=h.sb.nd (j / 2) (by omega);by_cases ev:j % 2=0
   ·rw[if_pos ev];rw[show j / 2*2=j by omega] at p0;exact p0
   ·rw[if_neg ev];rw[show j / 2*2+1=j by omega] at p1;exact p1
  ·rintro e w' ⟨k,mm,rfl,hk,hmm,rfl⟩;have xw:Ext w (w.drew.alloc (.cells ((tX cB cO x.cells.length).toArray++mm) 124)):=(Ext.refl w).drew.alloc _;exact⟨w.heap.size,k,rfl,⟨_,h.regrow hg hB k mm _ ⟨by omega,hmm⟩⟩,xw.keep h.sb.n13,((dH xw).2 b 13 h.sb.nb.1).trans (h.sb.nb.2 13),xw,hk⟩
structure b0h(B U:Nat)(w:World)(x:Hp)(br kr bc kc bg kg:Nat)(pb:Nat->Nat)(pa:Nat->Option Addr)(pk:Nat->Nat):Prop where
 r:SlW w (.slice (some ⟨br,0,none⟩) x.regs.length kr) x.regs
 s:∀q,q<x.cells.length->w.cell? ⟨bc,q*8,none⟩=some (iv (x.c q).st)/\w.cell? ⟨bc,q*8+1,none⟩=some (iv (x.c q).kind)/\w.cell? ⟨bc,q*8+2,none⟩=some (iv (x.c q).weak)/\w.cell? ⟨bc,q*8+3,none⟩=some (iv (x.c q).last)/\w.cell? ⟨bc,q*8+4,none⟩=some (iv (x.c q).born)/\w.cell? ⟨bc,q*8+5,none⟩=some (iv (x.c q).color)/\w.cell? ⟨bc,q*8+6,none⟩=some (iv (x.c q).to)
 p:∀q,q<x.cells.length->SlP w (.slice (pa q) (x.c q).prs.length (pk q)) (x.c q).prs
 g:SlI w (.slice (some ⟨bg,0,none⟩) x.gray.length kg) x.gray
 p7:∀q,q<x.cells.length->w.cell? ⟨bc,q*8+7,none⟩=some (.slice (pa q) (x.c q).prs.length (pk q))
 pl:∀q,q<x.cells.length->0<(x.c q).prs.length->pa q=some ⟨pb q,0,none⟩/\Nf1 (pb q) w/\(pb q≠br/\pb q≠bc/\pb q≠bg)/\B<=pb q/\pb q<U
 nr:Nf1 br w
 nc:Nf1 bc w
 ng:Nf1 bg w
 d:br≠bc/\br≠bg/\bc≠bg
 dp:∀q q',q<x.cells.length->q'<x.cells.length->q≠q'->0<(x.c q).prs.length->0<(x.c q').prs.length->pb q≠pb q'
 b:(B<=br/\br<U)/\(B<=bc/\bc<U)/\(B<=bg/\bg<U)
 l:x.regs.length<=100/\x.cells.length<=8000/\x.gray.length<=8000/\∀q,q<x.cells.length->(x.c q).prs.length<=200
 k:∀q,q<x.cells.length->(x.c q).prs.length<=pk q
theorem b0i(h:Nf1 B w)(k:uX S w w')(hs:¬S B):Nf1 B w':=⟨Nat.lt_of_lt_of_le h.1 k.size,λj=>by rw[k.frozen h.1 hs];exact h.2 j⟩
theorem b0h.ext(h:b0h B U w x br kr bc kc bg kg pb pa pk)(e:Ext w w'):b0h B U w' x br kr bc kc bg kg pb pa pk:=
 ⟨SlW.ext e h.r,λq hq=>let ⟨a0,a1,a2,a3,a4,a5,a6⟩:=h.s q hq;⟨e.keep a0,e.keep a1,e.keep a2,e.keep a3,e.keep a4,e.keep a5,e.keep a6⟩,λq hq=>SlP.ext e (h.p q hq),SlI.ext e h.g,λq hq=>e.keep (h.p7 q hq),λq hq hl=>let ⟨a,b,c⟩:=h.pl q hq hl;⟨a,b.ext e,c⟩,h.nr.ext e,h.nc.ext e,h.ng.ext e,h.d,h.dp,h.b,h.l,h.k⟩
theorem b0h.only(h:b0h B U w x br kr bc kc bg kg pb pa pk)(e:uX S w w')(hs:∀q,B<=q->q<U->¬S q):b0h B U w' x br kr bc kc bg kg pb pa pk:=by
 have nr:=hs _ h.b.1.1 h.b.1.2;have nc:=hs _ h.b.2.1.1 h.b.2.1.2;have ng:=hs _ h.b.2.2.1 h.b.2.2.2;refine⟨yN.mono2 h.r λb o n c z o' y hy=>?_,λq hq=>let ⟨a0,a1,a2,a3,a4,a5,a6⟩:=h.s q hq;⟨e.keep nc a0,e.keep nc a1,e.keep nc a2,e.keep nc a3,e.keep nc a4,e.keep nc a5,e.keep nc a6⟩,λq hq=>?_,yN.mono2 h.g λb o n c z o' y hy=>?_,λq hq=>e.keep nc (h.p7 q hq),λq hq hl=>let ⟨a,b,c⟩:=h.pl q hq hl;⟨a,b0i b e (hs _ c.2.1 c.2.2),c⟩,b0i h.nr e nr,b0i h.nc e nc,b0i h.ng e ng,h.d,h.dp,h.b,h.l,h.k⟩
 ·simp only [Value.slice.injEq,Option.some.injEq,Addr.mk.injEq] at z;obtain⟨⟨rfl,_,_⟩,_,_⟩:=z;exact⟨e.keep nr hy.1,e.keep nr hy.2.1,e.keep nr hy.2.2⟩
 ·rcases Nat.eq_zero_or_pos (x.c q).prs.length with z | z
  ·have z2:(x.c q).prs=[]:=List.eq_nil_of_length_eq_zero z;rw[z2];exact yN.nil
  ·obtain⟨a,_,c⟩:=h.pl q hq z;refine c7c e (λb o n k e2=>?_) (h.p q hq);rw[a] at e2;simp only [Value.slice.injEq,Option.some.injEq,Addr.mk.injEq] at e2;rw[<-e2.1.1];exact hs _ c.2.1 c.2.2
 ·simp only [Value.slice.injEq,Option.some.injEq,Addr.mk.injEq] at z;obtain⟨⟨rfl,_,_⟩,_,_⟩:=z;exact e.keep ng hy
theorem b0h.cs(h:b0h B U w x br kr bc kc bg kg pb pa pk):SlC w (.slice (some ⟨bc,0,none⟩) x.cells.length kc) x.cells:=by
 refine⟨_,_,rfl,by have:=h.l.2.1;omega,λi hi=>⟨bc,0,rfl,?_⟩⟩;have e:x.c i=x.cells[i]:=(Hp.c_eq x i hi).symm;obtain⟨a0,a1,a2,a3,a4,a5,a6⟩:=h.s i hi;have hp:=h.p i hi;have h7:=h.p7 i hi;rw[e] at a0 a1 a2 a3 a4 a5 a6 hp h7;rw[Nat.zero_add];exact⟨_,a0,a1,a2,a3,a4,a5,a6,h7,hp⟩
theorem c2z(b bn hd n:Nat)(G:List Int)(w:World)(h:RAt w b bn hd G)(hn:∀i,i<n->w.cell? ⟨bn,i*2,none⟩=some (iv i))(hG:∀g,g∈G->0<=g/\g<n):
  Calls Tryz.prog 100 #[.pointer (some ⟨b,15,none⟩)] w λe w'=>e=.returned (.slice (some ⟨w.heap.size,0,none⟩) G.length G.length)/\SlI w' (.slice (some ⟨w.heap.size,0,none⟩) G.length G.length) G/\Nf1 w.heap.size w'/\Ext w w':=by
 have r1:=h.r1;have hl:=h.hl;have H:=uU h;have HN:=uU hn;have HG:=uU hG;obtain⟨z,hmk⟩:=mkInts G.length (by omega) w;clear h hn hG;go_enter Tryz.func100,Tryz.ntmps100;go_wp2_with fail;go_loopw [12] (λi wr=>∃(k:Nat),k<=G.length/\i=.int .i64 k/\Hid ((∀j (hj:j<G.length),j<k->yD wr w.heap.size (0+j*1) G[j])/\(∀j,j<G.length*1->yZ wr w.heap.size j)/\Ext w wr/\Nf1 w.heap.size wr)) (λi _=>G.length-(intOf i).toNat)
 case atStart=>exact⟨0,Nat.zero_le _,rfl,(λj _ h=>by omega),(λj hj=>a7o _ _ _ _ _ (by omega)),(Ext.refl w).alloc _,Nf1.made _ _ _ _⟩
 case round=>
  clear hmk r1;obtain⟨k,hk,rfl,hinv⟩:=hrel;by_cases hlt:k<G.length
  ·have hx:=hinv.2.2.1;obtain⟨m,hm⟩:∃m,m=(hd+k) % 4000:=⟨_,rfl⟩;have hm4:m<4000:=by rw[hm];exact Nat.mod_lt _ (by omega)
   have hr:((hd:Int)+(k:Int)).tmod 4000=(m:Int):=by have:=b9n (hd+k);rw[<-hm] at this;simpa using this
   have m0:(0:Int)<=(m:Int):=by omega
   have m1:(m:Int)<4000:=by omega
   have hg:=uH HG G[k] (List.getElem_mem hlt);obtain⟨j,hj⟩:∃j:Nat,G[k]=(j:Int):=⟨G[k].toNat,by omega⟩;have hjn:j<n:=by omega
   have c0:=hx.keep H.r0;have h0:=H.h0;have cm:=hx.keep (H.rg k hlt);rw[<-hm,hj] at cm;have cm:wr.cell? ⟨b,15+m,none⟩=some (.pointer (some ⟨bn,j*2,none⟩)):=cm;have cj:=hx.keep (HN j hjn);have R:=uU (c6y (w:=w) (wr:=wr) (xs:=G) (k:=k) hlt hinv.1 hinv.2.1 hx hinv.2.2.2);rw[hj] at R;obtain⟨⟨u,cu⟩,fu⟩:=hinv.2.1 k (by omega);have k0:(0:Int)<=(k:Int):=by omega
   have k1:(k:Int)<(G.length:Int):=by omega
   have nb1:¬w.heap.size=b:=λe=>by have:=uL H.r0;simp only at this;omega
   have nb2:¬b=w.heap.size:=λe=>nb1 e.symm
   clear hg hj hm;go_wp2_with fail
   go_region
   all_goals
    go_wp2_with fail;go_roundw
    case rel=>
     have d:=(Ext.refl (wr.setCell ⟨w.heap.size,k,none⟩ (iv j))).drew;exact⟨k+1,by omega,by go_num,λj hj hk=>(R.1 j hj hk).ext d,λj hj=>(R.2.1 j hj).ext d,R.2.2.1.drew,R.2.2.2.ext d⟩
    case measure=>simp [intOf];omega
  ·have hk2:k=G.length:=by omega
   have HM:=uU (show SlI wr (.slice (some ⟨w.heap.size,0,none⟩) G.length G.length) G from⟨_,_,rfl,by omega,λi hi=>⟨_,_,rfl,hinv.1 i hi (by omega)⟩⟩);clear hk2;go_wp2_with fail;go_ret;exact⟨rfl,HM,hinv.2.2.2,hinv.2.2.1⟩
theorem uX.setNew{a:World}(h:uX S a w){p:Addr}(hp:a.heap.size<=p.block)(u:Value):uX S a (w.setCell p u):=
 ⟨h.os,h.tape,h.output,by have:=h.size;simpa [World.setCell] using this,λk hk hs=>(Below.heap_setCell _ _ _ _ (by omega)).trans (h.block k hk hs)⟩
structure Tdl(w1 wr:World)(x:Hp)(t bN:Nat)(vr vc vg:Value)(pa:Nat->Option Addr)(pk:Nat->Nat)(k:Nat):Prop where
 bx:dY wr t x vr vc vg
 s:∀q,q<x.cells.length->q<k->S7 wr bN (q*8) (x.c q)/\wr.cell? ⟨bN,q*8+7,none⟩=some (.slice (pa q) (x.c q).prs.length (pk q))
 o:∀j,j<x.cells.length*8->yZ wr bN j
 nf:Nf1 bN wr
 on:uX (λq=>q=t) w1 wr
 lt:t<w1.heap.size/\w1.heap.size<=bN
theorem Tdl.step{w1 wr:World}{t bN:Nat}{vr vc vg:Value}{k:Nat}(h:Tdl w1 wr x t bN vr vc vg pa pk k)(hk:k<x.cells.length):
  Tdl w1 ((((((((wr.setCell ⟨bN,k*8,none⟩ (iv (x.c k).st)).setCell ⟨bN,k*8+1,none⟩ (iv (x.c k).kind)).setCell ⟨bN,k*8+2,none⟩ (iv (x.c k).weak)).setCell ⟨bN,k*8+3,none⟩ (iv (x.c k).last)).setCell ⟨bN,k*8+4,none⟩ (iv (x.c k).born)).setCell ⟨bN,k*8+5,none⟩ (iv (x.c k).color)).setCell ⟨bN,k*8+6,none⟩ (iv (x.c k).to)).setCell ⟨bN,k*8+7,none⟩ (.slice (pa k) (x.c k).prs.length (pk k))).drew x t bN vr vc vg pa pk (k+1):=by
 have hl:=h.lt;have o0:yZ wr bN (k*8):=h.o (k*8) (by omega);have o1:=h.o (k*8+1) (by omega);have o2:=h.o (k*8+2) (by omega);have o3:=h.o (k*8+3) (by omega);have o4:=h.o (k*8+4) (by omega);have o5:=h.o (k*8+5) (by omega);have o6:=h.o (k*8+6) (by omega);have o7:=h.o (k*8+7) (by omega)
 have oth:∀b o,(b≠bN\/o<k*8\/k*8+8<=o)->(((((((((wr.setCell ⟨bN,k*8,none⟩ (iv (x.c k).st)).setCell ⟨bN,k*8+1,none⟩ (iv (x.c k).kind)).setCell ⟨bN,k*8+2,none⟩ (iv (x.c k).weak)).setCell ⟨bN,k*8+3,none⟩ (iv (x.c k).last)).setCell ⟨bN,k*8+4,none⟩ (iv (x.c k).born)).setCell ⟨bN,k*8+5,none⟩ (iv (x.c k).color)).setCell ⟨bN,k*8+6,none⟩ (iv (x.c k).to)).setCell ⟨bN,k*8+7,none⟩ (.slice (pa k) (x.c k).prs.length (pk k))).drew).cell? ⟨b,o,none⟩=wr.cell? ⟨b,o,none⟩:=λb o hb=>by
  rw[a1h,uC _ (by omega),uC _ (by omega),uC _ (by omega),uC _ (by omega),uC _ (by omega),uC _ (by omega),uC _ (by omega),uC _ (by omega)]
 have opn:∀b o,yZ wr b o->yZ ((((((((wr.setCell ⟨bN,k*8,none⟩ (iv (x.c k).st)).setCell ⟨bN,k*8+1,none⟩ (iv (x.c k).kind)).setCell ⟨bN,k*8+2,none⟩ (iv (x.c k).weak)).setCell ⟨bN,k*8+3,none⟩ (iv (x.c k).last)).setCell ⟨bN,k*8+4,none⟩ (iv (x.c k).born)).setCell ⟨bN,k*8+5,none⟩ (iv (x.c k).color)).setCell ⟨bN,k*8+6,none⟩ (iv (x.c k).to)).setCell ⟨bN,k*8+7,none⟩ (.slice (pa k) (x.c k).prs.length (pk k))).drew b o:=λb o hb=>((((((((hb.set _ _).set _ _).set _ _).set _ _).set _ _).set _ _).set _ _).set _ _).ext ((Ext.refl _).drew)
 refine⟨h.bx.of λo _=>oth t o (.inl (by omega)),λq hq hqk=>?_,λj hj=>opn bN j (h.o j hj),((((((((h.nf.set _ _).set _ _).set _ _).set _ _).set _ _).set _ _).set _ _).set _ _).ext ((Ext.refl _).drew),?_,hl⟩
 ·by_cases e:q=k
  ·subst e;refine⟨⟨?_,?_,?_,?_,?_,?_,?_⟩,?_⟩
   ·rw[a1h,uC _ (by omega),uC _ (by omega),uC _ (by omega),uC _ (by omega),uC _ (by omega),uC _ (by omega),uC _ (by omega)];exact o0.same _
   ·rw[a1h,uC _ (by omega),uC _ (by omega),uC _ (by omega),uC _ (by omega),uC _ (by omega),uC _ (by omega)];exact(o1.set _ _).same _
   ·rw[a1h,uC _ (by omega),uC _ (by omega),uC _ (by omega),uC _ (by omega),uC _ (by omega)];exact((o2.set _ _).set _ _).same _
   ·rw[a1h,uC _ (by omega),uC _ (by omega),uC _ (by omega),uC _ (by omega)];exact(((o3.set _ _).set _ _).set _ _).same _
   ·rw[a1h,uC _ (by omega),uC _ (by omega),uC _ (by omega)];exact((((o4.set _ _).set _ _).set _ _).set _ _).same _
   ·rw[a1h,uC _ (by omega),uC _ (by omega)];exact(((((o5.set _ _).set _ _).set _ _).set _ _).set _ _).same _
   ·rw[a1h,uC _ (by omega)];exact((((((o6.set _ _).set _ _).set _ _).set _ _).set _ _).set _ _).same _
   ·rw[a1h];exact(((((((o7.set _ _).set _ _).set _ _).set _ _).set _ _).set _ _).set _ _).same _
  ·have hx:=h.s q hq (by omega);exact⟨hx.1.of λj hj=>oth bN _ (.inr (by omega)),(oth bN _ (.inr (by omega))).trans hx.2⟩
 ·exact((((((((h.on.setNew (p:=⟨bN,k*8,none⟩) hl.2 _).setNew (p:=⟨bN,k*8+1,none⟩) hl.2 _).setNew (p:=⟨bN,k*8+2,none⟩) hl.2 _).setNew (p:=⟨bN,k*8+3,none⟩) hl.2 _).setNew (p:=⟨bN,k*8+4,none⟩) hl.2 _).setNew (p:=⟨bN,k*8+5,none⟩) hl.2 _).setNew (p:=⟨bN,k*8+6,none⟩) hl.2 _).setNew (p:=⟨bN,k*8+7,none⟩) hl.2 _).drew
theorem d0d[Inhabited uZ]{a4:Option Addr}{n4 k4:Nat}{a8:Option Addr}{n8 k8:Nat}(w:World)
  (h:SAt B w b x ar kr (.slice a4 n4 k4) (.slice a8 n8 k8) br cB cO bn pb pa pk kn hd vf F vk K role) (hG:∀g,g∈x.gray->0<=g/\g<x.cells.length) (hr:0<x.regs.length) (l:x.regs.length<=100/\x.cells.length<=8000/\x.gray.length<=8000/\∀q,q<x.cells.length->(x.c q).prs.length<=200) (hB:B<=w.heap.size) :
  Calls Tryz.prog 59 #[.pointer (some ⟨b,0,none⟩)] w λe w'=>∃bcN bgN,e=.returned (x.v (.slice (some ⟨br,0,none⟩) x.regs.length kr) (.slice (some ⟨bcN,0,none⟩) x.cells.length x.cells.length) (.slice (some ⟨bgN,0,none⟩) x.gray.length x.gray.length))/\Hid (b0h B w'.heap.size w' x br kr bcN x.cells.length bgN x.gray.length pb pa pk)/\Ext w w':=by
 have H:=uU h;obtain⟨c0,c1,c2,c3,c4,c5,c6,c7,c8,c9,c10,c11,c12⟩:=h.sb.bx;rw[h.sb.ha hr] at c3;have AR:=uU (h.sb.ha hr);have hb:=h.sb.nb.1;have l2:=l.2.1;have HG:=uU hG;have HL:=uU l;clear h hG l;have xa:=((Ext.refl w).alloc (.cells #[iv 0,iv 0,iv 0,.slice none 0 0,.slice none 0 0,iv 0,iv 0,iv 0,.slice none 0 0,iv 0,iv 0,iv 0,iv 0] 34)).alloc (.cells #[iv x.room,iv x.used,iv x.born,.slice (some ⟨br,0,none⟩) x.regs.length kr,.slice a4 n4 k4,iv x.phase,iv x.hand,iv x.sub,.slice a8 n8 k8,iv x.per,iv x.start,iv x.rounds,iv x.forced] 34);have B1:=dY.new (w.alloc (.cells #[iv 0,iv 0,iv 0,.slice none 0 0,.slice none 0 0,iv 0,iv 0,iv 0,.slice none 0 0,iv 0,iv 0,iv 0,iv 0] 34)) x (.slice (some ⟨br,0,none⟩) x.regs.length kr) (.slice a4 n4 k4) (.slice a8 n8 k8) 34;have hs1:(w.alloc (.cells #[iv 0,iv 0,iv 0,.slice none 0 0,.slice none 0 0,iv 0,iv 0,iv 0,.slice none 0 0,iv 0,iv 0,iv 0,iv 0] 34)).heap.size=w.heap.size+1:=by simp
 rw[hs1] at B1;have hs2:((w.alloc (.cells #[iv 0,iv 0,iv 0,.slice none 0 0,.slice none 0 0,iv 0,iv 0,iv 0,.slice none 0 0,iv 0,iv 0,iv 0,iv 0] 34)).alloc (.cells #[iv x.room,iv x.used,iv x.born,.slice (some ⟨br,0,none⟩) x.regs.length kr,.slice a4 n4 k4,iv x.phase,iv x.hand,iv x.sub,.slice a8 n8 k8,iv x.per,iv x.start,iv x.rounds,iv x.forced] 34)).heap.size=w.heap.size+2:=by simp
 go_enter Tryz.func59,Tryz.ntmps59;go_wp2_with fail;refine(c2z b bn hd x.cells.length x.gray _ (H.ext xa).sb.rg (λi hi=>((H.ext xa).sb.nd i hi).1) HG).mono ?_;rintro e w1 ⟨rfl,hgs,hgn,q1⟩;rw[hs2] at hgs hgn ⊢;have hz1:w.heap.size+2<w1.heap.size:=hgn.1;have BX1:=uU (B1.ext q1);have X1:=xa.trans q1;have GS:=uU (And.intro hgs hgn);have d8:=BX1.2.2.2.2.2.2.2.2.1;have d4:=BX1.2.2.2.2.1;have fz:∀o,w1.frozen? ⟨w.heap.size+1,o,none⟩=false:=λo=>((dH q1).2 (w.heap.size+1) o (by rw[hs2];omega)).trans (by simp [go_sem])
 have g8:=fz 8;have g4:=fz 4;have rc:=uU (show ∀o v,((w.alloc (.cells #[iv 0,iv 0,iv 0,.slice none 0 0,.slice none 0 0,iv 0,iv 0,iv 0,.slice none 0 0,iv 0,iv 0,iv 0,iv 0] 34)).alloc (.cells #[iv x.room,iv x.used,iv x.born,.slice (some ⟨br,0,none⟩) x.regs.length kr,.slice a4 n4 k4,iv x.phase,iv x.hand,iv x.sub,.slice a8 n8 k8,iv x.per,iv x.start,iv x.rounds,iv x.forced] 34)).cell? ⟨w.heap.size,o,none⟩=some v->w1.cell? ⟨w.heap.size,o,none⟩=some v from λo v h=>q1.keep h);have RF:=uU (show ∀o,w1.frozen? ⟨w.heap.size,o,none⟩=false from λo=>((dH q1).2 w.heap.size o (by rw[hs2];omega)).trans (by simp [go_sem]));have n13:=(H.ext X1).sb.n13;have nb1:¬b=w.heap.size+1:=by omega
 have nb2:¬w.heap.size+1=b:=by omega
 obtain⟨z,hmk⟩:=mkCells x.cells.length (by omega) (w1.setCell ⟨w.heap.size+1,8,none⟩ (.slice (some ⟨w.heap.size+2,0,none⟩) x.gray.length x.gray.length));have hsz:(w1.setCell ⟨w.heap.size+1,8,none⟩ (.slice (some ⟨w.heap.size+2,0,none⟩) x.gray.length x.gray.length)).heap.size=w1.heap.size:=by simp [World.setCell]
 rw[hsz] at hmk;have hbw:b<w1.heap.size:=by omega
 have htw:w.heap.size+1<w1.heap.size:=by omega
 clear hgs hgn B1 fz q1 c0 c1 c2 c3 c4 c5 c6 c7 c8 c9 c10 c11 c12;go_wp2_with fail
 have ST:=uU (show Tdl w1 (((w1.setCell ⟨w.heap.size+1,8,none⟩ (.slice (some ⟨w.heap.size+2,0,none⟩) x.gray.length x.gray.length)).setCell ⟨w.heap.size+1,4,none⟩ (.slice (some ⟨w1.heap.size,0,none⟩) x.cells.length x.cells.length)).alloc (.cells (madeCells z (x.cells.length*8)) 62)) x (w.heap.size+1) w1.heap.size (.slice (some ⟨br,0,none⟩) x.regs.length kr) (.slice (some ⟨w1.heap.size,0,none⟩) x.cells.length x.cells.length) (.slice (some ⟨w.heap.size+2,0,none⟩) x.gray.length x.gray.length) pa pk 0 from by
  have hs:((w1.setCell ⟨w.heap.size+1,8,none⟩ (.slice (some ⟨w.heap.size+2,0,none⟩) x.gray.length x.gray.length)).setCell ⟨w.heap.size+1,4,none⟩ (.slice (some ⟨w1.heap.size,0,none⟩) x.cells.length x.cells.length)).heap.size=w1.heap.size:=by simp [World.setCell]
  refine⟨((BX1.set8 _).set4 _).ext ((Ext.refl _).alloc _),λq _ h=>by omega,λj hj=>?_,?_,?_,⟨htw,Nat.le_refl _⟩⟩
  ·have:=a7o ((w1.setCell ⟨w.heap.size+1,8,none⟩ (.slice (some ⟨w.heap.size+2,0,none⟩) x.gray.length x.gray.length)).setCell ⟨w.heap.size+1,4,none⟩ (.slice (some ⟨w1.heap.size,0,none⟩) x.cells.length x.cells.length)) z (x.cells.length*8) 62 j hj;rw[hs] at this;exact this
  ·have:=Nf1.made ((w1.setCell ⟨w.heap.size+1,8,none⟩ (.slice (some ⟨w.heap.size+2,0,none⟩) x.gray.length x.gray.length)).setCell ⟨w.heap.size+1,4,none⟩ (.slice (some ⟨w1.heap.size,0,none⟩) x.cells.length x.cells.length)) z (x.cells.length*8) 62;rw[hs] at this;exact this
  ·exact(uX.setCell (S:=λq=>q=w.heap.size+1) (uX.setCell (S:=λq=>q=w.heap.size+1) (uX.refl _ w1) (p:=⟨w.heap.size+1,8,none⟩) rfl _) (p:=⟨w.heap.size+1,4,none⟩) rfl _).trans (uX.of_ext ((Ext.refl _).alloc _)))
 clear d8 d4 g8 g4 n13 hmk;go_loopw [29] (λi wr=>∃(k:Nat),k<=x.cells.length/\i=.int .i64 k/\Hid (Tdl w1 wr x (w.heap.size+1) w1.heap.size (.slice (some ⟨br,0,none⟩) x.regs.length kr) (.slice (some ⟨w1.heap.size,0,none⟩) x.cells.length x.cells.length) (.slice (some ⟨w.heap.size+2,0,none⟩) x.gray.length x.gray.length) pa pk k)) (λi _=>x.cells.length-(intOf i).toNat)
 case atStart=>exact⟨0,Nat.zero_le _,rfl,ST⟩
 case round=>
  clear ST;obtain⟨k,hk,rfl,hinv⟩:=hrel;have XR:Ext w wr:=hinv.on.ext X1 (λq hq e=>by omega);by_cases hlt:k<x.cells.length
  ·have R:=uU (hinv.step hlt);have c4:=hinv.bx.2.2.2.2.1;have n13:=(H.ext XR).sb.n13;obtain⟨m0,m1⟩:=(H.ext XR).sb.nd k hlt;obtain⟨p0,p1,p2,p3,p4,p5,p6⟩:=(H.ext XR).rw.s k hlt;have p7:=(H.ext XR).rw.p7 k hlt;obtain⟨⟨u0,o0⟩,f0⟩:yZ wr w1.heap.size (k*8):=hinv.o (k*8) (by omega);obtain⟨⟨u1,o1⟩,f1⟩:=hinv.o (k*8+1) (by omega);obtain⟨⟨u2,o2⟩,f2⟩:=hinv.o (k*8+2) (by omega);obtain⟨⟨u3,o3⟩,f3⟩:=hinv.o (k*8+3) (by omega);obtain⟨⟨u4,o4⟩,f4⟩:=hinv.o (k*8+4) (by omega);obtain⟨⟨u5,o5⟩,f5⟩:=hinv.o (k*8+5) (by omega);obtain⟨⟨u6,o6⟩,f6⟩:=hinv.o (k*8+6) (by omega);obtain⟨⟨u7,o7⟩,f7⟩:=hinv.o (k*8+7) (by omega);have k0:(0:Int)<=(k:Int):=by omega
   have k1:(k:Int)<(x.cells.length:Int):=by omega
   clear m0;go_wp2_with fail
   go_region
   all_goals
    go_wp2_with fail;go_roundw
    case rel=>exact⟨k+1,by omega,by go_num,R⟩
    case measure=>simp [intOf];omega
  ·have hk2:k=x.cells.length:=by omega
   subst hk2;have WB:∀q,q<w1.heap.size->q≠w.heap.size+1->wr.heap[q]?=w1.heap[q]?:=λq hq hne=>hinv.on.block q hq hne
   have SR:=uU (H.ext XR)
   have GR:=uU (show SlI wr (.slice (some ⟨w.heap.size+2,0,none⟩) x.gray.length x.gray.length) x.gray/\Nf1 (w.heap.size+2) wr from by
    have e:=WB (w.heap.size+2) (by omega) (by omega);refine⟨yN.mono2 GS.1 λb' o n c z o' y hy=>?_,cU GS.2 e hinv.on.size⟩;simp only [Value.slice.injEq,Option.some.injEq,Addr.mk.injEq] at z;obtain⟨⟨rfl,_,_⟩,_,_⟩:=z;exact(World.cell?_of_block (a:=⟨w.heap.size+2,o',none⟩) e).trans hy)
   have RW:=uU (show ∀W,uX (λq=>q=w.heap.size) wr W->b0h B W.heap.size W x br kr w1.heap.size x.cells.length (w.heap.size+2) x.gray.length pb pa pk from λW o=>by
    have rw:=SR.rw;have hB2:=hB;have lr:=H.rw.nr hr;have lp:=λq hq hl=>H.rw.pl q hq hl
    have hsz:=o.size;have hws:=hinv.nf.1;have rw2:=rw.only o (λhl e=>by have:=lr.1.1;omega) (λq hq e=>by have:=(H.rw.nc q hq).1.1;omega) (λq hq hl e=>by have:=(lp q hq hl).2.1.1;omega);refine⟨rw2.slW kr (λ_=>rfl) (by have:=HL.1;omega),λq hq=>?_,λq hq=>?_,?_,λq hq=>?_,λq hq hl=>?_,(rw2.nr hr).1,?_,?_,⟨by have:=lr.1.1;omega,by have:=lr.1.1;omega,by omega⟩,λq q' hq hq' hne h1 h2=>rw2.dp q q' hq hq' hne (rw2.pw hq h1) (rw2.pw hq' h2),⟨⟨lr.2,by have:=lr.1.1;have:=XR.size;omega⟩,⟨by omega,by omega⟩,⟨by omega,by omega⟩⟩,HL,rw2.kp⟩
    ·exact(hinv.s q hq hq).1.of λj _=>World.cell?_of_block (a:=⟨w1.heap.size,_,none⟩) (o.block w1.heap.size hws (by omega))
    ·refine⟨_,_,rfl,by have:=HL.2.2.2 q hq;omega,λk hk=>⟨pb q,0,(rw2.pl q hq (rw2.pw hq (by omega))).1,?_⟩⟩;rw[Nat.zero_add,Cl.p_eq _ _ hk];exact rw2.p q hq k hk
    ·refine yN.mono2 GR.1 λb' o2 n c z o' y hy=>?_
     simp only [Value.slice.injEq,Option.some.injEq,Addr.mk.injEq] at z;obtain⟨⟨rfl,_,_⟩,_,_⟩:=z;exact o.keep (by omega) hy
    ·exact o.keep (by omega) (hinv.s q hq hq).2
    ·obtain⟨a1,a2,a3,a4⟩:=rw2.pl q hq (rw2.pw hq hl);have:=(lp q hq (rw2.pw hq hl)).2.1.1;exact⟨a1,a2.n1,⟨a3.1,by omega,by omega⟩,a4,by have:=XR.size;omega⟩
    ·exact cU hinv.nf (o.block w1.heap.size hws (by omega)) hsz
    ·exact cU GR.2 (o.block (w.heap.size+2) GR.2.1 (by omega)) hsz)
   have rcell:∀o v,((w.alloc (.cells #[iv 0,iv 0,iv 0,.slice none 0 0,.slice none 0 0,iv 0,iv 0,iv 0,.slice none 0 0,iv 0,iv 0,iv 0,iv 0] 34)).alloc (.cells #[iv x.room,iv x.used,iv x.born,.slice (some ⟨br,0,none⟩) x.regs.length kr,.slice a4 n4 k4,iv x.phase,iv x.hand,iv x.sub,.slice a8 n8 k8,iv x.per,iv x.start,iv x.rounds,iv x.forced] 34)).cell? ⟨w.heap.size,o,none⟩=some v->wr.cell? ⟨w.heap.size,o,none⟩=some v:=λo v h=>(World.cell?_of_block (a:=⟨w.heap.size,o,none⟩) (WB w.heap.size (by omega) (by omega))).trans (rc o v h)
   have rfz:∀o,wr.frozen? ⟨w.heap.size,o,none⟩=false:=λo=>(World.frozen?_of_block (a:=⟨w.heap.size,o,none⟩) (WB w.heap.size (by omega) (by omega))).trans (RF o)
   have r0:=rcell 0 (iv 0) (by simp [go_sem]);have r1:=rcell 1 (iv 0) (by simp [go_sem]);have r2:=rcell 2 (iv 0) (by simp [go_sem]);have r3:=rcell 3 (.slice none 0 0) (by simp [go_sem]);have r4:=rcell 4 (.slice none 0 0) (by simp [go_sem]);have r5:=rcell 5 (iv 0) (by simp [go_sem]);have r6:=rcell 6 (iv 0) (by simp [go_sem]);have r7:=rcell 7 (iv 0) (by simp [go_sem]);have r8:=rcell 8 (.slice none 0 0) (by simp [go_sem]);have r9:=rcell 9 (iv 0) (by simp [go_sem]);have r10:=rcell 10 (iv 0) (by simp [go_sem]);have r11:=rcell 11 (iv 0) (by simp [go_sem]);have r12:=rcell 12 (iv 0) (by simp [go_sem]);have f0:=rfz 0;have f1:=rfz 1;have f2:=rfz 2;have f3:=rfz 3;have f4:=rfz 4;have f5:=rfz 5;have f6:=rfz 6;have f7:=rfz 7;have f8:=rfz 8;have f9:=rfz 9;have f10:=rfz 10;have f11:=rfz 11;have f12:=rfz 12;obtain⟨b0,b1,b2,b3,b4,b5,b6,b7,b8,b9,b10,b11,b12⟩:=hinv.bx;have hb0:w.heap.size+1<wr.heap.size:=uL b0;have hr0:w.heap.size<wr.heap.size:=uL r0;clear hinv rcell rfz WB;go_wp2_with fail;refine bodyPost_ret (v:=x.v (.slice (some ⟨br,0,none⟩) x.regs.length kr) (.slice (some ⟨w1.heap.size,0,none⟩) x.cells.length x.cells.length) (.slice (some ⟨w.heap.size+2,0,none⟩) x.gray.length x.gray.length)) (by simp [results,Tryz.results59,go_sem,r0,r1,r2,r3,r4,r5,r6,r7,r8,r9,r10,r11,r12]) rfl ⟨_,_,rfl,?_⟩;refine(λ(F:uX (λq=>q=w.heap.size) wr _)=>⟨uH RW _ F,F.ext XR (λq hq e=>by omega)⟩) ?_
   repeat (first | refine uX.setCell ?_ (by simp) _ | exact uX.refl _ _)
theorem b0h.grow{C V:Nat}(h:b0h B U w x br kr bc kc bg kg pb pa pk)(hU:U<=V)(hC:C<=B):b0h C V w x br kr bc kc bg kg pb pa pk:=
 ⟨h.r,h.s,h.p,h.g,h.p7,λq hq hl=>let ⟨a,b,c,d,e⟩:=h.pl q hq hl;⟨a,b,c,Nat.le_trans hC d,Nat.lt_of_lt_of_le e hU⟩,h.nr,h.nc,h.ng,h.d,h.dp,⟨⟨Nat.le_trans hC h.b.1.1,Nat.lt_of_lt_of_le h.b.1.2 hU⟩,⟨Nat.le_trans hC h.b.2.1.1,Nat.lt_of_lt_of_le h.b.2.1.2 hU⟩,⟨Nat.le_trans hC h.b.2.2.1,Nat.lt_of_lt_of_le h.b.2.2.2 hU⟩⟩,h.l,h.k⟩
def HA(B U:Nat)(w:World)(y:Hp)(ar:Option Addr)(kr:Nat)(ac:Option Addr)(kc:Nat)(ag:Option Addr)(kg:Nat):Prop:=(y=Hp0/\ar=none/\kr=0/\ac=none/\kc=0/\ag=none/\kg=0)\/∃br bc bg pb pa pk,ar=some ⟨br,0,none⟩/\ac=some ⟨bc,0,none⟩/\ag=some ⟨bg,0,none⟩/\b0h B U w y br kr bc kc bg kg pb pa pk
theorem HA.zero(B U:Nat)(w:World):HA B U w Hp0 none 0 none 0 none 0:=.inl ⟨rfl,rfl,rfl,rfl,rfl,rfl,rfl⟩
theorem eU.r16(h:eU x 0):0<x.regs.length/\x.regs.length<=100:=by have:=h.all.1.regs;omega
end Go.Proofs.YtddkhnclmeikfaaGreat
