import Derived.Test.YtddkhnclmeikfaaGreatSpecA
import Derived.Laws.OwnMore
set_option maxRecDepth 100000
set_option maxHeartbeats 1000000
namespace Go.Proofs.YtddkhnclmeikfaaGreat
open Go.RowKit
attribute [local go_sem ↓] Go.wp_at_zero Go.wp_at_succ
variable{x:Hp}{ar ac ag:Option Addr}{kr kc kg B:Nat}{w w':World}{v:Value}{y:Wd}
def a1t(x:Hp)(y:Wd):Bool:=(y.k == 2) && ((x.c y.a.toNat).color == 0)
theorem a0c:a1t x y=true↔cQ x y:=by simp [a1t,cQ]
theorem a0x(x:Hp)(b:Nat)(y:Wd)(w:World)(h:HAt w b x ar kr ac kc ag kg)(hy:y.k=2->0<=y.a/\y.a<x.cells.length):
  Calls Tryz.prog 209 #[.pointer (some ⟨b,0,none⟩),y.v] w λe w'=>e=.returned (.bool (a1t x y))/\Ext w w':=by
 cases q:(y.k == 2)
 ·have E:=uU (show a1t x y=false by simp [a1t,q]);have c4:=h.c4;have lc:=h.lc;clear h hy;go_enter Tryz.func209,Tryz.ntmps209;go_wp2_with fail;go_quiet (fail);go_wp2_with fail;go_ret;exact⟨by rw[uH E];rfl,((Ext.refl w).alloc _).drewN _⟩
 ·have q1:y.k=2:=by simpa using q
  obtain⟨h0,h1⟩:=hy q1;obtain⟨i,hi⟩:=Int.eq_ofNat_of_zero_le h0;have E:=uU (show a1t x y=((x.c i).color == 0) by simp [a1t,q1,hi]);obtain⟨b',o,rfl,vp,p0,p1,p2,p3,p4,p5,_⟩:=h.C i (by omega);have c4:=h.c4;have lc:=h.lc;have hb:b<w.heap.size:=uL c4;have hb':b'<w.heap.size:=uL p5;have hi0:(0:Int)<=(i:Int):=by omega
  have hi1:(i:Int)<(x.cells.length:Int):=by omega
  clear h hy h0 h1;go_enter Tryz.func209,Tryz.ntmps209;go_wp2_with fail;go_quiet (fail);go_wp2_with fail;go_ret;exact⟨by rw[uH E];rfl,((Ext.refl w).alloc _).drewN _⟩
def qX(x:Hp)(y:Wd)(m:Bool):Bool:=eH y x.cells.length && (!(y.k == 2) || (if (x.c y.a.toNat).st=2 then m else ((x.c y.a.toNat).st == 1) && !a0p x y.a.toNat))
theorem a1g{m:Bool}{p:Prop}(hm:m=true↔p):qX x y m=true↔cN x y p:=by
 unfold qX cN;rw[Bool.and_eq_true,a0j];refine and_congr_right λ_=>?_
 by_cases h2:y.k=2
 ·by_cases hs:(x.c y.a.toNat).st=2
  ·simp [h2,hs,hm]
  ·by_cases h1:(x.c y.a.toNat).st=1
   ·have:a0p x y.a.toNat=false↔¬cU x y.a.toNat:=by rw[<-a1y];simp
    simp [h2,h1,this]
   ·simp [h2,hs,h1]
 ·simp [h2]
theorem a5r(x:Hp)(b:Nat)(y:Wd)(m:Bool)(w:World)(h:HAt w b x ar kr ac kc ag kg):
  Calls Tryz.prog 205 #[.pointer (some ⟨b,0,none⟩),y.v,.bool m] w λe w'=>e=.returned (.bool (qX x y m))/\Ext w w':=by
 have c4:=h.c4;have lc:=h.lc;have hb:b<w.heap.size:=uL c4;have hb2:b<w.heap.size+1:=by omega
 go_enter Tryz.func205,Tryz.ntmps205;go_wp2_with fail
 go_region_held3 (λw'=>w'.cell? ⟨w.heap.size,0,none⟩=some (iv y.k)/\w'.cell? ⟨w.heap.size,1,none⟩=some (iv y.n)/\w'.cell? ⟨w.heap.size,2,none⟩=some (iv y.a)/\w'.cell? ⟨b,4,none⟩=some (.slice ac x.cells.length kc)) (first | (simp [*];done) | go_keep)
    (first | (go_at_call 207;refine(a1m y x.cells.length _).mono ?_;rintro e w1 ⟨rfl,hq1⟩;have hc1:=(cZ hq1).1;simp only [World.size_drew,World.size_alloc] at hc1))
 rename_i hHeld;have x1:Ext w w1:=Ext.trans (((Ext.refl w).alloc _).drew) hq1;have z1:w.heap.size<w1.heap.size:=by have:=hq1.size;simp at this;omega
 cases qf:eH y x.cells.length
 ·have E:=uU (show qX x y m=false by simp [qX,qf]);go_wp2_with fail;go_ret;exact⟨by rw[uH E];rfl,x1⟩
 cases qk:(y.k == 2)
 ·have E:=uU (show qX x y m=true by simp [qX,qf,qk]);go_wp2_with fail;go_ret;exact⟨by rw[uH E];rfl,x1⟩
 have q1:y.k=2:=by simpa using qk
 have hf:=a0j.1 qf;unfold uK at hf;have hr:0<=y.a/\y.a<x.cells.length:=by omega
 have E0:=uU (show qX x y m=(if (x.c y.a.toNat).st=2 then m else ((x.c y.a.toNat).st == 1) && !a0p x y.a.toNat) by simp [qX,qf,q1]);have h1:=h.ext x1;have hd:=uU (λw' (e:Ext w1 w')=>a8f x b y.a w' (h1.ext e) hr.1 hr.2);obtain⟨i,hi⟩:=Int.eq_ofNat_of_zero_le hr.1;rw[hi] at hd E0;rw[Int.toNat_natCast] at E0;obtain⟨b',o,ap,kp,rfl,p0,p1,p2,p3,p4,p5,p6,p7,lp,P⟩:=h1.cell i (by omega);clear P;have d4:=h1.c4;have hi0:(0:Int)<=(i:Int):=by omega
 have hi1:(i:Int)<(x.cells.length:Int):=by omega
 have hb3:b<w1.heap.size:=uL d4;have hb4:b'<w1.heap.size:=uL p0;clear h h1 c4 hf hr hb hb2;go_wp2_with fail;have a2:w1.cell? ⟨w.heap.size,2,none⟩=some (iv i):=by rw[hHeld.2.2.1,hi]
 clear hHeld hc1;go_region_held3 (λw'=>w'.cell? ⟨w.heap.size,2,none⟩=some (iv i)/\w'.cell? ⟨b,4,none⟩=some (.slice (some ⟨b',o,none⟩) x.cells.length kc)/\w'.cell? ⟨b',o+i*8,none⟩=some (iv (x.c i).st)/\w'.cell? ⟨b',o+i*8+1,none⟩=some (iv (x.c i).kind)/\w'.cell? ⟨b',o+i*8+2,none⟩=some (iv (x.c i).weak)/\w'.cell? ⟨b',o+i*8+3,none⟩=some (iv (x.c i).last)/\w'.cell? ⟨b',o+i*8+4,none⟩=some (iv (x.c i).born)/\w'.cell? ⟨b',o+i*8+5,none⟩=some (iv (x.c i).color)/\w'.cell? ⟨b',o+i*8+6,none⟩=some (iv (x.c i).to)/\w'.cell? ⟨b',o+i*8+7,none⟩=some (.slice ap (x.c i).prs.length kp)) (first | (simp [*];done) | go_keep) (fail);have x2:∀o1:Obj,Ext w (w1.alloc o1).drew:=λo1=>(x1.alloc o1).drew
 have y2:∀o1:Obj,Ext w1 (w1.alloc o1).drew:=λo1=>((Ext.refl w1).alloc o1).drew
 cases qs:((x.c i).st == 2)
 ·have qs':¬(x.c i).st=2:=by simpa using qs
  have E:=uU (show qX x y m=(((x.c i).st == 1) && !a0p x i) by rw[uH E0,if_neg qs']);cases qu:((x.c i).st == 1)
  ·go_wp2_with fail;go_ret;exact⟨by rw[uH E,qu];rfl,x2 _⟩
  ·have hd2:=uU (hd _ (y2 (.cells #[.int .i64 (x.c i).st,.int .i64 (x.c i).kind,.int .i64 (x.c i).weak,.int .i64 (x.c i).last,.int .i64 (x.c i).born,.int .i64 (x.c i).color,.int .i64 (x.c i).to,.slice ap (x.c i).prs.length kp] 62)));go_wp2_with (go_at_call 206;refine hd2.mono ?_;rintro e w' ⟨rfl,rfl⟩);go_ret;exact⟨by rw[uH E,qu];simp,x2 _⟩
 ·have qs':(x.c i).st=2:=by simpa using qs
  have E:=uU (show qX x y m=m by rw[uH E0,if_pos qs']);clear qs';go_wp2_with fail;go_ret;exact⟨by rw[uH E];rfl,x2 _⟩
theorem a4w(cs:List Cl)(k:Nat)(h:k<cs.length):dN (cs.take (k+1))=dN (cs.take k)+cH cs[k]:=by
 unfold dN;rw[List.take_succ_eq_append_getElem h];simp only [List.map_append,List.sum_append,List.map_cons,List.map_nil,List.sum_cons,List.sum_nil,Nat.add_zero]
theorem b6b(x:Hp)(b:Nat)(w:World)(h:HAt w b x ar kr ac kc ag kg)(hn:x.cells.length<=8000)(hp:∀i,i<x.cells.length->(x.c i).prs.length<=200):
  Calls Tryz.prog 128 #[.pointer (some ⟨b,0,none⟩)] w λe w'=>e=.returned (.int .i64 (dN x.cells))/\Ext w w':=by
 have c4:=h.c4;go_enter Tryz.func128,Tryz.ntmps128;go_wp2_with fail;go_loopw [3,11] (λn i wr=>∃(k:Nat) (u:Nat),k<=x.cells.length/\i=.int .i64 k/\n=.int .i64 u/\Hid (u=dN (x.cells.take k))/\u<=201*k/\Ext w wr) (λ_ i _=>x.cells.length-(intOf i).toNat)
 case atStart=>exact⟨0,0,Nat.zero_le _,rfl,rfl,by show _=_;simp [dN],by omega,Ext.refl _⟩
 case round=>
  obtain⟨k,u,hk,rfl,rfl,hu,hu2,hbl⟩:=hrel;by_cases hlt:k<x.cells.length
  ·obtain⟨b',o,ap,kp,rfl,p0,p1,p2,p3,p4,p5,p6,p7,lp,P⟩:=(h.ext hbl).cell k hlt;have hpk:=hp k hlt;have hb':b'<wr.heap.size:=uL p0;clear P;have hk0:(0:Int)<=(k:Int):=by omega
   have hk1:(k:Int)<(x.cells.length:Int):=by omega
   have hut:=a4w x.cells k hlt;rw[Hp.c_eq] at hut;cases qs:((x.c k).st == 1)
   ·have qs':¬(x.c k).st=1:=by simpa using qs
    have H:Hid (u=dN (x.cells.take (k+1))):=by have:=uH hu;show _=_;rw[hut,cH,if_neg qs'];omega
    clear hut;go_wp2_with fail;go_roundw
    case rel=>exact⟨k+1,u,by omega,by go_num,rfl,H,by omega,hbl.alloc _⟩
    case measure=>simp [intOf];omega
   ·have qs':(x.c k).st=1:=by simpa using qs
    have H:Hid (u+(1+(x.c k).prs.length)=dN (x.cells.take (k+1))):=by have:=uH hu;show _=_;rw[hut,cH,if_pos qs'];omega
    clear hut qs';go_wp2_with fail;go_roundw
    case rel=>exact⟨k+1,u+(1+(x.c k).prs.length),by omega,by go_num,by go_num,H,by omega,hbl.alloc _⟩
    case measure=>simp [intOf];omega
  ·have hk2:k=x.cells.length:=by omega
   have H:=uU (show u=dN x.cells by have:=uH hu;rw[hk2,List.take_length] at this;exact this);clear hk2;go_wp2_with fail;go_ret;exact⟨by rw[<-uH H];rfl,hbl⟩
theorem b3e(x:Hp)(b:Nat)(w:World)(h:HAt w b x ar kr ac kc ag kg):
  Calls Tryz.prog 133 #[.pointer (some ⟨b,0,none⟩)] w λe w'=>∃r:Bool,e=.returned (.bool r)/\(r=true↔R8 x)/\Ext w w':=by
 have c4:=h.c4;have lc:=h.lc;go_enter Tryz.func133,Tryz.ntmps133;go_wp2_with fail;go_loopw [10] (λi wr=>∃(k:Nat),k<=x.cells.length/\i=.int .i64 k/\(∀j,j<k->¬(x.phase=6/\x.hand<=j/\(x.c j).st=2))/\Ext w wr) (λi _=>x.cells.length-(intOf i).toNat)
 case atStart=>exact⟨0,Nat.zero_le _,rfl,λj hj=>by omega,Ext.refl _⟩
 case round=>
  obtain⟨k,hk,rfl,hall,hbl⟩:=hrel;have HA:=uU hall;clear hall;by_cases hlt:k<x.cells.length
  ·have h1:=h.ext hbl;obtain⟨b',o,ap,kp,rfl,p0,p1,p2,p3,p4,p5,p6,p7,lp,P⟩:=h1.cell k hlt;have d5:=h1.c5;have d6:=h1.c6;have hb':b'<wr.heap.size:=uL p0;have hb:b<wr.heap.size:=uL d5;clear P h1;have hk0:(0:Int)<=(k:Int):=by omega
   have hk1:(k:Int)<(x.cells.length:Int):=by omega
   have step:¬(x.phase=6/\x.hand<=k/\(x.c k).st=2)->Hid (∀j,j<k+1->¬(x.phase=6/\x.hand<=j/\(x.c j).st=2)):=λhn j hj=>by
    by_cases e:j=k
    ·subst e;exact hn
    ·exact HA j (by omega)
   cases q1:(x.phase == 6)
   ·have S:=step (by simp at q1;omega);clear step;go_wp2_with fail;go_roundw
    case rel=>exact⟨k+1,by omega,by go_num,S,hbl.alloc _⟩
    case measure=>simp [intOf];omega
   ·cases q2:decide (x.hand<=(k:Int))
    ·have S:=step (by simp at q2;omega);clear step;go_wp2_with fail;go_roundw
     case rel=>exact⟨k+1,by omega,by go_num,S,hbl.alloc _⟩
     case measure=>simp [intOf];omega
    ·cases q3:((x.c k).st == 2)
     ·have S:=step (by simp at q3;omega);clear step;go_wp2_with fail;go_roundw
      case rel=>exact⟨k+1,by omega,by go_num,S,hbl.alloc _⟩
      case measure=>simp [intOf];omega
     ·have N:=uU (show ¬R8 x from λr=>r k hlt ⟨by simpa using q1,by simpa using q2,by simpa using q3⟩);clear step;go_wp2_with fail;go_ret;exact⟨false,rfl,⟨λf=>by simp at f,λr=>(N r).elim⟩,hbl.alloc _⟩
  ·have Y:=uU (show R8 x from λi hi=>uH HA i (by omega));go_wp2_with fail;go_ret;exact⟨true,rfl,⟨λ_=>uH Y,λ_=>rfl⟩,hbl⟩
theorem Hp.c_set(x:Hp)(i:Nat)(c:Cl)(hi:i<x.cells.length)(q:Nat):({ x with cells:=x.cells.set i c }:Hp).c q=if q=i then c else x.c q:=by
 simp only [Hp.c,List.getD_eq_getElem?_getD,List.getElem?_set];by_cases e:q=i
 ·subst e;simp [hi]
 ·rw[if_neg (λh=>e h.symm),if_neg e]
def mkB(x:Hp):Bool:=x.phase == 1 || x.phase == 2
def whB(c:Cl):Bool:=c.st == 1 && c.color == 0
def qU(x:Hp)(i:Nat):Bool:=mkB x && whB (x.c i)
def tN(c:Cl):Cl:={ c with color:=1 }
def uV(x:Hp)(i:Nat):Hp:=if qU x i=true then { x with cells:=x.cells.set i (tN (x.c i)),gray:=x.gray++[(i:Int)] } else x
theorem eJ.all(h:eJ x 0):R1 x/\R2 x/\R3 x/\R4 x:=by
 unfold eJ at h;rcases h with h | h | h | h | h | h | h | h | h
 ·omega
 ·omega
 ·omega
 ·omega
 ·omega
 ·omega
 ·omega
 ·omega
 ·exact⟨h.1,h.2.1,h.2.2.1,h.2.2.2.1⟩
theorem eJ.n8(h:eJ x 0):x.cells.length<=8000:=by have:=h.all.1.room;have:=h.all.1.cells;omega
theorem eJ.p200(h:eJ x 0)(i:Nat)(hi:i<x.cells.length):(x.c i).prs.length<=200:=by
 rcases h.all.2.1.1 i hi with c | c | c
 ·have:=c.2.1.2.2.2.2.2;omega
 ·have:=c.2.1.2.2.2.2.2;omega
 ·exact c.2.2.2.2.2.2.2
def Hp0:Hp:=⟨0,0,0,[],[],0,0,0,[],0,0,0,0⟩
theorem eJ.r5(h:eJ x 0):R5 x:=by
 unfold eJ at h;rcases h with h | h | h | h | h | h | h | h | h
 ·have:=h.2;omega
 ·have:=h.2.2;omega
 ·have:=h.2.2.2;omega
 ·have:=h.2.2.2.2;omega
 ·have:=h.2.2.2.2.2;omega
 ·have:=h.2.2.2.2.2.2;omega
 ·have:=h.2.2.2.2.2.2.2;omega
 ·have:=h.2.2.2.2.2.2.2.2;omega
 ·exact h.2.2.2.2.1
theorem a8g(x:Hp):∀(k:Nat) (L:List Nat),k<=x.cells.length->L.Nodup->(∀i,i∈L->i<k/\(x.c i).st=1)->L.length<=dN (x.cells.take k)
 | 0,L,_,_,h=>by
  cases L with
  | nil=>simp
  | cons a L=>have:=(h a (List.mem_cons_self ..)).1;omega
 | k+1,L,hk,hn,h=>by
  have e:dN (x.cells.take (k+1))=dN (x.cells.take k)+cH (x.c k):=by
   rw[a4w x.cells k (by omega),Hp.c_eq x k (by omega)]
  by_cases hm:k∈L
  ·have h1:=a8g x k (L.erase k) (by omega) (hn.erase k) (λi hi=>by
    have h2:=h i (List.mem_of_mem_erase hi);have h3:i≠k:=λe=>by rw[e] at hi;exact(List.Nodup.not_mem_erase hn) hi
    exact⟨by omega,h2.2⟩)
   rw[List.length_erase_of_mem hm] at h1;have h4:cH (x.c k)≥1:=by unfold cH;rw[if_pos (h k hm).2];omega
   have h5:0<L.length:=List.length_pos_of_mem hm;omega
  ·have h1:=a8g x k L (by omega) hn (λi hi=>by
    have h2:=h i hi;have h3:i≠k:=λe=>hm (by rw[<-e];exact hi)
    exact⟨by omega,h2.2⟩)
   omega
theorem b1e(r5:R5 x):x.gray.Nodup:=by
 rw[List.nodup_iff_count];intro g;by_cases hg:g∈x.gray
 ·obtain⟨h0,h1⟩:=r5.2.2 g hg;have e:((g.toNat:Nat):Int)=g:=by omega
  have hc:=r5.2.1 g.toNat (by omega);by_cases hcol:(x.c g.toNat).color=1
  ·have:=hc.1 hcol;unfold cnt at this;rw[e] at this;omega
  ·have:=hc.2.1 hcol;unfold cnt at this;rw[e] at this;omega
 ·rw[List.count_eq_zero_of_not_mem hg];omega
theorem a9m(r2:R2 x)(r5:R5 x)(g:Int)(hg:g∈x.gray):(x.c g.toNat).color=1/\(x.c g.toNat).st=1:=by
 obtain⟨h0,h1⟩:=r5.2.2 g hg;have e:((g.toNat:Nat):Int)=g:=by omega
 have hc:=r5.2.1 g.toNat (by omega)
 have hcol:(x.c g.toNat).color=1:=by
  rcases Int.decEq (x.c g.toNat).color 1 with hn | hy
  ·have:=hc.2.1 hn;unfold cnt at this;rw[e] at this;exact absurd hg (List.count_eq_zero.1 this)
  ·exact hy
 refine⟨hcol,?_⟩;rcases r2.1 g.toNat (by omega) with c | c | c
 ·have:=c.2.1.2.2.2.2.1;omega
 ·have:=c.2.1.2.2.2.2.1;omega
 ·exact c.1
theorem a2v(ok:eJ x 0):x.gray.length<=4000/\∀i,i<x.cells.length->qU x i=true->x.gray.length<4000:=by
 obtain⟨r1,r2,r3,_⟩:=ok.all;have r5:=ok.r5;have hu:(dN x.cells:Int)<=4000:=by have:=r3.1;have:=r3.2;have:=r1.room;omega
 have hn:(x.gray.map Int.toNat).Nodup:=by
  unfold List.Nodup;rw[List.pairwise_map];exact List.Pairwise.imp_of_mem (λha hb hne e=>hne (by have:=(r5.2.2 _ ha).1;have:=(r5.2.2 _ hb).1;omega)) (b1e r5)
 have hm:∀i,i∈x.gray.map Int.toNat->i<x.cells.length/\(x.c i).st=1/\(x.c i).color=1:=λi hi=>by
  obtain⟨g,hg,rfl⟩:=List.mem_map.1 hi;have h1:=r5.2.2 g hg;have h2:=a9m r2 r5 g hg;exact⟨by omega,h2.2,h2.1⟩
 have h1:=a8g x x.cells.length (x.gray.map Int.toNat) (Nat.le_refl _) hn (λi hi=>⟨(hm i hi).1,(hm i hi).2.1⟩);rw[List.take_length,List.length_map] at h1;refine⟨by omega,λi hi hb=>?_⟩;have hb2:(x.c i).st=1/\(x.c i).color=0:=by simp [qU,whB] at hb;exact hb.2
 have h2:=a8g x x.cells.length (i::x.gray.map Int.toNat) (Nat.le_refl _) (List.nodup_cons.2 ⟨λh=>by have:=(hm i h).2.2;omega,hn⟩) (λj hj=>by
  rcases List.mem_cons.1 hj with e | e
  ·rw[e];exact⟨hi,hb2.1⟩
  ·exact⟨(hm j e).1,(hm j e).2.1⟩)
 rw[List.take_length,List.length_cons,List.length_map] at h2;omega
theorem a6t(w:World)(z:Array Value)(m:Nat)(t:TypeId)(j:Nat)(hj:j<m):yU (w.alloc (.cells (madeCells z m) t)) w.heap.size j:=by
 have e:(w.alloc (.cells (madeCells z m) t)).heap[w.heap.size]?=some (.cells (madeCells z m) t):=by show(w.heap.push _)[w.heap.size]?=_;simp
 have hs:=size_madeCells z m;refine⟨⟨(madeCells z m)[j]'(by omega),?_⟩,?_⟩
 ·unfold World.cell?;rw[e];simp [hs,hj]
 ·unfold World.frozen?;rw[e];simp
theorem b1f{S:Nat->Prop}{g:Nat}(hg:S g):∀{vs:List Value} {a w1:World} {o:Nat},uX S a w1->uX S a (w1.setCells g o vs)
 | [],_,_,_,h=>h
 | _::r,_,_,_,h=>b1f hg (vs:=r) (h.setCell hg _)
theorem tV.mono2{α:Type}{p q:Nat->Nat->α->Prop}{sz:Nat}{xs:List α}(h:tV p sz v xs)(hpq:∀b o n c,v=.slice (some ⟨b,o,none⟩) n c->∀o' x,p b o' x->q b o' x):tV q sz v xs:=by
 obtain⟨ad,cap,hv,hl,hx⟩:=h;exact⟨ad,cap,hv,hl,λi hi=>by obtain⟨b,o,ha,hp⟩:=hx i hi;exact⟨b,o,ha,hpq b o _ _ (by rw[hv,ha]) _ _ hp⟩⟩
def Nf1(B:Nat)(w:World):Prop:=B<w.heap.size/\∀j,w.frozen? ⟨B,j,none⟩=false
theorem Nf1.ext(h:Nf1 B w)(e:Ext w w'):Nf1 B w':=⟨Nat.lt_of_lt_of_le h.1 e.size,λj=>by rw[(cZ e).2 B j h.1];exact h.2 j⟩
theorem Nf1.set(h:Nf1 B w)(p:Addr)(u:Value):Nf1 B (w.setCell p u):=⟨by have:=h.1;simpa [World.setCell] using this,λj=>by rw[World.frozen?_setCell];exact h.2 j⟩
theorem Nf1.put{B g:Nat}:∀{vs:List Value} {w:World} {o:Nat},Nf1 B w->Nf1 B (w.setCells g o vs)
 | [],_,_,h=>h
 | _::r,_,_,h=>Nf1.put (vs:=r) (h.set _ _)
theorem Nf1.made(w:World)(z:Array Value)(m:Nat)(t:TypeId):Nf1 w.heap.size (w.alloc (.cells (madeCells z m) t)):=by
 refine⟨by simp,λj=>?_⟩;have e:(w.alloc (.cells (madeCells z m) t)).heap[w.heap.size]?=some (.cells (madeCells z m) t):=by show(w.heap.push _)[w.heap.size]?=_;simp
 unfold World.frozen?;rw[e];simp
theorem c5b{S:Nat->Prop}(h:uX S w w'){xs:List Pr}(hv:∀b o n c,v=.slice (some ⟨b,o,none⟩) n c->¬S b)(hx:SlP w v xs):SlP w' v xs:=
 tV.mono2 hx λb o n c e _ _ hp=>⟨h.keep (hv b o n c e) hp.1,h.keep (hv b o n c e) hp.2.1,h.keep (hv b o n c e) hp.2.2.1,h.keep (hv b o n c e) hp.2.2.2.1,h.keep (hv b o n c e) hp.2.2.2.2.1,h.keep (hv b o n c e) hp.2.2.2.2.2⟩
theorem b3t:(Tryz.prog.info? 152).map (λi=>(i.zero,i.size,i.bytes))=some (some (.agg #[iv 0,iv 0,iv 0]),3,24):=by kernel_rfl
theorem a4i:(Tryz.prog.info? 154).map (λi=>(i.zero,i.size,i.bytes))=some (some (.agg #[iv 0,iv 0,iv 0,iv 0,iv 0,iv 0]),6,48):=by kernel_rfl
theorem b1g:(Tryz.prog.info? 3).map (λi=>(i.zero,i.size,i.bytes))=some (some (iv 0),1,8):=by kernel_rfl
theorem mkInts(n:Nat)(hn:n<=1048576)(w:World):∃z,(Instr.makeSlice 32 (.int .i64 n) (.int .i64 n)).run Tryz.prog w=.ok (.slice (some ⟨w.heap.size,0,none⟩) n n) (w.alloc (.cells (madeCells z (n*1)) 3)):=by
 obtain⟨i0,hi,hz0,hz1,hz2⟩:=info_parts b1g;have h:=run_make (P:=Tryz.prog) w 32 3 i0 _ Tryz.underlying32 hi hz0 .i64 .i64 n n (by omega) (Int.le_refl _) (by rw[hz2];omega) (by omega);rw[hz1] at h;simp only [Int.toNat_natCast] at h;exact⟨_,h⟩
theorem a6u:(Tryz.prog.info? 62).map (λi=>(i.zero,i.size,i.bytes))=some (some (.agg #[iv 0,iv 0,iv 0,iv 0,iv 0,iv 0,iv 0,.slice none 0 0]),8,80):=by kernel_rfl
theorem mkCells(n:Nat)(hn:n<=1048576)(w:World):∃z,(Instr.makeSlice 31 (.int .i64 n) (.int .i64 n)).run Tryz.prog w=.ok (.slice (some ⟨w.heap.size,0,none⟩) n n) (w.alloc (.cells (madeCells z (n*8)) 62)):=by
 obtain⟨i0,hi,hz0,hz1,hz2⟩:=info_parts a6u;have h:=run_make (P:=Tryz.prog) w 31 62 i0 _ Tryz.underlying31 hi hz0 .i64 .i64 n n (by omega) (Int.le_refl _) (by rw[hz2];omega) (by omega);rw[hz1] at h;simp only [Int.toNat_natCast] at h;exact⟨_,h⟩
theorem uQ{base e size n:Nat}{xs:List Value}(h:w.ownsRow base e size v n xs)(hb:∀k,v.ownBlock=some k->w'.heap[k]?=w.heap[k]?):w'.ownsRow base e size v n xs:=by
 refine⟨h.1,?_⟩;rcases h.2 with h' | ⟨g,cap,cur,rfl,h1,h2,h3⟩
 ·exact .inl h'
 ·exact .inr ⟨g,cap,cur,rfl,h1,(hb g rfl).trans h2,h3⟩
end Go.Proofs.YtddkhnclmeikfaaGreat
