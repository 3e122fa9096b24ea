import Derived.Test.YtddkhnclmeikfaaGreatSg
import Derived.Test.YtddkhnclmeikfaaGreatJb
import Derived.Test.YtddkhnclmeikfaaGreatCm4
import Derived.Test.YtddkhnclmeikfaaGreatRby
set_option maxRecDepth 100000
set_option maxHeartbeats 1000000
namespace Go.Proofs.YtddkhnclmeikfaaGreat
open Go.RowKit
attribute [local go_sem ↓] Go.wp_at_zero Go.wp_at_succ
theorem tgt_at{x:Hp}(s:Snd x){f:Nat}(hf:f<16)(h:(x.r f).k=2):tgt x (x.r f)=x.at f∧Good x (x.at f):=by
 obtain⟨_,_,i1,i2,i3⟩:=s.at f hf h;refine⟨?_,i1,i2,i3⟩;unfold tgt;rw[lead_no (show(x.c (x.r f).a.toNat).st≠2 by have:(x.c (x.r f).a.toNat).st=1:=i2;omega)];rfl
def Rf(x:Hp)(f n:Nat):Prop:=(x.r f).k=2∧(x.c (x.at f)).prs.length=n
theorem Ovr.r{x y:Hp}{φ:Nat→Nat}(o:Ovr x y φ)(s:Snd x)(t:Snd y)(f:Nat)(hf:f<16):(y.r f).k=(x.r f).k∧((x.r f).k=2→y.at f = φ (x.at f)):=by
 have a:f<x.regs.length:=by rw[s.n16];exact hf
 have b:f<y.regs.length:=by rw[t.n16];exact hf
 have q:=o.rg f a b;rw[Hp.r_eq x f a,Hp.r_eq y f b] at q;refine⟨q.1,fun h=>?_⟩;rw[←(tgt_at s hf h).1,←(tgt_at t hf (q.1.trans h)).1];exact q.2 h
theorem Rf.ovr{x y:Hp}{φ:Nat→Nat}{f n:Nat}(h:Rf x f n)(o:Ovr x y φ)(s:Snd x)(t:Snd y)(hf:f<16):Rf y f n:=by
 have q:=o.r s t f hf;refine⟨q.1.trans h.1,?_⟩;rw[q.2 h.1,(o.g _ (tgt_at s hf h.1).2).2.2.2];exact h.2
structure F0(x:Hp):Prop where
 rf:Rf x 0 4
 ky:∀p,p<4→((x.c (x.at 0)).p p).key.k≠2
 hi:∀k,3≤k→k<16→(x.r k).k≠2
theorem F0.ovr{x y:Hp}{φ:Nat→Nat}(h:F0 x)(o:Ovr x y φ)(s:Snd x)(t:Snd y):F0 y:=by
 have q:=o.r s t 0 (by omega);refine⟨h.rf.ovr o s t (by omega),fun p hp=>?_,fun k a b=>by rw[(o.r s t k b).1];exact h.hi k a b⟩;rw[q.2 h.rf.1,(o.ky _ p (tgt_at s (by omega) h.rf.1).2 (by rw[h.rf.2];exact hp)).1];exact h.ky p hp
theorem F0.run{x:Hp}(h:F0 x)(s:Snd x):∀k,F0 (itU k x)
 | 0=>h
 | k+1=>by
  obtain⟨φ,o⟩:=(s.itU k).ovrU;exact(F0.run h s k).ovr o (s.itU k) (s.itU k).unit
theorem Rf.run{x:Hp}{f n:Nat}(h:Rf x f n)(s:Snd x)(hf:f<16):∀k,Rf (itU k x) f n
 | 0=>h
 | k+1=>by
  obtain⟨φ,o⟩:=(s.itU k).ovrU;exact(Rf.run h s hf k).ovr o (s.itU k) (s.itU k).unit hf
theorem LB.is{x:Hp}{L:Nat}(s:Snd x):LB x L↔∃r,LiveIs x r∧r≤L:=by
 constructor
 ·rintro⟨p,a,b⟩;exact⟨_,.inl ⟨s.ok,p,a,rfl⟩,b⟩
 ·rintro⟨r,⟨_,p,a,e⟩ | ⟨n,_⟩,b⟩
  ·exact⟨p,a,by rw[←e];exact b⟩
  ·exact(n s.ok).elim
theorem LB.run{x:Hp}{L:Nat}(h:LB x L)(s:Snd x)(k:Nat):LB (itU k x) L:=by
 obtain⟨r,a,b⟩:=(LB.is s).1 h;exact(LB.is (s.itU k)).2 ⟨r,s.liveN a k,b⟩
theorem LB.mono{x:Hp}{L M:Nat}(h:LB x L)(l:L≤M):LB x M:=by
 obtain⟨p,a,b⟩:=h;exact⟨p,a,Nat.le_trans b l⟩
def Oth(x y:Hp):Prop:=y.start=x.start∧y.forced=x.forced∧x.rounds≤y.rounds
theorem Oth.refl(x:Hp):Oth x x:=⟨rfl,rfl,Int.le_refl _⟩
theorem Oth.trans{x y z:Hp}(a:Oth x y)(b:Oth y z):Oth x z:=⟨b.1.trans a.1,b.2.1.trans a.2.1,Int.le_trans a.2.2 b.2.2⟩
theorem oth_shade(x:Hp)(i:Nat):Oth x (shadeH x i):=by unfold shadeH;split <;> exact⟨rfl,rfl,Int.le_refl _⟩
theorem oth_shadeW(x:Hp)(u:Wd):Oth x (shadeW x u):=by
 unfold shadeW;split
 ·exact oth_shade _ _
 ·exact Oth.refl _
theorem oth_fold:∀(L:List Wd) (x:Hp),Oth x (L.foldl shadeW x)
 | [],x=>Oth.refl x
 | u::L,x=>(oth_shadeW x u).trans (oth_fold L (shadeW x u))
theorem oth_unit(x:Hp):Oth x (unitH x):=by
 unfold unitH
 split
 ·unfold unit1
  split
  ·exact Oth.refl x
  ·dsimp only
   split
   ·exact oth_shade x _
   ·exact Oth.refl x
 split
 ·unfold unit2
  split
  ·split
   ·exact(oth_shadeW x _).trans (oth_shadeW _ _)
   ·exact Oth.refl x
  ·have:=oth_fold x.regs x;unfold lookH
   split
   ·exact this
   ·exact this
 split
 ·unfold unit3
  split
  ·exact Oth.refl x
  ·split
   ·exact⟨rfl,rfl,Int.le_refl _⟩
   ·exact Oth.refl x
 split
 ·unfold unit4
  split
  ·exact Oth.refl x
  ·exact Oth.refl x
 split
 ·unfold unit5
  split
  ·exact Oth.refl x
  ·split <;> exact Oth.refl x
 split
 ·unfold unit6
  split
  ·refine⟨rfl,rfl,?_⟩;show x.rounds≤if x.rounds<1000000000 then x.rounds+1 else x.rounds
   split <;> omega
  ·unfold dropH
   split <;> exact Oth.refl x
 ·exact Oth.refl x
theorem oth_run(x:Hp):∀k,Oth x (itU k x)∧Rst x (itU k x)
 | 0=>⟨Oth.refl x,Rst.refl x⟩
 | k+1=>⟨(oth_run x k).1.trans (oth_unit _),(oth_run x k).2.trans (rst_unit _)⟩
theorem ended{x:Hp}(s:Snd x)(h0:x.phase≠0)(h:(unitH x).phase=0):0<(unitH x).rounds:=by
 have r:=s.r1.rounds;have p:=s.r1.phase;by_cases p1:x.phase=1
 ·have e:unitH x=unit1 x:=by unfold unitH;rw[if_pos p1]
  rw[e] at h;have:=(s.o1 p1).2.2;omega
 by_cases p2:x.phase=2
 ·have e:unitH x=unit2 x:=by unfold unitH;rw[if_neg p1,if_pos p2]
  rw[e] at h;have:=(s.o2 p2).2.2.2;omega
 by_cases p3:x.phase=3
 ·have e:unitH x=unit3 x:=by unfold unitH;rw[if_neg p1,if_neg p2,if_pos p3]
  rw[e] at h;have:=(s.o3 p3).2;omega
 by_cases p4:x.phase=4
 ·have e:unitH x=unit4 x:=by unfold unitH;rw[if_neg p1,if_neg p2,if_neg p3,if_pos p4]
  rw[e] at h;unfold unit4 at h
  split at h
  ·have h':(5:Int)=0:=h;omega
  ·have h':x.phase=0:=h;omega
 by_cases p5:x.phase=5
 ·have e:unitH x=unit5 x:=by unfold unitH;rw[if_neg p1,if_neg p2,if_neg p3,if_neg p4,if_pos p5]
  rw[e] at h;unfold unit5 at h
  split at h
  ·have h':(6:Int)=0:=h;omega
  ·split at h
   ·have h':x.phase=0:=h;omega
   ·have h':x.phase=0:=h;omega
 ·have p6:x.phase=6:=by omega
  have e:unitH x=unit6 x:=by unfold unitH;rw[if_neg p1,if_neg p2,if_neg p3,if_neg p4,if_neg p5,if_pos p6]
  rw[e] at h ⊢;unfold unit6 at h ⊢
  split at h
  ·rename_i q;rw[if_pos q];show 0<if x.rounds<1000000000 then x.rounds+1 else x.rounds
   split <;> omega
  ·unfold dropH at h
   split at h
   ·have h':x.phase=0:=h;omega
   ·have h':x.phase=0:=h;omega
theorem ended_run{x:Hp}(s:Snd x)(h0:x.phase≠0):∀k,Runs x k→(itU k x).phase=0→0<(itU k x).rounds
 | 0,_,h=>(h0 h).elim
 | k+1,r,h=>ended (s.itU k) (r k (by omega)) h
def AR(R:Nat):Nat:=R / 4+(14*R+6) / 63+91
structure By(R:Nat)(x:Hp)(L mad:Nat):Prop where
 s:Snd x
 rm:x.room=R
 per:x.per=64
 st:4*x.start≤R
 fo:x.forced=0
 ns:NoSpk x
 bn:x.born≤mad
 lv:LB x L
 ps:(x.phase=0∧x.used≤AR R∧(0<x.rounds∨(mad:Int)≤x.used))∨(x.phase≠0∧∃M:Nat,Jn x (R / 4+M)∧63*M+phi x≤14*R+6∧x.used≤AR R+91+M∧(0<x.rounds∨mad≤AR R+91+M))
structure Bz(R:Nat)(x:Hp)(L mad:Nat):Prop extends By R x L mad where
 f0:F0 x
theorem Bz.keep{R:Nat}{x y:Hp}{L mad:Nat}(h:Bz R x L mad)(k:Keep x y)(t:Snd y)(f:F0 y):Bz R y L mad where
 s:=t
 rm:=k.rm.trans h.rm
 per:=k.per.trans h.per
 st:=by rw[k.st];exact h.st
 fo:=k.fo.trans h.fo
 ns:=k.ns h.ns
 bn:=by rw[k.bn];exact h.bn
 lv:=k.lb h.s h.ns h.lv
 f0:=f
 ps:=by
  rcases h.ps with⟨a,b,c⟩ | ⟨a,M,b,c,d,e⟩
  ·exact .inl ⟨k.ph.trans a,by rw[k.us];exact b,by rw[k.us,k.rd];exact c⟩
  ·exact .inr ⟨by rw[k.ph];exact a,M,k.jn b,by have:=k.phi;omega,by rw[k.us];exact d,by rw[k.rd];exact e⟩
theorem pace_bz{R:Nat}{x x1 y:Hp}{L mad f c:Nat}(h:By R x L mad)(mk:Mk x x1 f c)(s1:Snd x1)(f1:F0 x1)(hc:c<90)(hL:L+(1+c)≤R / 4)(d:PaceIs x1 (1+c) y):Bz R y (L+(1+c)) (mad+(1+c))∧∀q n,q<16→Rf x1 q n→Rf y q n:=by
 have l1:=mk.lb h.s h.ns h.lv;have n1:=mk.ns h.ns;have rm1:x1.room=R:=mk.rm.trans h.rm;have pr1:x1.per=64:=mk.per.trans h.per;have u1:=mk.us;have st1:4*x1.start≤R:=by rw[mk.st];exact h.st
 have AR1:(AR R:Int)=R / 4+(14*R+6) / 63+91:=by unfold AR;omega
 have ARn:AR R=R / 4+(14*R+6) / 63+91:=rfl;have hb:=h.bn;have hb1:x1.born≤((mad+(1+c):Nat):Int):=by rw[mk.bn];omega
 rcases d with⟨pb,rfl⟩ | ⟨pb,k,sk,e⟩
 ·have q:y.phase=0∧y.used≤y.start:=by
   unfold paceB at pb;rw[pr1] at pb;have z:((1+c) == 0)=false:=by simp
   rw[z] at pb
   simpa using pb
  refine⟨⟨⟨s1,rm1,pr1,st1,mk.fo.trans h.fo,n1,hb1,l1,.inl ⟨q.1,by omega,?_⟩⟩,f1⟩,fun _ _ _ r=>r⟩;rcases h.ps with⟨a,b,g⟩ | ⟨a,_⟩
  ·rw[mk.rd];rcases g with g | g
   ·exact .inl g
   ·exact .inr (by omega)
  ·exact(a (mk.ph ▸ q.1)).elim
 ·rw[pr1] at sk e;obtain⟨n,hn⟩:∃n:Nat,n=(64:Int).toNat*(1+c):=⟨_,rfl⟩;have hn2:n=64*(1+c):=by rw[hn];rfl
  rw[←hn] at sk e;have s2:=s1.stepH n
  have base:∀x2:Hp,Snd x2→stepH x1 n=x2→NoSpk x2→LB x2 (L+(1+c))→F0 x2→x2.phase≠0→Oth x1 x2→Rst x1 x2→(∃m,Jn x2 m∧(((itU k x2).phase≠0→Jn (itU k x2) m)→((itU k x2).phase=0→(itU k x2).used≤m)→(((itU k x2).phase=0∧(itU k x2).used≤AR R∧(0<(itU k x2).rounds∨((mad+(1+c):Nat):Int)≤(itU k x2).used))∨((itU k x2).phase≠0∧∃M:Nat,Jn (itU k x2) (R / 4+M)∧63*M+phi (itU k x2)≤14*R+6∧(itU k x2).used≤AR R+91+M∧(0<(itU k x2).rounds∨mad+(1+c)≤AR R+91+M)))))→Bz R (itU k x2) (L+(1+c)) (mad+(1+c)):=fun x2 s2 e2 n2 l2 f2 p2 o2 r2 ⟨m,j,fin⟩=>by
   rw[e2] at sk;have jr:=Jn.run s2 n2 p2 j k sk.1;have ot:=o2.trans (oth_run x2 k).1;have rs:=r2.trans (oth_run x2 k).2;exact⟨⟨s2.itU k,rs.2.1.trans rm1,rs.1.trans pr1,by rw[ot.1];exact st1,by rw[ot.2.1];exact mk.fo.trans h.fo,NoSpk.run s2 n2 k,by rw[rs.2.2.1];exact hb1,l2.run s2 k,fin jr.1 jr.2⟩,f2.run s2 k⟩
  by_cases p0:x1.phase=0
  ·have e2:stepH x1 n=toPh x1 1 0:=by unfold stepH;rw[if_pos ⟨p0,by omega⟩]
   have o2:Ovr x1 (toPh x1 1 0) (fun i=>i):=ovr_turn (by omega) 1 0 0 x1.rounds;have t2:Snd (toPh x1 1 0):=s1.begin p0;have ps:x.phase=0:=by rw[←mk.ph];exact p0
   refine⟨?_,fun q w hq r=>by rw[e,e2];exact(r.ovr o2 s1 t2 hq).run t2 hq k⟩;rw[e,e2];refine base _ t2 e2 n1 ?_ (f1.ovr o2 s1 t2) (by show(1:Int)≠0;decide) (Oth.refl x1) (Rst.refl x1) ⟨R / 4,Jn.begin s1 p0 ((LB.mono l1 hL)),fun ja jb=>?_⟩
   ·obtain⟨r,a,b⟩:=(LB.is s1).1 l1;exact(LB.is t2).2 ⟨r,o2.lives s1 t2 a,b⟩
   ·rw[e2] at sk;have us:(itU k (toPh x1 1 0)).used≤x1.used:=(oth_run (toPh x1 1 0) k).2.2.2.2;by_cases pe:(itU k (toPh x1 1 0)).phase=0
    ·have:=jb pe;exact .inl ⟨pe,by omega,.inl (ended_run t2 (by show(1:Int)≠0;decide) k sk.1 pe)⟩
    ·refine .inr ⟨pe,0,ja pe,?_,?_,?_⟩
     ·have a:=Runs.phi t2 k sk.1;have b:=t2.phi_le;have:(toPh x1 1 0).room.toNat=R:=by show x1.room.toNat=R;rw[rm1];simp
      rw[this] at b;omega
     ·rcases h.ps with⟨_,b,_⟩ | ⟨a,_⟩
      ·omega
      ·exact(a ps).elim
     ·have rr:x1.rounds≤(itU k (toPh x1 1 0)).rounds:=(oth_run (toPh x1 1 0) k).1.2.2;rcases h.ps with⟨_,b,g⟩ | ⟨a,_⟩
      ·rcases g with g | g
       ·left;rw[mk.rd] at rr;omega
       ·right;omega
      ·exact(a ps).elim
  ·have e2:stepH x1 n=x1:=by unfold stepH;rw[if_neg (fun q=>p0 q.1)]
   have ps:x.phase≠0:=by rw[←mk.ph];exact p0
   refine⟨?_,fun q w hq r=>by rw[e,e2];exact r.run s1 hq k⟩;rw[e,e2];rcases h.ps with⟨a,_⟩ | ⟨_,M,j,b,g,w⟩
   ·exact(ps a).elim
   refine base _ s1 e2 n1 l1 f1 p0 (Oth.refl x1) (Rst.refl x1) ⟨R / 4+M+(1+c),mk.jn j,fun ja jb=>?_⟩;rw[e2] at sk;have us:(itU k x1).used≤x1.used:=(oth_run x1 k).2.2.2.2;by_cases pe:(itU k x1).phase=0
   ·have:=jb pe;exact .inl ⟨pe,by omega,.inl (ended_run s1 p0 k sk.1 pe)⟩
   ·have kn:k=n:=by
     rcases sk.2.2 with q | q
     ·exact q
     ·exact(pe q).elim
    refine .inr ⟨pe,M+(1+c),by have:=ja pe;rw[Nat.add_assoc] at this;exact this,?_,by omega,?_⟩
    ·have a:=Runs.phi s1 k sk.1;have q:=mk.phi;omega
    ·have rr:x1.rounds≤(itU k x1).rounds:=(oth_run x1 k).1.2.2;rw[mk.rd] at rr;rcases w with w | w
     ·left;omega
     ·right;omega
abbrev roomV(ba bs:Nat):Value:=.func (.func 286) #[] #[.pointer (some ⟨ba,0,none⟩),.pointer (some ⟨bs,0,none⟩)]
theorem roomFor_any(b:Nat)(op a p c n:Int)(w:World):
  Calls Tryz.prog 283 #[.pointer (some ⟨b,0,none⟩),actV op a p c n] w fun e w'=>e=.returned (roomV (w.heap.size+1) w.heap.size)∧w'=(w.alloc (.cells #[.pointer (some ⟨b,0,none⟩)] 86)).alloc (.cells #[iv op,iv a,iv p,iv c,iv n] 39):=by
 go_enter Tryz.func283,Tryz.ntmps283;go_wp2_with fail;go_ret;exact⟨rfl,rfl⟩
theorem SOq.nums[Inhabited ProtD]{C B:Nat}{w:World}{b:Nat}{x:Hp}(h:SOq C B w b x):w.cell? ⟨b,0,none⟩=some (iv x.room)∧w.cell? ⟨b,1,none⟩=some (iv x.used)∧w.cell? ⟨b,2,none⟩=some (iv x.born)∧w.cell? ⟨b,5,none⟩=some (iv x.phase)∧w.cell? ⟨b,9,none⟩=some (iv x.per)∧w.cell? ⟨b,10,none⟩=some (iv x.start)∧w.cell? ⟨b,12,none⟩=some (iv x.forced):=by
 obtain⟨ar,kr,a4,n4,k4,a8,m8,k8,br,cB,cO,bn,pb,pa,pk,kn,hd,vf,F,vk,K,role,h,i,k⟩:=h;obtain⟨c0,c1,c2,c3,c4,c5,c6,c7,c8,c9,c10,c11,c12⟩:=h.sb.bx;exact⟨c0,c1,c2,c5,c9,c10,c12⟩
theorem SOq.set12[Inhabited ProtD]{C B:Nat}{w:World}{b:Nat}{x:Hp}(h:SOq C B w b x)(u:Int):SOq C B (w.setCell ⟨b,12,none⟩ (iv u)) b { x with forced:=u }:=by
 obtain⟨ar,kr,a4,n4,k4,a8,m8,k8,br,cB,cO,bn,pb,pa,pk,kn,hd,vf,F,vk,K,role,h,i,k⟩:=h;exact⟨ar,kr,a4,n4,k4,a8,m8,k8,br,cB,cO,bn,pb,pa,pk,kn,hd,vf,F,vk,K,role,h.boxed (x':={ x with forced:=u }) (Only.setCell (S:=fun q=>q=b) (Only.refl _ w) (p:=⟨b,12,none⟩) rfl _) (h.sb.nb.set _ _) rfl rfl rfl (h.sb.bx.set12 u) (fun k hk=>cell_other _ (.inr (by omega))),i.alike (SameSt.cells rfl) rfl rfl,k⟩
theorem fits_any[Inhabited ProtD]{C B:Nat}{w:World}{b:Nat}{x:Hp}(h:SOq C B w b x)(s:Snd x)(u:Nat)(hu:u≤201):Calls Tryz.prog 287 #[.pointer (some ⟨b,0,none⟩),.int .i64 u] w fun e w'=>e=.returned (.bool (fitsB x u))∧Ext w w':=by
 obtain⟨c0,c1,_⟩:=h.nums;have us:0≤x.used∧x.used≤4000:=by have h3:=s.r3;have h1:=s.r1.room;unfold R3 at h3;omega
 have wu:wrap64 (x.used+(u:Int))=x.used+(u:Int):=wrap_fit _ (by omega) (by omega);have hbw:b<w.heap.size:=cell_lt c0;clear h s;go_enter Tryz.func287,Tryz.ntmps287;go_wp2_with fail;go_quiet (fail);go_wp2_with fail;go_ret;exact⟨rfl,Ext.drewN (Ext.refl _) _⟩
def boxS(b:Nat):Obj:=.cells #[.pointer (some ⟨b,0,none⟩)] 86
def boxA(op a p c n:Int):Obj:=.cells #[iv op,iv a,iv p,iv c,iv n] 39
def RoomPost(x:Hp)(op:Int)(u:Nat)(y:Hp)(cd:Int):Prop:=((op=1∧x.born=1000000000)∧y=x∧cd=4)∨(¬(op=1∧x.born=1000000000)∧RoomIs x u y∧cd=if fitsB y u=true then 0 else 4)
theorem room_any[Inhabited ProtD]{C B:Nat}{w:World}{b ba bs:Nat}{x:Hp}{op a p c n:Int}(h:SOq C B w b x)(hC:C+16000≤1000000000)(s:Snd x)(za:(default:ProtD).z ba=some (boxA op a p c n))(zs:(default:ProtD).z bs=some (boxS b))(u:Nat)(hu:u≤201)(v:World)(hv:v.heap.size≤B)(hx:Ext v w):
  Calls Tryz.prog 286 #[.int .i64 u,.pointer (some ⟨ba,0,none⟩),.pointer (some ⟨bs,0,none⟩)] w fun e w'=>∃(y:Hp) (cd:Int),Hid (e=.returned (errV cd))∧Hid (RoomPost x op u y cd)∧Hid (SOq (C+16000) B w' b y)∧Ext v w':=by
 have H:=hide h;have S:=hide s;have ca:=fun j=>cell_of_row w ba j _ _ (0,0) (h.obj za)
 have cs:=fun j=>cell_of_row w bs j _ _ (0,0) (h.obj zs)
 have a0:w.cell? ⟨ba,0,none⟩=some (iv op):=ca 0;have s0:w.cell? ⟨bs,0,none⟩=some (.pointer (some ⟨b,0,none⟩)):=cs 0;obtain⟨c0,c1,c2,c5,c9,c10,c12⟩:=h.nums;have fz:=h.boxN.2.2.1;have lo:v.heap.size≤b:=Nat.le_trans hv h.boxN.2.2.2.1;have fo:=s.r1.forced;have hbw:b<w.heap.size:=cell_lt c0;have haw:ba<w.heap.size:=cell_lt a0;have hsw:bs<w.heap.size:=cell_lt s0;have BS:=hide (show ∀(W:World) (z:Hp) (K:Nat),SOq K B W b z→W.cell? ⟨bs,0,none⟩=some (.pointer (some ⟨b,0,none⟩)) from fun W z K hz=>cell_of_row W bs 0 _ _ (0,0) (hz.obj zs));clear h s ca cs za zs c5 c9 c10;by_cases hop:op=1∧x.born=1000000000
 ·have R:=hide (show RoomPost x op u x 4 from .inl ⟨hop,rfl,rfl⟩);obtain⟨rfl,hb⟩:=hop;rw[hb] at c2;clear hb;go_enter Tryz.func286,Tryz.ntmps286;go_wp2_with fail;go_ret;exact⟨x,4,rfl,unhide R,(unhide H).wide (by omega),hx⟩
 ·have RP:=hide (show ∀y cd,RoomIs x u y→(cd=if fitsB y u=true then 0 else 4)→RoomPost x op u y cd from fun y cd r e=>.inr ⟨hop,r,e⟩);have Q1:=hide (fun(W:World) (xW:Ext w W)=>fits_any ((unhide H).ext xW) (unhide S) u hu);go_enter Tryz.func286,Tryz.ntmps286;rcases (show(op=1∧x.born≠1000000000)∨op≠1 from(Decidable.em (op=1)).elim (fun h1=>.inl ⟨h1,fun e=>hop ⟨h1,e⟩⟩) .inr) with⟨rfl,hb⟩ | hb
  all_goals
   clear hop;go_wp2_with fail;refine(unhide Q1 _ (Ext.refl w)).mono ?_;rintro e w1 ⟨rfl,x1⟩;have X1:=hide x1;have t0:=x1.keep s0;have d0:=x1.keep c0;have d12:=x1.keep c12;have fz1:=fun j=>((bcell x1).2 b j hbw).trans (fz j)
   have hb1:b<w1.heap.size:=cell_lt d0;have hs1:bs<w1.heap.size:=cell_lt t0;clear x1;cases hf:fitsB x u
   ·go_wp2_with fail
    go_region
    all_goals
     go_wp2_with fail
     have FH:SOq C B (w1.setCell ⟨b,12,none⟩ (iv (min (x.forced+1) 1000000000))).drew b (forceTo x):=by
      rw[show forceTo x={ x with forced:=min (x.forced+1) 1000000000 } from by unfold forceTo;congr 1;split <;> omega];exact(((unhide H).ext (unhide X1)).set12 _).ext (Ext.refl _).drew
     refine(round_any FH hC (unhide S).forceTo v hv (((hx.trans (unhide X1)).setCell (p:=⟨b,12,none⟩) lo _).drew)).mono ?_;clear FH;rintro e w2 ⟨y,z,rfl,he,h2,x2⟩;have RM:=hide (show RoomIs x u z from .inr ⟨hf,y,(unhide he).1,(unhide he).2⟩);have Sz:=hide ((unhide RM).snd (unhide S));have Q2:=hide (fits_any (unhide h2) (unhide Sz) u hu);have t2:=unhide BS w2 z _ (unhide h2);have u2:bs<w2.heap.size:=cell_lt t2;clear he;go_wp2_with fail;refine(unhide Q2).mono ?_;rintro e w3 ⟨rfl,x3⟩;cases hg:fitsB z u
     ·go_wp2_with fail;go_ret;exact⟨z,4,rfl,unhide RP z 4 (unhide RM) (by rw[hg];rfl),(unhide h2).ext x3,x2.trans x3⟩
     ·go_wp2_with fail;go_ret;exact⟨z,0,rfl,unhide RP z 0 (unhide RM) (by rw[hg];rfl),(unhide h2).ext x3,x2.trans x3⟩
   ·go_wp2_with fail;refine(unhide Q1 _ (unhide X1)).mono ?_;rintro e w2 ⟨rfl,x2⟩;rw[hf];go_wp2_with fail;go_ret;exact⟨x,0,rfl,unhide RP x 0 (.inl ⟨hf,rfl⟩) (by rw[hf];rfl),(((unhide H).ext ((unhide X1).trans x2)).wide (by omega)),hx.trans ((unhide X1).trans x2)⟩
theorem Own.sub{p p1:Inhabited ProtD}{lo hi:Nat}{c:World}(o:Own p lo hi c p1):∀q ob,(@default ProtD p).z q=some ob→(@default ProtD p1).z q=some ob:=fun q ob hq=>by
 rw[o.z,if_neg (fun e=>by have:=o.l q ob hq;omega)];exact hq
theorem none_less{p p1:Inhabited ProtD}(hz:∀q ob,(@default ProtD p).z q=some ob→(@default ProtD p1).z q=some ob){q:Nat}(h:(@default ProtD p1).z q=none):(@default ProtD p).z q=none:=by
 cases e:(@default ProtD p).z q with
 | none=>rfl
 | some ob=>rw[hz q ob e] at h;cases h
theorem SOq.less{p p1:Inhabited ProtD}{C B:Nat}{w:World}{b:Nat}{x:Hp}(h:@SOq p1 C B w b x)(hz:∀q ob,(@default ProtD p).z q=some ob→(@default ProtD p1).z q=some ob):@SOq p C B w b x:=by
 obtain⟨ar,kr,a4,n4,k4,a8,m8,k8,br,cB,cO,bn,pb,pa,pk,kn,hd,vf,F,vk,K,role,h,i,k⟩:=h;have h0:=h;obtain⟨_,_,_,pr⟩:=h0;exact⟨ar,kr,a4,n4,k4,a8,m8,k8,br,cB,cO,bn,pb,pa,pk,kn,hd,vf,F,vk,K,role,SAt.far (z:=(@default ProtD p1).z) (z2:=(@default ProtD p).z) h (Nat.le_refl _) (fun _ _ _=>rfl) (fun _ _ _=>rfl) (fun q o hq=>pr q o (hz q o hq)),i,k.1,none_less hz k.2⟩
def WayOk(p:Inhabited ProtD)(C B b:Nat)(x:Hp)(a q c:Nat)(n:Int)(k:Nat)(v:World)(rv:Value):Prop:=
 ∀(p1:Inhabited ProtD) (bd:Nat) (W:World),@SOq p1 C B W b x→(@default ProtD p1).z bd=some (deedO b k a q c n rv)→(∀m ob,(@default ProtD p).z m=some ob→(@default ProtD p1).z m=some ob)→Ext v W→Calls Tryz.prog (wayF k) #[.pointer (some ⟨bd,0,none⟩)] W fun e w'=>@WayPost p1 C B b x a q c n k v e w'
theorem call_way(k:Nat)(h1:1≤k)(h2:k≤24)(args:Array Value)(W:World):(callFunc (wayF k) args).run Tryz.prog W=.ok (.enter (wayF k) args) W:=by
 have h:k=1∨k=2∨k=3∨k=4∨k=5∨k=6∨k=7∨k=8∨k=9∨k=10∨k=11∨k=12∨k=13∨k=14∨k=15∨k=16∨k=17∨k=18∨k=19∨k=20∨k=21∨k=22∨k=23∨k=24:=by omega
 rcases h with rfl | rfl | rfl | rfl | rfl | rfl | rfl | rfl | rfl | rfl | rfl | rfl | rfl | rfl | rfl | rfl | rfl | rfl | rfl | rfl | rfl | rfl | rfl | rfl <;> first | exact(by kernel_rfl) | rfl
theorem attempt_in[p:Inhabited ProtD]{C B:Nat}{w:World}{b:Nat}{x:Hp}{a q c:Nat}{n:Int}{k ba bs:Nat}(h:SOq C B w b x)(h1:1≤k)(h2:k≤24)(h3:(n != 0)=false∨((n != 0)=true∧((k:Int) != 2)=false))(hr:(decide (0≤(a:Int)∧(a:Int)≤actA k) && (decide (0≤(q:Int)∧(q:Int)≤actB k) && decide (0≤(c:Int)∧(c:Int)≤actC k)))=true)(v:World)(hx:Ext v w)(Y:WayOk p C B b x a q c n k v (roomV ba bs)):
  Calls Tryz.prog 282 #[.pointer (some ⟨b,0,none⟩),actV k a q c n,roomV ba bs] w fun e w'=>WayPost C B b x a q c n k v e w':=by
 have H:=hide h;have YY:=hide Y;have QW:=hide (fun W=>wayOf_in k a q c n W h1 h2 h3 true hr);obtain⟨fw,hf⟩:∃f,f=wayF k:=⟨_,rfl⟩;obtain⟨m1,hm1⟩:∃m,m=actA k:=⟨_,rfl⟩;obtain⟨m2,hm2⟩:∃m,m=actB k:=⟨_,rfl⟩;obtain⟨m3,hm3⟩:∃m,m=actC k:=⟨_,rfl⟩;rw[←hf,←hm1,←hm2,←hm3] at QW;have CW:=hide (call_way k h1 h2);rw[←hf] at CW;have HF:=hide hf;clear h Y h1 h2 h3 hr hf hm1 hm2 hm3;go_enter Tryz.func282,Tryz.ntmps282;go_wp2_with fail;refine(unhide QW _).mono ?_;rintro e w1 ⟨rfl,x1⟩;have bx:w1.heap[w.heap.size]?=some (boxA k a q c n):=(x1.block w.heap.size (by simp [go_sem])).trans (show((w.heap.push _)[w.heap.size]?)=_ by rw[Array.getElem?_push_size];rfl);have ce:=fun j=>cell_of_row w1 w.heap.size j _ _ (0,0) bx
 have t0:w1.cell? ⟨w.heap.size,0,none⟩=some (iv k):=ce 0;have t1:w1.cell? ⟨w.heap.size,1,none⟩=some (iv a):=ce 1;have t2:w1.cell? ⟨w.heap.size,2,none⟩=some (iv q):=ce 2;have t3:w1.cell? ⟨w.heap.size,3,none⟩=some (iv c):=ce 3;have t4:w1.cell? ⟨w.heap.size,4,none⟩=some (iv n):=ce 4;have l1:w.heap.size<w1.heap.size:=cell_lt t0;have X1:=hide (show Ext w w1 from((Ext.refl w).alloc _).trans x1);clear bx ce x1;go_wp2_with fail;rw[unhide CW,Oper.upon_enter];obtain⟨W3,hW3⟩:∃W,W=(w1.alloc (.cells #[.int .i64 m1,.int .i64 m2,.int .i64 m3,.func (.func fw) #[] #[]] 288)).alloc (deedO b k a q c n (roomV ba bs)):=⟨_,rfl⟩;have x13:Ext w1 W3:=by rw[hW3];exact((Ext.refl w1).alloc _).alloc _
 have ob:W3.heap[w1.heap.size+1]?=some (deedO b k a q c n (roomV ba bs)):=by
  rw[hW3];show(((w1.heap.push _).push _)[w1.heap.size+1]?)=_;rw[←Array.size_push,Array.getElem?_push_size]
 have lt:=obj_lt ob;obtain⟨p1,o1,g1⟩:=SOq.enter ((unhide H).ext (unhide X1)) x13;have zd:(@default ProtD p1).z (w1.heap.size+1)=some (deedO b k a q c n (roomV ba bs)):=by rw[o1.z,if_pos ⟨by omega,lt⟩];exact ob
 have Y3:=unhide YY p1 (w1.heap.size+1) W3 g1 zd o1.sub (hx.trans ((unhide X1).trans x13));rw[←unhide HF] at Y3;unfold deedO at hW3;rw[←hW3];refine Y3.mono ?_;clear Y3 zd g1 ob lt hW3 t0 t1 t2 t3 t4 x13;have O1:=hide o1.sub;clear o1;rintro e w4 ⟨y,cd,nm,he,dr,g4,x4⟩;have he2:=unhide he;subst he2;have G4:=hide (show @SOq p (C+64000) B w4 b y from @SOq.less p p1 _ _ _ _ _ (unhide g4) (unhide O1));clear he g4;go_wp2_with fail;go_ret2;exact⟨y,cd,nm,rfl,unhide dr,unhide G4,x4⟩
def WaysOk(p:Inhabited ProtD)(C B b:Nat)(x:Hp)(a q c:Nat)(n:Int)(k:Nat)(v:World):Prop:=
 ∀(p1:Inhabited ProtD) (ba bs:Nat),(@default ProtD p1).z ba=some (boxA k a q c n)→(@default ProtD p1).z bs=some (boxS b)→(∀m ob,(@default ProtD p).z m=some ob→(@default ProtD p1).z m=some ob)→WayOk p1 C B b x a q c n k v (roomV ba bs)
theorem SOq.set1[Inhabited ProtD]{C B:Nat}{w:World}{b:Nat}{x:Hp}(h:SOq C B w b x)(u:Int):SOq C B (w.setCell ⟨b,1,none⟩ (iv u)) b { x with used:=u }:=by
 obtain⟨ar,kr,a4,n4,k4,a8,m8,k8,br,cB,cO,bn,pb,pa,pk,kn,hd,vf,F,vk,K,role,h,i,k⟩:=h;exact⟨ar,kr,a4,n4,k4,a8,m8,k8,br,cB,cO,bn,pb,pa,pk,kn,hd,vf,F,vk,K,role,h.boxed (x':={ x with used:=u }) (Only.setCell (S:=fun q=>q=b) (Only.refl _ w) (p:=⟨b,1,none⟩) rfl _) (h.sb.nb.set _ _) rfl rfl rfl (h.sb.bx.set1 u) (fun k hk=>cell_other _ (.inr (by omega))),i.alike (SameSt.cells rfl) rfl rfl,k⟩
theorem step_idle{x:Hp}{n k:Nat}(h:StepIs x n k)(hp:x.phase=0):itU k x=x:=by
 have e:k=0:=by
  rcases Nat.eq_zero_or_pos k with e | e
  ·exact e
  ·exact absurd hp (h.1 0 e)
 rw[e];rfl
def usedH(x:Hp)(u:Nat):Hp:={ x with used:=x.used+u }
theorem made_any[Inhabited ProtD]{C B:Nat}{w:World}{b:Nat}{x:Hp}(h:SOq C B w b x)(hC:C+16000≤1000000000)(u:Nat)(hu:u≤201)(s:Snd (usedH x u))(v:World)(hv:v.heap.size≤B)(hx:Ext v w):
  Calls Tryz.prog 321 #[.pointer (some ⟨b,0,none⟩),.int .i64 u] w fun e w'=>∃y,Hid (e=.returned (.tuple #[]))∧Hid (PaceIs (usedH x u) u y)∧Hid (SOq (C+16000) B w' b y)∧Ext v w':=by
 obtain⟨c0,c1,c2,c5,c9,c10,c12⟩:=h.nums;have fz:=h.boxN.2.2.1;have lo:v.heap.size≤b:=Nat.le_trans hv h.boxN.2.2.2.1;have us:0≤x.used+u∧x.used+u≤4000:=by have h3:=s.r3;have h1:=s.r1.room;unfold R3 at h3;simp only [usedH] at h3 h1;omega
 have wu:wrap64 (x.used+(u:Int))=x.used+(u:Int):=wrap_fit _ (by omega) (by omega);have pe:0≤x.per∧x.per≤64:=s.r1.per;have hbw:b<w.heap.size:=cell_lt c0;have H1:=hide (show SOq C B (w.setCell ⟨b,1,none⟩ (iv (x.used+u))) b (usedH x u) from h.set1 _);have X1:=hide (show Ext v (w.setCell ⟨b,1,none⟩ (iv (x.used+u))) from hx.setCell (p:=⟨b,1,none⟩) lo _);have S:=hide s;clear h s;by_cases h0:u=0∨x.per=0
 ·have PA:=hide (show PaceIs (usedH x u) u (usedH x u) from .inl ⟨by
   unfold paceB usedH;rcases h0 with e | e
   ·rw[e];simp
   ·rw[e];rfl,rfl⟩)
  rcases (show u=0∨(u≠0∧x.per=0) by omega) with e | ⟨e,e2⟩
  ·have e':((u:Int) == 0)=true:=by rw[e];rfl
   clear e h0;go_enter Tryz.func321,Tryz.ntmps321;go_wp2_with fail;refine bodyPost_ret (results_none rfl _ _ _) rfl ?_;exact⟨_,rfl,unhide PA,(unhide H1).wide (by omega),unhide X1⟩
  ·have e':((u:Int) == 0)=false:=by simp only [beq_eq_false_iff_ne];omega
   rw[e2] at c9;go_enter Tryz.func321,Tryz.ntmps321;go_wp2_with fail;refine bodyPost_ret (results_none rfl _ _ _) rfl ?_;exact⟨_,rfl,unhide PA,(unhide H1).wide (by omega),unhide X1⟩
 ·have e1:((u:Int) == 0)=false:=by simp only [beq_eq_false_iff_ne];omega
  have e2:(x.per == 0)=false:=by simp only [beq_eq_false_iff_ne];omega
  obtain⟨m,hm⟩:∃m,m=x.per.toNat*u:=⟨_,rfl⟩
  have wp:wrap64 (x.per*(u:Int))=(m:Int):=by
   rw[hm]
   have m:x.per*(u:Int)=((x.per.toNat*u:Nat):Int):=by
    have:((x.per.toNat:Nat):Int)=x.per:=Int.toNat_of_nonneg pe.1;rw[Int.natCast_mul,this]
   have m2:x.per.toNat*u≤64*201:=Nat.mul_le_mul (by omega) hu;rw[m];exact wrap_fit _ (by omega) (by omega)
  have nz:m≠0:=by rw[hm];exact Nat.mul_ne_zero (by omega) (by omega)
  by_cases hp:x.phase=0
  ·by_cases hs:x.used+u > x.start
   ·have ST:stepH (usedH x u) ((usedH x u).per.toNat*u)=toPh (usedH x u) 1 0:=by unfold stepH;rw[if_pos ⟨hp,hm ▸ nz⟩]
    have PB:paceB (usedH x u) u=false:=by
     unfold paceB usedH;have:(u == 0)=false:=by simp only [beq_eq_false_iff_ne];omega
     have n2:decide (x.used+(u:Int)≤x.start)=false:=decide_eq_false (by omega);simp only [e2,this,n2,Bool.and_false,Bool.or_false]
    have PA:=hide (show ∀k,StepIs (toPh (usedH x u) 1 0) m k→PaceIs (usedH x u) u (itU k (toPh (usedH x u) 1 0)) from fun k hk=>.inr ⟨PB,k,by rw[ST];exact hm ▸ hk,by rw[ST]⟩);have SB:=hide ((unhide S).begin hp);have hP:=hide hp;rw[hp] at c5;clear PB ST nz hp hm;go_enter Tryz.func321,Tryz.ntmps321;go_wp2_with fail;go_quiet (fail);go_wp2_with fail;refine(begin_any ((unhide H1).ext (Ext.drewN (Ext.refl _) nq)) (unhide hP) v hv (Ext.drewN (unhide X1) nq)).mono ?_;rintro e w1 ⟨rfl,h1,x1⟩;have d9:w1.cell? ⟨b,9,none⟩=some (iv x.per):=(unhide h1).nums.2.2.2.2.1;have hb1:b<w1.heap.size:=cell_lt d9;go_wp2_with fail;refine(work_any m (unhide h1) hC (unhide SB) v hv x1).mono ?_;rintro e w2 ⟨k,rfl,st,h2,x2⟩;go_wp2_with fail
    go_end0
    exact⟨_,rfl,unhide PA k (unhide st),unhide h2,x2⟩
   ·have PA:=hide (show PaceIs (usedH x u) u (usedH x u) from .inl ⟨by
     unfold paceB usedH;have n2:decide (x.used+(u:Int)≤x.start)=true:=decide_eq_true (by omega);simp only [hp,n2,Bool.and_true,beq_self_eq_true,Bool.or_true],rfl⟩)
    have hP:=hide hp;rw[hp] at c5;clear nz hp hm;go_enter Tryz.func321,Tryz.ntmps321;go_wp2_with fail;go_quiet (fail);go_wp2_with fail;refine(work_any m (((unhide H1).wide (show C≤C+16000 by omega)).ext (Ext.drewN (Ext.refl _) nq)) hC (unhide S) v hv (Ext.drewN (unhide X1) nq)).mono ?_;rintro e w2 ⟨k,rfl,st,h2,x2⟩;rw[step_idle (unhide st) (unhide hP)] at h2;go_wp2_with fail
    go_end0
    exact⟨_,rfl,unhide PA,unhide h2,x2⟩
  ·have ST:stepH (usedH x u) ((usedH x u).per.toNat*u)=usedH x u:=by unfold stepH;rw[if_neg (fun h=>hp h.1)]
   have pf:(x.phase == 0)=false:=by simpa using hp
   have PB:paceB (usedH x u) u=false:=by
    unfold paceB usedH;have:(u == 0)=false:=by simp only [beq_eq_false_iff_ne];omega
    simp only [e2,this,pf,Bool.false_and,Bool.or_false]
   have PA:=hide (show ∀k,StepIs (usedH x u) m k→PaceIs (usedH x u) u (itU k (usedH x u)) from fun k hk=>.inr ⟨PB,k,by rw[ST];exact hm ▸ hk,by rw[ST]⟩);clear PB ST nz hp hm;go_enter Tryz.func321,Tryz.ntmps321;go_wp2_with fail;go_quiet (fail);go_wp2_with fail;refine(work_any m (((unhide H1).wide (show C≤C+16000 by omega)).ext (Ext.drewN (Ext.refl _) nq)) hC (unhide S) v hv (Ext.drewN (unhide X1) nq)).mono ?_;rintro e w2 ⟨k,rfl,st,h2,x2⟩;go_wp2_with fail
   go_end0
   exact⟨_,rfl,unhide PA k (unhide st),unhide h2,x2⟩
theorem scan_rest{x z:Hp}(r:RestH z x)(hl:z.cells.length=x.cells.length):scanI z=scanI x:=by
 obtain⟨_,_,_,r4,r5,r6,_⟩:=r;unfold scanI;rw[r4,r5,r6,hl]
theorem Snd.stTo{x:Hp}(s:Snd x)(H:Nat→Bool):∀k,k≤x.cells.length→Snd (stTo x H k)
 | 0,_=>s
 | k+1,hk=>by
  have sz:=Snd.stTo s H k (by omega);have zl:=stTo_len x H k;have zc:(Go.Proofs.YtddkhnclmeikfaaGreat.stTo x H k).c k=x.c k:=by rw[stTo_c x H k (by omega) k,if_neg (by omega)]
  have sc:=scan_rest (stTo_rest x H k) zl;show Snd (stNext x H k (Go.Proofs.YtddkhnclmeikfaaGreat.stTo x H k));obtain⟨z,hz⟩:∃z,z=Go.Proofs.YtddkhnclmeikfaaGreat.stTo x H k:=⟨_,rfl⟩;rw[←hz] at sz zl zc sc ⊢;have hi:k<z.cells.length:=by omega
  unfold stNext
  split
  ·have e:({ z with cells:=z.cells.set k (letC x H (x.c k)),used:=z.used-goes x H (x.c k) (x.c k).prs,sub:=letSub x H k z.sub }:Hp)=fltH z k (fun p=>!goB x H (x.c k) p) (goes x H (x.c k) (x.c k).prs) (letSub x H k z.sub):=by
    unfold fltH fltC letC stay;rw[zc]
   rw[e];refine sz.thin (Thin.flt sz k hi _ _ _ ?_ ?_)
   ·rw[zc];exact stay_goes x H (x.c k) (x.c k).prs
   ·unfold letSub;rw[sc,zc]
    split
    ·rename_i es;have a:=sz.scan k (by rw[sc];exact es);have b:=sz.r1.sub;rw[zc] at a;have c:=stay_goes x H (x.c k) ((x.c k).prs.take z.sub.toNat);rw[List.length_take] at c;unfold stay at c;omega
    ·rfl
  ·split
   ·rename_i _ e1;have s1:=speaks_used sz.r2 k hi (.inl (by rw[zc];exact e1));have e:({ z with cells:=z.cells.set k (dueC (x.c k)) }:Hp)=setcH z k (dueC (z.c k)):=by rw[zc];rfl
    rw[e];exact sz.thin (Thin.self sz k _ hi s1 ⟨rfl,rfl,rfl,rfl,rfl⟩ rfl (.inl rfl) (.inr ⟨by show(0:Int)≤2;omega,by show(2:Int)≤3;omega⟩) (fun _=>.inl (by rw[zc];exact e1)))
   ·exact sz
theorem Snd.settle{x:Hp}(s:Snd x)(H:Nat→Bool):Snd (settleH x H):=by
 rw[←stTo_all];exact s.stTo H _ (Nat.le_refl _)
theorem DoR.sndB{x:Hp}{a b c:Nat}{n:Int}{y:Hp}{cd nm:Int}{k:Nat}(s:Snd x)(ha:a<16)(hb:k≠1→k≠23→b<16)(h1:k=1→b≤255∧c≤200)(h23:k=23→b≤64∧c≤4000)(h11:k=11→c≤3)(h12:k=12→c≤1)(hk:k≠9)(h:DoR x a b c n y cd nm k):Snd y:=by
 by_cases e1:k=1
 ·subst e1;exact MakeIs.snd s (h1 rfl).1 (h1 rfl).2 h
 ·by_cases e2:k=18
  ·subst e2;obtain⟨_,H,_,e,_⟩:=h;rw[e];exact s.settle H
  ·exact h.sndA s ha hb h23 h11 h12 ⟨e1,hk,e2⟩
theorem SOq.poke{p p1:Inhabited ProtD}{lo hi:Nat}{cw:World}(o:Own p lo hi cw p1){C B:Nat}{w w':World}{b:Nat}{x:Hp}(h:@SOq p1 C B w b x)(r:Nat)(hr:lo≤r∧r<hi)(rm:1≤x.room)(hn:w.cell? ⟨r,2,none⟩=none)(on:Only (fun q=>q=r) w w'):@SOq p C B w' b x:=by
 obtain⟨ar,kr,a4,n4,k4,a8,m8,k8,br,cB,cO,bn,pb,pa,pk,kn,hd,vf,F,vk,K,role,h,i,k⟩:=h;have h0:=h;obtain⟨sb,_,_,pr⟩:=h0
 have nb:bn≠r:=fun e=>by
  obtain⟨⟨u,hu⟩,_⟩:=sb.lo.2.2.2 2 (by omega);rw[e,hn] at hu;cases hu
 obtain⟨ob,hb⟩:=obj_some (w:=cw) (q:=r) (by have:=o.h;omega);have r1:=(pr r ob (by rw[o.z r,if_pos hr];exact hb)).1;refine⟨ar,kr,a4,n4,k4,a8,m8,k8,br,cB,cO,bn,pb,pa,pk,kn,hd,vf,F,vk,K,role,SAt.far (z:=(@default ProtD p1).z) (z2:=(@default ProtD p).z) h on.size (fun q hq hc=>on.block q hq (fun e=>?_)) (fun _ _ _=>rfl) (fun q o2 hq=>?_),i,k.1,none_less o.sub k.2⟩
 ·rcases hc with hc | hc
  ·exact hc (by rw[e];exact r1)
  ·exact nb (hc.symm.trans e)
 ·obtain⟨a1,a2⟩:=pr q o2 (o.sub q o2 hq);exact⟨a1,(on.block q (obj_lt a2) (fun e=>by have:=o.l q o2 hq;omega)).trans a2⟩
theorem DoR.snd{x:Hp}{a b c:Nat}{n:Int}{y:Hp}{cd nm:Int}{k:Nat}(s:Snd x)(ha:a<16)(hb:k≠1→k≠23→b<16)(h1:k=1→b≤255∧c≤200)(h23:k=23→b≤64∧c≤4000)(h11:k=11→c≤3)(h12:k=12→c≤1)(h:DoR x a b c n y cd nm k):Snd y:=by
 by_cases e9:k=9
 ·subst e9;rcases h with h | h
  ·rw[h.2.1];exact s
  ·exact GrowIs.snd s ha h.1 rfl h.2
 ·exact h.sndB s ha hb h1 h23 h11 h12 e9
theorem answer_fine[p:Inhabited ProtD]{C B:Nat}{w:World}{b:Nat}{x:Hp}{a q c:Nat}{n:Int}{k:Nat}(h:SOq C B w b x)(h1:1≤k)(h2:k≤24)(h3:(n != 0)=false∨((n != 0)=true∧((k:Int) != 2)=false))(hr:(decide (0≤(a:Int)∧(a:Int)≤actA k) && (decide (0≤(q:Int)∧(q:Int)≤actB k) && decide (0≤(c:Int)∧(c:Int)≤actC k)))=true)(v:World)(hx:Ext v w)(hz:∀y cd nm,DoR x a q c n y cd nm k→cd=0)(hm:∀y cd nm,DoR x a q c n y cd nm k→1≤y.room)(Y:∀p1,(∀m ob,(@default ProtD p).z m=some ob→(@default ProtD p1).z m=some ob)→WaysOk p1 C B b x a q c n k v):
  Calls Tryz.prog 280 #[.pointer (some ⟨b,0,none⟩),actV k a q c n] w fun e w'=>∃(y:Hp) (nm:Int),Hid (e=.returned (ansV 0 nm))∧Hid (DoR x a q c n y 0 nm k)∧Hid (SOq (C+64000) B w' b y)∧Ext v w':=by
 have xw:Ext w (ansW w k a q c n):=((Ext.refl w).alloc _).alloc _;obtain⟨p1,o1,g1⟩:=SOq.enter h xw;rw[ansW_size] at o1
 have QA:=hide (show Calls Tryz.prog 282 #[.pointer (some ⟨b,0,none⟩),actV k a q c n,roomV (w.heap.size+1+1+1) (w.heap.size+1+1)] ((((w.alloc (.cells #[iv k,iv a,iv q,iv c,iv n] 39)).alloc (.cells #[.int .i64 0,.int .i64 0] 41)).alloc (.cells #[.pointer (some ⟨b,0,none⟩)] 86)).alloc (.cells #[iv k,iv a,iv q,iv c,iv n] 39)).drew fun e w'=>∃(y:Hp) (nm:Int),e=.returned (.tuple #[iv nm,.nilIface])∧Hid (DoR x a q c n y 0 nm k)∧Hid (@SOq p1 (C+64000) B w' b y)∧Ext v w' from by
  obtain⟨V,hV⟩:∃V,V=ansW w k a q c n:=⟨_,rfl⟩;have sV:V.heap.size=w.heap.size+1+1:=by rw[hV,ansW_size]
  show Calls _ _ _ (((ansW w k a q c n).alloc (boxS b)).alloc (boxA k a q c n)).drew _;rw[←hV,←sV];rw[←hV] at g1 xw;obtain⟨W,hW⟩:∃W,W=((V.alloc (boxS b)).alloc (boxA k a q c n)).drew:=⟨_,rfl⟩;have xW:Ext V W:=by rw[hW];exact(((Ext.refl V).alloc _).alloc _).drew
  have e2:W.heap[V.heap.size+1]?=some (boxA k a q c n):=by
   rw[hW];show(((V.heap.push _).push _)[V.heap.size+1]?)=_;rw[←Array.size_push,Array.getElem?_push_size]
  have e1:W.heap[V.heap.size]?=some (boxS b):=by
   rw[hW];show(((V.heap.push _).push _)[V.heap.size]?)=_;rw[Array.getElem?_push_lt (by rw[Array.size_push];omega),←Array.getElem?_eq_getElem,Array.getElem?_push_size]
  rw[←hW];obtain⟨p2,o2,g2⟩:=@SOq.enter p1 _ _ _ _ _ _ g1 xW;have l1:=obj_lt e1;have l2:=obj_lt e2;have z1:(@default ProtD p2).z V.heap.size=some (boxS b):=by rw[o2.z,if_pos ⟨by omega,l1⟩];exact e1
  have z2:(@default ProtD p2).z (V.heap.size+1)=some (boxA k a q c n):=by rw[o2.z,if_pos ⟨by omega,l2⟩];exact e2
  refine(@attempt_in p2 C B W b x a q c n k (V.heap.size+1) V.heap.size g2 h1 h2 h3 hr v (hx.trans (xw.trans xW)) (Y p1 o1.sub p2 _ _ z2 z1 o2.sub)).mono ?_;rintro e w' ⟨y,cd,nm,he,dr,g4,x4⟩;have c0:=hz y cd nm (unhide dr);subst c0;exact⟨y,nm,by have:=unhide he;simpa [errV] using this,dr,@SOq.less p1 p2 _ _ _ _ _ (unhide g4) o2.sub,x4⟩)
 have QR:=hide (fun W=>roomFor_any b k a q c n W);have BO:=hide (show ∀W z,@SOq p1 (C+64000) B W b z→W.heap[w.heap.size+1]?=some (.cells #[iv 0,iv 0] 41) from fun W z hz=>(SOq.own o1 hz (w.heap.size+1) (by omega) (by omega)).trans (ansW_obj w k a q c n));have BF:=hide (show ∀W z,@SOq p1 (C+64000) B W b z→∀j,W.frozen? ⟨w.heap.size+1,j,none⟩=false from fun W z hz j=>(World.frozen?_of_block (a:=⟨w.heap.size+1,j,none⟩) (SOq.own o1 hz (w.heap.size+1) (by omega) (by omega))).trans (by unfold ansW;simp [go_sem]));have PK:=hide (show ∀W W' z,@SOq p1 (C+64000) B W b z→1≤z.room→W.cell? ⟨w.heap.size+1,2,none⟩=none→Only (fun m=>m=w.heap.size+1) W W'→@SOq p (C+64000) B W' b z from fun W W' z hz hrm hn on=>SOq.poke o1 hz (w.heap.size+1) ⟨by omega,by omega⟩ hrm hn on);have HM:=hide hm;have hvw:=hx.size;clear h h1 h2 h3 hr Y hm hz g1 o1 xw;go_enter Tryz.func280,Tryz.ntmps280;go_wp2_with fail;go_region_with (first | (go_at_call 281;refine(answered_fine nm w3).mono ?_;rintro e w4 ⟨rfl,x4⟩;have bf:=fun m=>((bcell x4).2 (w.heap.size+1) m (cell_lt u0)).trans (bf m);have u0:=x4.keep u0;have u1:=x4.keep u1;have hb4:w.heap.size+1<w4.heap.size:=cell_lt u0;have X4:=hide x4;clear x4) | (go_at_call 282;refine(unhide QA).mono ?_;rintro e w3 ⟨y,nm,rfl,dr,g3,x3⟩;have bo:=unhide BO w3 y (unhide g3);have bf:=unhide BF w3 y (unhide g3);have u0:w3.cell? ⟨w.heap.size+1,0,none⟩=some (iv 0):=cell_of_row w3 _ 0 _ _ (0,0) bo;have u1:w3.cell? ⟨w.heap.size+1,1,none⟩=some (iv 0):=cell_of_row w3 _ 1 _ _ (0,0) bo;have u2:w3.cell? ⟨w.heap.size+1,2,none⟩=none:=cell_of_row w3 _ 2 _ _ (0,0) bo;have BX:=hide bo;have X3:=hide x3;clear bo x3) | (go_at_call 283;refine(unhide QR _).mono ?_;rintro e w2 ⟨rfl,rfl⟩))
 all_goals
  have u24:w4.cell? ⟨w.heap.size+1,2,none⟩=none:=(World.cell?_of_block (a:=⟨w.heap.size+1,2,none⟩) ((unhide X4).block _ (obj_lt (unhide BX)))).trans u2;have GF:=hide (unhide PK w4 ((w4.setCell ⟨w.heap.size+1,0,none⟩ (.int .i64 0)).setCell ⟨w.heap.size+1,1,none⟩ (.int .i64 nm)) y (@SOq.ext p1 _ _ _ _ _ _ (unhide g3) (unhide X4)) (unhide HM y 0 nm (unhide dr)) u24 ((Only.setCell (S:=fun m=>m=w.heap.size+1) (Only.refl _ w4) (p:=⟨w.heap.size+1,0,none⟩) rfl _).setCell (p:=⟨w.heap.size+1,1,none⟩) rfl _));have XF:=hide (show Ext v ((w4.setCell ⟨w.heap.size+1,0,none⟩ (.int .i64 0)).setCell ⟨w.heap.size+1,1,none⟩ (.int .i64 nm)) from(((unhide X3).trans (unhide X4)).setCell (p:=⟨w.heap.size+1,0,none⟩) (show v.heap.size≤w.heap.size+1 by omega) _).setCell (p:=⟨w.heap.size+1,1,none⟩) (show v.heap.size≤w.heap.size+1 by omega) _);clear u24;go_wp2_with fail;refine bodyPost_ret (v:=ansV 0 nm) (by simp [results,Tryz.results280,go_sem,u0,u1]) rfl ?_;exact⟨y,nm,rfl,unhide dr,unhide GF,unhide XF⟩
theorem DoIs.snd{x:Hp}{op a b c n:Int}{y:Hp}{cd nm:Int}(s:Snd x)(h:DoIs x op a b c n y cd nm):Snd y:=by
 rcases h with⟨_,h2,_⟩ | ⟨ok,h2⟩
 ·rw[h2];exact s
 ·obtain⟨h1,ha,hb,hc⟩:=act_bounds ok;have hA:actA op≤15:=by unfold actA;split <;> omega
  have hB:op≠1→op≠23→actB op≤15:=fun e1 e2=>by unfold actB;rw[if_neg e1,if_neg e2];split <;> omega
  refine DoR.snd s (by omega) (fun e1 e2=>by have:=hB (by omega) (by omega);omega) (fun e=>?_) (fun e=>?_) (fun e=>?_) (fun e=>?_) h2
  ·have e:op=1:=by omega
   subst e;simp [actB,actC] at hb hc;omega
  ·have e:op=23:=by omega
   subst e;simp [actB,actRb,actC] at hb hc;omega
  ·have e:op=11:=by omega
   subst e;simp [actC] at hc;omega
  ·have e:op=12:=by omega
   subst e;simp [actC] at hc;omega
theorem told_soq[Inhabited ProtD]{C B:Nat}{w:World}{b:Nat}{y:Hp}(h:SOq C B w b y)(s:Snd y)(hB:B≤w.heap.size):
  Calls Tryz.prog 59 #[.pointer (some ⟨b,0,none⟩)] w fun e w'=>∃br kr bcN bgN pb pa pk,e=.returned (y.v (.slice (some ⟨br,0,none⟩) y.regs.length kr) (.slice (some ⟨bcN,0,none⟩) y.cells.length y.cells.length) (.slice (some ⟨bgN,0,none⟩) y.gray.length y.gray.length))∧Hid (HRow B w'.heap.size w' y br kr bcN y.cells.length bgN y.gray.length pb pa pk)∧Ext w w':=by
 obtain⟨ar,kr,a4,n4,k4,a8,m8,k8,br,cB,cO,bn,pb,pa,pk,kn,hd,vf,F,vk,K,role,h,_,_⟩:=h;have h1:=s.r1.gray;have h2:=s.ok.n8;refine(told_any w h s.r5.2.2 s.ok.r16.1 ⟨s.ok.r16.2,h2,by omega,s.ok.p200⟩ hB).mono ?_;rintro e w' ⟨bcN,bgN,rfl,h6,x6⟩;exact⟨br,kr,bcN,bgN,pb,pa,pk,rfl,h6,x6⟩
end Go.Proofs.YtddkhnclmeikfaaGreat
