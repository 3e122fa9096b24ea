import Derived.Test.YtddkhnclmeikfaaGreatWk4
import Derived.Test.YtddkhnclmeikfaaGreatAs
import Derived.Test.YtddkhnclmeikfaaGreatAt
set_option maxRecDepth 100000
set_option maxHeartbeats 4000000
namespace Go.Proofs.YtddkhnclmeikfaaGreat
open Go.RowKit
attribute [local go_sem ↓] Go.wp_at_zero Go.wp_at_succ
def CurH(x:Hp)(t:Value)(bn on G0 gk:Nat)(Mt St:List Nat)(g:Nat→List (Option Nat)):Prop:=gk≤G0∧(∀k,(g k).length+200*gk≤200*G0)∧((t=.pointer none∧St=[]∧InvH x Mt [] g none none)∨∃j,t=ptr bn (on+j*2)∧j∈Mt∧InvH x Mt St g (some j) (some j)∧2*(x.cells.length-Mt.length)+St.length+1≤gk)
theorem held_any(x:Hp)(b:Nat)(w:World){ar:Option Addr}{kr:Nat}{ac:Nat→Option Addr}{kn:Nat}(bn on:Nat)(h:VNt w b x ar kr ac (some ⟨bn,on,none⟩) kn)(r2:R2 x)(r4:R4 x)(hn8:x.cells.length≤8000)(h200:∀i,i<x.cells.length→(x.c i).prs.length≤200)
  (hsp:∀w1,VNt w1 b x ar kr ac (some ⟨bn,on,none⟩) kn→Calls Tryz.prog 102 #[.pointer (some ⟨b,0,none⟩)] w1 fun e w'=>∃(g:Option Addr) (cap:Nat) (Ls:List Nat),Hid (e=.returned (.slice g Ls.length cap))∧Hid (SpAns x w1 w' g bn on Ls)∧Ext w1 w') :
  Calls Tryz.prog 72 #[.pointer (some ⟨b,0,none⟩)] w fun e w'=>e=.returned (Value.map (some w.heap.size))∧∃Mt:List Nat,MapAt w' w.heap.size bn (Mt.map (fun i=>on+i*2))∧w.heap.size<w'.heap.size∧Hid (∀i,i∈Mt↔Held x i)∧Ext w w':=by
 have HV:=hide h;have Q2:=hide r2;have Q4:=hide r4;have SP:=hide hsp;clear h r2 r4 hsp;go_enter Tryz.func72,Tryz.ntmps72;go_wp2_with fail;refine(walkH_any x b _ bn on (unhide HV) (unhide Q2) (unhide Q4) hn8).mono ?_;rintro e w1 ⟨rfl,v1,M1,S1,hw1,ht1,i1,x1⟩;have W1:=hide hw1;have T1:=hide ht1;clear hw1 ht1;go_wp2_with fail;refine((unhide SP) _ ((unhide HV).ext x1)).mono ?_;rintro e w2 ⟨g,cap,Ls,rfl,hans,x12⟩;have x2:=x1.trans x12;have A0:=hide (And.intro ((unhide W1).ext x12) (And.intro ((unhide hans).at (unhide W1)) ((unhide T1).ext x12)));have hLs:Ls.length≤8000:=(unhide hans).2.1;have LI:=hide (unhide hans).2.2;clear W1 T1 hans x12;go_wp2_with fail;go_loopw [12] (fun i wr=>∃(k:Nat) (v:Value) (Mt St:List Nat),k≤Ls.length∧i=.int .i64 k∧WkAt wr w.heap.size (w.heap.size+2) b w.heap.size bn on x.cells.length v Mt St∧WtAt wr w.heap.size (w.heap.size+2) w.heap.size (w.heap.size+1) bn on v (fun _=>.slice none 0 0) (fun _=>[])∧Hid (OnlyHN x Mt∧RegsN x x.regs.length Mt∧(∀i,i∈Mt→i∈St)∧∀j (h:j<Ls.length),j<k→(x.c Ls[j]).last=2→Ls[j]∈Mt)∧Hid (SpAt wr g (w.heap.size+2) w.heap.size v bn on Ls)∧Ext w wr) (fun i _=>Ls.length-(intOf i).toNat)
 case atStart=>exact⟨0,v1,M1,S1,Nat.zero_le _,rfl,(unhide A0).1,(unhide A0).2.2,⟨(unhide i1).1,(unhide i1).2.1,(unhide i1).2.2,fun j _ hj=>by omega⟩,(unhide A0).2.1,x2⟩
 case round=>
  clear A0 i1 x1 x2;obtain⟨k,v,Mt,St,hk,rfl,hw,htt,hinv,hsa,hbl⟩:=hrel;have HW:=hide hw;have HT:=hide htt;clear hw htt;by_cases hlt:k<Ls.length
  ·obtain⟨gb,go,hg,gc,g1,g2,g3⟩:=unhide hsa k hlt;subst hg;have hk0:(0:Int)≤(k:Int):=by omega
   have hk1:(k:Int)<(Ls.length:Int):=by omega
   have HI:=hide ((unhide LI Ls[k]).1 (List.getElem_mem hlt));clear g1 g2 g3;obtain⟨j,ej⟩:∃j,j=Ls[k]:=⟨_,rfl⟩;rw[←ej] at gc HI;have hjn:=(unhide HI).1;obtain⟨bc,oc,ap,kp,e1,C⟩:=(unhide HV).H.cell j hjn;obtain⟨bn',on',bc',oc',e2,e3,m0,m1'⟩:=(unhide HV).N j hjn;rw[e1] at e3;cases e2;cases e3;have p3:=hbl.keep C.p3;have m1:=hbl.keep m1';have EJ:=hide ej;clear C m0 m1' e1 ej;cases tl:((x.c j).last == 2)
   ·have R:=hide (show ∀q (h:q<Ls.length),q<k+1→(x.c Ls[q]).last=2→Ls[q]∈Mt from fun q hq hqk e=>by
     by_cases z:q=k
     ·subst z;rw[←unhide EJ] at e;simp at tl;exact(tl e).elim
     ·exact(unhide hinv).2.2.2 q hq (by omega) e)
    go_wp2_with fail;go_roundw
    case rel=>exact⟨k+1,v,Mt,St,by omega,by go_num,unhide HW,unhide HT,⟨(unhide hinv).1,(unhide hinv).2.1,(unhide hinv).2.2.1,unhide R⟩,unhide hsa,hbl⟩
    case measure=>simp [intOf];omega
   ·have hl2:(x.c j).last=2:=by simpa using tl
    have HL:=hide hl2;clear hl2;go_wp2_with fail;refine(meet_any w.heap.size (w.heap.size+2) b w.heap.size bn on x.cells.length j v Mt St _ (unhide HW) hjn hbl.size hn8).mono ?_;rintro e w3 ⟨rfl,v',M',S',hw3,ha,hkf⟩
    have R:=hide (show WkAt w3 w.heap.size (w.heap.size+2) b w.heap.size bn on x.cells.length v' M' S'∧WtAt w3 w.heap.size (w.heap.size+2) w.heap.size (w.heap.size+1) bn on v' (fun _=>.slice none 0 0) (fun _=>[])∧(OnlyHN x M'∧RegsN x x.regs.length M'∧(∀i,i∈M'→i∈S')∧∀j (h:j<Ls.length),j<k+1→(x.c Ls[j]).last=2→Ls[j]∈M')∧SpAt w3 (some ⟨gb,go,none⟩) (w.heap.size+2) w.heap.size v' bn on Ls∧Ext w w3 from by
     have G:=grow_meet (unhide ha);refine⟨hw3,(unhide HT).step hkf,⟨fun i hi=>?_,fun j hj hjk e=>G.1.m _ ((unhide hinv).2.1 j hj hjk e),fun i hi=>?_,fun q hq hqk e=>?_⟩,(unhide hsa).step hkf,(unhide HW).kext hkf hbl⟩
     ·rcases G.1.n i hi with q | ⟨q,_⟩
      ·exact(unhide hinv).1 i q
      ·rw[q];exact Held.due j hjn (unhide HL)
     ·rcases G.1.n i hi with q | ⟨_,q⟩
      ·exact G.1.s i ((unhide hinv).2.2.1 i q)
      ·exact q
     ·by_cases z:q=k
      ·subst z;rw[←unhide EJ];exact G.2
      ·exact G.1.m _ ((unhide hinv).2.2.2 q hq (by omega) e))
    clear hw3 ha hkf gc p3 m1;go_wp2_with fail;go_roundw
    case rel=>exact⟨k+1,v',M',S',by omega,by go_num,(unhide R).1,(unhide R).2.1,(unhide R).2.2.1,(unhide R).2.2.2.1,(unhide R).2.2.2.2⟩
    case measure=>simp [intOf];omega
  ·have hk2:k=Ls.length:=by omega
   have I0:=hide (show InvH x Mt St (fun _=>[]) none none from⟨(unhide hinv).1,(unhide hinv).2.1,fun i hi hs=>by
    obtain⟨j,hj,e⟩:=List.getElem_of_mem ((unhide LI i).2 ⟨hi,.inr hs⟩);have:=(unhide hinv).2.2.2 j hj (by omega) (by rw[e];exact hs);rw[e] at this;exact this,(fun _ _ h=>by cases h),(fun _ _ h=>by cases h),fun i hi=>.inl ((unhide hinv).2.2.1 i hi)⟩)
   clear hinv hsa LI hk2;go_wp2_with fail;refine(next_any w.heap.size (w.heap.size+2) b w.heap.size bn on x.cells.length v Mt St _ (unhide HW) hn8).mono ?_;rintro e w3 ⟨t,v3,S3,rfl,hw3,ht,hkf⟩;have hle:=(unhide HW).len
   have R:=hide (show WkAt w3 w.heap.size (w.heap.size+2) b w.heap.size bn on x.cells.length v3 Mt S3∧WtAt w3 w.heap.size (w.heap.size+2) w.heap.size (w.heap.size+1) bn on v3 (fun _=>.slice none 0 0) (fun _=>[])∧CurH x t bn on (3*x.cells.length+1) (3*x.cells.length+1) Mt S3 (fun _=>[])∧Ext w w3 from by
    refine⟨hw3,(unhide HT).step hkf,⟨Nat.le_refl _,fun k=>by simp,?_⟩,(unhide HW).kext hkf hbl⟩;rcases unhide ht with⟨e,e1,e2⟩ | ⟨j,e,e1⟩
    ·have:=unhide I0;rw[e1] at this;exact .inl ⟨e,e2,this⟩
    ·have hI:=unhide I0;rw[e1] at hI;have hl:=hw3.len;exact .inr ⟨j,e,(unhide HW).sub j (by rw[e1];simp),hI.take,by omega⟩)
   clear hw3 ht hkf HW HT I0 hle hbl;go_wp2_with fail
   go_loopg [6] (3*x.cells.length+1) (fun gk t wr=>∃(v:Value) (Mt St:List Nat) (f:Nat→Value) (g:Nat→List (Option Nat)),WkAt wr w.heap.size (w.heap.size+2) b w.heap.size bn on x.cells.length v Mt St∧WtAt wr w.heap.size (w.heap.size+2) w.heap.size (w.heap.size+1) bn on v f g∧Hid (CurH x t bn on (3*x.cells.length+1) gk Mt St g)∧Ext w wr)
   case atStart=>exact⟨v3,Mt,S3,_,_,(unhide R).1,(unhide R).2.1,(unhide R).2.2.1,(unhide R).2.2.2⟩
   case round=>
    clear R;obtain⟨v,Mt,St,f,g,hw,htt,hcur,hbl⟩:=hrel;have HW:=hide hw;have HT:=hide htt;obtain⟨hgk,hlen,hcr⟩:=unhide hcur;rcases hcr with⟨rfl,rfl,hI⟩ | ⟨j,rfl,hj,hI,hgj⟩
    ·have c1:=hw.c1;have F:=hide (And.intro hw.m (And.intro hw.rlt.2 hI.done));clear hw htt hcur hI hlen;go_wp2_with fail;go_ret;exact⟨rfl,Mt,(unhide F).1,(unhide F).2.1,(unhide F).2.2,hbl⟩
    ·have hjn:j<x.cells.length:=hw.rg j hj;have LEN:=hide hlen;have HI:=hide hI;have HJ:=hide hj;have hp:=h200 j hjn;clear hw htt hcur hI hlen hj;go_wp2_with fail;refine(release_any w (w.heap.size+2) b w.heap.size (w.heap.size+1) bn on x.cells.length j v f g Mt St _ (unhide HW) (unhide HT) (fun i hi=>(unhide HI).wl j i hi) hbl hn8 (by have:=unhide LEN j;omega)).mono ?_;rintro e w3 ⟨rfl,v3,M3,S3,hw3,ht3,hg3,hx3⟩;have W3:=hide hw3;have T3:=hide ht3;have I3:=hide (((unhide HI).grow (unhide hg3).1 (fun i hi=>(unhide HI).wh j i hi ((unhide HI).only j (unhide HJ)))).freed (unhide hg3).2);have J3:=hide ((unhide hg3).1.m j (unhide HJ));have G3:=hide (unhide hg3).1;have X3:=hide (unhide hx3);clear hw3 ht3 hg3 hx3;go_wp2_with fail;refine(hold_any x w b (w.heap.size+2) w.heap.size (w.heap.size+1) bn on j v3 f g M3 S3 _ (unhide HV) (unhide Q2) (unhide Q4) hp (unhide W3) (unhide T3) (unhide I3) (unhide J3) (unhide X3) hn8 (fun k=>by have:=unhide LEN k;omega)).mono ?_;rintro e w4 ⟨rfl,v4,M4,S4,f4,g4,hw4,ht4,hi4,hx4⟩;have W4:=hide hw4;have T4:=hide ht4;have I4:=hide (unhide hi4);have X4:=unhide hx4;clear hw4 ht4 hi4 hx4;go_wp2_with fail;refine(next_any w.heap.size (w.heap.size+2) b w.heap.size bn on x.cells.length v4 M4 S4 _ (unhide W4) hn8).mono ?_;rintro e w5 ⟨t,v5,S5,rfl,hw5,ht5,hkf⟩;obtain⟨gk',hgk'⟩:∃g,gk=g+1:=⟨gk-1,by omega⟩
     have R:=hide (show WkAt w5 w.heap.size (w.heap.size+2) b w.heap.size bn on x.cells.length v5 M4 S5∧WtAt w5 w.heap.size (w.heap.size+2) w.heap.size (w.heap.size+1) bn on v5 f4 g4∧CurH x t bn on (3*x.cells.length+1) gk' M4 S5 g4∧Ext w w5 from by
      refine⟨hw5,(unhide T4).step hkf,⟨by omega,fun k=>?_,?_⟩,(unhide W4).kext hkf X4⟩
      ·have:=(unhide I4).2.2 k;have:=unhide LEN k;omega
      ·have hI:=(unhide I4).1
       have wg:2*(x.cells.length-M4.length)+S4.length≤2*(x.cells.length-Mt.length)+St.length:=by
        have a1:=(unhide G3).w;have a2:=(unhide I4).2.1.w;have a3:=(unhide W4).len;have a4:=(unhide W3).len;have a5:=(unhide G3).l;have a6:=(unhide I4).2.1.l;omega
       rcases unhide ht5 with⟨e,e1,e2⟩ | ⟨i,e,e1⟩
       ·rw[e1] at hI;exact .inl ⟨e,e2,hI⟩
       ·have hm:i∈M4:=(unhide W4).sub i (by rw[e1];simp);rw[e1] at hI wg;simp only [List.length_append,List.length_singleton] at wg;exact .inr ⟨i,e,hm,hI.take,by omega⟩)
     have G:=hide hgk';clear hw5 ht5 hkf W4 T4 I4 X4 hgk';go_wp2_with fail
     go_roundg gk'
     case measure=>have:=unhide G;omega
     case rel=>exact⟨v5,M4,S5,f4,g4,(unhide R).1,(unhide R).2.1,(unhide R).2.2.1,(unhide R).2.2.2⟩
theorem Snd.moved_to{x:Hp}(s:Snd x){i:Nat}(hi:i<x.cells.length)(h:(x.c i).st=2):0≤(x.c i).to∧(x.c i).to<i∧(x.c (x.c i).to.toNat).st=1∧(x.phase=4→∀k:Nat,(k:Int)<(x.c i).to→(x.c k).st≠0):=by
 rcases s.r2.1 i hi with⟨e,_⟩ | ⟨_,m⟩ | ⟨e,_⟩
 ·omega
 ·exact⟨m.2.2.1,m.2.2.2.1,m.2.2.2.2⟩
 ·omega
theorem lead_no{x:Hp}{i:Nat}(h:(x.c i).st≠2):lead2 x i=i:=by unfold lead2;rw[if_neg (by simpa using h)]
theorem lead_yes{x:Hp}{i:Nat}(h:(x.c i).st=2):lead2 x i=(x.c i).to.toNat:=by unfold lead2;rw[if_pos (by simpa using h)]
theorem move_c{x:Hp}(t f:Nat)(htf:t<f)(hf:f<x.cells.length)(q:Nat):(moveH x t f).c q=if q=f then mvC t else if q=t then x.c f else x.c q:=by
 show((x.cells.set t (x.c f)).set f (mvC t)).getD q Cl0=_;rw[cs_set,cs_set,List.length_set];by_cases a:q=f
 ·rw[if_pos a,if_pos ⟨a,hf⟩]
 ·rw[if_neg a,if_neg (fun h=>a h.1)];by_cases b:q=t
  ·rw[if_pos b,if_pos ⟨b,by omega⟩]
  ·rw[if_neg b,if_neg (fun h=>b h.1)];rfl
theorem Snd.o4m{x:Hp}(s:Snd x)(hp:x.phase=4)(t f:Nat)(htf:t<f)(hf:f<x.cells.length)(h0:(x.c t).st=0)(h1:(x.c f).st=1):Ovr x (moveH x t f) (fun i=>if i=f then t else i):=by
 have hc:=move_c (x:=x) t f htf hf;have nd:∀q,¬Doomed x q:=fun q d=>by have:=d.1;omega
 have ct:(moveH x t f).c t=x.c f:=by rw[hc,if_neg (by omega),if_pos rfl]
 have cf:(moveH x t f).c f=mvC t:=by rw[hc,if_pos rfl]
 have co:∀q,q≠f→q≠t→(moveH x t f).c q=x.c q:=fun q a b=>by rw[hc,if_neg a,if_neg b]
 have sw:∀y:Wd,y.k=2→MayMark x y→tgt (moveH x t f) y=if tgt x y=f then t else tgt x y:=fun y hk my=>by
  obtain⟨_,a0,a1,_,gd⟩:=my hk;have gs:=gd.2.1;unfold tgt at gs ⊢;by_cases a:y.a.toNat=f
  ·rw[a,lead_yes (by rw[cf];rfl),cf,lead_no (by rw[h1];omega),if_pos rfl];simp [mvC]
  ·by_cases b:y.a.toNat=t
   ·rw[b,lead_no (by rw[h0];omega),h0] at gs;omega
   ·by_cases e:(x.c y.a.toNat).st=2
    ·have m:=s.moved_to (by omega) e;rw[lead_yes (by rw[co _ a b];exact e),co _ a b,lead_yes e,if_neg (fun h=>m.2.2.2 hp t (by omega) h0)]
    ·rw[lead_no (by rw[co _ a b];exact e),lead_no e,if_neg a]
 have rw1:∀k (h:k<x.regs.length) (h':k<(moveH x t f).regs.length),(moveH x t f).regs[k]=mvW t f x.regs[k]:=fun k h h'=>by simp [moveH]
 have ci:∀i,Good x i→(moveH x t f).c (if i=f then t else i)=x.c i:=fun i gi=>by
  by_cases e:i=f
  ·rw[if_pos e,ct,e]
  ·rw[if_neg e,co i e (fun h=>by have:=gi.2.1;rw[h,h0] at this;omega)]
 refine⟨by simp [moveH],fun k h h'=>?_,fun i gi=>?_,fun i p gi hp=>?_,fun i p gi hp=>?_,fun j gj=>?_,fun i gi=>by rw[ci i gi],fun i j gi gj e=>?_⟩
 ·rw[rw1 k h h'];have ld:=s.r4.1 k h;unfold mvW;by_cases e:x.regs[k].k=2∧x.regs[k].a=(f:Int)
  ·rw[if_pos e];refine⟨e.1.symm,fun _=>?_⟩;have e2:x.regs[k].a.toNat=f:=by rw[e.2];simp
   unfold tgt;rw[e2,lead_no (x:=x) (by rw[h1];omega),if_pos rfl];show lead2 (moveH x t f) (t:Int).toNat=t;rw[Int.toNat_natCast,lead_no (by rw[ct,h1];omega)]
  ·rw[if_neg e];exact⟨rfl,fun hk=>sw _ hk (may_reg s.r2 s.r4 k h)⟩
 ·rw[ci i gi];refine⟨gi.2.1,?_,rfl,rfl⟩;have:=gi.1;simp only [moveH,List.length_set]
  split <;> omega
 ·rw[ci i gi];exact⟨rfl,fun e=>sw _ e (may_pair s.r2 s.r4 i p gi hp).1⟩
 ·rw[ci i gi];exact⟨rfl,fun e=>sw _ e (may_pair s.r2 s.r4 i p gi hp).2⟩
 ·have h1':=gj.2.1;have hl:j<x.cells.length:=by have:=gj.1;simpa [moveH] using this
  by_cases e:j=f
  ·rw[e,cf] at h1';simp [mvC] at h1'
  ·by_cases b:j=t
   ·exact⟨f,⟨hf,h1,nd f⟩,by rw[if_pos rfl];exact b⟩
   ·rw[co j e b] at h1';exact⟨j,⟨hl,h1',nd j⟩,by rw[if_neg e]⟩
 ·have n:∀i,Good x i→i≠t:=fun i g h=>by have:=g.2.1;rw[h,h0] at this;omega
  have:=n i gi;have:=n j gj
  split at e <;> split at e <;> omega
theorem OnlyN.meet{x:Hp}{Mt Mt' St St':List Nat}{i:Nat}(h:OnlyN x Mt)(hi:Reached x i)(a:(i∈Mt∧Mt'=Mt∧St'=St)∨(¬i∈Mt∧Mt'=Mt++[i]∧St'=St++[i])):OnlyN x Mt'∧(∀j,j∈Mt→j∈Mt')∧i∈Mt'∧((∀i,i∈Mt→i∈St)→(∀i,i∈Mt'→i∈St')):=by
 rcases a with⟨m,rfl,rfl⟩ | ⟨m,rfl,rfl⟩
 ·exact⟨h,fun j hj=>hj,m,fun q=>q⟩
 ·refine⟨fun j hj=>?_,fun j hj=>List.mem_append_left _ hj,by simp,fun q j hj=>?_⟩
  ·rcases List.mem_append.1 hj with q | q
   ·exact h j q
   ·simp at q;rw[q];exact hi
  ·rcases List.mem_append.1 hj with r | r
   ·exact List.mem_append_left _ (q j r)
   ·exact List.mem_append_right _ r
def Cur(x:Hp)(n:Nat)(t:Value)(bn on gk:Nat)(Mt St:List Nat):Prop:=(t=.pointer none∧St=[]∧InvR x Mt [] none)∨∃j,t=ptr bn (on+j*2)∧j∈Mt∧InvR x Mt St (some j)∧2*(n-Mt.length)+St.length+1≤gk
theorem reached_any(x:Hp)(b:Nat)(w:World){ar:Option Addr}{kr:Nat}{ac:Nat→Option Addr}{kn:Nat}(bn on:Nat)(h:VNt w b x ar kr ac (some ⟨bn,on,none⟩) kn)(r2:R2 x)(r4:R4 x)(hn8:x.cells.length≤8000)(h200:∀i,i<x.cells.length→(x.c i).prs.length≤200)
  (hsp:∀w1,VNt w1 b x ar kr ac (some ⟨bn,on,none⟩) kn→Calls Tryz.prog 102 #[.pointer (some ⟨b,0,none⟩)] w1 fun e w'=>∃(g:Option Addr) (cap:Nat) (Ls:List Nat),Hid (e=.returned (.slice g Ls.length cap))∧Hid (SpAns x w1 w' g bn on Ls)∧Ext w1 w') :
  Calls Tryz.prog 71 #[.pointer (some ⟨b,0,none⟩)] w fun e w'=>e=.returned (Value.map (some w.heap.size))∧∃Mt:List Nat,MapAt w' w.heap.size bn (Mt.map (fun i=>on+i*2))∧w.heap.size<w'.heap.size∧Hid (∀i,i∈Mt↔Reached x i)∧Ext w w':=by
 have HV:=hide h;have Q2:=hide r2;have Q4:=hide r4;have SP:=hide hsp;clear h r2 r4 hsp;go_enter Tryz.func71,Tryz.ntmps71;go_wp2_with fail;refine(walk_any x b _ bn on (unhide HV) (unhide Q2) (unhide Q4) hn8).mono ?_;rintro e w1 ⟨rfl,v1,M1,S1,hw1,i1,x1⟩;have W1:=hide hw1;clear hw1;go_wp2_with fail;refine((unhide SP) _ ((unhide HV).ext x1)).mono ?_;rintro e w2 ⟨g,cap,Ls,rfl,hans,x12⟩;have x2:=x1.trans x12;have A0:=hide (And.intro ((unhide W1).ext x12) ((unhide hans).at (unhide W1)));have hLs:Ls.length≤8000:=(unhide hans).2.1;have LI:=hide (unhide hans).2.2;clear W1 hans x12;go_wp2_with fail;go_loopw [14] (fun i wr=>∃(k:Nat) (v:Value) (Mt St:List Nat),k≤Ls.length∧i=.int .i64 k∧WkAt wr w.heap.size (w.heap.size+2) b w.heap.size bn on x.cells.length v Mt St∧Hid (OnlyN x Mt∧RegsN x x.regs.length Mt∧(∀i,i∈Mt→i∈St)∧∀j (h:j<Ls.length),j<k→Ls[j]∈Mt)∧Hid (SpAt wr g (w.heap.size+2) w.heap.size v bn on Ls)∧Ext w wr) (fun i _=>Ls.length-(intOf i).toNat)
 case atStart=>exact⟨0,v1,M1,S1,Nat.zero_le _,rfl,(unhide A0).1,⟨(unhide i1).1,(unhide i1).2.1,(unhide i1).2.2,fun j _ hj=>by omega⟩,(unhide A0).2,x2⟩
 case round=>
  clear A0 i1 x1 x2;obtain⟨k,v,Mt,St,hk,rfl,hw,hinv,hsa,hbl⟩:=hrel;have HW:=hide hw;clear hw;by_cases hlt:k<Ls.length
  ·obtain⟨gb,go,hg,gc,g1,g2,g3⟩:=unhide hsa k hlt;subst hg;have hk0:(0:Int)≤(k:Int):=by omega
   have hk1:(k:Int)<(Ls.length:Int):=by omega
   have HI:=hide ((unhide LI Ls[k]).1 (List.getElem_mem hlt));clear g1 g2 g3;go_wp2_with fail;refine(meet_any w.heap.size (w.heap.size+2) b w.heap.size bn on x.cells.length Ls[k] v Mt St _ (unhide HW) (unhide HI).1 hbl.size hn8).mono ?_;rintro e w3 ⟨rfl,v',M',S',hw3,ha,hkf⟩
   have R:=hide (show WkAt w3 w.heap.size (w.heap.size+2) b w.heap.size bn on x.cells.length v' M' S'∧(OnlyN x M'∧RegsN x x.regs.length M'∧(∀i,i∈M'→i∈S')∧∀j (h:j<Ls.length),j<k+1→Ls[j]∈M')∧SpAt w3 (some ⟨gb,go,none⟩) (w.heap.size+2) w.heap.size v' bn on Ls∧Ext w w3 from by
    have hq:=(unhide hinv).1.meet (Reached.last Ls[k] (unhide HI).1 (speaks_used (unhide Q2) _ (unhide HI).1 (unhide HI).2) (unhide HI).2) (unhide ha);refine⟨hw3,⟨hq.1,fun j hj hjk e=>hq.2.1 _ ((unhide hinv).2.1 j hj hjk e),hq.2.2.2 (unhide hinv).2.2.1,fun j hj hjk=>?_⟩,(unhide hsa).step hkf,(unhide HW).kext hkf hbl⟩;by_cases q:j=k
    ·subst q;exact hq.2.2.1
    ·exact hq.2.1 _ ((unhide hinv).2.2.2 j hj (by omega)))
   clear hw3 ha hkf gc;go_wp2_with fail;go_roundw
   case rel=>exact⟨k+1,v',M',S',by omega,by go_num,(unhide R).1,(unhide R).2.1,(unhide R).2.2.1,(unhide R).2.2.2⟩
   case measure=>simp [intOf];omega
  ·have hk2:k=Ls.length:=by omega
   have I0:=hide (show InvR x Mt St none from⟨(unhide hinv).1,(unhide hinv).2.1,fun i hi hs=>by
    obtain⟨j,hj,e⟩:=List.getElem_of_mem ((unhide LI i).2 ⟨hi,hs⟩);have:=(unhide hinv).2.2.2 j hj (by omega);rw[e] at this;exact this,fun i hi=>.inl ((unhide hinv).2.2.1 i hi)⟩)
   clear hinv hsa LI hk2;go_wp2_with fail;refine(next_any w.heap.size (w.heap.size+2) b w.heap.size bn on x.cells.length v Mt St _ (unhide HW) hn8).mono ?_;rintro e w3 ⟨t,v3,S3,rfl,hw3,ht,hkf⟩;have hle:=(unhide HW).len
   have R:=hide (show WkAt w3 w.heap.size (w.heap.size+2) b w.heap.size bn on x.cells.length v3 Mt S3∧Cur x x.cells.length t bn on (3*x.cells.length+1) Mt S3∧Ext w w3 from by
    refine⟨hw3,?_,(unhide HW).kext hkf hbl⟩;rcases unhide ht with⟨e,e1,e2⟩ | ⟨j,e,e1⟩
    ·have:=unhide I0;rw[e1] at this;exact .inl ⟨e,e2,this⟩
    ·have hI:=unhide I0;rw[e1] at hI;have hl:=hw3.len;exact .inr ⟨j,e,(unhide HW).sub j (by rw[e1];simp),hI.take,by omega⟩)
   clear hw3 ht hkf HW I0 hle hbl;go_wp2_with fail
   go_loopg [6] (3*x.cells.length+1) (fun gk t wr=>∃(v:Value) (Mt St:List Nat),WkAt wr w.heap.size (w.heap.size+2) b w.heap.size bn on x.cells.length v Mt St∧Hid (Cur x x.cells.length t bn on gk Mt St)∧Ext w wr)
   case atStart=>exact⟨v3,Mt,S3,(unhide R).1,(unhide R).2.1,(unhide R).2.2⟩
   case round=>
    clear R;obtain⟨v,Mt,St,hw,hcur,hbl⟩:=hrel;have HW:=hide hw;rcases unhide hcur with⟨rfl,rfl,hI⟩ | ⟨j,rfl,hj,hI,hgk⟩
    ·have c1:=hw.c1;have F:=hide (And.intro hw.m (And.intro hw.rlt.2 hI.done));clear hw hcur hI;go_wp2_with fail;go_ret;exact⟨rfl,Mt,(unhide F).1,(unhide F).2.1,(unhide F).2.2,hbl⟩
    ·have hjn:j<x.cells.length:=hw.rg j hj;have GD:=hide ((hI.only j hj).good (unhide Q2) (unhide Q4));have RJ:=hide (hI.only j hj);obtain⟨bc,oc,ap,kp,e1,C⟩:=(unhide HV).H.cell j hjn;obtain⟨bn',on',bc',oc',e2,e3,m0,m1'⟩:=(unhide HV).N j hjn;rw[e1] at e3;cases e2;cases e3;have p7:=hbl.keep C.p7;have m1:=hbl.keep m1';have lp:=C.lp;have h2:=h200 j hjn;have HP:=hide C.P;have I1:=hide (And.intro hI hgk);have B0:=hide hbl;obtain⟨WO,hWO⟩:∃W,W=wr:=⟨_,rfl⟩;subst hWO;clear C m0 m1' hw hcur hI hgk e1 hbl;go_wp2_with fail;go_loopw [36] (fun i wi=>∃(l:Nat) (v:Value) (Mt St:List Nat),l≤(x.c j).prs.length∧i=.int .i64 l∧WkAt wi w.heap.size (w.heap.size+2) b w.heap.size bn on x.cells.length v Mt St∧Hid (InvR x Mt St (some j)∧ClosedToN x Mt j l∧2*(x.cells.length-Mt.length)+St.length+1≤gk)∧Ext w wi) (fun i _=>(x.c j).prs.length-(intOf i).toNat)
     case atStart=>exact⟨0,v,Mt,St,Nat.zero_le _,rfl,unhide HW,⟨(unhide I1).1,(fun p _ h=>by omega),(unhide I1).2⟩,unhide B0⟩
     case round=>
      clear HW I1 B0 p7 m1 hj;clear v Mt St;obtain⟨l,v,Mt,St,hl,rfl,hw,hinv,hbl⟩:=hrel;have HW:=hide hw;clear hw;by_cases hl2:l<(x.c j).prs.length
      ·obtain⟨b2,o2,rfl,q0,q1,q2,q3,q4,q5⟩:=unhide HP l hl2;have e0:=hbl.keep q0;have e1:=hbl.keep q1;have e2:=hbl.keep q2;have e3:=hbl.keep q3;have e4:=hbl.keep q4;have e5:=hbl.keep q5;have hb2:b2<wr.heap.size:=cell_lt e0;clear q0 q1 q2 q3 q4 q5;have hl0:(0:Int)≤(l:Int):=by omega
       have hl1:(l:Int)<((x.c j).prs.length:Int):=by omega
       have xa:=(Ext.refl wr).alloc (.cells #[.int .i64 ((x.c j).p l).key.k,.int .i64 ((x.c j).p l).key.n,.int .i64 ((x.c j).p l).key.a,.int .i64 ((x.c j).p l).val.k,.int .i64 ((x.c j).p l).val.n,.int .i64 ((x.c j).p l).val.a] 154);have MK:=hide (may_pair (unhide Q2) (unhide Q4) j l (unhide GD) hl2);go_wp2_with fail;refine(follow_any x ((x.c j).p l).key b _ bn on ((unhide HV).ext (hbl.trans xa)).f (unhide Q2) (unhide MK).1).mono ?_;rintro e w2 ⟨t2,rfl,ht2,hq2⟩;have x2:=xa.trans hq2;have HT:=hide ht2;have u:=fun(o:Nat) (v:Value) (hc:(wr.alloc (.cells #[.int .i64 ((x.c j).p l).key.k,.int .i64 ((x.c j).p l).key.n,.int .i64 ((x.c j).p l).key.a,.int .i64 ((x.c j).p l).val.k,.int .i64 ((x.c j).p l).val.n,.int .i64 ((x.c j).p l).val.a] 154)).cell? ⟨wr.heap.size,o,none⟩=some v)=>hq2.keep hc
       have u3:=u 3 _ (by simp [go_sem];rfl);have u4:=u 4 _ (by simp [go_sem];rfl);have u5:=u 5 _ (by simp [go_sem];rfl);clear u ht2 e0 e1 e2 e3 e4 e5 hq2;go_wp2_with fail;refine(meet_word x ((x.c j).p l).key w.heap.size (w.heap.size+2) b w.heap.size bn on t2 v Mt St _ ((unhide HW).ext x2) (unhide MK).1 (unhide HT) (hbl.trans x2).size hn8).mono ?_;rintro e w3 ⟨rfl,v3,M3,S3,hw3,ha3,hk3⟩;have hlt2:wr.heap.size<w2.heap.size:=cell_lt u3
       have sep:wr.heap.size≠w.heap.size+2∧wr.heap.size≠w.heap.size∧v.ownBlock≠some wr.heap.size:=by
        have:=(unhide HW).rlt;exact⟨by omega,by omega,fun e=>by have:=((unhide HW).s.lt _ e).2;omega⟩
       have kb:=hk3.block wr.heap.size hlt2 sep.1 sep.2.1 sep.2.2;have y3:=(World.cell?_of_block (a:=⟨wr.heap.size,3,none⟩) kb).trans u3;have y4:=(World.cell?_of_block (a:=⟨wr.heap.size,4,none⟩) kb).trans u4;have y5:=(World.cell?_of_block (a:=⟨wr.heap.size,5,none⟩) kb).trans u5;have B3:=((unhide HW).ext x2).kext hk3 (hbl.trans x2);have W3:=hide hw3;have A3:=hide (And.intro ((unhide hinv).1.add (unhide ha3) (fun e=>Reached.key j l (unhide RJ) hl2 e)) (And.intro ((unhide hinv).2.1.sub (unhide ha3).sub.1) (And.intro ((unhide ha3).has) (show 2*(x.cells.length-M3.length)+S3.length+1≤gk by have:=(unhide ha3).weigh;have:=(unhide hinv).2.2;have:=hw3.len;omega))));clear hw3 ha3 hk3 u3 u4 u5 kb sep hlt2 hinv HW HT x2 xa;go_wp2_with fail;refine(follow_any x ((x.c j).p l).val b _ bn on ((unhide HV).ext B3).f (unhide Q2) (unhide MK).2).mono ?_;rintro e w4 ⟨t4,rfl,ht4,hq4⟩;have HT:=hide ht4;clear ht4;go_wp2_with fail;refine(meet_word x ((x.c j).p l).val w.heap.size (w.heap.size+2) b w.heap.size bn on t4 v3 M3 S3 _ ((unhide W3).ext hq4) (unhide MK).2 (unhide HT) (B3.trans hq4).size hn8).mono ?_;rintro e w5 ⟨rfl,v5,M5,S5,hw5,ha5,hk5⟩;have B5:=((unhide W3).ext hq4).kext hk5 (B3.trans hq4);have W5:=hide hw5
       have A5:=hide (show InvR x M5 S5 (some j)∧ClosedToN x M5 j (l+1)∧2*(x.cells.length-M5.length)+S5.length+1≤gk from
        ⟨(unhide A3).1.add (unhide ha5) (fun e=>Reached.val j l (unhide RJ) hl2 e),fun p hp hpl=>by
         by_cases q:p=l
         ·subst q;exact⟨fun e=>(unhide ha5).sub.1 _ ((unhide A3).2.2.1 e),(unhide ha5).has⟩
         ·exact((unhide A3).2.1.sub (unhide ha5).sub.1) p hp (by omega),by have:=(unhide ha5).weigh;have:=(unhide A3).2.2.2;have:=hw5.len;omega⟩)
       clear hw5 ha5 hk5 y3 y4 y5 A3 W3 hq4 B3 HT;go_wp2_with fail;go_roundw
       case rel=>exact⟨l+1,v5,M5,S5,by omega,by go_num,unhide W5,unhide A5,B5⟩
       case measure=>simp [intOf];omega
      ·have hl3:l=(x.c j).prs.length:=by omega
       have I2:=hide (And.intro ((unhide hinv).1.shut (by have:=(unhide hinv).2.1;rw[hl3] at this;exact this)) (unhide hinv).2.2);clear hl3 hinv;go_wp2_with fail;refine(next_any w.heap.size (w.heap.size+2) b w.heap.size bn on x.cells.length v Mt St _ (unhide HW) hn8).mono ?_;rintro e w3 ⟨t,v3,S3,rfl,hw3,ht,hkf⟩;obtain⟨gk',hgk⟩:∃g,gk=g+1:=⟨gk-1,by have:=(unhide I2).2;omega⟩
       have R:=hide (show WkAt w3 w.heap.size (w.heap.size+2) b w.heap.size bn on x.cells.length v3 Mt S3∧Cur x x.cells.length t bn on gk' Mt S3∧Ext w w3 from by
        refine⟨hw3,?_,(unhide HW).kext hkf hbl⟩;have hI:=unhide I2;rcases unhide ht with⟨e,e1,e2⟩ | ⟨j,e,e1⟩
        ·rw[e1] at hI;exact .inl ⟨e,e2,hI.1⟩
        ·have hm:j∈Mt:=(unhide HW).sub j (by rw[e1];simp);rw[e1] at hI;have hl:=hI.2;simp only [List.length_append,List.length_singleton] at hl;exact .inr ⟨j,e,hm,hI.1.take,by omega⟩)
       have G:=hide hgk;clear hw3 ht hkf HW I2 hbl hgk;go_wp2_with fail
       go_roundg gk'
       case measure=>have:=unhide G;omega
       case rel=>exact⟨v3,Mt,S3,(unhide R).1,(unhide R).2.1,(unhide R).2.2⟩
theorem marking_is(x:Hp)(b:Nat)(s:Bool)(hs:markingB x=s)(w:World)(c5:w.cell? ⟨b,5,none⟩=some (iv x.phase)):
  Calls Tryz.prog 145 #[.pointer (some ⟨b,0,none⟩)] w fun e w'=>e=.returned (.bool s)∧w'=w:=by
 rw[←hs];exact marking_any x b w c5
def mayBlackB(x:Hp)(i:Nat):Bool:=markingB x || ((x.phase == 3) && decide (x.hand≤(i:Int)))
theorem mayBeBlack_any(x:Hp)(b bn q i:Nat)(w:World)(c5:w.cell? ⟨b,5,none⟩=some (iv x.phase))(c6:w.cell? ⟨b,6,none⟩=some (iv x.hand))(m0:w.cell? ⟨bn,q,none⟩=some (iv i)):
  Calls Tryz.prog 180 #[.pointer (some ⟨b,0,none⟩),.pointer (some ⟨bn,q,none⟩)] w fun e w'=>e=.returned (.bool (mayBlackB x i))∧Ext w w':=by
 have HM:=hide (fun n s (hs:markingB x=s)=>marking_is x b s hs (w.drewN n) (((Ext.refl w).drewN n).keep c5));cases t1:markingB x
 ·cases t2:(x.phase == 3)
  ·have E:=hide (show mayBlackB x i=false by simp [mayBlackB,t1,t2]);go_enter Tryz.func180,Tryz.ntmps180;go_wp2_with fail;go_quiet ((go_at_call 145;exact Calls.quiet_of_same (unhide HM _ _ t1)));go_wp2_with fail;go_ret;exact⟨by rw[unhide E];rfl,(Ext.refl w).drewN _⟩
  ·by_cases t3:x.hand≤(i:Int)
   ·have E:=hide (show mayBlackB x i=true by simp [mayBlackB,t2,t3]);go_enter Tryz.func180,Tryz.ntmps180;go_wp2_with fail;go_quiet ((go_at_call 145;exact Calls.quiet_of_same (unhide HM _ _ t1)));go_wp2_with fail;go_ret;exact⟨by rw[unhide E];rfl,(Ext.refl w).drewN _⟩
   ·have E:=hide (show mayBlackB x i=false by simp [mayBlackB,t1];omega);have t3b:decide (x.hand≤(i:Int))=false:=decide_eq_false t3;clear t3;go_enter Tryz.func180,Tryz.ntmps180;go_wp2_with fail;go_quiet ((go_at_call 145;exact Calls.quiet_of_same (unhide HM _ _ t1)));go_wp2_with fail;go_ret;exact⟨by rw[unhide E];rfl,(Ext.refl w).drewN _⟩
 ·have E:=hide (show mayBlackB x i=true by simp [mayBlackB,t1]);go_enter Tryz.func180,Tryz.ntmps180;go_wp2_with fail;go_quiet ((go_at_call 145;exact Calls.quiet_of_same (unhide HM _ _ t1)));go_wp2_with fail;go_ret;exact⟨by rw[unhide E];rfl,(Ext.refl w).drewN _⟩
theorem Snd.scan{x:Hp}(h:Snd x)(q:Nat)(hs:scanI x=(q:Int)):x.sub≤(x.c q).prs.length:=by
 have h8:=h.r6;unfold scanI at hs
 split at hs
 ·rename_i e;have e8:=(h8.2.1 e.1).2.2 (by omega);have:x.g0=q:=by unfold Hp.g0;rw[hs];rfl
  rw[this] at e8;exact e8
 ·split at hs
  ·rename_i e;have a:=h8.2.2.1 e.1;have hq:x.hand.toNat=q:=by omega
   by_cases hc:(x.c x.hand.toNat).st=1
   ·have:=a.2 ⟨by omega,hc⟩;rw[hq] at this;exact this
   ·have:=a.1 (.inr hc);omega
  ·omega
theorem Thin.self{x:Hp}(h:Snd x)(i:Nat)(c:Cl)(hi:i<x.cells.length)(s1:(x.c i).st=1)(e:c.st=(x.c i).st∧c.kind=(x.c i).kind∧c.born=(x.c i).born∧c.color=(x.c i).color∧c.to=(x.c i).to)(hp:c.prs=(x.c i).prs)(wk:c.weak=(x.c i).weak∨(0≤c.weak∧c.weak≤3))(la:c.last=(x.c i).last∨(0≤c.last∧c.last≤3))(sp:Speaks c→Speaks (x.c i)):Thin x (setcH x i c) where
 hl:=setcH_len x i c
 rest:=RestH.refl _
 c:=fun q=>by rw[setcH_c x i c hi q];split;(· rename_i t;rw[t];exact e);(· exact⟨rfl,rfl,rfl,rfl,rfl⟩)
 wk:=fun q=>by rw[setcH_c x i c hi q];split;(· rename_i t;rw[t];exact wk.imp id (fun u=>⟨s1,u⟩));(· exact .inl rfl)
 la:=fun q=>by rw[setcH_c x i c hi q];split;(· rename_i t;rw[t];exact la.imp id (fun u=>⟨s1,u⟩));(· exact .inl rfl)
 sp:=fun q=>by rw[setcH_c x i c hi q];split;(· rename_i t;rw[t];exact sp);(· exact id)
 p:=fun q hq k hk=>by
  rw[setcH_c x i c hi q] at hk ⊢
  split at hk
  ·rename_i t;rw[if_pos t,t];exact⟨k,by rw[←hp];exact hk,by unfold Cl.p;rw[hp],fun _=>Iff.rfl⟩
  ·rename_i t;rw[if_neg t];exact⟨k,hk,rfl,fun _=>Iff.rfl⟩
 le:=fun q hq=>by rw[setcH_c x i c hi q];split;(· rename_i t;rw[t,hp];exact Nat.le_refl _);(· exact Nat.le_refl _)
 us:=by
  have u:units (setcH x i c).cells=units x.cells:=units_set x.cells i c hi (by rw[Hp.c_eq x i hi];unfold unitsOf;rw[e.1,hp]);rw[u];exact h.r3.1
 ul:=Int.le_refl _
 s0:=⟨h.r1.sub.1,Int.le_refl _⟩
 s1:=fun q hq hs=>by
  have k:=h.scan q hs;rw[setcH_c x i c hi q];split
  ·rename_i t;rw[hp,←t];exact k
  ·exact k
theorem Snd.weakT{x:Hp}(h:Snd x)(i:Nat)(hi:i<x.cells.length)(s1:(x.c i).st=1)(n:Int)(hn:0≤n∧n≤3):Snd (setcH x i (weakC (x.c i) n)):=
 h.thin (Thin.self h i _ hi s1 ⟨rfl,rfl,rfl,rfl,rfl⟩ rfl (.inr hn) (.inl rfl) id)
theorem Snd.lastT{x:Hp}(h:Snd x)(i:Nat)(hi:i<x.cells.length)(s1:(x.c i).st=1)(n:Int)(hn:n=0∨n=3):Snd (setcH x i (lastC (x.c i) n)):=
 h.thin (Thin.self h i _ hi s1 ⟨rfl,rfl,rfl,rfl,rfl⟩ rfl (.inl rfl) (.inr ⟨by show 0≤n;omega,by show n≤3;omega⟩) (fun s=>by have s2:n=1∨n=2:=s;omega))
theorem ovr_cell{x y:Hp}(i0:Nat)(hr:y.regs=x.regs)(hl:∀i,Good x i→i<y.cells.length)(hb:∀j,Good y j→Good x j)(hc:∀i,i≠i0→Good x i→y.c i=x.c i)
  (c0:Good x i0→(y.c i0).st=1∧(y.c i0).last=(x.c i0).last∧(y.c i0).prs.length=(x.c i0).prs.length∧(y.c i0).weak=(x.c i0).weak)
  (tr:∀k (h:k<x.regs.length),x.regs[k].k=2→tgt y x.regs[k]=tgt x x.regs[k])
  (tp:∀i p,i≠i0→Good x i→p<(x.c i).prs.length→(((x.c i).p p).key.k=2→tgt y ((x.c i).p p).key=tgt x ((x.c i).p p).key)∧(((x.c i).p p).val.k=2→tgt y ((x.c i).p p).val=tgt x ((x.c i).p p).val))
  (t0:∀p,Good x i0→p<(x.c i0).prs.length→(((y.c i0).p p).key.k=((x.c i0).p p).key.k∧(((x.c i0).p p).key.k=2→tgt y ((y.c i0).p p).key=tgt x ((x.c i0).p p).key))∧(((y.c i0).p p).val.k=((x.c i0).p p).val.k∧(((x.c i0).p p).val.k=2→tgt y ((y.c i0).p p).val=tgt x ((x.c i0).p p).val))):Ovr x y (fun i=>i) where
 rl:=by rw[hr]
 rg:=fun k h h'=>by
  have e:y.regs[k]=x.regs[k]:=by simp only [hr]
  rw[e];exact⟨rfl,tr k h⟩
 g:=fun i gi=>by
  by_cases e:i=i0
  ·subst e;have:=c0 gi;exact⟨this.1,hl _ gi,this.2.1,this.2.2.1⟩
  ·rw[hc i e gi];exact⟨gi.2.1,hl _ gi,rfl,rfl⟩
 ky:=fun i p gi hp=>by
  by_cases e:i=i0
  ·subst e;exact(t0 p gi hp).1
  ·rw[hc i e gi];exact⟨rfl,(tp i p e gi hp).1⟩
 vl:=fun i p gi hp=>by
  by_cases e:i=i0
  ·subst e;exact(t0 p gi hp).2
  ·rw[hc i e gi];exact⟨rfl,(tp i p e gi hp).2⟩
 b:=fun j gj=>⟨j,hb j gj,rfl⟩
 wk:=fun i gi=>by
  by_cases e:i=i0
  ·subst e;exact(c0 gi).2.2.2
  ·rw[hc i e gi]
 ij:=fun _ _ _ _ h=>h
theorem Snd.o5{x:Hp}(s:Snd x)(hp:x.phase=5):Ovr x (unit5 x) (fun i=>i)∧((unit5 x).phase=5∨(unit5 x).phase=6)∧(∀q,((unit5 x).c q).st=(x.c q).st)∧(unit5 x).cells.length=x.cells.length∧((unit5 x).phase=6→(unit5 x).hand=x.cells.length):=by
 have hh:=s.r1.hand;have hsb:=s.r1.sub;unfold unit5
 split
 ·exact⟨ovr_turn (by omega) 6 x.cells.length 0 x.rounds,.inr rfl,fun _=>rfl,rfl,fun _=>rfl⟩
 ·rename_i ne
  split
  ·rename_i hlt;obtain⟨i,hi⟩:∃i,i=x.hand.toNat:=⟨_,rfl⟩;obtain⟨k,hk⟩:∃k,k=x.sub.toNat:=⟨_,rfl⟩;rw[←hi] at hlt ⊢;rw[←hk];have hil:i<x.cells.length:=by omega
   have hkl:k<(x.c i).prs.length:=by omega
   have hst:(x.c i).st=1:=by
    rcases s.r2.1 i hil with⟨_,b,_⟩ | ⟨_,b⟩ | ⟨a,_⟩
    ·have:=b.2.2.2.2.2;omega
    ·have:=b.1.2.2.2.2.2;omega
    ·exact a
   have nd:∀q,¬Doomed x q:=fun q d=>by have:=d.1;omega
   obtain⟨y,hy⟩:∃y:Hp,y={ x with cells:=x.cells.set i (mendC x (x.c i) k),sub:=x.sub+1 }:=⟨_,rfl⟩;have hc:∀q,y.c q=if q=i∧i<x.cells.length then mendC x (x.c i) k else x.c q:=fun q=>by rw[hy];exact cs_set _ _ _ _
   have yr:y.regs=x.regs:=by rw[hy]
   have yl:y.cells.length=x.cells.length:=by rw[hy];simp
   have yp:y.phase=x.phase:=by rw[hy]
   rw[←hy];clear hy;have ci:y.c i=mendC x (x.c i) k:=by rw[hc,if_pos ⟨rfl,hil⟩]
   have co:∀q,q≠i→y.c q=x.c q:=fun q h=>by rw[hc,if_neg (fun e=>h e.1)]
   have st:∀q,(y.c q).st=(x.c q).st:=fun q=>by
    by_cases e:q=i
    ·rw[e,ci];rfl
    ·rw[co q e]
   have tz:∀q,(y.c q).to=(x.c q).to:=fun q=>by
    by_cases e:q=i
    ·rw[e,ci];rfl
    ·rw[co q e]
   have tg:∀u,tgt y u=tgt x u:=fun u=>by unfold tgt lead2;rw[st,tz]
   have rs:∀u:Wd,MayMark x u→(resW x u).k=u.k∧(u.k=2→tgt x (resW x u)=tgt x u):=fun u mu=>by
    unfold resW;by_cases e:u.k=2∧(x.c u.a.toNat).st=2
    ·rw[if_pos e];obtain⟨_,a0,a1,_,gd⟩:=mu e.1;refine⟨e.1.symm,fun _=>?_⟩;have m:=s.moved_to (i:=u.a.toNat) (by omega) e.2;unfold tgt;rw[lead_yes e.2,lead_no (by show(x.c (x.c u.a.toNat).to.toNat).st≠2;omega)]
    ·rw[if_neg e];exact⟨rfl,fun _=>rfl⟩
   have gi:Good x i:=⟨hil,hst,nd i⟩;refine⟨ovr_cell i yr (fun j gj=>by rw[yl];exact gj.1) (fun j gj=>⟨by rw[←yl];exact gj.1,by rw[←st];exact gj.2.1,nd j⟩) (fun j hj _=>co j hj) (fun _=>?_) (fun _ _ _=>tg _) (fun _ _ _ _ _=>⟨fun _=>tg _,fun _=>tg _⟩) (fun p _ hpp=>?_),.inl (by rw[yp];exact hp),st,yl,fun e=>by omega⟩
   ·rw[ci];exact⟨hst,rfl,by simp [mendC],rfl⟩
   ·have mm:=may_pair s.r2 s.r4 i p gi hpp
    have e:(mendC x (x.c i) k).p p=if p=k then ⟨resW x ((x.c i).p k).key,resW x ((x.c i).p k).val⟩ else (x.c i).p p:=by
     unfold mendC Cl.p;simp only [List.getD_eq_getElem?_getD,List.getElem?_set];by_cases e:k=p
     ·subst e;simp [hkl]
     ·simp [e,Ne.symm e]
    rw[ci,e];by_cases q:p=k
    ·rw[if_pos q];subst q;exact⟨⟨(rs _ mm.1).1,fun h=>by rw[tg];exact(rs _ mm.1).2 h⟩,⟨(rs _ mm.2).1,fun h=>by rw[tg];exact(rs _ mm.2).2 h⟩⟩
    ·rw[if_neg q];exact⟨⟨rfl,fun _=>tg _⟩,⟨rfl,fun _=>tg _⟩⟩
  ·exact⟨ovr_turn (by omega) x.phase (x.hand+1) 0 x.rounds,.inl hp,fun _=>rfl,rfl,fun e=>by have e':x.phase=6:=e;omega⟩
theorem tgt_good{x:Hp}{u:Wd}(h:Good1 x u)(hk:u.k=2):tgt x u=u.a.toNat:=by unfold tgt;exact lead_no (by have:=(h hk).2;omega)
theorem Snd.o6{x:Hp}(s:Snd x)(hp:x.phase=6)(i:Nat){y:Hp}(yr:y.regs=x.regs)(yl:∀q,q<x.cells.length→(x.c q).st=1→q<y.cells.length)(yc:∀q,q<y.cells.length→q≠i→y.c q=x.c q)(yi:i<y.cells.length→(x.c i).st=1→y.c i=x.c i)(yn:i<y.cells.length→(x.c i).st≠1→(y.c i).st≠1)(yx:y.cells.length≤x.cells.length):Ovr x y (fun i=>i):=by
 obtain⟨nr,np⟩:=s.noword hp
 have cg:∀q,Good x q→y.c q=x.c q:=fun q g=>by
  have hq:=yl q g.1 g.2.1;by_cases e:q=i
  ·subst e;exact yi hq g.2.1
  ·exact yc q hq e
 have tg:∀u,Good1 x u→u.k=2→tgt y u=tgt x u:=fun u gu hk=>by
  have h:=gu hk;rw[tgt_good gu hk];unfold tgt;rw[lead_no];rw[cg _ ⟨h.1,h.2,fun d=>by have:=d.1;omega⟩];omega
 refine⟨by rw[yr],fun k h h'=>?_,fun q g=>?_,fun q p g hpp=>?_,fun q p g hpp=>?_,fun j g=>⟨j,?_,rfl⟩,fun q g=>by rw[cg q g],fun _ _ _ _ h=>h⟩
 ·have e:y.regs[k]=x.regs[k]:=by simp only [yr]
  rw[e];exact⟨rfl,tg _ (nr k h)⟩
 ·rw[cg q g];exact⟨g.2.1,yl q g.1 g.2.1,rfl,rfl⟩
 ·rw[cg q g];exact⟨rfl,tg _ (np q p g.1 hpp).1⟩
 ·rw[cg q g];exact⟨rfl,tg _ (np q p g.1 hpp).2⟩
 ·have h1:=g.2.1;refine⟨Nat.lt_of_lt_of_le g.1 yx,?_,fun d=>by have:=d.1;omega⟩;by_cases e:j=i
  ·subst e;by_cases u:(x.c j).st=1
   ·exact u
   ·exact(yn g.1 u h1).elim
  ·rw[←yc j g.1 e];exact h1
theorem Snd.reg{x:Hp}(s:Snd x)(f:Nat)(hf:f<16):Leads x (x.r f) False:=by
 have h:=s.r4.1 f (by rw[s.r1.regs];exact hf);rw[Hp.r_eq] at h;exact h
theorem Snd.at{x:Hp}(s:Snd x)(f:Nat)(hf:f<16)(h2:(x.r f).k=2):(x.r f).n=0∧(x.r f).a=(x.at f:Int)∧x.at f<x.cells.length∧(x.c (x.at f)).st=1∧¬Doomed x (x.at f):=by
 have h:=s.reg f hf;have h1:=h.1;unfold Formed at h1;have ha:(x.r f).a=((x.r f).a.toNat:Int):=by omega
 rcases h.2 h2 with o | o
 ·exact o.2.elim
 ·exact⟨by omega,ha,by unfold Hp.at;omega,o.1,o.2⟩
end Go.Proofs.YtddkhnclmeikfaaGreat
