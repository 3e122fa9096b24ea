import Derived.Test.YtddkhnclmeikfaaGreatFm7
set_option maxRecDepth 100000
set_option maxHeartbeats 4000000
namespace Go.Proofs.YtddkhnclmeikfaaGreat
open Go.RowKit
attribute [local go_sem ↓] Go.wp_at_zero Go.wp_at_succ
def tI(T:List (List Pr))(i:Nat):List Pr:=T.getD i []
def rI(g:List Wd)(i:Nat):Wd:=g.getD i Wd0
def pI(l:List Pr)(k:Nat):Pr:=l.getD k Pr0
structure INd(w:World)(N g o pb:Nat)(l:List Pr):Prop where
 lt:g<N∧pb<N
 c0:w.cell? ⟨g,o,none⟩=some (iv 0)
 c1:w.cell? ⟨g,o+1,none⟩=some (iv 0)
 c2:w.cell? ⟨g,o+2,none⟩=some (iv 0)
 c3:w.cell? ⟨g,o+3,none⟩=some (iv 0)
 c4:w.cell? ⟨g,o+4,none⟩=some (.slice (some ⟨pb,0,none⟩) l.length l.length)
 pr:∀k,k<l.length→PrAt w pb (k*6) (pI l k)
structure IR(N:Nat)(w:World)(s:Nat)(R:Int)(g:List Wd)(T:List (List Pr))(br:Nat)(ad:Option Addr)(kt:Nat)(pb:Nat→Nat):Prop where
 lt:s<N∧br<N
 c0:w.cell? ⟨s,0,none⟩=some (iv R)
 c1:w.cell? ⟨s,1,none⟩=some (.slice (some ⟨br,0,none⟩) 16 16)
 c2:w.cell? ⟨s,2,none⟩=some (.slice ad T.length kt)
 rg:∀i,i<16→WdAt w br (i*3) (rI g i)
 th:∀i,i<T.length→∃b,ad=some ⟨b,0,none⟩∧INd w N b (i*5) (pb i) (tI T i)
theorem WdAt.below{N:Nat}{w w':World}(h:Below N w w'){b o:Nat}{x:Wd}(hb:b<N)(q:WdAt w b o x):WdAt w' b o x:=
 ⟨(World.cell?_of_block (a:=⟨b,_,none⟩) (h.block b hb)).trans q.1,(World.cell?_of_block (a:=⟨b,_,none⟩) (h.block b hb)).trans q.2.1,(World.cell?_of_block (a:=⟨b,_,none⟩) (h.block b hb)).trans q.2.2⟩
theorem cell_below{N:Nat}{w w':World}(h:Below N w w'){b:Nat}(hb:b<N){j:Nat}{v:Value}(k:w.cell? ⟨b,j,none⟩=some v):w'.cell? ⟨b,j,none⟩=some v:=(World.cell?_of_block (a:=⟨b,j,none⟩) (h.block b hb)).trans k
theorem PrAt.below{N:Nat}{w w':World}(h:Below N w w'){b o:Nat}{x:Pr}(hb:b<N)(q:PrAt w b o x):PrAt w' b o x:=by
 have e:=fun(j:Nat) (v:Value)=>cell_below h hb (j:=j) (v:=v)
 obtain⟨a0,a1,a2,a3,a4,a5⟩:=q;exact⟨e _ _ a0,e _ _ a1,e _ _ a2,e _ _ a3,e _ _ a4,e _ _ a5⟩
theorem INd.below{N g o pb:Nat}{w w':World}{l:List Pr}(h:INd w N g o pb l)(b:Below N w w'):INd w' N g o pb l:=by
 have e:∀j v,w.cell? ⟨g,j,none⟩=some v→w'.cell? ⟨g,j,none⟩=some v:=fun j v k=>(World.cell?_of_block (a:=⟨g,j,none⟩) (b.block g h.lt.1)).trans k
 exact⟨h.lt,e _ _ h.c0,e _ _ h.c1,e _ _ h.c2,e _ _ h.c3,e _ _ h.c4,fun k hk=>(h.pr k hk).below b h.lt.2⟩
theorem IR.below{N:Nat}{w w':World}{s:Nat}{R:Int}{g:List Wd}{T:List (List Pr)}{br:Nat}{ad:Option Addr}{kt:Nat}{pb:Nat→Nat}(h:IR N w s R g T br ad kt pb)(b:Below N w w'):IR N w' s R g T br ad kt pb:=by
 have e:∀j v,w.cell? ⟨s,j,none⟩=some v→w'.cell? ⟨s,j,none⟩=some v:=fun j v k=>(World.cell?_of_block (a:=⟨s,j,none⟩) (b.block s h.lt.1)).trans k
 exact⟨h.lt,e _ _ h.c0,e _ _ h.c1,e _ _ h.c2,fun i hi=>(h.rg i hi).below b h.lt.2,fun i hi=>let ⟨q,a,k⟩:=h.th i hi;⟨q,a,k.below b⟩⟩
theorem Only.low1{bs N:Nat}{w w':World}(o:Only (fun q=>q=bs) w w')(h1:N≤bs)(h2:N≤w.heap.size):Below N w w':=⟨o.os,o.tape,o.output,o.size,fun k hk=>o.block k (by omega) (by omega)⟩
def fcnt(p:Nat→Bool):Nat→Nat
 | 0=>0
 | k+1=>fcnt p k+(if p k=true then 0 else 1)
def on(p:Nat→Bool)(j:Nat):Nat→Bool:=fun i=>if i=j then true else p i
theorem fcnt_out(p:Nat→Bool)(j:Nat):∀n,n≤j→fcnt (on p j) n=fcnt p n
 | 0,_=>rfl
 | n+1,h=>by
  have q:on p j n=p n:=by unfold on;rw[if_neg (by omega)]
  simp only [fcnt,fcnt_out p j n (by omega),q]
theorem fcnt_on(p:Nat→Bool)(j:Nat)(hj:p j=false):∀n,j<n→fcnt (on p j) n+1=fcnt p n
 | 0,h=>by omega
 | n+1,h=>by
  by_cases e:n=j
  ·subst e;simp only [fcnt,fcnt_out p n n (Nat.le_refl _),hj];simp [on]
  ·have:=fcnt_on p j hj n (by omega);simp only [fcnt];have q:on p j n=p n:=by simp [on,e]
   simp only [q];omega
theorem fcnt_le(p:Nat→Bool):∀n,fcnt p n≤n
 | 0=>Nat.le_refl _
 | n+1=>by have:=fcnt_le p n;simp only [fcnt];split <;> omega
structure Sb(w:World)(bs n:Nat)(p:Nat→Bool):Prop where
 lt:bs<w.heap.size
 nf:∀j,w.frozen? ⟨bs,j,none⟩=false
 c:∀i,i<n→w.cell? ⟨bs,i,none⟩=some (.bool (p i))
theorem Sb.ext{w w':World}{bs n:Nat}{p:Nat→Bool}(h:Sb w bs n p)(e:Ext w w'):Sb w' bs n p:=⟨Nat.lt_of_lt_of_le h.lt e.size,fun j=>((bcell e).2 bs j h.lt).trans (h.nf j),fun i hi=>e.keep (h.c i hi)⟩
theorem Sb.set{w:World}{bs n:Nat}{p:Nat→Bool}(h:Sb w bs n p)(j:Nat)(hj:j<n):Sb (w.setCell ⟨bs,j,none⟩ (.bool true)) bs n (on p j):=by
 refine⟨by simpa using h.lt,fun k=>by rw[World.frozen?_setCell];exact h.nf k,fun i hi=>?_⟩;unfold on;by_cases e:i=j
 ·subst e;rw[if_pos rfl];exact World.cell?_setCell_same _ _ _ (h.c i hi)
 ·rw[if_neg e,cell_other _ (.inr (by omega))];exact h.c i hi
def Kp(T:List (List Pr))(P:Nat→Prop):Prop:=∀i,i<T.length→P i→∀k,k<(tI T i).length→(pI (tI T i) k).key.k≠2∧((pI (tI T i) k).val.k=2→0≤(pI (tI T i) k).val.a∧(pI (tI T i) k).val.a<T.length∧P (pI (tI T i) k).val.a.toNat)
def Qin(n:Nat)(p:Nat→Bool)(P:Nat→Prop):Prop:=∀i,i<n→p i=true→P i
theorem Qin.on{n:Nat}{p:Nat→Bool}{P:Nat→Prop}(h:Qin n p P)(j:Nat)(hj:P j):Qin n (on p j) P:=fun i hi q=>by
 unfold Go.Proofs.YtddkhnclmeikfaaGreat.on at q;by_cases e:i=j
 ·rw[e];exact hj
 ·rw[if_neg e] at q;exact h i hi q
theorem closed_any(N bs s:Nat)(R:Int)(g:List Wd)(T:List (List Pr))(p:Nat→Bool)(P:Nat→Prop)(w:World){br:Nat}{ad:Option Addr}{kt:Nat}{pb:Nat→Nat}(h:IR N w s R g T br ad kt pb)(hN:N≤bs)(sb:Sb w bs T.length p)(hp:Qin T.length p P)(kp:Kp T P)(hT:T.length≤2000)(hl:∀i,i<T.length→(tI T i).length≤200):
  Calls Tryz.prog 238 #[.pointer (some ⟨s,0,none⟩),.slice (some ⟨bs,0,none⟩) T.length T.length,.bool false] w fun e w'=>∃q,Hid (e=.returned (.slice (some ⟨bs,0,none⟩) T.length T.length))∧Hid (Sb w' bs T.length q)∧Hid (Qin T.length q P)∧Hid (Only (fun z=>z=bs) w w'):=by
 have HI:=hide h;have SB:=hide sb;have HP:=hide hp;have KP:=hide kp;have hb:=sb.lt;clear h sb hp kp;go_enter Tryz.func238,Tryz.ntmps238;go_wp2_with fail
 go_loopg [7] (2*T.length+2) (fun gk mo wr=>∃(q:Nat→Bool) (b:Bool),mo=.bool b∧Hid (Sb wr bs T.length q)∧Hid (Qin T.length q P)∧Hid (Only (fun z=>z=bs) w wr)∧Hid (2*fcnt q T.length+(if b=true then 1 else 0)+1≤gk))
 case atStart=>exact⟨p,true,rfl,SB,HP,Only.refl _ _,by have:=fcnt_le p T.length;show _≤_;simp;omega⟩
 case round=>
  clear SB HP;obtain⟨q,b,rfl,SB,HP,OW,GK⟩:=hrel;cases b
  ·go_wp2_with fail;go_ret;exact⟨q,rfl,SB,HP,OW⟩
  ·have WI:=hide ((unhide HI).below ((unhide OW).low1 hN (by omega)));have d2:=(unhide WI).c2;go_wp2_with fail;obtain⟨W1,hW1⟩:∃W,W=wr:=⟨_,rfl⟩;subst hW1;clear d2;go_loopw [7,19] (fun mo i wr2=>∃(k:Nat) (q2:Nat→Bool) (b2:Bool),k≤T.length∧i=.int .i64 k∧mo=.bool b2∧Hid (Sb wr2 bs T.length q2)∧Hid (Qin T.length q2 P)∧Hid (Only (fun z=>z=bs) w wr2)∧Hid (2*fcnt q2 T.length+(if b2=true then 1 else 0)≤2*fcnt q T.length)) (fun _ i _=>T.length-(intOf i).toNat)
   case atStart=>exact⟨0,q,false,Nat.zero_le _,rfl,rfl,SB,HP,OW,by show _≤_;simp⟩
   case round=>
    clear SB HP OW WI;obtain⟨k,q2,b2,hk,rfl,rfl,SB,HP,OW,F2⟩:=hrel;by_cases hlt:k<T.length
    ·have hk0:(0:Int)≤(k:Int):=by omega
     have hk1:(k:Int)<(T.length:Int):=by omega
     have WI:=hide ((unhide HI).below ((unhide OW).low1 hN (by omega)));obtain⟨b5,rfl,nd⟩:=(unhide WI).th k hlt;have ND:=hide nd;have x0:=nd.c0;have x1:=nd.c1;have x2:=nd.c2;have x3:=nd.c3;have x4:=nd.c4;have sc:=(unhide SB).c k hlt;have g5:b5<wr.heap.size:=cell_lt x0;have sl:=(unhide SB).lt;clear nd;have S2:=hide ((unhide SB).ext ((Ext.refl wr).alloc (.cells #[iv 0,iv 0,iv 0,iv 0,.slice (some ⟨pb k,0,none⟩) (tI T k).length (tI T k).length] 99)));have O2:=hide ((unhide OW).trans (Only.of_ext ((Ext.refl wr).alloc (.cells #[iv 0,iv 0,iv 0,iv 0,.slice (some ⟨pb k,0,none⟩) (tI T k).length (tI T k).length] 99))));cases t:q2 k
     ·rw[t] at sc;go_wp2_with fail;go_roundw
      case rel=>exact⟨k+1,q2,b2,by omega,by go_num,rfl,S2,HP,O2,F2⟩
      case measure=>simp [intOf];omega
     ·rw[t] at sc;have KK:=hide (unhide KP k hlt (unhide HP k hlt t));have l2:=hl k hlt;go_wp2_with fail;obtain⟨W2,hW2⟩:∃W,W=wr:=⟨_,rfl⟩;subst hW2;clear x0 x1 x2 x3 x4 sc g5 sl ND;go_loopw [7,32] (fun mo i wr3=>∃(j:Nat) (q3:Nat→Bool) (b3:Bool),j≤(tI T k).length∧i=.int .i64 j∧mo=.bool b3∧Hid (Sb wr3 bs T.length q3)∧Hid (Qin T.length q3 P)∧Hid (Only (fun z=>z=bs) w wr3)∧Hid (2*fcnt q3 T.length+(if b3=true then 1 else 0)≤2*fcnt q T.length)) (fun _ i _=>(tI T k).length-(intOf i).toNat)
      case atStart=>exact⟨0,q2,b2,Nat.zero_le _,rfl,rfl,S2,HP,O2,F2⟩
      case round=>
       clear S2 HP O2 SB OW F2 WI;obtain⟨j,q3,b3,hj,rfl,rfl,SB,HP,OW,F3⟩:=hrel;by_cases hjl:j<(tI T k).length
       ·have hj0:(0:Int)≤(j:Int):=by omega
        have hj1:(j:Int)<((tI T k).length:Int):=by omega
        have WI:=hide ((unhide HI).below ((unhide OW).low1 hN (by omega)));obtain⟨b6,_,nd⟩:=(unhide WI).th k hlt;obtain⟨y0,y1,y2,y3,y4,y5⟩:=nd.pr j hjl;have K:=hide (unhide KK j hjl);obtain⟨pp,hpp⟩:∃z,z=pI (tI T k) j:=⟨_,rfl⟩;rw[←hpp] at y0 y1 y2 y3 y4 y5 K;clear nd hpp KK;have k1:(pp.key.k == 2)=false:=by have:=(unhide K).1;simpa using this
        have k2:(pp.key.k != 2)=true:=by have:=(unhide K).1;simpa using this
        have g6:pb k<wr.heap.size:=cell_lt y0;have sl:=(unhide SB).lt;have S3:=hide ((unhide SB).ext ((Ext.refl wr).alloc (.cells #[iv pp.key.k,iv pp.key.n,iv pp.key.a,iv pp.val.k,iv pp.val.n,iv pp.val.a] 154)));have O3:=hide ((unhide OW).trans (Only.of_ext ((Ext.refl wr).alloc (.cells #[iv pp.key.k,iv pp.key.n,iv pp.key.a,iv pp.val.k,iv pp.val.n,iv pp.val.a] 154))));cases v2:(pp.val.k == 2)
        ·go_wp2_with fail;go_roundw
         case rel=>exact⟨j+1,q3,b3,by omega,by go_num,rfl,S3,HP,O3,F3⟩
         case measure=>simp [intOf];omega
        ·obtain⟨a0,a1,a2⟩:=(unhide K).2 (by simpa using v2);obtain⟨an,han⟩:∃a:Nat,pp.val.a=(a:Int):=⟨pp.val.a.toNat,by omega⟩;rw[han] at a0 a1 a2 y5 S3 O3;rw[Int.toNat_natCast] at a2;have A2:=hide a2;have anl:an<T.length:=by omega
         have sa:=(unhide SB).c an anl;have sf:=(unhide SB).nf an;clear han a2 K;cases ta:q3 an
         ·rw[ta] at sa;have F4:=hide (show 2*fcnt (on q3 an) T.length+1≤2*fcnt q T.length by have:=fcnt_on q3 an ta T.length anl;have:=unhide F3;omega);have H4:=hide ((unhide HP).on an (unhide A2));go_wp2_with fail;go_roundw
          case rel=>exact⟨j+1,on q3 an,true,by omega,by go_num,rfl,((unhide SB).set an anl).ext ((Ext.refl _).alloc _),H4,((unhide OW).setCell (p:=⟨bs,an,none⟩) rfl _).trans (Only.of_ext ((Ext.refl _).alloc _)),F4⟩
          case measure=>simp [intOf];omega
         ·rw[ta] at sa;go_wp2_with fail;go_roundw
          case rel=>exact⟨j+1,q3,b3,by omega,by go_num,rfl,S3,HP,O3,F3⟩
          case measure=>simp [intOf];omega
       ·go_wp2_with fail;go_roundw
        case rel=>exact⟨k+1,q3,b3,by omega,by go_num,rfl,SB,HP,OW,F3⟩
        case measure=>simp [intOf];omega
    ·go_wp2_with fail
     go_roundg (2*fcnt q2 T.length+(if b2=true then 1 else 0)+1)
     case rel=>exact⟨q2,b2,rfl,SB,HP,OW,Nat.le_refl _⟩
     case measure=>have a1:=unhide GK;have a2:=unhide F2;simp at a1;omega
theorem Sb.start(w:World)(n:Nat)(t:TypeId):Sb (w.alloc (.cells (madeCells #[.bool false] n) t)) w.heap.size n (fun _=>false):=by
 have e:(w.alloc (.cells (madeCells #[.bool false] n) t)).heap[w.heap.size]?=some (.cells (madeCells #[.bool false] n) t):=heap_alloc_new w _;refine⟨by simp,fun j=>by simp [go_sem],fun i hi=>?_⟩;rw[cell_of_row _ w.heap.size i _ _ (0,0) e,←Array.getElem?_toList,toList_madeCells_one];simp [hi]
def Rp(g:List Wd)(n:Nat)(P:Nat→Prop):Prop:=∀i,i<16→(rI g i).k=2→0≤(rI g i).a∧(rI g i).a<n∧P (rI g i).a.toNat
theorem seen_any(N s:Nat)(R:Int)(g:List Wd)(T:List (List Pr))(P:Nat→Prop)(w:World){br:Nat}{ad:Option Addr}{kt:Nat}{pb:Nat→Nat}(h:IR N w s R g T br ad kt pb)(hN:N≤w.heap.size)(rp:Rp g T.length P)(kp:Kp T P)(hT:T.length≤2000)(hl:∀i,i<T.length→(tI T i).length≤200):
  Calls Tryz.prog 222 #[.pointer (some ⟨s,0,none⟩),.bool false] w fun e w'=>∃q,Hid (e=.returned (.slice (some ⟨w.heap.size,0,none⟩) T.length T.length))∧Hid (Sb w' w.heap.size T.length q)∧Hid (Qin T.length q P)∧Ext w w':=by
 have HI:=hide h;have RP:=hide rp;have KP:=hide kp;have c1:=h.c1;have c2:=h.c2;have hs:=h.lt;clear h rp kp;obtain⟨z,hmk,hz⟩:=mkBools T.length (by omega) w;have S0:=hide (Sb.start w T.length 4);rw[←hz] at S0;clear hz;obtain⟨bs,hbs⟩:∃b,b=w.heap.size:=⟨_,rfl⟩;have hsn:s<w.heap.size:=by omega
 go_enter Tryz.func222,Tryz.ntmps222;go_wp2_with fail;go_loopw [21] (fun i wr=>∃(k:Nat) (q:Nat→Bool),k≤16∧i=.int .i64 k∧Hid (Sb wr w.heap.size T.length q)∧Hid (Qin T.length q P)∧Ext w wr) (fun i _=>16-(intOf i).toNat)
 case atStart=>exact⟨0,_,by omega,rfl,S0,(fun i hi q=>by cases q),(Ext.refl w).alloc _⟩
 case round=>
  clear S0 hmk;obtain⟨k,q,hk,rfl,SB,HP,xw⟩:=hrel;by_cases hlt:(k:Int)<16
  ·have hk0:(0:Int)≤(k:Int):=by omega
   have WI:=hide ((unhide HI).below (xw.mono hN));obtain⟨y0,y1,y2⟩:=(unhide WI).rg k (by omega);have RK:=hide (unhide RP k (by omega));obtain⟨u,hu⟩:∃u,u=rI g k:=⟨_,rfl⟩;rw[←hu] at y0 y1 y2 RK;clear hu;have g6:br<wr.heap.size:=cell_lt y0;have S3:=hide ((unhide SB).ext ((Ext.refl wr).alloc (.cells #[iv u.k,iv u.n,iv u.a] 152)));have X3:=xw.alloc (.cells #[iv u.k,iv u.n,iv u.a] 152);cases v2:(u.k == 2)
   ·go_wp2_with fail;go_roundw
    case rel=>exact⟨k+1,q,by omega,by go_num,S3,HP,X3⟩
    case measure=>simp [intOf];omega
   ·obtain⟨a0,a1,a2⟩:=unhide RK (by simpa using v2);obtain⟨an,han⟩:∃a:Nat,u.a=(a:Int):=⟨u.a.toNat,by omega⟩;rw[han] at a0 a1 a2 y2 S3 X3;rw[Int.toNat_natCast] at a2;have A2:=hide a2;have anl:an<T.length:=by omega
    have sa:=(unhide SB).c an anl;have sf:=(unhide SB).nf an;have sl:=(unhide SB).lt;clear han a2 RK;have H4:=hide ((unhide HP).on an (unhide A2));go_wp2_with fail;go_roundw
    case rel=>exact⟨k+1,on q an,by omega,by go_num,((unhide SB).set an anl).ext ((Ext.refl _).alloc _),H4,(xw.setCell (p:=⟨w.heap.size,an,none⟩) (Nat.le_refl _) _).alloc _⟩
    case measure=>simp [intOf];omega
  ·have d2:=xw.keep c2;go_wp2_with fail;clear d2;go_loopw [38] (fun i wr2=>∃k:Nat,k≤T.length∧i=.int .i64 k∧Hid (Sb wr2 w.heap.size T.length q)∧Ext w wr2) (fun i _=>T.length-(intOf i).toNat)
   case atStart=>exact⟨0,by omega,rfl,SB,xw⟩
   case round=>
    clear SB xw;obtain⟨j,hj,rfl,SB,xw⟩:=hrel;by_cases hjl:j<T.length
    ·have hj0:(0:Int)≤(j:Int):=by omega
     have hj1:(j:Int)<(T.length:Int):=by omega
     have WI:=hide ((unhide HI).below (xw.mono hN));obtain⟨b5,rfl,nd⟩:=(unhide WI).th j hjl;have x0:=nd.c0;have x1:=nd.c1;have x2:=nd.c2;have x3:=nd.c3;have x4:=nd.c4;have g5:b5<wr.heap.size:=cell_lt x0;have S3:=hide ((unhide SB).ext ((Ext.refl wr).alloc (.cells #[iv 0,iv 0,iv 0,iv 0,.slice (some ⟨pb j,0,none⟩) (tI T j).length (tI T j).length] 99)));have X3:=xw.alloc (.cells #[iv 0,iv 0,iv 0,iv 0,.slice (some ⟨pb j,0,none⟩) (tI T j).length (tI T j).length] 99);clear nd;go_wp2_with fail;go_roundw
     case rel=>exact⟨j+1,by omega,by go_num,S3,X3⟩
     case measure=>simp [intOf];omega
    ·have WI:=hide ((unhide HI).below (xw.mono hN));have QC:=hide (closed_any N w.heap.size s R g T q P wr (unhide WI) hN (unhide SB) (unhide HP) (unhide KP) hT hl);go_wp2_with fail;refine(unhide QC).mono ?_;rintro e w9 ⟨q9,he,S9,H9,O9⟩;have e9:=unhide he;subst e9;have X9:=(unhide O9).ext xw (fun k hk e=>by omega);clear QC he O9;go_wp2_with fail;go_ret;exact⟨q9,rfl,S9,H9,X9⟩
def sumT(T:List (List Pr))(q:Nat→Bool):Nat→Nat
 | 0=>0
 | k+1=>sumT T q k+(if q k=true then 1+(tI T k).length else 0)
theorem sumT_le(T:List (List Pr))(q:Nat→Bool)(hl:∀i,i<T.length→(tI T i).length≤200):∀n,n≤T.length→sumT T q n≤201*n
 | 0,_=>by simp [sumT]
 | n+1,h=>by have:=sumT_le T q hl n (by omega);have:=hl n (by omega);simp only [sumT];split <;> omega
theorem isum_any(N s:Nat)(R:Int)(g:List Wd)(T:List (List Pr))(P:Nat→Prop)(M:Nat)(w:World){br:Nat}{ad:Option Addr}{kt:Nat}{pb:Nat→Nat}(h:IR N w s R g T br ad kt pb)(hN:N≤w.heap.size)(rp:Rp g T.length P)(kp:Kp T P)(hT:T.length≤2000)(hl:∀i,i<T.length→(tI T i).length≤200)(hM:∀q,Qin T.length q P→sumT T q T.length≤M):
  Calls Tryz.prog 164 #[.pointer (some ⟨s,0,none⟩),.bool false] w fun e w'=>∃r:Nat,Hid (e=.returned (iv r))∧r≤M∧Ext w w':=by
 have HI:=hide h;have QS:=hide (seen_any N s R g T P w h hN rp kp hT hl);have HM:=hide hM;have hs:=h.lt;clear h rp kp hM;go_enter Tryz.func164,Tryz.ntmps164;go_wp2_with fail;refine(unhide QS).mono ?_;rintro e w1 ⟨q,he,SB,HP,x1⟩;have e1:=unhide he;subst e1;clear he QS;go_wp2_with fail;go_loopw [5,12] (fun n i wr=>∃k:Nat,k≤T.length∧i=.int .i64 k∧n=.int .i64 (sumT T q k:Nat)∧Ext w1 wr) (fun _ i _=>T.length-(intOf i).toNat)
 case atStart=>exact⟨0,by omega,rfl,rfl,Ext.refl _⟩
 case round=>
  obtain⟨k,hk,rfl,rfl,xw⟩:=hrel;by_cases hlt:k<T.length
  ·have hk0:(0:Int)≤(k:Int):=by omega
   have hk1:(k:Int)<(T.length:Int):=by omega
   have sc:=xw.keep ((unhide SB).c k hlt);have WI:=hide ((unhide HI).below ((x1.trans xw).mono hN));have d2:=(unhide WI).c2;obtain⟨b5,e5,nd⟩:=(unhide WI).th k hlt;rw[e5] at d2;have x4:=nd.c4;have sl:=sumT_le T q hl k hk;have l2:=hl k hlt;clear nd e5;cases t:q k
   ·rw[t] at sc;have SS:=hide (show sumT T q (k+1)=sumT T q k by simp [sumT,t]);go_wp2_with fail;go_roundw
    case rel=>exact⟨k+1,by omega,by go_num,by rw[unhide SS],xw⟩
    case measure=>simp [intOf];omega
   ·rw[t] at sc;have SS:=hide (show sumT T q (k+1)=sumT T q k+(1+(tI T k).length) by simp [sumT,t]);go_wp2_with fail;go_roundw
    case rel=>exact⟨k+1,by omega,by go_num,by rw[unhide SS];go_num,xw⟩
    case measure=>simp [intOf];omega
  ·have ek:k=T.length:=by omega
   have L:=hide (show sumT T q k≤M by rw[ek];exact unhide HM q (unhide HP));clear ek;go_wp2_with fail;go_ret;exact⟨_,rfl,unhide L,x1.trans xw⟩
theorem ifits_any(N s:Nat)(R u:Int)(g:List Wd)(T:List (List Pr))(P:Nat→Prop)(M:Nat)(w:World){br:Nat}{ad:Option Addr}{kt:Nat}{pb:Nat→Nat}(h:IR N w s R g T br ad kt pb)(hN:N≤w.heap.size)(rp:Rp g T.length P)(kp:Kp T P)(hT:T.length≤2000)(hl:∀i,i<T.length→(tI T i).length≤200)(hM:∀q,Qin T.length q P→sumT T q T.length≤M)(u0:0≤u)(hu:(M:Int)+u≤R)(hR:R≤4000):
  Calls Tryz.prog 160 #[.pointer (some ⟨s,0,none⟩),.int .i64 u] w fun e w'=>e=.returned (.bool true)∧Ext w w':=by
 have HI:=hide h;have QS:=hide (fun W (e:Ext w W)=>isum_any N s R g T P M W (h.below (e.mono hN)) (Nat.le_trans hN e.size) rp kp hT hl hM);have c0:=h.c0;have hs:s<w.heap.size:=by have:=h.lt;omega
 clear h rp kp hM;go_enter Tryz.func160,Tryz.ntmps160;go_wp2_with fail;go_region_with (go_at_call 164;refine(unhide QS _ (Ext.refl w).drew).mono ?_;rintro e w2 ⟨r,he,hr,x2⟩;have e2:=unhide he;subst e2;have xx:Ext w w2:=(Ext.refl w).drew.trans x2;have d0:=xx.keep c0;have hc:((r:Int)+u≤R):=(by omega);have hw:IntKind.i64.wrap ((r:Int)+u)=(r:Int)+u:=(by rw[IntKind.wrap_i64];omega);clear he x2)
 all_goals
  go_wp2_with fail;go_ret;exact⟨rfl,xx⟩
end Go.Proofs.YtddkhnclmeikfaaGreat
