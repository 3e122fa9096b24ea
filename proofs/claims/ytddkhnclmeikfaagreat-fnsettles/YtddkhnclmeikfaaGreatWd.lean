import Derived.Test.YtddkhnclmeikfaaGreatBk
set_option maxRecDepth 100000
set_option maxHeartbeats 1000000
namespace Go.Proofs.YtddkhnclmeikfaaGreat
open Go.RowKit
attribute [local go_sem ↓] Go.wp_at_zero Go.wp_at_succ
variable{w w':World}{i b bn kn g B kr br hd r bs bh bx bl j:Nat}{M xs:List Pr}{cB cO pb pk role:Nat->Nat}{z x:Hp}{ar:Option Addr}{v4 v8 vf vk:Value}{pa:Nat->Option Addr}{F:List Int}{K Mt:List Nat}
def a6g(w:World)(g:Nat)(M:List Pr):Prop:=∀k (hk:k<M.length),zW w g (k*6) M[k]
theorem zW.same{o:Nat}{p:Pr}(h:zW w g o p)(e:∀j,j<6->w'.cell? ⟨g,o+j,none⟩=w.cell? ⟨g,o+j,none⟩):zW w' g o p:=by
 obtain⟨h0,h1,h2,h3,h4,h5⟩:=h;exact⟨(e 0 (by omega)).trans h0,(e 1 (by omega)).trans h1,(e 2 (by omega)).trans h2,(e 3 (by omega)).trans h3,(e 4 (by omega)).trans h4,(e 5 (by omega)).trans h5⟩
theorem a6g.block(h:a6g w g M)(e:w'.heap[g]?=w.heap[g]?):a6g w' g M:=λk hk=>(h k hk).same λ_ _=>World.cell?_of_block (a:=⟨g,_,none⟩) e
theorem zW.some{w:World}{g o:Nat}{p:Pr}(h:zW w g o p)(m:Nat)(hm:m<6):∃u,w.cell? ⟨g,o+m,none⟩=some u:=by
 obtain⟨h0,h1,h2,h3,h4,h5⟩:=h
 match m,hm with
 | 0,_=>exact⟨_,h0⟩
 | 1,_=>exact⟨_,h1⟩
 | 2,_=>exact⟨_,h2⟩
 | 3,_=>exact⟨_,h3⟩
 | 4,_=>exact⟨_,h4⟩
 | 5,_=>exact⟨_,h5⟩
theorem a6g.put(h:a6g w g M)(i:Nat)(hi:i<M.length)(y:Pr):a6g (w.setCells g (i*6) [iv y.key.k,iv y.key.n,iv y.key.a,iv y.val.k,iv y.val.n,iv y.val.a]) g (M.set i y):=λk hk=>by
 have hk':k<M.length:=by simpa using hk
 by_cases e:i=k
 ·subst e;have key:∀m,m<6->(w.setCells g (i*6) [iv y.key.k,iv y.key.n,iv y.key.a,iv y.val.k,iv y.val.n,iv y.val.a]).cell? ⟨g,i*6+m,none⟩=([iv y.key.k,iv y.key.n,iv y.key.a,iv y.val.k,iv y.val.n,iv y.val.a]:List Value)[m]?:=λm hm=>b7j g _ _ m w (λm hm=>(h i hi).some m (by simpa using hm)) (by simpa using hm)
  simp only [List.getElem_set_self];exact⟨key 0 (by omega),key 1 (by omega),key 2 (by omega),key 3 (by omega),key 4 (by omega),key 5 (by omega)⟩
 ·rw[List.getElem_set_ne e];exact(h k hk').same λj hj=>a6f g _ _ _ w (by simp only [List.length_cons,List.length_nil];omega)
theorem a6g.cut(h:a6g w g M)(i:Nat)(vs:List Value):a6g (w.setCells g (i*6) vs) g (M.take i):=λk hk=>by
 have hk2:k<i/\k<M.length:=by simp at hk;omega
 rw[List.getElem_take];exact(h k hk2.2).same λj hj=>a6f g _ _ _ w (by omega)
def tL(f:Pr->Bool)(xs:List Pr):List Pr:=xs.filter (λp=>!f p)
theorem c4a(f:Pr->Bool)(xs:List Pr)(j:Nat)(hj:j<xs.length)(q:f xs[j]=true):tL f (xs.take (j+1))=tL f (xs.take j):=by
 rw[List.take_succ_eq_append_getElem hj,tL,List.filter_append];simp [q,tL]
theorem c9x(f:Pr->Bool)(xs:List Pr)(j:Nat)(hj:j<xs.length)(q:f xs[j]=false):tL f (xs.take (j+1))=tL f (xs.take j)++[xs[j]]:=by
 rw[List.take_succ_eq_append_getElem hj,tL,List.filter_append];simp [q,tL]
theorem b6e(f:Pr->Bool)(xs:List Pr)(h:∀j (hj:j<xs.length),f xs[j]=false):tL f xs=xs:=by
 unfold tL;refine List.filter_eq_self.2 λa ha=>?_
 obtain⟨j,hj,e⟩:=List.getElem_of_mem ha;rw[<-e,h j hj];rfl
structure b0g(f:Pr->Bool)(xs M:List Pr)(i j:Nat):Prop where
 len:M.length=xs.length
 lt:i<j
 le:j<=xs.length
 tk:M.take i=tL f (xs.take j)
 dr:M.drop j=xs.drop j
theorem b0g.start{f:Pr->Bool}(h:i<xs.length)(q:f xs[i]=true)(hn:∀j (hj:j<i),f (xs[j]'(by omega))=false):b0g f xs xs i (i+1):=by
 refine⟨rfl,by omega,by omega,?_,rfl⟩;rw[c4a f xs i h q,b6e f (xs.take i) (λj hj=>by simp at hj;rw[List.getElem_take];exact hn j (by omega))]
theorem b0g.at{f:Pr->Bool}(h:b0g f xs M i j)(hj:j<xs.length):∃hm:j<M.length,M[j]=xs[j]:=by
 have hm:j<M.length:=by rw[h.len];exact hj
 refine⟨hm,?_⟩;have e:=congrArg (λl=>l[0]?) h.dr;simp only [List.getElem?_drop,Nat.add_zero] at e;rw[List.getElem?_eq_getElem hm,List.getElem?_eq_getElem hj] at e
 injection e
theorem b0g.no{f:Pr->Bool}(h:b0g f xs M i j)(hj:j<xs.length)(q:f xs[j]=true):b0g f xs M i (j+1):=by
 refine⟨h.len,by have:=h.lt;omega,by omega,by rw[c4a f xs j hj q];exact h.tk,?_⟩;have:=congrArg (List.drop 1) h.dr
 simpa [List.drop_drop] using this
theorem b0g.yes{f:Pr->Bool}(h:b0g f xs M i j)(hj:j<xs.length)(q:f xs[j]=false):b0g f xs (M.set i xs[j]) (i+1) (j+1):=by
 have hl:=h.len;have hlt:=h.lt;refine⟨by simp [hl],by omega,by omega,?_,?_⟩
 ·rw[c9x f xs j hj q,<-h.tk,List.take_set,List.take_succ_eq_append_getElem (by omega)];rw[List.set_append_right _ _ (by simp;omega)];simp [Nat.min_eq_left (show i<=M.length by omega)]
 ·rw[List.drop_set_of_lt (by omega)];have:=congrArg (List.drop 1) h.dr
  simpa [List.drop_drop] using this
theorem b0g.done{f:Pr->Bool}(h:b0g f xs M i xs.length):M.take i=tL f xs/\i=(tL f xs).length:=by
 have e:=h.tk;rw[List.take_length] at e;refine⟨e,?_⟩;rw[<-e,List.length_take,h.len];have:=h.lt;omega
theorem keep_le(f:Pr->Bool)(xs:List Pr):(tL f xs).length<=xs.length:=List.length_filter_le _ _
def FstP(f:Pr->Bool)(xs:List Pr)(r:Int):Prop:=(r = -1/\∀j (h:j<xs.length),f xs[j]=false)\/∃i:Nat,∃h:i<xs.length,r=(i:Int)/\f xs[i]=true/\∀j (hj:j<i),f (xs[j]'(by omega))=false
structure Ans2(f:Pr->Bool)(xs:List Pr)(bx bl g:Nat)(P:World->Prop):Prop where
 call:∀W,P W->∀k (hk:k<xs.length),Calls Tryz.prog 215 #[xs[k].v,.pointer (some ⟨bx,0,none⟩),.pointer (some ⟨bl,0,none⟩)] W λe W'=>Hid (e=.returned (.bool (f xs[k])))/\Ext W W'
 ext:∀W W',P W->Ext W W'->P W'
 put:0<xs.length->∀W W',P W->uX (λq=>q=g) W W'->P W'
abbrev go2(bx bl:Nat):Value:=.func (.func 215) #[] #[.pointer (some ⟨bx,0,none⟩),.pointer (some ⟨bl,0,none⟩)]
theorem c2s(f:Pr->Bool)(xs:List Pr)(bx bl g:Nat)(P:World->Prop)(A:Ans2 f xs bx bl g P)(ad:Option Addr)(cap:Nat)(w:World)(hp:P w)(hr:a6g w g xs)(hg:g<w.heap.size\/xs.length=0)(ha:0<xs.length->ad=some ⟨g,0,none⟩)(hn:xs.length<=200):
  Calls Tryz.prog 237 #[.slice ad xs.length cap,go2 bx bl] w λe w'=>∃r:Int,Hid (e=.returned (.int .i64 r))/\Hid (FstP f xs r)/\Ext w w':=by
 have HA:=uU A;have HP:=uU hp;have HR:=uU hr;clear A hp hr;go_enter Tryz.func237,Tryz.ntmps237;go_wp2_with fail;go_loopw [8] (λi wr=>∃k:Nat,k<=xs.length/\i=.int .i64 k/\Hid (∀j (hj:j<xs.length),j<k->f xs[j]=false)/\Ext w wr) (λi _=>xs.length-(intOf i).toNat)
 case atStart=>exact⟨0,Nat.zero_le _,rfl,λj _ h=>by omega,Ext.refl _⟩
 case round=>
  obtain⟨k,hk,rfl,hno,hbl⟩:=hrel;by_cases hlt:k<xs.length
  ·have ea:=ha (by omega);subst ea;obtain⟨e0,e1,e2,e3,e4,e5⟩:=(HR.block (hbl.block g (by omega))) k hlt;have C:=uU (HA.call wr (HA.ext _ _ HP hbl) k hlt);obtain⟨y,hy⟩:∃y,y=xs[k]:=⟨_,rfl⟩;have HY:=uU hy;rw[<-hy] at e0 e1 e2 e3 e4 e5 C;clear hy;have hk0:(0:Int)<=(k:Int):=by omega
   have hk1:(k:Int)<(xs.length:Int):=by omega
   go_wp2_with fail;refine C.mono ?_;rintro e w1 ⟨rfl,q1⟩;cases t:f y
   ·have N:=uU (show ∀j (hj:j<xs.length),j<k+1->f xs[j]=false from λj hj hjk=>by
     by_cases e:j=k
     ·subst e;rw[<-uH HY];exact t
     ·exact hno j hj (by omega))
    go_wp2_with fail;go_roundw
    case rel=>exact⟨k+1,by omega,by go_num,N,hbl.trans q1⟩
    case measure=>simp [intOf];omega
   ·have F:=uU (show FstP f xs (k:Int) from .inr ⟨k,hlt,rfl,by rw[<-uH HY];exact t,λj hj=>uH hno j (by omega) hj⟩);go_wp2_with fail;go_ret;exact⟨_,rfl,F,hbl.trans q1⟩
  ·have F:=uU (show FstP f xs (-1) from .inl ⟨rfl,λj hj=>uH hno j hj (by omega)⟩);go_wp2_with fail;go_ret;exact⟨_,rfl,F,hbl⟩
theorem c2t(n:Nat):(Builtin.zeroCells #[iv 0,iv 0,iv 0,iv 0,iv 0,iv 0] n).toList.length=n*6:=by simp [Builtin.zeroCells]
theorem c2u(n:Nat):∀u,u∈(Builtin.zeroCells #[iv 0,iv 0,iv 0,iv 0,iv 0,iv 0] n).toList->u.oneCell'=true:=λu hu=>by
 simp [Builtin.zeroCells] at hu;obtain⟨a,_,e⟩:=hu;have:a % 6<6:=Nat.mod_lt _ (by omega);have h:a % 6=0\/a % 6=1\/a % 6=2\/a % 6=3\/a % 6=4\/a % 6=5:=by omega
 rcases h with h | h | h | h | h | h <;> simp [h] at e <;> subst e <;> rfl
theorem c0s(w:World)(ty:TypeId)(b o n c:Nat)(hn:0<n)(hc:∀j,j<n*6->(w.cell? ⟨b,o+j,none⟩).isSome=true)(hf:∀j,j<n*6->w.frozen? ⟨b,o+j,none⟩=false):
  (Builtin.clear_ #[60] ty #[.slice (some ⟨b,o,none⟩) n c]).run Tryz.prog w=.ok (.tuple #[]) (w.setCells b o (Builtin.zeroCells #[iv 0,iv 0,iv 0,iv 0,iv 0,iv 0] n).toList):=by
 have hl:=c2t n;have hst:=run_storeCells_cells (P:=Tryz.prog) b o (Builtin.zeroCells #[iv 0,iv 0,iv 0,iv 0,iv 0,iv 0] n).toList 0 w (by rw[hl];simpa using hc) (by rw[hl];simpa using hf) (c2u n);simp only [Nat.add_zero] at hst;have hz:(Value.agg #[iv 0,iv 0,iv 0,iv 0,iv 0,iv 0]).cells=#[iv 0,iv 0,iv 0,iv 0,iv 0,iv 0]:=by kernel_rfl
 obtain⟨m,rfl⟩:∃m,n=m+1:=⟨n-1,by omega⟩;simp [Builtin.clear_,run_underlying Tryz.underlying60,hz,hst]
theorem b4n(n:Nat)(h:n<=1048576):wrap64 ((n:Int)+1)=(n:Int)+1:=by unfold wrap64;omega
theorem c0t(f:Pr->Bool)(xs:List Pr)(bx bl g:Nat)(P:World->Prop)(A:Ans2 f xs bx bl g P)(ad:Option Addr)(cap:Nat)(w:World)(hp:P w)(hr:a6g w g xs)(hN:0<xs.length->ad=some ⟨g,0,none⟩/\Nfp g cap w/\xs.length<=cap)(hn:xs.length<=200):
  Calls Tryz.prog 217 #[.slice ad xs.length cap,go2 bx bl] w λe w'=>Hid (e=.returned (.slice ad (tL f xs).length cap))/\Hid (a6g w' g (tL f xs))/\Hid (uX (λq=>q=g/\0<xs.length) w w')/\Hid (0<xs.length->Nfp g cap w'):=by
 have QI:=uU (c2s f xs bx bl g P A ad cap w hp hr (by
  rcases Nat.eq_zero_or_pos xs.length with h | h
  ·exact .inr h
  ·exact .inl (hN h).2.1.1) (λh=>(hN h).1) hn)
 have HA:=uU A;have HP:=uU hp;have HR:=uU hr;have HN:=uU hN;clear A hp hr hN;go_enter Tryz.func217,Tryz.ntmps217;go_wp2_with fail;refine QI.mono ?_;rintro e w1 ⟨r,rfl,hfc,x1⟩;rcases uH hfc with⟨rfl,hall⟩ | ⟨i,hi,rfl,q,hno⟩
 ·have E:=uU (b6e f xs hall);have R:=uU (show a6g w1 g xs/\(0<xs.length->Nfp g cap w1) from⟨λk hk=>(HR.block (x1.block g (HN (by omega)).2.1.1)) k hk,λh=>(HN h).2.1.ext x1⟩);clear hfc hall QI;go_wp2_with fail;go_ret;exact⟨by show _=_;rw[uH E];rfl,by rw[uH E];exact R.1,uX.of_ext x1,R.2⟩
 ·obtain⟨rfl,hnf,hnc⟩:=uH HN (by omega);have D0:=uU (b0g.start hi q hno);have P1:=uU (HA.ext _ _ HP x1);have R1:=uU (show a6g w1 g xs from HR.block (x1.block g hnf.1));have N1:=uU (hnf.ext x1);have hne:((i:Int) == -1)=false:=by simp
  have wi:wrap64 ((i:Int)+1)=(i:Int)+1:=b4n i (by omega);have O1:=uU (show uX (λq=>q=g) w w1 from uX.of_ext x1);have h0:0<xs.length:=by omega
  clear q hno QI hfc hnf HR x1;go_wp2_with fail;go_loopw [5,6] (λsi sj wr=>∃(i j:Nat) (M:List Pr),si=.int .i64 i/\sj=.int .i64 j/\Hid (b0g f xs M i j)/\Hid (a6g wr g M)/\Hid (Nfp g cap wr)/\Hid (uX (λq=>q=g) w wr)/\Hid (P wr)) (λ_ sj _=>xs.length-(intOf sj).toNat)
  case atStart=>exact⟨i,i+1,xs,rfl,by go_num,D0,R1,N1,O1,P1⟩
  case round=>
   clear R1 D0 N1 O1 P1 wi hne hi;obtain⟨i,j,M,rfl,rfl,hd,hrow,hnf,hon,hpr⟩:=hrel;have hij:=hd.lt;have hjn:=hd.le;have hml:=hd.len;have hgw:g<wr.heap.size:=hnf.1;by_cases hlt:j<xs.length
   ·obtain⟨hm,em⟩:=hd.at hlt;obtain⟨e0,e1,e2,e3,e4,e5⟩:=uH hrow j hm;rw[em] at e0 e1 e2 e3 e4 e5;have NO:=uU (hd.no hlt);have YES:=uU (hd.yes hlt);have C:=uU (HA.call (wr.alloc (.cells #[iv xs[j].key.k,iv xs[j].key.n,iv xs[j].key.a,iv xs[j].val.k,iv xs[j].val.n,iv xs[j].val.a] 154)) (HA.ext _ _ hpr ((Ext.refl wr).alloc _)) j hlt);obtain⟨y,hy⟩:∃y,y=xs[j]:=⟨_,rfl⟩;rw[<-hy] at e0 e1 e2 e3 e4 e5 NO YES C;clear hy em;have j0:(0:Int)<=(j:Int):=by omega
    have j1:(j:Int)<(xs.length:Int):=by omega
    have i0':(0:Int)<=(i:Int):=by omega
    have i1:(i:Int)<(xs.length:Int):=by omega
    have xa:=(Ext.refl wr).alloc (.cells #[iv y.key.k,iv y.key.n,iv y.key.a,iv y.val.k,iv y.val.n,iv y.val.a] 154);have wj:wrap64 ((j:Int)+1)=(j:Int)+1:=b4n j (by omega);have wi:wrap64 ((i:Int)+1)=(i:Int)+1:=b4n i (by omega);have hil:i<M.length:=by rw[hml];exact Nat.lt_trans hij hlt
    clear hjn hij;go_wp2_with fail;refine C.mono ?_;rintro e w2 ⟨rfl,q2⟩;have x2:=xa.trans q2;have R2:=uU (hrow.block (x2.block g hgw));have N2:=uU (hnf.ext x2);have O2:=uU (hon.trans (uX.of_ext x2));have P2:=uU (HA.ext _ _ hpr x2);have g2:g<w2.heap.size:=Nat.lt_of_lt_of_le hgw x2.size;cases t:f y
    ·have D:=uU (YES t);have b0:w2.cell? ⟨wr.heap.size,0,none⟩=some (iv y.key.k):=q2.keep (by simp [go_sem]);have b1:w2.cell? ⟨wr.heap.size,1,none⟩=some (iv y.key.n):=q2.keep (by simp [go_sem]);have b2:w2.cell? ⟨wr.heap.size,2,none⟩=some (iv y.key.a):=q2.keep (by simp [go_sem]);have b3:w2.cell? ⟨wr.heap.size,3,none⟩=some (iv y.val.k):=q2.keep (by simp [go_sem]);have b4:w2.cell? ⟨wr.heap.size,4,none⟩=some (iv y.val.n):=q2.keep (by simp [go_sem]);have b5:w2.cell? ⟨wr.heap.size,5,none⟩=some (iv y.val.a):=q2.keep (by simp [go_sem]);obtain⟨c0,c1,c2,c3,c4,c5⟩:=uH R2 i hil;have f0:=N2.2 (i*6);have f1:=N2.2 (i*6+1);have f2:=N2.2 (i*6+2);have f3:=N2.2 (i*6+3);have f4:=N2.2 (i*6+4);have f5:=N2.2 (i*6+5);have hbw:wr.heap.size<w2.heap.size:=uL b0
     have R:=uU (show a6g (w2.setCells g (i*6) [iv y.key.k,iv y.key.n,iv y.key.a,iv y.val.k,iv y.val.n,iv y.val.a]) g (M.set i y)/\Nfp g cap (w2.setCells g (i*6) [iv y.key.k,iv y.key.n,iv y.key.a,iv y.val.k,iv y.val.n,iv y.val.a])/\uX (λq=>q=g) w (w2.setCells g (i*6) [iv y.key.k,iv y.key.n,iv y.key.a,iv y.val.k,iv y.val.n,iv y.val.a])/\P (w2.setCells g (i*6) [iv y.key.k,iv y.key.n,iv y.key.a,iv y.val.k,iv y.val.n,iv y.val.a]) from
      ⟨R2.put i hil y,N2.put,a4t (S:=λq=>q=g) rfl O2,HA.put h0 _ _ P2 (a4t (S:=λq=>q=g) rfl (uX.refl _ w2))⟩)
     clear NO YES e0 e1 e2 e3 e4 e5 R2 N2 O2 P2;go_wp2_with fail;go_roundw
     case rel=>exact⟨i+1,j+1,M.set i y,by go_num,by go_num,D,R.1,R.2.1,R.2.2.1,R.2.2.2⟩
     case measure=>simp [intOf];omega
    ·have D:=uU (NO t);clear NO YES e0 e1 e2 e3 e4 e5;go_wp2_with fail;go_roundw
     case rel=>exact⟨i,j+1,M,rfl,by go_num,D,R2,N2,O2,P2⟩
     case measure=>simp [intOf];omega
   ·have je:j=xs.length:=by omega
    subst je;obtain⟨dt,dl⟩:=hd.done
    have hcl:∀ty,(Builtin.clear_ #[60] ty #[.slice (some ⟨g,i*6,none⟩) (xs.length-i) (cap-i)]).run Tryz.prog wr=.ok (.tuple #[]) (wr.setCells g (i*6) (Builtin.zeroCells #[iv 0,iv 0,iv 0,iv 0,iv 0,iv 0] (xs.length-i)).toList):=λty=>c0s wr ty g (i*6) _ _ (by omega) (λk hk=>by
     obtain⟨u,hu⟩:=(hrow (i+k / 6) (by omega)).some (k % 6) (Nat.mod_lt _ (by omega));rw[show i*6+k=(i+k / 6)*6+k % 6 by omega,hu];rfl) (λk _=>hnf.2 _)
    have FIN:=uU (show a6g (wr.setCells g (i*6) (Builtin.zeroCells #[iv 0,iv 0,iv 0,iv 0,iv 0,iv 0] (xs.length-i)).toList) g (tL f xs)/\uX (λq=>q=g/\0<xs.length) w (wr.setCells g (i*6) (Builtin.zeroCells #[iv 0,iv 0,iv 0,iv 0,iv 0,iv 0] (xs.length-i)).toList)/\Nfp g cap (wr.setCells g (i*6) (Builtin.zeroCells #[iv 0,iv 0,iv 0,iv 0,iv 0,iv 0] (xs.length-i)).toList) from
     ⟨by rw[<-dt];exact hrow.cut i _,(a4t (S:=λq=>q=g) rfl hon).mono (λq e=>⟨e,h0⟩),hnf.put⟩)
    have DL:=uU dl;have k0:(0:Int)<=(i:Int):=by omega
    have k1:(i:Int)<=(xs.length:Int):=by omega
    have k2:(i:Int)<=(cap:Int):=by omega
    clear dt dl hd;go_wp2_with fail;go_ret;exact⟨by show _=_;rw[<-uH DL];rfl,FIN.1,FIN.2.1,λ_=>FIN.2.2⟩
def acB(cB cO:Nat->Nat)(i:Nat):Option Addr:=some ⟨cB i,cO i,none⟩
theorem SAt.fw[Inhabited uZ](h:SAt B w b z ar kr v4 v8 br cB cO bn pb pa pk kn hd vf F vk K role)(hl:z.cells.length=x.cells.length)(hs:∀q,(z.c q).st=(x.c q).st/\(z.c q).to=(x.c q).to):b8y w b x (acB cB cO) (some ⟨bn,0,none⟩) kn:=
 ⟨by rw[<-hl];exact h.sb.n13,λi hi=>by
  rw[<-hl] at hi;obtain⟨p0,_,_,_,_,_,p6⟩:=h.rw.s i hi;rw[(hs i).1] at p0;rw[(hs i).2] at p6;exact⟨bn,0,cB i,cO i,rfl,rfl,by rw[Nat.zero_add];exact(h.sb.nd i hi).2,p0,p6⟩⟩
theorem SAt.vn[Inhabited uZ](h:SAt B w b z ar kr v4 v8 br cB cO bn pb pa pk kn hd vf F vk K role)(hr:z.regs.length<=100)(hp:∀i,i<z.cells.length->(z.c i).prs.length<=200):VNt w b z ar kr (acB cB cO) (some ⟨bn,0,none⟩) kn:=
 ⟨⟨h.sb.bx.2.2.2.1,by omega,λi hi=>⟨br,0,h.sb.ha (by omega),by rw[Nat.zero_add];exact h.rw.r i hi⟩,λi hi=>by
  obtain⟨p0,p1,p2,p3,p4,p5,p6⟩:=h.rw.s i hi;refine⟨cB i,cO i,rfl,_,p0,p1,p2,p3,p4,p5,p6,h.rw.p7 i hi,pa i,pk i,rfl,by have:=hp i hi;omega,λk hk=>?_⟩;refine⟨pb i,0,(h.rw.pl i hi (h.rw.pw hi (by omega))).1,?_⟩;rw[Nat.zero_add,Cl.p_eq _ _ hk];exact h.rw.p i hi k hk⟩,h.sb.n13,λi hi=>⟨bn,0,cB i,cO i,rfl,rfl,by rw[Nat.zero_add];exact(h.sb.nd i hi).1,by rw[Nat.zero_add];exact(h.sb.nd i hi).2⟩⟩
theorem SAt.stayed[Inhabited uZ](h:SAt B w b z ar kr v4 v8 br cB cO bn pb pa pk kn hd vf F vk K role)(i:Nat)(hi:i<z.cells.length)(L:List Pr)(hL:L.length<=(z.c i).prs.length)(o:uX (λq=>q=cB i\/(q=pb i/\0<(z.c i).prs.length)) w w')(nfc:Nf1 (cB i) w')(nfp:0<(z.c i).prs.length->Nfp (pb i) (pk i) w')(c7:w'.cell? ⟨cB i,cO i+7,none⟩=some (.slice (pa i) L.length (pk i)))(co:∀j,j≠cO i+7->w'.cell? ⟨cB i,j,none⟩=w.cell? ⟨cB i,j,none⟩)(hp:a6g w' (pb i) L):
  SAt B w' b { z with cells:=z.cells.set i { z.c i with prs:=L } } ar kr v4 v8 br cB cO bn pb pa pk kn hd vf F vk K role:=by
 have far:∀q,q<w.heap.size->role q≠3->role q≠6+i->w'.heap[q]?=w.heap[q]?:=λq hq hr hr2=>o.block q hq (λe=>by
  rcases e with e | ⟨e,e2⟩
  ·exact hr (by rw[e];exact h.sp.c i hi)
  ·exact hr2 (by rw[e];exact h.sp.p i hi (h.rw.pw hi e2)))
 have hl:({ z with cells:=z.cells.set i { z.c i with prs:=L } }:Hp).cells.length=z.cells.length:=by simp
 have hc:=Hp.c_set z i { z.c i with prs:=L } hi;have hne:∀q,q≠i->(({ z with cells:=z.cells.set i { z.c i with prs:=L } }:Hp).c q)=z.c q:=λq e=>by rw[hc q,if_neg e]
 have hei:(({ z with cells:=z.cells.set i { z.c i with prs:=L } }:Hp).c i)={ z.c i with prs:=L }:=by rw[hc i,if_pos rfl]
 have hle:∀q,(({ z with cells:=z.cells.set i { z.c i with prs:=L } }:Hp).c q).prs.length<=(z.c q).prs.length:=λq=>by
  by_cases e:q=i
  ·rw[e,hei];exact hL
  ·rw[hne q e];exact Nat.le_refl _
 have pf:∀q,q<z.cells.length->q≠i->0<pk q->w'.heap[pb q]?=w.heap[pb q]?:=λq hq hqi hl=>far (pb q) (h.rw.pl q hq hl).2.1.1 (by rw[h.sp.p q hq hl];omega) (by rw[h.sp.p q hq hl];omega)
 have sb2:=h.sb.same o.size (far b h.sb.nb.1 (by rw[h.sp.b];omega) (by rw[h.sp.b];omega)) (far bn h.sb.lo.2.2.1 (by rw[h.sp.n];omega) (by rw[h.sp.n];omega)) (λq hq=>far q (h.sb.fr.own.lt q hq).2 (by rw[h.sp.f q hq];omega) (by rw[h.sp.f q hq];omega)) (λq hq=>far q (h.sb.kp.lt q hq).2 (by rw[h.sp.k q hq];omega) (by rw[h.sp.k q hq];omega))
 have cf:∀q,q<z.cells.length->cB q≠cB i->w'.heap[cB q]?=w.heap[cB q]?:=λq hq e=>o.block (cB q) (h.rw.nc q hq).1.1 (λe2=>by
  rcases e2 with e2 | ⟨e2,e3⟩
  ·exact e e2
  ·exact(h.rw.pl i hi (h.rw.pw hi e3)).2.2.1.2 q hq e2.symm)
 have ck:∀q,q<z.cells.length->q≠i->∀k,k<8->w'.cell? ⟨cB q,cO q+k,none⟩=w.cell? ⟨cB q,cO q+k,none⟩:=λq hq e k hk=>by
  by_cases e2:cB q=cB i
  ·rw[e2];rcases h.rw.dc q i hq hi e with d | d | d
   ·exact(d e2).elim
   ·exact co _ (by omega)
   ·exact co _ (by omega)
  ·exact World.cell?_of_block (a:=⟨cB q,_,none⟩) (cf q hq e2)
 have cn:∀q,q<z.cells.length->Nf1 (cB q) w':=λq hq=>by
  by_cases e2:cB q=cB i
  ·rw[e2];exact nfc
  ·exact cU (h.rw.nc q hq).1 (cf q hq e2) o.size
 have fr:0<z.regs.length->w'.heap[br]?=w.heap[br]?:=λhr=>far br (h.rw.nr hr).1.1 (by rw[h.sp.r hr];omega) (by rw[h.sp.r hr];omega)
 refine⟨⟨sb2.bx,sb2.ha,by rw[hl];exact sb2.n13,λk hk=>sb2.nd k (by rw[hl] at hk;exact hk),sb2.fr,sb2.rg,sb2.k0,sb2.kp,sb2.nb,sb2.lo⟩,⟨λj hj=>?_,λq hq=>?_,λq hq=>?_,λq hq j hj=>?_,λq hq hlq=>?_,λhr=>⟨cU (h.rw.nr hr).1 (fr hr) o.size,(h.rw.nr hr).2⟩,λq hq=>⟨cn q (by rw[hl] at hq;exact hq),(h.rw.nc q (by rw[hl] at hq;exact hq)).2⟩,λq hq=>h.rw.d q (by rw[hl] at hq;exact hq),λq q' hq hq' hqq h1 h2=>?_,λq q' hq hq' hne=>h.rw.dc q q' (by rw[hl] at hq;exact hq) (by rw[hl] at hq';exact hq') hne,λq hq=>Nat.le_trans (hle q) (h.rw.kp q (by rw[hl] at hq;exact hq))⟩,⟨h.sp.b,h.sp.n,h.sp.r,λq hq=>h.sp.c q (by rw[hl] at hq;exact hq),h.sp.f,h.sp.k,λq hq hlq=>?_⟩,h.pr.of (λq hq h1=>far q hq (by rw[h1];omega) (by rw[h1];omega)) (λ_ _ h=>h)⟩
 ·exact(h.rw.r j hj).of λm _=>World.cell?_of_block (a:=⟨br,_,none⟩) (fr (by have:j<z.regs.length:=hj;omega))
 ·rw[hl] at hq;by_cases e:q=i
  ·subst e;rw[hei];exact(h.rw.s q hq).of λm hm=>co _ (by omega)
  ·rw[hne q e];exact(h.rw.s q hq).of λm hm=>ck q hq e m (by omega)
 ·rw[hl] at hq;by_cases e:q=i
  ·subst e;rw[hei];exact c7
  ·rw[hne q e,ck q hq e 7 (by omega)];exact h.rw.p7 q hq
 ·rw[hl] at hq;by_cases e:q=i
  ·subst e;rw[hei] at hj ⊢;have:=hp j hj;rw[Cl.p_eq { z.c q with prs:=L } j hj] at this;exact this
  ·rw[hne q e] at hj ⊢;exact(h.rw.p q hq j hj).of λm _=>World.cell?_of_block (a:=⟨pb q,_,none⟩) (pf q hq e (h.rw.pw hq (by omega)))
 ·rw[hl] at hq;obtain⟨a1,a2,a3,a4⟩:=h.rw.pl q hq hlq;have a5:pb q≠br/\∀j,j<({ z with cells:=z.cells.set i { z.c i with prs:=L } }:Hp).cells.length->pb q≠cB j:=⟨a3.1,λj hj=>a3.2 j (by rw[hl] at hj;exact hj)⟩;by_cases e:q=i
  ·subst e;refine⟨a1,?_,a5,a4⟩;rcases Nat.eq_zero_or_pos (z.c q).prs.length with h0 | h0
   ·exact a0f a2 (o.block (pb q) a2.1 (λe=>by
     rcases e with e | e
     ·exact a3.2 q hq e
     ·omega)) o.size
   ·exact nfp h0
  ·exact⟨a1,a0f a2 (pf q hq e hlq) o.size,a5,a4⟩
 ·rw[hl] at hq hq';exact h.rw.dp q q' hq hq' hqq h1 h2
 ·rw[hl] at hq;exact h.sp.p q hq hlq
structure Bxs(w:World)(b r bs bh bx bl bn i:Nat)(Mt:List Nat):Prop where
 s:w.cell? ⟨bs,0,none⟩=some (.pointer (some ⟨b,0,none⟩))
 h:w.cell? ⟨bh,0,none⟩=some (.map (some r))
 n:w.cell? ⟨bx,0,none⟩=some (ndp bn i)
 l:w.cell? ⟨bl,0,none⟩=some (.func (.func 214) #[] #[.pointer (some ⟨bs,0,none⟩),.pointer (some ⟨bh,0,none⟩)])
 m:zQ w r bn (Mt.map (λi=>i*2))
 rl:r<w.heap.size
theorem Bxs.blocks(h:Bxs w b r bs bh bx bl bn i Mt)(hs:w.heap.size<=w'.heap.size)(e:∀q,q<w.heap.size->q=bs\/q=bh\/q=bx\/q=bl\/q=r->w'.heap[q]?=w.heap[q]?):Bxs w' b r bs bh bx bl bn i Mt:=
 ⟨(World.cell?_of_block (a:=⟨bs,0,none⟩) (e bs (uL h.s) (by simp))).trans h.s,(World.cell?_of_block (a:=⟨bh,0,none⟩) (e bh (uL h.h) (by simp))).trans h.h,(World.cell?_of_block (a:=⟨bx,0,none⟩) (e bx (uL h.n) (by simp))).trans h.n,(World.cell?_of_block (a:=⟨bl,0,none⟩) (e bl (uL h.l) (by simp))).trans h.l,h.m.block (e r h.rl (by simp)),Nat.lt_of_lt_of_le h.rl hs⟩
theorem Bxs.ext(h:Bxs w b r bs bh bx bl bn i Mt)(e:Ext w w'):Bxs w' b r bs bh bx bl bn i Mt:=h.blocks e.size λq hq _=>e.block q hq
theorem SAt.goat[Inhabited uZ](h:SAt B w b z ar kr v4 v8 br cB cO bn pb pa pk kn hd vf F vk K role)(k:Bxs w b r bs bh bx bl bn i Mt)(hl:z.cells.length=x.cells.length)(hs:∀q,(z.c q).st=(x.c q).st/\(z.c q).to=(x.c q).to)(hi:i<z.cells.length)(hw:(z.c i).weak=(x.c i).weak):b5b w b r bs bh bx bl x (acB cB cO) bn kn Mt i:=
 ⟨⟨k.s,k.h,h.fw hl hs,k.m,k.rl⟩,k.n,k.l,cB i,cO i,rfl,(h.sb.nd i hi).2,by rw[<-hw];exact(h.rw.s i hi).2.2.1⟩
theorem b5b.only{S:Nat->Prop}(h:b5b w b r bs bh bx bl x (acB cB cO) bn kn Mt i)(hi:i<x.cells.length)(o:uX S w w')(hS:∀q,q=bs\/q=bh\/q=bx\/q=bl\/q=r\/q=b\/q=bn->¬S q)(hC:∀j,j<x.cells.length->¬S (cB j)):b5b w' b r bs bh bx bl x (acB cB cO) bn kn Mt i:=by
 refine⟨⟨o.keep (hS bs (by simp)) h.lo.s,o.keep (hS bh (by simp)) h.lo.h,⟨o.keep (hS b (by simp)) h.lo.f.n13,λj hj=>?_⟩,h.lo.m.block (o.block r h.lo.rl (hS r (by simp))),Nat.lt_of_lt_of_le h.lo.rl o.size⟩,o.keep (hS bx (by simp)) h.n,o.keep (hS bl (by simp)) h.l,?_⟩
 ·obtain⟨b1,o1,b2,o2,e1,e2,p,q,r⟩:=h.lo.f.N j hj;cases e1;cases e2;exact⟨bn,0,cB j,_,rfl,rfl,o.keep (hS bn (by simp)) p,o.keep (hC j hj) q,o.keep (hC j hj) r⟩
 ·obtain⟨b2,o2,e2,p,q⟩:=h.c;cases e2;exact⟨cB i,_,rfl,o.keep (hS bn (by simp)) p,o.keep (hC i hi) q⟩
def b1i(bn:Nat)(x:Hp):Value:=if uV x = -1 then .pointer none else ndp bn (uV x).toNat
theorem b7o[Inhabited uZ]{B:Nat}{w:World}{b:Nat}{x:Hp}{ar:Option Addr}{kr:Nat}{v4 v8:Value}{br bn:Nat}{cB cO:Nat->Nat}{pb:Nat->Nat}{pa:Nat->Option Addr}{pk:Nat->Nat}{kn hd:Nat}{vf:Value}{F:List Int}{vk:Value}{K:List Nat}{role:Nat->Nat}(h:SAt B w b x ar kr v4 v8 br cB cO bn pb pa pk kn hd vf F vk K role)(hh:0<=x.hand/\x.hand<=x.cells.length)(hg:∀g,g∈x.gray->0<=g/\g<x.cells.length):
  Calls Tryz.prog 216 #[.pointer (some ⟨b,0,none⟩)] w λe w'=>Hid (e=.returned (b1i bn x))/\Ext w w':=by
 have c5:=h.sb.bx.2.2.2.2.2.1;have c6:=h.sb.bx.2.2.2.2.2.2.1;have c13:=h.sb.n13;have hb:=h.sb.nb.1;cases q2:(x.phase == 2)
 ·cases q5:(x.phase == 5)
  ·have E:=uU (show b1i bn x=.pointer none by
    have h2:¬x.phase=2:=by simpa using q2
    have h5:¬x.phase=5:=by simpa using q5
    have:uV x = -1:=by unfold uV;rw[if_neg (λh=>h2 h.1),if_neg (λh=>h5 h.1)]
    unfold b1i;rw[if_pos this])
   clear h c6 c13;go_enter Tryz.func216,Tryz.ntmps216;go_wp2_with fail;go_ret;exact⟨by show _=_;rw[uH E];rfl,Ext.refl _⟩
  ·have h2:¬x.phase=2:=by simpa using q2
   have h5:x.phase=5:=by simpa using q5
   cases qe:(x.hand == (x.cells.length:Int))
   ·have hne:¬x.hand=(x.cells.length:Int):=by simpa using qe
    obtain⟨i,hi⟩:∃i:Nat,x.hand=(i:Int):=⟨x.hand.toNat,by omega⟩
    have E:=uU (show b1i bn x=ndp bn i by
     have:uV x=(i:Int):=by unfold uV;rw[if_neg (λh=>h2 h.1),if_pos ⟨h5,by omega⟩,hi]
     unfold b1i;rw[this,if_neg (by omega)];simp)
    have Q:=uU (λW (e:Ext w W)=>b9p b x.cells.length kn bn i W (e.keep (hi ▸ c6)) (e.keep c13) (by omega));clear h c6 c13 h2 h5 hne;go_enter Tryz.func216,Tryz.ntmps216;go_wp2_with fail;refine(Q _ (Ext.refl _)).mono ?_;rintro e w1 ⟨rfl,x1⟩;go_wp2_with fail;go_ret;exact⟨by show _=_;rw[uH E];rfl,x1⟩
   ·have he:x.hand=(x.cells.length:Int):=by simpa using qe
    have E:=uU (show b1i bn x=.pointer none by
     have:uV x = -1:=by unfold uV;rw[if_neg (λh=>h2 h.1),if_neg (λh=>by omega)]
     unfold b1i;rw[if_pos this])
    have Q:=uU (λW (e:Ext w W)=>b9o x.hand b x.cells.length kn (some ⟨bn,0,none⟩) W (e.keep c6) (e.keep c13) qe);clear h c6 c13 h2 h5 he;go_enter Tryz.func216,Tryz.ntmps216;go_wp2_with fail;refine(Q _ (Ext.refl _)).mono ?_;rintro e w1 ⟨rfl,x1⟩;go_wp2_with fail;go_ret;exact⟨by show _=_;rw[uH E];rfl,x1⟩
 ·have h2:x.phase=2:=by simpa using q2
  have RG:=uU h.sb.rg;cases hgr:x.gray with
  | nil=>
   have E:=uU (show b1i bn x=.pointer none by
    have:uV x = -1:=by unfold uV;rw[if_neg (λh=>by simp [hgr] at h),if_neg (λh=>by omega)]
    unfold b1i;rw[if_pos this])
   rw[hgr] at RG;clear h c6 c13 h2 hg;go_enter Tryz.func216,Tryz.ntmps216;go_wp2_with fail;refine(b9y b bn hd _ RG).mono ?_;rintro e w1 ⟨rfl,x1⟩;go_wp2_with fail;go_ret;exact⟨by show _=_;rw[uH E];rfl,x1⟩
  | cons g G=>
   have hg0:=hg g (by rw[hgr];simp)
   have E:=uU (show b1i bn x=ndp bn g.toNat by
    have:uV x=g:=by unfold uV;rw[if_pos ⟨h2,by simp [hgr]⟩,hgr];rfl
    unfold b1i;rw[this,if_neg (by omega)])
   rw[hgr] at RG;clear h c6 c13 h2 hg;go_enter Tryz.func216,Tryz.ntmps216;go_wp2_with fail;refine(b9z b bn hd g G _ RG).mono ?_;rintro e w1 ⟨rfl,x1⟩;go_wp2_with fail;go_ret;exact⟨by show _=_;rw[uH E];rfl,x1⟩
theorem c9y(bn o:Nat)(w:World):(binOp .eql 126 (.pointer (some ⟨bn,o,none⟩)) (.pointer none)).run Tryz.prog w=.ok (.bool false) w:=by kernel_rfl
theorem c2v{x:Hp}(hh:0<=x.hand/\x.hand<=x.cells.length)(hg:∀g,g∈x.gray->0<=g/\g<x.cells.length):uV x = -1\/0<=uV x:=by
 unfold uV
 split
 ·rename_i h;cases hgr:x.gray with
  | nil=>simp [hgr] at h
  | cons g G=>right;exact(hg g (by rw[hgr];simp)).1
 ·split
  ·omega
  ·exact .inl rfl
theorem und_eq(bn i:Nat)(hr:uV x = -1\/0<=uV x)(w:World):(binOp .eql 126 (ndp bn i) (b1i bn x)).run Tryz.prog w=.ok (.bool (decide (uV x=(i:Int)))) w:=by
 unfold b1i;by_cases h:uV x = -1
 ·rw[if_pos h,c9y,decide_eq_false (by omega)]
 ·rw[if_neg h];by_cases e:uV x=(i:Int)
  ·have:(uV x).toNat=i:=by omega
   rw[this,ptr_yes,decide_eq_true e]
  ·have:¬i*2=(uV x).toNat*2:=by omega
   rw[ptr_no _ _ _ _ this,decide_eq_false e]
end Go.Proofs.YtddkhnclmeikfaaGreat
