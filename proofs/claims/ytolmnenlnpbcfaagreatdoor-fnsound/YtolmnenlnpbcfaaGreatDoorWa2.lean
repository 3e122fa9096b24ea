import Derived.Test.YtolmnenlnpbcfaaGreatDoorBk
import Derived.Carry
import Derived.ChangeSlices
import Derived.Laws.Bits64b
import Derived.OpenShut
import Derived.ProofKit
set_option maxRecDepth 100000
set_option maxHeartbeats 4000000
namespace Go.Proofs.YtolmnenlnpbcfaaGreatDoor
open Go.RowKit Tryz
attribute [local go_sem ↓] Go.wp_at_zero Go.wp_at_succ
variable{w:World}{c m k:Nat}
structure Ak where
 op:Int
 a:Int
 b:Int
 c:Int
 n:Int
abbrev Ak.v(x:Ak):Value:=.agg #[iv x.op,iv x.a,iv x.b,iv x.c,iv x.n]
def fA(y:Ak):List Value:=[iv y.op,iv y.a,iv y.b,iv y.c,iv y.n]
def Cu(v w:World)(c m:Nat):Prop:=uQ (λq=>q=c) v w/\Nf1 c w/\∃(ad:Option Addr)(n k:Nat)(a s:Int),w.cell? ⟨c,0,none⟩=some (.slice ad n k)/\w.cell? ⟨c,1,none⟩=some (iv a)/\w.cell? ⟨c,2,none⟩=some (.int .u64 s)/\0<=a/\a<=m/\n<=1048576/\(∀i,i<n->∃b o z,ad=some ⟨b,o,none⟩/\b≠c/\v.cell? ⟨b,o+i,none⟩=some (.int .u8 z)/\0<=z/\z<256)/\v.cell? ⟨c,0,none⟩=some (.slice ad n k)
theorem Cu.drew{v:World}(h:Cu v w c m):Cu v w.drew c m:=by
 obtain⟨e,d,i,n,k,a,s,g,b,f,r⟩:=h;exact⟨e.drew,d,i,n,k,a,s,g,b,f,r⟩
theorem Cu.put1{v:World}(h:Cu v w c m){i:Int}(o:0<=i)(j:i<=k):Cu v (w.setCell (aA c 1) (iv i)) c k:=by
 obtain⟨e,b,l,n,k,a,s,g,d,f,_,_,r⟩:=h;exact⟨e.setCell (by rfl) _,b.set _ _,l,n,k,i,s,by rw[uC _ (.inr (by omega))];exact g,tJ.same ⟨⟨_,d⟩,b.2 1⟩ _,by rw[uC _ (.inr (by omega))];exact f,o,j,r⟩
theorem Cu.put2{v:World}(h:Cu v w c m)(u:Int):Cu v (w.setCell (aA c 2) (.int .u64 u)) c m:=by
 obtain⟨e,b,i,n,k,a,s,g,d,f,r⟩:=h;exact⟨e.setCell (by rfl) _,b.set _ _,i,n,k,a,u,by rw[uC _ (.inr (by omega))];exact g,by rw[uC _ (.inr (by omega))];exact d,tJ.same ⟨⟨_,f⟩,b.2 2⟩ _,r⟩
def c4u(v w:World)(c m:Nat)(n:Int)(e:Ending)(w':World):Prop:=∃r:Int,Hid (e=.returned (iv r))/\0<=r/\r<n/\Hid (Cu v w' c m)/\Hid (uQ (λq=>q=c) w w')
theorem and255(x:Int)(n:Nat):0<=wrap64 (bits .and .u64 (IntKind.u64.wrap x / n) 255)/\wrap64 (bits .and .u64 (IntKind.u64.wrap x / n) 255)<256:=by
 have c:0<=IntKind.u64.wrap x/\IntKind.u64.wrap x<18446744073709551616:=by rw[IntKind.wrap_u64];omega
 obtain⟨k,a⟩:∃k:Nat,IntKind.u64.wrap x=k:=⟨(IntKind.u64.wrap x).toNat,by omega⟩;rw[a]at c ⊢;have e:((k:Int) / (n:Int))=((k / n:Nat):Int):=by simp
 have f:k / n<=k:=Nat.div_le_self _ _;have b:=bits_and_u64_nat (k / n) 255 (by omega) (by omega);rw[e,show(255:Int)=((255:Nat):Int) from rfl,b];have d:k / n &&& 255<=255:=Nat.and_le_right;unfold wrap64;omega
theorem b7n(v w:World)(c m:Nat)(h:Cu v w c m)(I:m<=1000000000):
  Calls prog 50 #[pP c] w λe w'=>c4u v w c (m+1) 256 e w':=by
 have H:=uU h;obtain⟨e,j,A,n,k,a,s,u,F,C,x,G,E,d,_⟩:=h;have t:=j.2 1;have D:=j.2 2;by_cases y:a<n
 ·obtain⟨b,o,z,rfl,f,g,p,r⟩:=d a.toNat (by omega);have l:=e.keep f g;obtain⟨i,rfl⟩:∃i:Nat,a=i:=⟨a.toNat,by omega⟩;simp only[Int.toNat_natCast]at l;go_enter func50,ntmps50;go_wp21;go_region;go_wp21;go_region;go_wp2;go_ret;exact⟨z,rfl,p,r,((H.put1 (by omega) (by omega)).put2 _).drew.drew,(((uQ.refl _ w).setCell (by rfl) _).setCell (by rfl) _).drew.drew⟩
 have q:(a<(n:Int))=False:=by simp;omega
 go_enter func50,ntmps50;go_wp21;go_region;go_wp21;have B:=and255 (IntKind.u64.wrap (s*6364136223846793005)+1442695040888963407) 1099511627776;go_ret;exact⟨_,rfl,B.1,B.2,((H.put2 _).put1 (by omega) (by omega)).drew,(((uQ.refl _ w).setCell (by rfl) _).setCell (by rfl) _).drew⟩
theorem Cu.more{v:World}(h:Cu v w c m)(a:m<=k):Cu v w c k:=by grind[Cu]
theorem d1q(v w:World)(c m:Nat)(n:Int)(h:Cu v w c m)(z:m<=999999999)(y:n<=1000000)(A:-1000000<=n):
  Calls prog 17 #[pP c,iv n] w λe w'=>c4u v w c (m+2) (if n<=1 then 1 else n) e w':=by
 have H:=uU h;have Q:=uU (b7n v w c m h (by omega));by_cases g:n<=1
 ·rw[if_pos g];go_enter func17,ntmps17;go_wp2;go_ret;exact⟨0,rfl,by omega,by omega,H.more (by omega),uQ.refl _ _⟩
 rw[if_neg g];by_cases u:n > 200
 ·go_enter func17,ntmps17;go_wp21;refine Q.mono ?_;rintro e i ⟨r,a,o,k,d,f⟩;have b:=uH a;subst b;have j:=uU (b7n v i c (m+1) d (by omega));go_wp21;refine j.mono ?_;rintro e s ⟨t,a,x,q,l,p⟩;have b:=uH a;subst b;go_wp2;go_ret;exact⟨_,rfl,Int.emod_nonneg _ (by omega),Int.emod_lt_of_pos _ (by omega),l,f.trans p⟩
 go_enter func17,ntmps17;go_wp21;refine Q.mono ?_;rintro e i ⟨r,a,o,k,d,f⟩;have b:=uH a;subst b;go_wp2;go_ret;exact⟨_,rfl,Int.emod_nonneg _ (by omega),Int.emod_lt_of_pos _ (by omega),d.more (by omega),f⟩
theorem a1u(v w:World)(c m:Nat)(n:Int)(h:Cu v w c m)(b:m<=999999999)(a:n<=1000000)(d:1<=n):
  Calls prog 17 #[pP c,iv n] w λe w'=>c4u v w c (m+2) n e w':=by
 have:=d1q v w c m n h b a (by omega);have e:(if n<=1 then 1 else n)=n:=by split <;> omega
 rw[e]at this;exact this
def b7o(v w:World)(c m:Nat)(e:Ending)(w':World):Prop:=∃r:Int,Hid (e=.returned (iv r))/\Hid (-9223372036854775808<=r/\r<=9223372036854775807)/\Hid (Cu v w' c m)/\Hid (uQ (λq=>q=c) w w')
theorem b7p(v w:World)(c m:Nat)(h:Cu v w c m)(s:m<=99999999):
  Calls prog 59 #[pP c] w λe w'=>b7o v w c (m+4) e w':=by
 have Q:=uU (a1u v w c m 6 h (by omega) (by omega) (by omega));go_enter func59,ntmps59;go_wp21;refine Q.mono ?_;rintro e d ⟨r,b,q,k,g,f⟩;have a:=uH b;subst a;have K:=uU (λ(n:Int) (h1:1<=n) (h2:n<=1000000)=>a1u v d c (m+2) n g (by omega) h2 h1);go_wp21;all_goals
  refine(K _ (by omega) (by omega)).mono ?_;rintro e o ⟨t,b,p,l,i,j⟩;have a:=uH b;subst a;go_wp2;go_ret;exact⟨_,rfl,⟨by omega,by omega⟩,i,f.trans j⟩
def HV(w:World)(x:Hp)(ar:Option Addr)(kr:Nat)(ac:Option Addr)(kc:Nat)(ag:Option Addr)(kg:Nat):Prop:=HRd w x ar kr ac kc ag kg/\a4w w x ac
def ByAt(w:World)(v:Value):Prop:=∃(ad:Option Addr)(n k:Nat),v=.slice ad n k/\n<=1048576/\∀i,i<n->∃b o z,ad=some ⟨b,o,none⟩/\w.cell? ⟨b,o+i,none⟩=some (.int .u8 z)/\0<=z/\z<256
end Go.Proofs.YtolmnenlnpbcfaaGreatDoor
namespace Go.Proofs.YtolmnenlnpbcfaaGreatDoor
open Go.ChangeShapes Go.WideShapes Go.ChangeAt Go.RowKit Tryz
attribute [local go_sem ↓] Go.wp_at_zero Go.wp_at_succ
def ByL(w:World)(v:Value):Prop:=∃(ad:Option Addr)(n k:Nat),v=.slice ad n k/\n<=9223372036854775807/\∀i,i<n->∃b o z,ad=some ⟨b,o,none⟩/\w.cell? ⟨b,o+i,none⟩=some (.int .u8 z)/\0<=z/\z<256
theorem cells5:prog.cellsOf 5=1:=by kernel_rfl
theorem c4n{H:Type}{enc:TypeId×Value->H}{w:World}{base:Nat}{r:Reach}{b0:Nat}{held:Bool}{v:Value}{d:DataW H}{p:List MemPlace}(m:Value.okWide prog w r b0 22 v)(h:DataW.Trod enc prog w base (λ_=>true) held 22 v d p):ByL w v:=by
 obtain⟨ad,f,g,rfl⟩:=okWide_slice underlying22 m;obtain⟨q,s⟩:=h;obtain⟨hcs,_⟩|⟨a,len',cap',zs,hcs,_,hl,hm,hz,_,hcell,hwz⟩:=open_ints underlying22 underlying5 cells5 s;have e:Value.slice ad f g=.slice none 0 0:=by simpa[Value.cells]using hcs
 cases e;exact⟨none,0,0,rfl,by omega,λi u=>by omega⟩
 have e:Value.slice ad f g=.slice (some a) len' cap':=by simpa[Value.cells]using hcs
 cases e;simp only[if_true]at hz;refine⟨some a,f,g,rfl,by unfold maxLen at hm;omega,λi u=>?_⟩;have k:=hcell i (by omega);obtain⟨b,o,j⟩:=a
 have c:j=none:=by
  have t:=hcell 0 (by omega);simpa[Addr.add]using World.cell?_spot t
 subst c;rw[b4c]at k;obtain⟨z,l⟩:=nM (zs.getD i 0);have n:=hwz z (by grind[ByL]);rw[<-l]at k;refine⟨b,o,z,rfl,k,?_⟩;have n:IntKind.u8.min<=z/\z<=IntKind.u8.max:=by simpa[Lit.wf]using n
 have x:IntKind.u8.min=0:=by decide
 have y:IntKind.u8.max=255:=by decide
 omega
end Go.Proofs.YtolmnenlnpbcfaaGreatDoor
namespace Go.Proofs.YtolmnenlnpbcfaaGreatDoor
open Go.RowKit Tryz
attribute [local go_sem ↓] Go.wp_at_zero Go.wp_at_succ
variable{w w' v:World}{B g c m b lf k q p:Nat}{x:Hp}{S T:Nat->Prop}{L:List Ak}{va:Value}{A:Ak}
def zw(n:Nat):Array Value:=Array.replicate n (iv 0)
theorem mk16(w:World):(Instr.makeSlice 23 (iv 16) (iv 16)).run prog w=.ok (sS w.heap.size 16 16) (w.alloc (.cells (zw 48) 86)):=by kernel_rfl
theorem c3w(n:Int)(w:World):Calls prog 116 #[.int .i64 n] w λe w'=>e=.returned (.pointer (some ⟨w.heap.size+1,0,none⟩))/\w'=(w.alloc (.cells (zw 48) 86)).alloc (.cells #[iv n,iv 0,iv 0,.slice (some ⟨w.heap.size,0,none⟩) 16 16,.slice none 0 0,iv 0,iv 0,iv 0,.slice none 0 0,iv 0,iv 0,iv 0,iv 0] 27):=by
 have hmk:=mk16;go_enter func116,ntmps116;go_wp2;go_ret;exact⟨rfl,rfl⟩
theorem c4i(xs:List Wd)(v s:Value)(w:World)(h:SlW w v xs)(I:SlW w s xs):
  Calls prog 35 #[v,s] w λe w'=>e=.returned (.bool true)/\Ext w w':=by
 obtain⟨L,C,rfl,K,f⟩:=h;obtain⟨z,q,rfl,_,c⟩:=I;have B:=uU f;have u:=uU c;go_enter func35,ntmps35;go_wp21;go_loopw [5,13] (λ_i i wr=>∃k:Nat,k<=xs.length/\i=iv k/\Ext w wr) (λ_ i _=>xs.length-(intOf i).toNat)
 case atStart=>exact⟨0,kB _,rfl,hO _⟩
 case round=>
  obtain⟨k,M,rfl,a⟩:=hrel;by_cases d:k<xs.length
  ·obtain⟨b,o,rfl,l,m,n⟩:=uH B k d;obtain⟨J,N,rfl,p,g,j⟩:=uH u k d;have F:=a.keep l;have E:=a.keep p;have G:=a.keep m;have x:=a.keep g;have H:=a.keep n;have A:=a.keep j;have D:(0:Int)<=(k:Int):=by omega
   have t:(k:Int)<(xs.length:Int):=by omega
   obtain⟨y,r⟩:=nM (xs[k]);rw[<-r]at F E G x H A;go_wp21;go_region;go_wp2;go_roundw
   ·exact⟨k+1,by omega,by go_num,a.drew⟩
   simp[intOf];omega
  go_wp2;go_ret;exact⟨rfl,a⟩
theorem c4j(xs:List Pr)(v B:Value)(w:World)(h:SlP w v xs)(U:SlP w B xs):
  Calls prog 36 #[v,B] w λe w'=>e=.returned (.bool true)/\Ext w w':=by
 obtain⟨X,M,rfl,W,g⟩:=h;obtain⟨G,x,rfl,_,c⟩:=U;have L:=uU g;have D:=uU c;go_enter func36,ntmps36;go_wp21;go_loopw [5,13] (λ_i i wr=>∃k:Nat,k<=xs.length/\i=iv k/\Ext w wr) (λ_ i _=>xs.length-(intOf i).toNat)
 case atStart=>exact⟨0,kB _,rfl,hO _⟩
 case round=>
  obtain⟨k,Y,rfl,a⟩:=hrel;by_cases d:k<xs.length
  ·obtain⟨b,o,rfl,m,r,s,p,q,f⟩:=uH L k d;obtain⟨V,Z,rfl,t,j,l,u,z,n⟩:=uH D k d;have Q:=a.keep m;have O:=a.keep t;have R:=a.keep r;have E:=a.keep j;have S:=a.keep s;have K:=a.keep l;have T:=a.keep p;have P:=a.keep u;have F:=a.keep q;have I:=a.keep z;have H:=a.keep f;have J:=a.keep n;have N:(0:Int)<=(k:Int):=by omega
   have C:(k:Int)<(xs.length:Int):=by omega
   obtain⟨y,A⟩:=nM (xs[k]);rw[<-A]at Q O R E S K T P F I H J;go_wp21;go_region;go_wp2;go_roundw
   ·exact⟨k+1,by omega,by go_num,a.drew⟩
   simp[intOf];omega
  go_wp2;go_ret;exact⟨rfl,a⟩
theorem c6t(xs:List Int)(v q:Value)(w:World)(h:SlI w v xs)(A:SlI w q xs):
  Calls prog 37 #[v,q] w λe w'=>e=.returned (.bool true)/\Ext w w':=by
 obtain⟨D,x,rfl,C,f⟩:=h;obtain⟨t,n,rfl,_,c⟩:=A;have u:=uU f;have s:=uU c;go_enter func37,ntmps37;go_wp21;go_loopw [5,13] (λ_i i wr=>∃k:Nat,k<=xs.length/\i=iv k/\Ext w wr) (λ_ i _=>xs.length-(intOf i).toNat)
 case atStart=>exact⟨0,kB _,rfl,hO _⟩
 case round=>
  obtain⟨k,E,rfl,a⟩:=hrel;by_cases d:k<xs.length
  ·obtain⟨b,o,rfl,g⟩:=uH u k d;obtain⟨B,F,rfl,m⟩:=uH s k d;have l:=a.keep g;have j:=a.keep m;simp only[Nat.mul_one]at l j;have z:(0:Int)<=(k:Int):=by omega
   have r:(k:Int)<(xs.length:Int):=by omega
   obtain⟨y,p⟩:=nM (xs[k]);rw[<-p]at l j;go_wp21;go_region;go_wp2;go_roundw
   ·exact⟨k+1,by omega,by go_num,a.drew⟩
   simp[intOf];omega
  go_wp2;go_ret;exact⟨rfl,a⟩
def GG(S:Nat->Prop)(B:Nat)(w:World)(g:Nat)(x:Hp):Prop:=∃z:Nat->Option Obj,(∀q,S q->∃o,z q=some o)/\@GOk ⟨⟨z⟩⟩ B w g x
theorem GOk.prt{p:Inhabited uL}(h:@GOk p B w g x){o:Obj}(b:(@default uL p).z q=some o):w.heap[q]?=some o:=by
 obtain⟨n,f,i,e,c,d,m,l,k,j,a,h⟩:=h;exact(h.pr q o b).2
theorem GG.lt(h:GG S B w g x)(c:S q):q<w.heap.size:=by
 obtain⟨z,a,h⟩:=h;obtain⟨o,b⟩:=a q c;exact a1t (h.prt b)
theorem GG.call(h:GG S B w g x):∃p:Inhabited uL,@GOk p B w g x/\∀w' y,@GOk p B w' g y->GG S B w' g y/\∀q,S q->w'.heap[q]?=w.heap[q]?:=by
 obtain⟨z,a,h⟩:=h;refine⟨⟨⟨z⟩⟩,h,λw' y b=>⟨⟨z,a,b⟩,λq d=>?_⟩⟩;obtain⟨o,c⟩:=a q d;rw[b.prt c,h.prt c]
theorem GG.turn(h:GG S B w g x)(l:uQ S w w')(G:∀q,T q->S q\/(w.heap.size<=q/\q<w'.heap.size)):GG T B w' g x:=by
 obtain⟨z,m,F,s,D,n,v,y,u,t,E,C,d,h⟩:=h;have r:=h;obtain⟨_,_,_,_,_,_,_,_,_,j,_⟩:=r;refine⟨λq=>if w.heap.size<=q\/(z q).isSome then w'.heap[q]? else none,λq f=>?_,F,s,D,n,v,y,u,t,E,C,λq=>if w.heap.size<=q then 1 else d q,GAt.far h l.size (λq f p=>l.block q f (λe=>?_)) (λq f _=>if_neg (by omega)) (λq o f=>?_)⟩;obtain a|⟨a,b⟩:=G q f
 ·obtain⟨o,i⟩:=m q a;simp only[i,Option.isSome_some,or_true,if_true];exact a3b (kF (a1t (j q o i).2) l.size)
 grind[a3b,GG];obtain⟨o,i⟩:=m q e;exact p (j q o i).1;split at f
 ·rename_i c;refine⟨?_,f⟩;by_cases k:w.heap.size<=q
  ·exact if_pos k
  obtain⟨A,i⟩:=Option.isSome_iff_exists.1 (c.resolve_left k);show(if w.heap.size<=q then 1 else d q)=1;rw[if_neg k];exact(j q A i).1
 cases f
theorem GG.more(h:GG S B w g x)(e:Ext w w')(a:∀q,T q->S q\/(w.heap.size<=q/\q<w'.heap.size)):GG T B w' g x:=h.turn (uQ.of_ext e) a
theorem GG.poke{P:Nat->Prop}(h:GG S B w g x)(c:uQ P w w')(b:∀q,P q->S q):GG S B w' g x:=h.turn (c.mono b) (λ_ a=>.inl a)
theorem eQ{o:Nat}(h:w'.heap[b]?=w.heap[b]?):w'.cell? (aA b o)=w.cell? (aA b o):=kR h
theorem a8b(h:Nf1 b w)(c:w'.heap[b]?=w.heap[b]?):Nf1 b w':=by
 obtain⟨o,d⟩:=a3b h.1;exact⟨a1t (c.trans d),λj=>by rw[mL (a:=(aA b j)) c];exact h.2 j⟩
def kN(w:World)(B:Nat):World:={w with heap:=w.heap.extract 0 B}
theorem kN.le(w:World)(B:Nat):(kN w B).heap.size<=B:=by simp[kN];omega
theorem kN.ext(w:World)(B:Nat):Ext (kN w B) w:=⟨rfl,rfl,rfl,by simp[kN];omega,λk h=>by simp[kN]at h ⊢;simp[h]⟩
theorem uQ.low(o:uQ S v w)(m:v.heap.size<=B)(e:Ext (kN w B) w'):uQ S v w':=by
 have s:=o.size;have z:(kN w B).heap.size=min B w.heap.size:=by simp[kN]
 exact⟨e.os.trans o.os,e.tape.trans o.tape,e.output.trans o.output,by have:=e.size;omega,λk h n=>(e.block k (by omega)).trans (((kN.ext w B).block k (by omega)).symm.trans (o.block k h n))⟩
theorem uQ.pst(h:uQ S v w)(o:uQ T w w')(k:∀q,T q->v.heap.size<=q):uQ S v w':=
 ⟨o.os.trans h.os,o.tape.trans h.tape,o.output.trans h.output,kA h.size o.size,λq a n=>(o.block q (kF a h.size) (λt=>by have:=k q t;omega)).trans (h.block q a n)⟩
theorem Cu.blk(h:Cu v w c m)(e:uQ (λq=>q=c) v w')(b:w'.heap[c]?=w.heap[c]?):Cu v w' c m:=by
 obtain⟨_,d,j,n,k,a,s,g,f,i,r⟩:=h;exact⟨e,a8b d b,j,n,k,a,s,(eQ b).trans g,(eQ b).trans f,(eQ b).trans i,r⟩
def a3v(x:Ak):Prop:=(-9223372036854775808<=x.op/\x.op<=9223372036854775807)/\(-9223372036854775808<=x.a/\x.a<=9223372036854775807)/\(-9223372036854775808<=x.b/\x.b<=9223372036854775807)/\(-9223372036854775808<=x.c/\x.c<=9223372036854775807)/\(-9223372036854775808<=x.n/\x.n<=9223372036854775807)
structure Bp(B:Nat)(v w:World)(b c g m:Nat)(x:Hp)(L:List Ak)(va:Value)(lf:Nat):Prop where
 s:Snd x
 hL:∀a,a∈L->a3v a
 hl:L.length+lf<=400
 cu:Cu v w c m
 vB:v.heap.size<=B
 vb:v.heap.size<=b
 bc:b≠c
 nf:Nf1 b w
 b0:w.cell? ⟨b,0,none⟩=some (.pointer (some ⟨c,0,none⟩))
 b1:w.cell? ⟨b,1,none⟩=some (.pointer (some ⟨g,0,none⟩))
 b2:w.cell? ⟨b,2,none⟩=some va
 b3:w.cell? ⟨b,3,none⟩=some (iv lf)
 ow:w.ownsRow v.heap.size 29 5 va L.length (L.flatMap fA)
 n1:va.ownBlock≠some b
 n2:va.ownBlock≠some c
 gg:GG (λq=>q=b\/q=c\/va.ownBlock=some q) B w g x
def Bd(B:Nat)(v w:World)(b c g m:Nat):Prop:=∃x L va lf,Bp B v w b c g m x L va lf
theorem Bd.c0(h:Bd B v w b c g m):w.cell? (aA b 0)=some (pP c):=by
 obtain⟨_,_,_,_,h⟩:=h;exact h.b0
theorem Bd.c1(h:Bd B v w b c g m):w.cell? (aA b 1)=some (pP g):=by
 obtain⟨_,_,_,_,h⟩:=h;exact h.b1
theorem Bd.cu(h:Bd B v w b c g m):Cu v w c m:=by
 obtain⟨_,_,_,_,h⟩:=h;exact h.cu
theorem Bp.blk{y:Hp}(h:Bp B v w b c g m x L va lf)(e:uQ (λq=>q=c) v w')(s:Snd y)(f:GG (λq=>q=b\/q=c\/va.ownBlock=some q) B w' g y)(k:∀q,q=b\/q=c\/va.ownBlock=some q->w'.heap[q]?=w.heap[q]?):Bp B v w' b c g m y L va lf:=by
 have a:=k b (.inl rfl);exact⟨s,h.hL,h.hl,h.cu.blk e (k c (.inr (.inl rfl))),h.vB,h.vb,h.bc,a8b h.nf a,(eQ a).trans h.b0,(eQ a).trans h.b1,(eQ a).trans h.b2,(eQ a).trans h.b3,uN h.ow (λq d=>k q (.inr (.inr d))),h.n1,h.n2,f⟩
theorem Bp.ext(h:Bp B v w b c g m x L va lf)(e:Ext w w'):Bp B v w' b c g m x L va lf:=
 h.blk (h.cu.1.trans (uQ.of_ext e)) h.s (h.gg.more e (λ_ a=>.inl a)) (λq a=>e.block q (h.gg.lt a))
theorem Bd.ext(h:Bd B v w b c g m)(e:Ext w w'):Bd B v w' b c g m:=by
 obtain⟨x,L,a,d,h⟩:=h;exact⟨x,L,a,d,h.ext e⟩
theorem Bp.read(h:Bp B v w b c g m x L va lf)(o:uQ (λq=>q=c) w w')(f:Cu v w' c k):Bp B v w' b c g k x L va lf:=by
 have a:w'.heap[b]?=w.heap[b]?:=o.block b h.nf.1 h.bc;exact⟨h.s,h.hL,h.hl,f,h.vB,h.vb,h.bc,a8b h.nf a,(eQ a).trans h.b0,(eQ a).trans h.b1,(eQ a).trans h.b2,(eQ a).trans h.b3,uN h.ow (λq d=>o.block q (h.ow.lt q d).2 (λe=>h.n2 (by rw[<-e];exact d))),h.n1,h.n2,h.gg.poke o (λ_ e=>.inr (.inl e))⟩
def b1k(B:Nat)(v:World)(b c g m:Nat)(n:Int)(e:Ending)(w':World):Prop:=∃r:Int,Hid (e=.returned (iv r))/\0<=r/\r<n/\Hid (Bd B v w' b c g m)
theorem Bd.read(h:Bd B v w b c g m)(o:uQ (λq=>q=c) w w')(e:Cu v w' c k):Bd B v w' b c g k:=by
 obtain⟨x,L,a,d,h⟩:=h;exact⟨x,L,a,d,h.read o e⟩
theorem tL(B:Nat)(v w:World)(b c g m:Nat)(n:Int)(h:Bd B v w b c g m)(j:m<=999999999)(i:n<=1000000)(k:1<=n):
  Calls prog 17 #[pP c,iv n] w λe w'=>b1k B v b c g (m+2) n e w':=
 (a1u v w c m n h.cu j i k).mono λ_ _ ⟨r,f,d,a,q,o⟩=>⟨r,f,d,a,h.read o q⟩
theorem bwhole(B:Nat)(v w:World)(b c g m:Nat)(h:Bd B v w b c g m)(f:m<=99999999):
  Calls prog 59 #[pP c] w λe w'=>∃r:Int,Hid (e=.returned (iv r))/\(-9223372036854775808<=r/\r<=9223372036854775807)/\Hid (Bd B v w' b c g (m+4)):=
 (b7p v w c m h.cu f).mono λ_ _ ⟨r,d,a,q,o⟩=>⟨r,d,a,h.read o q⟩
theorem Bp.left(h:Bp B v w b c g m x L va lf)(f:k<=lf):Bp B v (w.setCell (aA b 3) (iv k)) b c g m x L va k:=by
 have o:uQ (λq=>q=b) w (w.setCell (aA b 3) (iv k)):=(uQ.refl (λq=>q=b) w).setCell (p:=(aA b 3)) rfl _;have d:=o.block c h.cu.2.1.1 (λe=>h.bc e.symm);exact⟨h.s,h.hL,by have:=h.hl;omega,h.cu.blk (h.cu.1.pst o (λq e=>by have:=h.vb;omega)) d,h.vB,h.vb,h.bc,h.nf.set _ _,by rw[uC _ (.inr (by omega))];exact h.b0,by rw[uC _ (.inr (by omega))];exact h.b1,by rw[uC _ (.inr (by omega))];exact h.b2,tJ.same ⟨⟨_,h.b3⟩,h.nf.2 3⟩ _,uN h.ow (λq a=>o.block q (h.ow.lt q a).2 (λe=>h.n1 (by rw[<-e];exact a))),h.n1,h.n2,h.gg.poke o (λ_ e=>.inl e)⟩
structure AppA(base:Nat)(w0:World)(va:Value)(L:List Ak)(A:Ak)(q cap:Nat)(w':World):Prop where
 ow:w'.ownsRow base 29 5 (.slice (some ⟨q,0,none⟩) (L.length+1) cap) (L.length+1) ((L++[A]).flatMap fA)
 on:uQ (λr=>va.ownBlock=some r) w0 w'
 at_:va.ownBlock=some q\/w0.heap.size<=q
theorem Bp.push{cap:Nat}(h:Bp B v w b c g m x L va lf)(F:L.length+lf+1<=400)(E:a3v A)(a:AppA v.heap.size w va L A q cap w'):Bp B v (w'.setCell ⟨b,2,none⟩ (.slice (some ⟨q,0,none⟩) (L.length+1) cap)) b c g m x (L++[A]) (.slice (some ⟨q,0,none⟩) (L.length+1) cap) lf:=by
 have i:=a.on.block b h.nf.1 h.n1;have t:=a.on.block c h.cu.2.1.1 h.n2;have D:q≠b:=λe=>by
  obtain f|f:=a.at_;exact h.n1 (by rw[f,e]);have:=h.nf.1;omega
 have z:q≠c:=λe=>by
  obtain f|f:=a.at_;exact h.n2 (by rw[f,e]);have:=h.cu.2.1.1;omega
 have n:=a8b h.nf i;have C:=h.cu.1.pst a.on (λr e=>(h.ow.lt r e).1);have o:uQ (λr=>r=b) w' (w'.setCell ⟨b,2,none⟩ (.slice (some ⟨q,0,none⟩) (L.length+1) cap)):=(uQ.refl (λq=>q=b) w').setCell (p:=⟨b,2,none⟩) rfl _;have l:=(o.block c (by have:=a.on.size;have:=h.cu.2.1.1;omega) (λe=>h.bc e.symm)).trans t;have j:(Value.slice (some ⟨q,0,none⟩) (L.length+1) cap).ownBlock=some q:=rfl;have k:=(a.ow.lt q j).2;refine⟨h.s,λy u=>?_,by simp;omega,h.cu.blk (C.pst o (λr e=>by have:=h.vb;omega)) l,h.vB,h.vb,h.bc,n.set _ _,?_,?_,?_,?_,?_,by rw[j];intro e;exact D (Option.some.inj e),by rw[j];intro e;exact z (Option.some.inj e),?_⟩;obtain e|e:=kx.1 u
 ·exact h.hL y e
 simp at e;subst e;exact E;rw[uC _ (.inr (by omega))];exact(eQ i).trans h.b0;rw[uC _ (.inr (by omega))];exact(eQ i).trans h.b1;exact tJ.same ⟨⟨_,(eQ i).trans h.b2⟩,n.2 2⟩ _;rw[uC _ (.inr (by omega))];exact(eQ i).trans h.b3;have:(L++[A]).length=L.length+1:=by simp
 rw[this];exact uN a.ow (λr d=>o.block r (a.ow.lt r d).2 (λe=>by rw[j]at d;have:=Option.some.inj d;omega));refine((h.gg.turn (T:=λr=>r=b\/r=c\/some q=some r) (a.on.mono λ_ e=>.inr (.inr e)) (λr d=>?_)).poke o (λ_ e=>.inl e));obtain e|e|e:=d
 ·exact .inl (.inl e)
 exact .inl (.inr (.inl e));have e:=Option.some.inj e;subst e;obtain f|f:=a.at_
 ·exact .inl (.inr (.inr f))
 exact .inr ⟨f,k⟩
theorem Cu.ext(h:Cu v w c m)(e:Ext w w'):Cu v w' c m:=h.blk (h.1.trans (uQ.of_ext e)) (e.block c h.2.1.1)
theorem d2a(w:World)(t:TypeId)(k:Nat)(a:k<15):∃z:Int,(w.alloc (.cells #[iv (-1),iv 0,iv 1,iv 2,iv 3,iv 5,iv 7,iv 16,iv 200,iv 201,iv 256,iv 4000,iv 4001,iv 1000000000,iv 1000000001] t)).cell? (aA w.heap.size k)=some (iv z)/\-1<=z/\z<=1000000001:=by
 match k,a with
 | 0,_=>exact⟨-1,by simp[go_sem],by omega,by omega⟩
 | 1,_=>exact⟨0,by simp[go_sem],by omega,by omega⟩
 | 2,_=>exact⟨1,by simp[go_sem],by omega,by omega⟩
 | 3,_=>exact⟨2,by simp[go_sem],by omega,by omega⟩
 | 4,_=>exact⟨3,by simp[go_sem],by omega,by omega⟩
 | 5,_=>exact⟨5,by simp[go_sem],by omega,by omega⟩
 | 6,_=>exact⟨7,by simp[go_sem],by omega,by omega⟩
 | 7,_=>exact⟨16,by simp[go_sem],by omega,by omega⟩
 | 8,_=>exact⟨200,by simp[go_sem],by omega,by omega⟩
 | 9,_=>exact⟨201,by simp[go_sem],by omega,by omega⟩
 | 10,_=>exact⟨256,by simp[go_sem],by omega,by omega⟩
 | 11,_=>exact⟨4000,by simp[go_sem],by omega,by omega⟩
 | 12,_=>exact⟨4001,by simp[go_sem],by omega,by omega⟩
 | 13,_=>exact⟨1000000000,by simp[go_sem],by omega,by omega⟩
 | 14,_=>exact⟨1000000001,by simp[go_sem],by omega,by omega⟩
theorem b9k(v w:World)(c m:Nat)(h:Cu v w c m)(F:m<=99999999):
  Calls prog 62 #[pP c] w λe w'=>b7o v w c (m+4) e w':=by
 have j:=uU h;have D:c<w.heap.size:=h.2.1.1;go_enter func62,ntmps62;go_wp21;obtain⟨d,a⟩:∃W,W=w.alloc (.cells #[iv (-1),iv 0,iv 1,iv 2,iv 3,iv 5,iv 7,iv 16,iv 200,iv 201,iv 256,iv 4000,iv 4001,iv 1000000000,iv 1000000001] 3):=⟨_,rfl⟩;have i:Ext w d:=by rw[a];exact(hO _).alloc _
 have n:=uU (λk u=>by have:=d2a w 3 k u;rw[<-a]at this;exact this);have x:w.heap.size<d.heap.size:=by rw[a];simp
 rw[<-a];refine(a1u v d c m 15 (j.ext i) (by omega) (by omega) (by omega)).mono ?_;rintro e f ⟨r,p,E,A,l,o⟩;have y:=uH p;subst y;obtain⟨k,rfl⟩:∃k:Nat,r=k:=⟨r.toNat,by omega⟩;obtain⟨z,s,B,C⟩:=uH n k (by omega);have g:=o.keep (b:=w.heap.size) (λe=>by omega) s;have t:w.heap.size<f.heap.size:=uZ g;have P:=uU (show Cu v f c (m+4)/\uQ (λq=>q=c) w f from⟨l.more (by omega),(uQ.of_ext i).trans o⟩);go_wp2;go_ret;exact⟨z,rfl,⟨by omega,by omega⟩,P.1,P.2⟩
def OddPost(v w:World)(c m:Nat)(e:Ending)(w':World):Prop:=∃A:Ak,Hid (e=.returned A.v)/\Hid (a3v A)/\Hid (Cu v w' c m)/\Hid (uQ (λq=>q=c) w w')
def ABx(w:World)(p:Nat)(A:Ak):Prop:=(w.cell? ⟨p,0,none⟩=some (iv A.op)/\w.cell? ⟨p,1,none⟩=some (iv A.a)/\w.cell? ⟨p,2,none⟩=some (iv A.b)/\w.cell? ⟨p,3,none⟩=some (iv A.c)/\w.cell? ⟨p,4,none⟩=some (iv A.n))/\∀j,w.frozen? ⟨p,j,none⟩=false
theorem ABx.new(w:World)(A:Ak)(t:TypeId):ABx (w.alloc (.cells #[iv A.op,iv A.a,iv A.b,iv A.c,iv A.n] t)) w.heap.size A:=⟨⟨by simp[go_sem],by simp[go_sem],by simp[go_sem],by simp[go_sem],by simp[go_sem]⟩,λj=>by simp[go_sem]⟩
theorem ABx.blk(h:ABx w p A)(e:w'.heap[p]?=w.heap[p]?):ABx w' p A:=by
 obtain⟨⟨b,i,c,g,d⟩,f⟩:=h;exact⟨⟨(eQ e).trans b,(eQ e).trans i,(eQ e).trans c,(eQ e).trans g,(eQ e).trans d⟩,λj=>by rw[<-f j];exact mL (a:=(aA p j)) e⟩
def retA(W:World)(p k r:Nat)(u:Value)(A:Ak):World:=(((((W.setCell ⟨p,k,none⟩ u).setCell ⟨r,0,none⟩ (iv A.op)).setCell ⟨r,1,none⟩ (iv A.a)).setCell ⟨r,2,none⟩ (iv A.b)).setCell ⟨r,3,none⟩ (iv A.c)).setCell ⟨r,4,none⟩ (iv A.n)
theorem c8k(W:World)(p k r:Nat)(u:Value)(A:Ak):uQ (λq=>q=p\/q=r) W (retA W p k r u A):=by
 unfold retA;iterate 5 (refine uQ.setCell (S:=λq=>q=p\/q=r) ?_ (.inr rfl) _)
 exact uQ.setCell (S:=λq=>q=p\/q=r) (uQ.refl _ _) (.inl rfl) _
theorem a8e{W:World}{n r:Nat}{u:Value}(cu:Cu v W c m)(o:uQ (λq=>q=c) w W)(g:c<w.heap.size)(i:uQ (λq=>q=c) v w)(j:w.heap.size<=p)(l:w.heap.size<=r)(h:m<=n):Cu v (retA W p k r u A) c n/\uQ (λq=>q=c) w (retA W p k r u A):=by
 have a:=c8k W p k r u A;have d:c<W.heap.size:=kF g o.size;have e:uQ (λq=>q=c) w (retA W p k r u A):=by
  refine⟨a.os.trans o.os,a.tape.trans o.tape,a.output.trans o.output,kA o.size a.size,λq b f=>?_⟩;rw[a.block q (kF b o.size) (by omega),o.block q b f]
 refine⟨(cu.blk ?_ (a.block c d (by omega))).more h,e⟩;exact cu.1.pst a (λq b=>by have:=i.size;omega)
theorem c5a(v w:World)(c m:Nat)(A:Ak)(hA:a3v A)(h:Cu v w c m)(hm:m<=9999999):
  Calls prog 23 #[pP c,A.v] w λe w'=>OddPost v w c (m+10) e w':=by
 have f:=uU h;have B:c<w.heap.size:=h.2.1.1;have x:=uU hA;have C:=uU h.1;go_enter func23,ntmps23;go_wp21;obtain⟨D,i⟩:∃W,W=(w.alloc (.cells #[iv A.op,iv A.a,iv A.b,iv A.c,iv A.n] 29)).alloc (.cells #[iv 0,iv 0,iv 0,iv 0,iv 0] 29):=⟨_,rfl⟩;have XA:Ext w D:=by rw[i];exact((hO _).alloc _).alloc _
 have d:=uU (show ABx D w.heap.size A by rw[i];exact(ABx.new w A 29).blk (((hO _).alloc _).block _ (by simp)));have g:=uU (show ABx D (w.heap.size+1) ⟨0,0,0,0,0⟩ by rw[i];have:=ABx.new (w.alloc (.cells #[iv A.op,iv A.a,iv A.b,iv A.c,iv A.n] 29)) ⟨0,0,0,0,0⟩ 29;simpa using this);have Y:=uU (show D.heap.size=w.heap.size+2 by rw[i];simp);rw[<-i];refine(b9k v D c m (f.ext XA) (by omega)).mono ?_;rintro e w2 ⟨z,l,hz,j,o⟩;have s:=uH l;subst s;have Z:=hz;have d:=uU (d.blk (o.block _ (by rw[uH Y];omega) (by omega)));have g:=uU (g.blk (o.block _ (by rw[uH Y];omega) (by omega)));have X:=uU (show w.heap.size+2<=w2.heap.size by have:=o.size;rw[uH Y]at this;exact this);have O2:=uU ((uQ.of_ext XA).trans o);have f:=uU j;go_wp21;refine(a1u v w2 c _ 6 f (by omega) (by omega) (by omega)).mono ?_;rintro e w3 ⟨r,l,r0,r1,j,o⟩;have s:=uH l;subst s;have d:=uU (d.blk (o.block _ (by have:=uH X;omega) (by omega)));have g:=uU (g.blk (o.block _ (by have:=uH X;omega) (by omega)));have t:=uU (show w.heap.size+2<=w3.heap.size from kA X o.size);have q:=uU (O2.trans o);have f:=uU j;have hr:r=0\/r=1\/r=2\/r=3\/r=4\/r=5:=by omega
 obtain rfl|rfl|rfl|rfl|rfl|rfl:=hr
 ·go_wp21;refine(a1u v w3 c _ 27 f (by omega) (by omega) (by omega)).mono ?_;rintro e w4 ⟨y,l,y0,y1,j,o⟩;have s:=uH l;subst s;have d:=uU (d.blk (o.block _ (by have:=uH t;omega) (by omega)));have g:=uU (g.blk (o.block _ (by have:=uH t;omega) (by omega)));have q:=uU (q.trans o);have f:=uU j;obtain⟨⟨H,O,P,K,M⟩,N⟩:=uH d;obtain⟨⟨Q,G,F,R,T⟩,U⟩:=uH g;go_wp2;refine bodyPost_ret (v:=Ak.v ⟨y-1,A.a,A.b,A.c,A.n⟩) (by simp[results,results23,go_sem, *]) rfl ?_;have E:=a8e (p:=w.heap.size) (k:=0) (r:=w.heap.size+1) (u:=iv (y-1)) (A:=⟨y-1,A.a,A.b,A.c,A.n⟩) (n:=m+10) f q B C (by omega) (by omega) (by omega);exact⟨⟨y-1,A.a,A.b,A.c,A.n⟩,rfl,(by obtain⟨S,I,V,J,L⟩:=uH x;have:=uH Z;refine⟨?_,?_,?_,?_,?_⟩ <;> simp only <;> omega),E.1,E.2⟩
 ·obtain⟨⟨H,O,P,K,M⟩,N⟩:=d;obtain⟨⟨Q,G,F,R,T⟩,U⟩:=uH g;go_wp2;refine bodyPost_ret (v:=Ak.v ⟨A.op,z,A.b,A.c,A.n⟩) (by simp[results,results23,go_sem, *]) rfl ?_;have E:=a8e (p:=w.heap.size) (k:=1) (r:=w.heap.size+1) (u:=iv z) (A:=⟨A.op,z,A.b,A.c,A.n⟩) (n:=m+10) f q B C (by omega) (by omega) (by omega);exact⟨⟨A.op,z,A.b,A.c,A.n⟩,rfl,(by obtain⟨S,I,V,J,L⟩:=uH x;have:=uH Z;refine⟨?_,?_,?_,?_,?_⟩ <;> simp only <;> omega),E.1,E.2⟩
 ·obtain⟨⟨H,O,P,K,M⟩,N⟩:=d;obtain⟨⟨Q,G,F,R,T⟩,U⟩:=uH g;go_wp2;refine bodyPost_ret (v:=Ak.v ⟨A.op,A.a,z,A.c,A.n⟩) (by simp[results,results23,go_sem, *]) rfl ?_;have E:=a8e (p:=w.heap.size) (k:=2) (r:=w.heap.size+1) (u:=iv z) (A:=⟨A.op,A.a,z,A.c,A.n⟩) (n:=m+10) f q B C (by omega) (by omega) (by omega);exact⟨⟨A.op,A.a,z,A.c,A.n⟩,rfl,(by obtain⟨S,I,V,J,L⟩:=uH x;have:=uH Z;refine⟨?_,?_,?_,?_,?_⟩ <;> simp only <;> omega),E.1,E.2⟩
 ·obtain⟨⟨H,O,P,K,M⟩,N⟩:=d;obtain⟨⟨Q,G,F,R,T⟩,U⟩:=uH g;go_wp2;refine bodyPost_ret (v:=Ak.v ⟨A.op,A.a,A.b,z,A.n⟩) (by simp[results,results23,go_sem, *]) rfl ?_;have E:=a8e (p:=w.heap.size) (k:=3) (r:=w.heap.size+1) (u:=iv z) (A:=⟨A.op,A.a,A.b,z,A.n⟩) (n:=m+10) f q B C (by omega) (by omega) (by omega);exact⟨⟨A.op,A.a,A.b,z,A.n⟩,rfl,(by obtain⟨S,I,V,J,L⟩:=uH x;have:=uH Z;refine⟨?_,?_,?_,?_,?_⟩ <;> simp only <;> omega),E.1,E.2⟩
 ·obtain⟨⟨H,O,P,K,M⟩,N⟩:=d;obtain⟨⟨Q,G,F,R,T⟩,U⟩:=uH g;go_wp2;refine bodyPost_ret (v:=Ak.v ⟨A.op,A.a,A.b,A.c,z⟩) (by simp[results,results23,go_sem, *]) rfl ?_;have E:=a8e (p:=w.heap.size) (k:=4) (r:=w.heap.size+1) (u:=iv z) (A:=⟨A.op,A.a,A.b,A.c,z⟩) (n:=m+10) f q B C (by omega) (by omega) (by omega);exact⟨⟨A.op,A.a,A.b,A.c,z⟩,rfl,(by obtain⟨S,I,V,J,L⟩:=uH x;have:=uH Z;refine⟨?_,?_,?_,?_,?_⟩ <;> simp only <;> omega),E.1,E.2⟩
 go_wp21;refine(a1u v w3 c _ 300 f (by omega) (by omega) (by omega)).mono ?_;rintro e w4 ⟨y,l,y0,y1,j,o⟩;have s:=uH l;subst s;have d:=uU (d.blk (o.block _ (by have:=uH t;omega) (by omega)));have g:=uU (g.blk (o.block _ (by have:=uH t;omega) (by omega)));have q:=uU (q.trans o);have f:=uU j;obtain⟨⟨H,O,P,K,M⟩,N⟩:=uH d;obtain⟨⟨Q,G,F,R,T⟩,U⟩:=uH g;go_wp2;refine bodyPost_ret (v:=Ak.v ⟨A.op,A.a,A.b,y,A.n⟩) (by simp[results,results23,go_sem, *]) rfl ?_;have E:=a8e (p:=w.heap.size) (k:=3) (r:=w.heap.size+1) (u:=iv y) (A:=⟨A.op,A.a,A.b,y,A.n⟩) (n:=m+10) f q B C (by omega) (by omega) (by omega);exact⟨⟨A.op,A.a,A.b,y,A.n⟩,rfl,(by obtain⟨S,I,V,J,L⟩:=uH x;have:=uH Z;refine⟨?_,?_,?_,?_,?_⟩ <;> simp only <;> omega),E.1,E.2⟩
end Go.Proofs.YtolmnenlnpbcfaaGreatDoor
