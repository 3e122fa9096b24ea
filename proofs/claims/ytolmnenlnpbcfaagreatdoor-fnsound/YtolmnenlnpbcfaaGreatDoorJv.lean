import Derived.Test.YtolmnenlnpbcfaaGreatDoorJb
import Derived.Test.YtolmnenlnpbcfaaGreatDoorQd
import Derived.Test.YtolmnenlnpbcfaaGreatDoorSpecL
set_option maxRecDepth 100000
set_option maxHeartbeats 2000000
namespace Go.Proofs.YtolmnenlnpbcfaaGreatDoor
open Go.RowKit Go.Proofs.Tryz
attribute [local go_sem ↓] Go.wp_at_zero Go.wp_at_succ
variable{x:Hp}{n:Int}{w:World}{b c:Nat}
theorem a7i.snd{op a b c:Int}{y:Hp}{cd nm:Int}(s:Snd x)(h:a7i x op a b c n y cd nm):Snd y:=by
 obtain⟨_,h2,_⟩|⟨ok,h2⟩:=h;rw[h2];exact s;have⟨l,m,j,k⟩:=a6a ok;have i:a7f op<=15:=by unfold a7f;split <;> omega
 have g:op≠1->op≠23->kE op<=15:=λd f=>by unfold kE;rw[if_neg d,if_neg f];split <;> omega
 refine DoR.snd s (by omega) (λd f=>by have:=g (by omega) (by omega);omega) (λe=>?_) (λe=>?_) (λe=>?_) (λe=>?_) h2;grind[kE,kW,a7i,Hp.c];grind[kE,c7h,kW,a7i,Hp.c];grind[kW,a7i,Hp.c];grind[kW,a7i,Hp.c]
def zs6(k:Nat):List Value:=(Builtin.zeroCells #[iv 0,iv 0,iv 0,iv 0,iv 0,iv 0] k).toList
theorem a3k(k:Nat):(zs6 k).length=k*6:=b5w k
theorem d5i(k j:Nat)(a:j<k*6):(zs6 k)[j]?=some (iv 0):=by
 have b:j % 6<6:=mN _ (by omega);have:([iv 0,iv 0,iv 0,iv 0,iv 0,iv 0]:List Value)[j % 6]?.getD default=iv 0:=by
  have:j % 6=0\/j % 6=1\/j % 6=2\/j % 6=3\/j % 6=4\/j % 6=5:=by omega
  obtain e|e|e|e|e|e:=this <;> rw[e] <;> rfl
 unfold zs6;simp[Builtin.zeroCells,a];exact this
theorem b6p(w:World)(y:TypeId)(base:Option Addr)(b l cap k:Nat)(z:l+k<=cap)(A:k<=200)(x:0<k->base=some (aA b 0)/\∀j,j<k*6->(w.cell? (aA b (l*6+j))).isSome=true/\w.frozen? (aA b (l*6+j))=false):
  (Builtin.append_ #[68,3] y #[.slice base l cap,iv k]).run prog w=.ok (.slice base (l+k) cap) (w.setCells b (l*6) (zs6 k)):=by
 obtain⟨r,d,o,c,q⟩:=info_parts a2r;have v:IntKind.i64.wrap (k:Int)=k:=by rw[nH];omega
 have g:¬((k:Int)<0):=by omega
 have i:¬(281474976710656<(k:Int)*(r.bytes:Int)):=by rw[q];omega
 obtain t|t:=mF k;subst t;have e:zs6 0=[]:=mR (by rw[a3k]);rw[e];have m:l<=cap:=by omega
 have n:IntKind.i64.wrap 0=0:=by rw[nH];decide
 cases base with
 | none=>simp[Builtin.append_,run_underlying underlying68,run_underlying underlying3,sizeOf,typeInfo,d,asInt,asIntOf,n,m,World.setCells]
 | some a=>simp[Builtin.append_,run_underlying underlying68,run_underlying underlying3,sizeOf,typeInfo,d,asInt,asIntOf,n,m,World.setCells,storeCells]
 obtain⟨rfl,u⟩:=x t;have s:¬(k*r.size=0):=by rw[c];omega
 have p:(Value.agg #[iv 0,iv 0,iv 0,iv 0,iv 0,iv 0]).cells=#[iv 0,iv 0,iv 0,iv 0,iv 0,iv 0]:=by kernel_rfl
 have f:=run_storeCells_cells (P:=prog) b (0+l*r.size) (zs6 k) 0 w (λj h=>by rw[a3k]at h;rw[c,kO];exact(u j h).1) (λj h=>by rw[a3k]at h;rw[c,kO];exact(u j h).2) (b5x k);simp only[Nat.add_zero,Nat.zero_add]at f;unfold zs6 at f ⊢;rw[<-c];simp[Builtin.append_,run_underlying underlying68,run_underlying underlying3,sizeOf,typeInfo,zeroValue,d,o,asInt,asIntOf,v,z,g,i,Addr.add_lit];rw[if_neg s,p,f];rfl
structure AppS[qd](C B b:Nat)(x:Hp)(i c bn cb co:Nat)(ap:Option Addr)(kp:Nat)(v:World)(a':Option Addr)(k':Nat)(w':World):Prop where
 so:∀W,Ext w' W->SOq C B (W.setCell ⟨cb,co+7,none⟩ (.slice a' ((x.c i).F.length+c) k')) b (hD x i (tY (x.c i) c))
 m1:w'.cell? ⟨bn,i*2+1,none⟩=some (.pointer (some ⟨cb,co,none⟩))
 p7:w'.cell? ⟨cb,co+7,none⟩=some (.slice ap (x.c i).F.length kp)
 f7:w'.frozen? ⟨cb,co+7,none⟩=false
 dd:∀q ob,(default:uL).z q=some ob->w'.heap[q]?=some ob
 ex:Ext v w'
theorem yJ.more{M:List Pr}(h:yJ w b M)(z:∀j,M.length*6<=j->j<(M.length+c)*6->w.cell? (aA b j)=some (iv 0)):yJ w b (M++List.replicate c Pr0):=λk f=>by
 by_cases e:k<M.length;rw[List.getElem_append_left e];exact h k e;have d:k<M.length+c:=by simpa using f
 rw[List.getElem_append_right (by omega),List.getElem_replicate];have a:∀m,m<6->w.cell? (aA b (k*6+m))=some (iv 0):=λm g=>z _ (by omega) (by omega)
 exact⟨a 0 (by omega),a 1 (by omega),a 2 (by omega),a 3 (by omega),a 4 (by omega),a 5 (by omega)⟩
theorem SOq.growr[qd]{C B:Nat}{w:World}{b:Nat}{x:Hp}(h:SOq C B w b x)(r0:0<x.B.length)(i:Nat)(f:i<x.A.length)(c:Nat)(hc:(x.c i).F.length+c<=200)(v:World)(hv:v.heap.size<=B)(hx:Ext v w):∃bn kn cb co ap kp,b6f C B w b x i bn kn cb co ap kp/\
  ∀(d:World)(ty:TypeId),Ext w d->∃a' k' w',(Builtin.append_ #[68,3] ty #[.slice ap (x.c i).F.length kp,iv c]).run prog d=.ok (.slice a' ((x.c i).F.length+c) k') w'/\AppS C B b x i c bn cb co ap kp v a' k' w':=by
 have h0:=h;obtain⟨ar,kr,a4,n4,k4,a8,m8,k8,br,A,Q,bn,s,I,g,kn,hd,vf,F,vk,K,V,h,ac,kk⟩:=h;obtain⟨M,an,cb,co,ap,kp,ce⟩:=h0.cel i f;have ak:M=bn:=by
  have:=ce.n13.symm.trans h.sb.n13;simp at this;exact this.1
 subst ak;have aj:cb=A i/\co=Q i:=by
  have:=ce.m1.symm.trans (h.sb.nd i f).2;simp at this;exact this
 obtain⟨rfl,rfl⟩:=aj;have am:ap=I i/\kp=g i:=by
  have:=ce.p7.symm.trans (h.rw.p7 i f);simp at this;exact this
 obtain⟨rfl,rfl⟩:=am;refine⟨M,an,A i,Q i,I i,g i,ce,λd ty e1=>?_⟩;have r:=h.ext e1;have lk:=r.rw.kp i f;have y:=(r.rw.nc i f).1;have sm:cJ x (hD x i (tY (x.c i) c)):=cJ.set x i (tY (x.c i) c) rfl rfl;have gl:((x.c i).F++List.replicate c Pr0).length=(x.c i).F.length+c:=by simp
 have aq:B<=d.heap.size:=kA r.sb.lo.1 (nJ r.sb.nb.1);by_cases hr:(x.c i).F.length+c<=g i
 
 have hb:0<c->I i=some (aA (s i) 0)/\∀j,j<c*6->(d.cell? (aA (s i) ((x.c i).F.length*6+j))).isSome=true/\d.frozen? (aA (s i) ((x.c i).F.length*6+j))=false:=λau=>by
  obtain⟨a1,O,_⟩:=r.rw.pl i f (by omega);refine⟨a1,λj H=>⟨?_,O.2 _⟩⟩;obtain⟨u,hu⟩:=O.3 ((x.c i).F.length*6+j) (by omega);rw[hu];rfl
 have t:=b6p d ty (I i) (s i) (x.c i).F.length (g i) c hr (by omega) hb;have T:uQ (λq=>q=s i/\0<g i) d (d.setCells (s i) ((x.c i).F.length*6) (zs6 c)):=by
  obtain c0|c0:=mF c;subst c0;rw[show zs6 0=[] from mR (by rw[a3k])];exact uQ.refl _ d;exact a1f (S:=λq=>q=s i/\0<g i) ⟨rfl,by omega⟩ (uQ.refl _ d)
 have ne:∀q,V q≠6+i->¬(q=s i/\0<g i):=λq U e=>U (by rw[e.1];exact h.sp.p i f e.2)
 have fc:=T.block (A i) y.1 (ne _ (by rw[h.sp.c i f];omega));have fn:=T.block M r.sb.lo.2.2.1 (ne _ (by rw[h.sp.n];omega));refine⟨I i,g i,_,t,⟨λW e=>?_,(cOb M _ fn).trans (r.sb.nd i f).2,(cOb (A i) _ fc).trans (r.rw.p7 i f),(fOb (A i) _ fc).trans (y.2 _),λq ob U=>?_,T.ext (hx.trans e1) (λq U e=>by have:=(r.rw.pl i f e.2).2.2.2;omega)⟩⟩;have oW:uQ (λq=>q=s i/\0<g i) d W:=T.trans (uQ.of_ext e);have fW:=oW.block (A i) y.1 (ne _ (by rw[h.sp.c i f];omega));obtain⟨X,D⟩:=obE (if 0<g i then s i else d.heap.size);have q1:(X=s i/\0<g i)\/d.heap.size<=X:=by
  by_cases u:0<g i;rw[if_pos u]at D;exact .inl ⟨D,u⟩;rw[if_neg u]at D;exact .inr (by omega)
 have eZ:∀j,0<g i->(W.setCell (aA (A i) (Q i+7)) (.slice (I i) ((x.c i).F.length+c) (g i))).cell? (aA (s i) j)=(d.setCells (s i) ((x.c i).F.length*6) (zs6 c)).cell? (aA (s i) j):=λj z=>by
  obtain⟨_,O,a3,_⟩:=r.rw.pl i f z;rw[uC _ (.inl (λe=>a3.2 i f e.symm))];exact(cX e).1 (s i) j (kF O.1 T.size)
 have g2:=r.rowTo i f r0 ((x.c i).F++List.replicate c Pr0) X (I i) (g i) (by rw[gl];exact hr) (uQ.setCell (oW.mono (λq e=>.inr e)) (p:=(aA (A i) (Q i+7))) (.inl rfl) (.slice (I i) ((x.c i).F.length+c) (g i))) ((uY y fW oW.size).set _ _) q1 (λz=>by
   rw[if_pos z]at D;rw[D];obtain⟨a1,O,_⟩:=r.rw.pl i f z;exact⟨a1,(O.put.ext e).set _ _⟩) (by
   obtain⟨u1,u2⟩|u:=q1;rw[u1];exact(r.rw.pl i f u2).2.2.2;omega) (by rw[gl];exact kM _ _ _ ((cOb (A i) _ fW).trans (r.rw.p7 i f))) (λj H=>(uC _ (.inr (λe=>H e.symm))).trans (cOb (A i) j fW)) (λk L=>by
   have z:0<g i:=by omega
   rw[if_pos z]at D;rw[D];refine yJ.more (c:=c) (λk L=>?_) (λj h1 h2=>?_) k L;rw[Cl.p_eq _ _ L];exact(r.rw.p i f k L).of λj H=>by rw[eZ _ z,a1z (s i) _ _ _ d (by omega)]
   rw[eZ _ z];have:=a4s (s i) (zs6 c) ((x.c i).F.length*6) (j-(x.c i).F.length*6) d (λm hm=>by
    rw[a3k]at hm;exact(r.rw.pl i f z).2.1.3 _ (by omega)) (by rw[a3k];omega)
   rw[show(x.c i).F.length*6+(j-(x.c i).F.length*6)=j by omega]at this;rw[this];exact d5i c _ (by omega))
 exact⟨_,_,_,_,_,_,_,_,_,_,_,_,_,_,_,_,_,_,_,_,_,_,g2,ac.alike sm rfl rfl,kk⟩;obtain⟨r1,N⟩:=r.pr q ob U;have hl:q<d.heap.size:=by
  obtain l|l:=km q d.heap.size;exact l;rw[me l]at N;cases N
 exact(T.block q hl (ne q (by rw[r1];omega))).trans N;obtain⟨Z,ah,ad,ao,Y⟩:=info_parts a2r;have ae:(Value.agg #[iv 0,iv 0,iv 0,iv 0,iv 0,iv 0]).cells=#[iv 0,iv 0,iv 0,iv 0,iv 0,iv 0]:=by kernel_rfl
 have ab:(Builtin.firstCells Z.size (x.c i).F.length (.slice (I i) (x.c i).F.length (g i))).run prog d.drew=.ok ((x.c i).F.flatMap fP).toArray d.drew:=by
  obtain k0|k0:=mF (g i);have l0:(x.c i).F=[]:=mR (by omega);rw[l0];cases I i with
  | none=>exact run_firstCells_none d.drew Z.size 0 0 (g i)
  | some a=>exact run_firstCells_some d.drew Z.size 0 a 0 (g i) [] (by simp) (λj u H=>by simp at H)
  obtain⟨a1,O,_⟩:=r.rw.pl i f k0;rw[a1];exact run_firstCells_some d.drew Z.size _ (aA (s i) 0) _ (g i) ((x.c i).F.flatMap fP) (by rw[a9h,ao]) (λj u H=>by
   rw[Addr.add_lit];exact(cOb (s i) _ (show d.drew.heap[s i]?=d.heap[s i]? from rfl)).trans (fP_at (o:=0) (λk L=>by rw[kO,Cl.p_eq _ _ L];exact r.rw.p i f k L) j u H))
 have t:=Go.Lib.run_append_grow_zeros (P:=prog) d 68 3 ty 90 Z _ .i64 .i64 underlying68 underlying3 ah ad (I i) (x.c i).F.length (g i) ((x.c i).F.flatMap fP) ab c (by omega) (by omega) (by omega) (by omega) (by rw[Y];omega) (growslice_fits (by omega) (by rw[Y];omega));have hG:(x.c i).F.length+c<=grownCap d ((x.c i).F.length+c) (g i) 90:=grownCap_ge d _ _ _;rw[ae]at t;obtain⟨G,eG⟩:=obE (grownCap d ((x.c i).F.length+c) (g i) 90);rw[<-eG]at t hG;obtain⟨J,aa⟩:=obE (((x.c i).F.flatMap fP).toArray++Builtin.zeroCells #[iv 0,iv 0,iv 0,iv 0,iv 0,iv 0] c++Builtin.zeroCells #[iv 0,iv 0,iv 0,iv 0,iv 0,iv 0] (G-((x.c i).F.length+c)));rw[<-aa]at t;have el:J.toList=(x.c i).F.flatMap fP++(zs6 c++zs6 (G-((x.c i).F.length+c))):=by rw[aa];simp[zs6]
 have ag:J.size=G*6:=by
  rw[<-Array.length_toList,el,kV,kV,a9h,a3k,a3k];omega
 have R:Ext d (d.drew.alloc (.cells J 90)):=(eDr d).alloc _;have af:(d.drew.alloc (.cells J 90)).heap[d.heap.size]?=some (.cells J 90):=heap_alloc_new d.drew _;have cz:∀W,Ext (d.drew.alloc (.cells J 90)) W->∀j,W.cell? (aA d.heap.size j)=J.toList[j]?:=λW e j=>by
  rw[(cX e).1 d.heap.size j (by simp),cell_of_row _ d.heap.size j _ _ (0,0) af,nj]
 refine⟨_,_,_,t,⟨λW e=>?_,R.keep (r.sb.nd i f).2,R.keep (r.rw.p7 i f),((cX R).2 (A i) _ y.1).trans (y.2 _),λq ob U=>?_,(hx.trans e1).trans R⟩⟩;have eW:Ext d W:=R.trans e;have al:A i≠d.heap.size:=λu=>by have:=y.1;omega
 have cS:∀j,(W.setCell (aA (A i) (Q i+7)) (sS d.heap.size ((x.c i).F.length+c) G)).cell? (aA d.heap.size j)=J.toList[j]?:=λj=>(uC _ (.inl al)).trans (cz W e j)
 have ai:d.heap.size<W.heap.size:=by have:=e.size;simp at this;omega
 have g2:=r.rowTo i f r0 ((x.c i).F++List.replicate c Pr0) d.heap.size (some (aA d.heap.size 0)) G (by rw[gl];exact hG) (uQ.setCell (uQ.of_ext eW) (p:=(aA (A i) (Q i+7))) (.inl rfl) (sS d.heap.size ((x.c i).F.length+c) G)) ((y.ext eW).set _ _) (.inr (hT _)) (λ_=>⟨rfl,by simpa[World.setCell]using ai,λj=>by
   rw[kS,(cX e).2 d.heap.size j (by simp)];simp[go_sem],λj H=>by
   rw[cS j];exact⟨_,mV (by rw[Array.length_toList,ag];exact H)⟩⟩) aq (by rw[gl];exact kM _ _ _ (eW.keep (r.rw.p7 i f))) (λj H=>(uC _ (.inr (λe=>H e.symm))).trans ((cX eW).1 (A i) j y.1)) (by
   refine yJ.more (c:=c) (λk L=>?_) (λj h1 h2=>?_);have E:∀m,m<6->(W.setCell (aA (A i) (Q i+7)) (sS d.heap.size ((x.c i).F.length+c) G)).cell? (aA d.heap.size (k*6+m))=(fP (x.c i).F[k])[m]?:=λm hm=>by
    rw[cS,el,mh (by rw[a9h];omega)];exact a9u fP 6 (λ_=>rfl) (x.c i).F k m L hm
   exact⟨E 0 (by omega),E 1 (by omega),E 2 (by omega),E 3 (by omega),E 4 (by omega),E 5 (by omega)⟩;rw[cS,el,nS (by rw[a9h];exact h1),a9h,mh (by rw[a3k];omega)];exact d5i c _ (by omega))
 exact⟨_,_,_,_,_,_,_,_,_,_,_,_,_,_,_,_,_,_,_,_,_,_,g2,ac.alike sm rfl rfl,kk⟩;obtain⟨r1,N⟩:=r.pr q ob U;have hl:q<d.heap.size:=by
  obtain l|l:=km q d.heap.size;exact l;rw[me l]at N;cases N
 exact(R.block q hl).trans N
theorem c6q{ops:Array Oper}{o:Oper}{a:Act}{K:Act->World->Prop}{Q:Exit->Act->World->Prop}{E:Prop}(f:World)(b:o.guard=none)(s y:Operand)
  (n:o.op=.call { callee:=.builtin .append,args:=#[s,y],argTypes:=#[68,3] }) (d:Option Addr) (l e c N:Nat) (P:Option Addr->Nat->World->Prop) (m:a.eval s=.slice d l e) (j:a.eval y=iv c)
  (p:∀ty,∃a' k' w',(Builtin.append_ #[68,3] ty #[.slice d l e,iv c]).run prog f=.ok (.slice a' N k') w'/\P a' k' w')
  (k:∀a' k' w',P a' k' w'->K (a.put o.dst (.slice a' N k')) w') :
  if Region.wanted o (yielded ops a.tmps)=true then Oper.wp prog o a f K Q else E:=by
 have i:Region.wanted o (yielded ops a.tmps)=true:=by simp[Region.wanted,b]
 rw[if_pos i];obtain⟨a',k',w',h,g⟩:=p o.type;unfold Oper.wp execOp;simp only[n,resolve,invoke,builtin,Sem.run_bind,Sem.run_pure,Result.andThen_ok,List.map_toArray,List.map_cons,List.map_nil,m,j,h];exact k a' k' w' g
theorem way_10[qd]{C B:Nat}{bd:Nat}{a p:Nat}{rv:Value}(h:SOq C B w b x)(s:Snd x)(hd:(default:uL).z bd=some (tK b 10 a p c n rv))(ha:a<16)(v:World)(hv:v.heap.size<=B)(hx:Ext v w):
  Calls prog 192 #[.pointer (some ⟨bd,0,none⟩)] w λe w'=>qW C B b x a p c n 10 v e w':=by
 have D:=uU (tH.of (h.obj hd));have H:=uU h;obtain⟨br,kr,hr⟩:=h.B s;have R:=uU hr;obtain⟨d0,d1,d2,d3,d4,d5,d6⟩:=uH D;have ao:=cLt d0;have QA:=uU (λW(xW:Ext w W)=>a1w (R.ext xW) (D.ext xW) ha);by_cases hk:(x.r a).k=2
 ·obtain⟨en,ea,hi,st,nd⟩:=s.at a ha hk;obtain⟨i,hI⟩:=obE (x.at a);have HI:=uU hI;rw[<-hI]at ea hi st nd;have O:=uU hk;have ag:=uU (show uV x=(i:Int)->x.sub<=(x.c i).F.length from λe=>(b0w s hi st e).2);have SR:=uU (show uV x = -1\/0<=uV x from b6d s.r1.I s.r5.2.2);have K:=s.ok.p200 i hi;have us:0<=x.K/\x.K<=4000:=by have h3:=s.r3;have h1:=s.r1.M;unfold R3 at h3;omega
  have an:=s.r1.sub;obtain⟨bn,kn,cb,co,ap,kp,hc,hkp,hbb,c1,f1,hmid,hcut⟩:=h.cutc s i hi;have CE:=uU hc;have ab:=uU hcut;have ad:=uU hmid;have HD:=uU hd;have Y:=uU (λW(xW:Ext w W)=>a2f (R.ext xW) (CE.ext xW) (D.ext xW) ha hk ea hi);clear h s hd hr hk ea en hI hc st nd hcut hmid;obtain⟨l,hl⟩:=obE ((x.c i).F.length);have o:=uU hl;rw[<-hl]at K hkp;obtain⟨m,hm⟩:=obE (min c l:Nat);have af:m<=l:=by omega
  have HM:=uU hm;have MN:=uU (show min (c:Int) (l:Int)=(m:Int) by omega);clear hm hl;go_in;go_wp21;refine(QA _ (hO w)).mono ?_;rintro e w5 ⟨rfl,x5⟩;go_wp21;refine(Y _ x5).mono ?_;rintro e w6 ⟨rfl,x6⟩;have g:=uU (x5.trans x6);have L:=uU (CE.ext g);have G:=L.m1;have y:=L.p7;rw[<-uH o]at y;have fc:=L.f (co+7);have U:=cLt G;have ai:=cLt y;have D6:=uU (D.ext g);obtain⟨d0,d1,d2,d3,d4,d5,d6⟩:=uH D6;have T:=cLt d4;have q:=g.keep c1;have A:=((cX g).2 b 1 (uZ c1)).trans f1;have F:=cLt q;clear x5 x6 c1 f1;go_wp21;go_quiet (fail);rw[uH MN];obtain⟨W7,hW7⟩:∃W,W=w6.drewN nq:=⟨_,rfl⟩;have d:Ext w6 W7:=by rw[hW7];exact(hO _).drewN _
  rw[<-hW7];have X7:=uU (g.trans d);have P:=uU (L.ext d);have D7:=uU (D6.ext d);clear hW7 G y fc U ai d0 d1 d2 d3 d4 d5 d6 T L D6 g;have E:=d.keep q;have ae:=((cX d).2 b 1 F).trans A;clear d q A F;have G:=P.m1;have y:=P.p7;rw[<-uH o]at y;have fc:=P.f (co+7);have Z:=cLt G;have ac:=cLt y;obtain⟨d0,d1,d2,d3,d4,d5,d6⟩:=uH D7;have S:=cLt d4;have ak:=cLt E;obtain⟨cne,hne2⟩:cb≠b/\b≠cb:=⟨hbb.2,λe=>hbb.2 e.symm⟩;go_wp21;go_region;obtain⟨u,hu⟩:=obE (x.K-((l:Int)-(m:Int)):Int);rw[<-hu];have HU:=uU hu;obtain⟨W8,hW8⟩:∃W,W=(W7.setCell ⟨b,1,none⟩ (.int .i64 u)).drew:=⟨_,rfl⟩;obtain⟨m18,p78,f78⟩:=uH ad u W7 W8 X7 (by rw[hW8];exact(eDr _));rw[<-uH o]at p78;rw[<-hW8];have Q:=cLt m18;have aa:=cLt p78;have CU:=uU (ab u m (by rw[<-uH o];exact af) W7);have N:=uU hW8;have k0:=i0N m;have k1:(m:Int)<=(l:Int):=by omega
  have k2:(m:Int)<=(kp:Int):=by omega
  have M:=uU (show Ext v W8 by rw[hW8];exact((hx.trans X7).setCell (p:=⟨b,1,none⟩) (kA hv hbb.1) _).drew);clear hu hW8 E ae G y fc Z ac d0 d1 d2 d3 d4 d5 d6 S ak;go_wp21;go_region;obtain⟨W9,hW9⟩:∃W,W=(W8.setCell ⟨cb,co+7,none⟩ (.slice ap m kp)).drew:=⟨_,rfl⟩;rw[<-hW9];have j:=uU (CU W9 X7 (by rw[hW9,uH N];exact(eDr _).drew));have J:=uU (show Ext v W9 by rw[hW9];exact(M.setCell (p:=⟨cb,co+7,none⟩) (kA hv P.lo.1) _).drew);clear hW9 N CU m18 p78 f78 Q aa k0 k1 k2 M;have D9:=uU (tH.of (j.so.obj HD));obtain⟨d0,d1,d2,d3,d4,d5,d6⟩:=uH D9;have aj:=cLt d4;have QU:=uU j.un;have UE:=uU (λW=>d4k bn i SR W);go_wp21;refine QU.mono ?_;rintro e w10 ⟨rfl,x10⟩;have V:=uH UE;have ah:=uU (show ∀W3,Ext w10 W3->SOq C B W3 b (a8o x i u m) from λW3 e3=>j.so.ext (x10.trans e3));have SU:=uU (show ∀(W3:World)(t:Int),Ext w10 W3->SOq C B (W3.setCell ⟨b,7,none⟩ (iv t)) b { a8o x i u m with sub:=t } from λW3 t e3=>j.su W3 t (x10.trans e3));have c7:=x10.keep j.c7;have f7:=((cX x10).2 b 7 (uZ j.c7)).trans j.f7;have X:=uU (D9.ext x10);have I:=uU (J.trans x10);clear x10 j J D9 QU UE d0 d1 d2 d3 d4 d5 d6 aj;obtain⟨d0,d1,d2,d3,d4,d5,d6⟩:=uH X;have am:=cLt d4;have al:=cLt c7;obtain⟨vu,hvu⟩:=obE (a6j bn x);rw[<-hvu]at V ⊢;clear hvu;by_cases hq:uV x=(i:Int)
  ·rw[decide_eq_true hq]at V;have IS:=uU (d5h x i c m u (by rw[<-uH o];exact HM) (by rw[<-uH o];exact HU) hq (ag hq));clear hq;go_wp21;go_region;all_goals
    go_wp21;go_ret2;exact⟨_,0,0,rfl,.inr ⟨O,by rw[<-uH HI];exact⟨IS,rfl,rfl⟩⟩,((SU w10 _ (hO _)).ext (eDr _)).wide (show C<=C+64000 by omega),(I.setCell (p:=⟨b,7,none⟩) (kA hv hbb.1) _).drew⟩
  rw[decide_eq_false hq]at V;have IS:=uU (cutZ_no x i c m u (by rw[<-uH o];exact HM) (by rw[<-uH o];exact HU) hq);clear hq;go_wp21;go_ret2;exact⟨_,0,0,rfl,.inr ⟨O,by rw[<-uH HI];exact⟨IS,rfl,rfl⟩⟩,(ah w10 (hO _)).wide (show C<=C+64000 by omega),I⟩
 have O:=uU hk;have Y:=uU (λW(xW:Ext w W)=>a5e (R.ext xW) (D.ext xW) ha hk);clear h s hd hr hk;go_in;go_wp21;refine(QA _ (hO w)).mono ?_;rintro e w5 ⟨rfl,x5⟩;go_wp21;refine(Y _ x5).mono ?_;rintro e w6 ⟨rfl,x6⟩;have g:=uU (x5.trans x6);clear x5 x6;go_wp21;go_ret2;exact⟨x,2,0,rfl,.inl ⟨O,rfl,rfl,rfl⟩,(H.wide (show C<=C+64000 by omega)).ext g,hx.trans g⟩
end Go.Proofs.YtolmnenlnpbcfaaGreatDoor
