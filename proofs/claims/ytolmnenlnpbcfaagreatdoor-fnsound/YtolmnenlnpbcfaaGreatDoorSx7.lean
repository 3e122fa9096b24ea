import Derived.Test.YtolmnenlnpbcfaaGreatDoorKa6
import Derived.Test.YtolmnenlnpbcfaaGreatDoorWy
set_option maxRecDepth 100000
set_option maxHeartbeats 4000000
namespace Go.Proofs.YtolmnenlnpbcfaaGreatDoor
open Go.RowKit Go.Proofs.Tryz
attribute [local go_sem ↓] Go.wp_at_zero Go.wp_at_succ
variable{w:World}{C B b:Nat}{x:Hp}
theorem d5p(p:Inhabited uL){a q c:Nat}{n:Int}{v:World}(s:Snd x)(hC:C+64000<=1000000000)(hv:v.heap.size<=B):
  ∀k:Nat,1<=k->k<=24->(a:Int)<=a7f k->(q:Int)<=kE k->(c:Int)<=kW k->d5g p C B b x a q c n k v:=by
 intro k h1 h2 ha hq hc p1 ba bs za zs _ p2 bd W g zd sub xv;obtain _|_|_|_|_|_|_|_|_|_|_|_|_|_|_|_|_|_|_|_|_|_|_|_|_|k:=k;all_goals try omega
 all_goals
  simp[a7f,kE,kW]at ha hq hc;first|exact way_2 g s zd (by omega) v hv xv|exact way_3 g s zd (by omega) v hv xv|exact way_19 g s zd (by omega) v hv xv|exact way_10 g s zd (by omega) v hv xv|exact way_14 g s zd (by omega) v xv|exact way_15 g s zd (by omega) v xv|exact way_4 g s zd (by omega) (by omega) v hv xv|exact way_5 _ _ (by decide) g s zd (by omega) (by omega) v hv xv|exact way_7 _ _ (by decide) g s zd (by omega) (by omega) v hv xv|exact way_16 _ _ _ (by decide) g s zd (by omega) v (λ_=>hv) xv|exact way_12 g s zd (by omega) (by omega) v hv xv|exact way_13 g s zd (by omega) (by omega) v xv|exact way_18 g s zd v hv xv|exact d4n _ _ _ _ _ (.inl ⟨rfl,rfl,rfl,rfl,rfl⟩) g s zd v xv|exact d4n _ _ _ _ _ (.inr ⟨rfl,rfl,rfl,rfl,rfl⟩) g s zd v xv|exact way_22 g s zd hC (by omega) v hv xv|exact way_23 g zd v hv xv|exact way_24 g s zd hC v hv xv|exact way_9 g s zd (sub ba _ za) (sub bs _ zs) hC (by omega) (by omega) v hv xv|exact way_1 g s zd (sub ba _ za) (sub bs _ zs) hC (by omega) (by omega) (by omega) v hv xv
theorem c6s[p:qd](h:SOq C B w b x)(s:Snd x)(H:C+64000<=1000000000)(op a q c n:Int)(v:World)(G:v.heap.size<=B)(l:Ext v w)(o:v.cell? (aA 0 0)=some (rty 123)):
  Calls prog 40 #[pP b,yU op a q c n] w λe w'=>∃(y:Hp)(i j:Int),Hid (e=.returned (tQ i j))/\Hid (a7i x op a q c n y i j)/\Hid (SOq (C+64000) B w' b y)/\Ext v w':=by
 cases g:qV op a q c n
 refine(d1h b op a q c n w (noWay op a q c n g) (l.keep o)).mono ?_;rintro e w' ⟨F,m⟩;exact⟨x,1,0,F,.inl ⟨g,rfl,rfl,rfl⟩,(h.ext m).wide (by omega),l.trans m⟩;have f:=a6a g;have E:(n != 0)=false\/((n != 0)=true/\(op != 2)=false):=by
  have:=g;unfold qV at this;simp only[Bool.and_eq_true,decide_eq_true_eq]at this;obtain z|z:=this.1.2;exact .inl (by simp[z])
  cases e:(n != 0)
  ·exact .inl rfl
  exact .inr ⟨rfl,by simp[z]⟩
 obtain⟨k,rfl⟩:∃k:Nat,op=k:=⟨op.toNat,by omega⟩;obtain⟨a,rfl⟩:∃k:Nat,a=k:=⟨a.toNat,by omega⟩;obtain⟨q,rfl⟩:∃k:Nat,q=k:=⟨q.toNat,by omega⟩;obtain⟨c,rfl⟩:∃k:Nat,c=k:=⟨c.toNat,by omega⟩;refine(d1g h (k:=k) (by omega) (by omega) E (by simp only[Bool.and_eq_true,decide_eq_true_eq];exact⟨f.2.1,f.2.2.1,f.2.2.2⟩) v l o (λy i j d=>by rw[d.M];have:=s.r1.M;omega) (λt _=>d5p t s H G k (by omega) (by omega) f.2.1.2 f.2.2.1.2 f.2.2.2.2)).mono ?_;rintro e w' ⟨y,i,j,u,A,r,D⟩;exact⟨y,i,j,u,.inr ⟨g,by simpa using uH A⟩,r,D⟩
theorem doN{e:He}(h:e.at w)(H:¬qQ e.z 0)(op a q c n:Int):Calls prog 8 #[e.v,yU op a q c n] w λr W=>r=.returned (He.v2 ⟨Hp0,none,0,none,0,none,0⟩ 0 0)/\Ext w W:=by
 obtain⟨x,ar,kr,ac,kc,ag,kg⟩:=e;obtain⟨⟨hR,hC,hG⟩,g⟩:=h;go_in;go_wp21;refine(b8b x _ (SlW.ext (eA3 w _ _ _) hR) (SlC.ext (eA3 w _ _ _) hC) (SlI.ext (eA3 w _ _ _) hG) (g.extS hC (eA3 w _ _ _))).mono ?_;rintro e m ⟨l,j⟩;have Z:=zB l rfl (b:=w.heap.size+2) (by simp);have x2:=(eA3 w _ _ _).trans l;have e13:=Z.2 13 _ rfl;have e14:=Z.2 14 _ rfl;obtain⟨⟨e0,e1,e2,e3,e4,e5,e6,e7,e8,e9,R,U,L⟩,F,d⟩:=Z.1;cases (j.resolve_right λh=>H h.1).2;clear hR hC hG g j l;go_wp21;refine bodyPost_ret (v:=He.v2 ⟨Hp0,none,0,none,0,none,0⟩ 0 0) (by simp[results,results8,go_sem,Hp0,e0,e1,e2,e3,e4,e5,e6,e7,e8,e9,R,U,L,e13,e14]) rfl ⟨rfl,?_⟩;refine(λ(F:uQ (λq=>q=w.heap.size+2) m _)=>F.ext x2 (λq k e=>by omega)) ?_
 repeat (first|refine uQ.setCell ?_ (by simp) _|exact uQ.refl _ _)
theorem doI{e:He}(h:e.at w)(H:Snd e.z)(op a q c n:Int)(hg:w.cell? (aA 0 0)=some (rty 123)):Calls prog 8 #[e.v,yU op a q c n] w λr W=>∃(d:He)(i j:Int),r=.returned (d.v2 i j)/\Hid (a7i e.z op a q c n d.z i j)/\Hid (d.at W)/\Ext w W:=by
 obtain⟨x,ar,kr,ac,kc,ag,kg⟩:=e;obtain⟨_,HZ⟩:=pZ;have H:=uU H;have A:=uU h;have G:=uU hg;clear h hg;go_in;go_wp21;refine(sndI A H (eA3 w _ _ _)).mono ?_;rintro e l ⟨b,_,_,rfl,V,k⟩;have Z:=zB k rfl (b:=w.heap.size+2) (by simp);have Q:=aB k;have x2:=(eA3 w _ _ _).trans k;have d:=Z.1.2.2;have G:=uU (x2.keep G);clear k;go_wp21;refine(ownI HZ V H).mono ?_;rintro e w4 ⟨s,rfl,ST,L⟩;have a0:=L.keep Q.1;have a1:=L.keep Q.2.1;have a2:=L.keep Q.2.2.1;have a3:=L.keep Q.2.2.2.1;have a4:=L.keep Q.2.2.2.2;have am:w.heap.size+1<w4.heap.size:=uZ a0;have QN:=uU (c6s ST H (by omega) op a q c n l (hT _) L G);go_wp21;refine QN.mono ?_;rintro e t ⟨y,i,j,he,hd,h5,x5⟩;have e2:=uH he;subst e2;have QT:=uU (λW(xW:Ext t W)=>b6o (h5.ext xW) (a7i.snd H hd) (kA x5.size xW.size));clear he h5 QN a0 a1 a2 a3 a4 am ST;go_wp21;obtain⟨M,m⟩:=obE (t.alloc (.cells #[iv i,iv j] 35));have I:Ext t M:=by rw[m];exact(hO _).alloc _
 have z0:M.cell? (aA t.heap.size 0)=some (iv i):=by rw[m];simp[go_sem]
 have z1:M.cell? (aA t.heap.size 1)=some (iv j):=by rw[m];simp[go_sem]
 have bc:=cLt z0;have bh:w.heap.size+3<=t.heap.size:=kA d x5.size;have au:=uU (x5.trans I);rw[<-m];clear m;have O:=uU I;clear I;go_region_with (go_at_call 41;refine(QT _ (by first|exact O.drew|exact O)).mono ?_;rintro e w7 ⟨br,T,R,X,pb,pa,pk,rfl,h7,x7⟩;have p:Ext M w7:=(by first|exact kI (eDr M) x7|exact x7);have d:=au.trans p;have al:=p.keep z0;have bb:=p.keep z1;have be:=cLt al;have e13:=d.keep (Z.2 13 _ rfl);have e14:=d.keep (Z.2 14 _ rfl);obtain⟨⟨e0,e1,e2,e3,e4,e5,e6,e7,e8,e9,ak,ae,aq⟩,F,ba⟩:=Z.1.ext d;have RW:=h7.w;have XX:=uU (x2.trans d);clear h7 x7 p d)
 all_goals
  go_wp21;refine bodyPost_ret (v:=He.v2 ⟨y,some (aA br 0),T,some (aA R 0),y.A.length,some (aA X 0),y.D.length⟩ i j) (by simp[results,results8,go_sem,e0,e1,e2,e3,e4,e5,e6,e7,e8,e9,ak,ae,aq,e13,e14]) rfl ⟨⟨y,_,_,_,_,_,_⟩,i,j,rfl,hd,?_⟩;refine(λ(F:uQ (λq=>q=w.heap.size+2) w7 _)=>⟨uH RW _ (F.mono λq e=>by omega),F.ext XX (λq k e=>by omega)⟩) ?_
  repeat (first|(with_reducible refine uQ.setCell ?_ (by simp) _)|(with_reducible exact uQ.refl _ _)|(with_reducible refine uQ.drew ?_))
end Go.Proofs.YtolmnenlnpbcfaaGreatDoor
