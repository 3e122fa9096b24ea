import Derived.Test.YtddkhnclmeikfaaGreatL2e0
namespace Go.Proofs.YtddkhnclmeikfaaGreat
open Go.RowKit
def Wd0:Wd:=⟨0,0,0⟩
def Hp.r(x:Hp)(i:Nat):Wd:=x.regs.getD i Wd0
theorem Hp.r_eq(x:Hp)(i:Nat)(h:i<x.regs.length):x.regs[i]=x.r i:=by simp [Hp.r,h]
def Hp.at(x:Hp)(i:Nat):Nat:=(x.r i).a.toNat
def keyC(c:Cl)(k:Nat)(y:Wd):Cl:={ c with prs:=c.prs.set k ⟨y,(c.p k).val⟩ }
def valC(c:Cl)(k:Nat)(y:Wd):Cl:={ c with prs:=c.prs.set k ⟨(c.p k).key,y⟩ }
def dV(x:Hp)(i:Nat)(c:Cl):Hp:={ x with cells:=x.cells.set i c }
def a1b(c:Cl)(n:Nat):Cl:={ c with prs:=c.prs.take n }
def zH(x:Hp)(i n:Nat):Hp:={ x with cells:=x.cells.set i (a1b (x.c i) n),used:=x.used-((x.c i).prs.length-n:Nat),sub:=if dL x=(i:Int)/\(n:Int)<x.sub then n else x.sub }
def c1f(c:Cl)(n:Int):Cl:={ c with weak:=n }
def a2f(c:Cl)(n:Int):Cl:={ c with last:=n }
def b5m(x:Hp)(f c:Nat)(y:Hp)(cd nm:Int)(R:Nat->Prop):Prop:=
 ((x.r f).k≠2/\y=x/\cd=2/\nm=0)\/((x.r f).k=2/\(x.c (x.at f)).prs.length<=c/\y=x/\cd=3/\nm=0)\/((x.r f).k=2/\c<(x.c (x.at f)).prs.length/\R (x.at f)/\cd=0/\nm=0)
def a9y(x:Hp)(f:Nat)(y:Hp)(cd nm:Int)(R:Nat->Prop):Prop:=((x.r f).k≠2/\y=x/\cd=2/\nm=0)\/((x.r f).k=2/\R (x.at f))
def b5n(x:Hp)(a b c:Nat)(y:Hp)(cd nm:Int):Prop:=nm=0/\
 ((x.born=1000000000/\y=x/\cd=4)\/(x.born≠1000000000/\∃z,a4h x (1+c) z/\((a2g z (1+c)=false/\y=z/\cd=4)\/(a2g z (1+c)=true/\cd=0/\a5b (regTo (a3z z b c) a ⟨2,0,cD z⟩) (1+c) y))))
def b2p(x:Hp)(a c i:Nat)(y:Hp)(cd nm:Int):Prop:=nm=0/\
 ((200<(x.c i).prs.length+c/\y=x/\cd=5)\/((x.c i).prs.length+c<=200/\∃z,a4h x c z/\((a2g z c=false/\y=z/\cd=4)\/(a2g z c=true/\cd=0/\a5b (zD z (z.at a) c) c y))))
def wdB(a b:Wd):Bool:=a.k == b.k && (a.n == b.n && a.a == b.a)
def SumIs(x:Hp)(P:Nat->Prop)(nm:Int):Prop:=∃p:Nat->Bool,(∀i,p i=true↔P i)/\nm=(a2h x p x.cells.length:Nat)
def c5v(x:Hp)(a:Nat)(y:Hp)(nm:Int):Prop:=(tC x x.cells.length (-1)/\y=regTo x a Wd0/\nm=0)\/∃i:Nat,tC x x.cells.length (i:Int)/\y=regTo (dV x i (a2f (x.c i) 3)) a ⟨2,0,i⟩/\nm=1
def DoR(x:Hp)(a b c:Nat)(n:Int)(y:Hp)(cd nm:Int):Nat->Prop
 | 1=>b5n x a b c y cd nm
 | 2=>y=regTo x a ⟨1,n,0⟩/\cd=0/\nm=0
 | 3=>y=regTo x a Wd0/\cd=0/\nm=0
 | 4=>y=regTo x a (x.r b)/\cd=0/\nm=0
 | 5=>b5m x b c y cd nm λi=>y=regTo x a (qJ x ((x.c i).p c).key)
 | 6=>b5m x b c y cd nm λi=>y=regTo x a (qJ x ((x.c i).p c).val)
 | 7=>b5m x a c y cd nm λi=>y=uY (dV x i (keyC (x.c i) c (x.r b))) (x.r b)
 | 8=>b5m x a c y cd nm λi=>y=uY (dV x i (valC (x.c i) c (x.r b))) (x.r b)
 | 9=>a9y x a y cd nm λi=>b2p x a c i y cd nm
 | 10=>a9y x a y cd nm λi=>y=zH x i c/\cd=0/\nm=0
 | 11=>a9y x a y cd nm λi=>y=dV x i (c1f (x.c i) c)/\cd=0/\nm=0
 | 12=>a9y x a y cd nm λi=>y=(if c=1 then uV (dV x i (a2f (x.c i) c)) i else dV x i (a2f (x.c i) c))/\cd=0/\nm=0
 | 13=>y=x/\cd=0/\nm=if wdB (x.r a) (x.r b)=true then 1 else 0
 | 14=>y=x/\cd=0/\nm=(x.r a).k
 | 15=>y=x/\(((x.r a).k≠1/\cd=2/\nm=0)\/((x.r a).k=1/\cd=0/\nm=(x.r a).n))
 | 16=>a9y x a y cd nm λi=>y=x/\cd=0/\nm=(x.c i).kind
 | 17=>a9y x a y cd nm λi=>y=x/\cd=0/\nm=((x.c i).prs.length:Nat)
 | 18=>cd=0/\∃H:Nat->Bool,(∀i,H i=true↔tH x i)/\y=a4e x H/\nm=(a5q x H x.cells.length:Nat)
 | 19=>cd=0/\c5v x a y nm
 | 20=>y=x/\cd=0/\SumIs x (tH x) nm
 | 21=>y=x/\cd=0/\SumIs x (dX x) nm
 | 22=>cd=0/\nm=0/\∃k,a2n (stepH x c) c k/\y=itU k (stepH x c)
 | 23=>y=paceTo x b c/\cd=0/\nm=0
 | 24=>cd=0/\nm=0/\RdIs x y
 | _=>False
def DoIs(x:Hp)(op a b c n:Int)(y:Hp)(cd nm:Int):Prop:=(dU op a b c n=false/\y=x/\cd=1/\nm=0)\/(dU op a b c n=true/\DoR x a.toNat b.toNat c.toNat n y cd nm op.toNat)
end Go.Proofs.YtddkhnclmeikfaaGreat
