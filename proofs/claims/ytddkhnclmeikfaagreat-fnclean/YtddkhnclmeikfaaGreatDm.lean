import Derived.Test.YtddkhnclmeikfaaGreatDn1
namespace Go.Proofs.YtddkhnclmeikfaaGreat
open Go.RowKit
def Wd0:Wd:=⟨0,0,0⟩
def Hp.r(x:Hp)(i:Nat):Wd:=x.B.getD i Wd0
theorem Hp.r_eq(x:Hp)(i:Nat)(h:i<x.B.length):x.B[i]=x.r i:=by simp [Hp.r,h]
def Hp.at(x:Hp)(i:Nat):Nat:=(x.r i).a.toNat
def keyC(c:Cl)(k:Nat)(y:Wd):Cl:={ c with F:=c.F.set k ⟨y,(c.p k).val⟩ }
def valC(c:Cl)(k:Nat)(y:Wd):Cl:={ c with F:=c.F.set k ⟨(c.p k).key,y⟩ }
def dW(x:Hp)(i:Nat)(c:Cl):Hp:={ x with A:=x.A.set i c }
def a1d(c:Cl)(n:Nat):Cl:={ c with F:=c.F.take n }
def qJ(x:Hp)(i n:Nat):Hp:={ x with A:=x.A.set i (a1d (x.c i) n),K:=x.K-((x.c i).F.length-n:Nat),sub:=if dC x=(i:Int)/\(n:Int)<x.sub then n else x.sub }
def c3e(c:Cl)(n:Int):Cl:={ c with T:=n }
def a2i(c:Cl)(n:Int):Cl:={ c with U:=n }
def b6s(x:Hp)(f c:Nat)(y:Hp)(cd nm:Int)(R:Nat->Prop):Prop:=
 ((x.r f).k≠2/\y=x/\cd=2/\nm=0)\/((x.r f).k=2/\(x.c (x.at f)).F.length<=c/\y=x/\cd=3/\nm=0)\/((x.r f).k=2/\c<(x.c (x.at f)).F.length/\R (x.at f)/\cd=0/\nm=0)
def b0m(x:Hp)(f:Nat)(y:Hp)(cd nm:Int)(R:Nat->Prop):Prop:=((x.r f).k≠2/\y=x/\cd=2/\nm=0)\/((x.r f).k=2/\R (x.at f))
def b6t(x:Hp)(a b c:Nat)(y:Hp)(cd nm:Int):Prop:=nm=0/\
 ((x.born=1000000000/\y=x/\cd=4)\/(x.born≠1000000000/\∃z,a2t x (1+c) z/\((a2j z (1+c)=false/\y=z/\cd=4)\/(a2j z (1+c)=true/\cd=0/\a3e (regTo (a4f z b c) a ⟨2,0,cH z⟩) (1+c) y))))
def b3m(x:Hp)(a c i:Nat)(y:Hp)(cd nm:Int):Prop:=nm=0/\
 ((200<(x.c i).F.length+c/\y=x/\cd=5)\/((x.c i).F.length+c<=200/\∃z,a2t x c z/\((a2j z c=false/\y=z/\cd=4)\/(a2j z c=true/\cd=0/\a3e (zD z (z.at a) c) c y))))
def wdB(a b:Wd):Bool:=a.k == b.k && (a.n == b.n && a.a == b.a)
def SumIs(x:Hp)(P:Nat->Prop)(nm:Int):Prop:=∃p:Nat->Bool,(∀i,p i=true↔P i)/\nm=(zY x p x.A.length:Nat)
def c8d(x:Hp)(a:Nat)(y:Hp)(nm:Int):Prop:=(zJ x x.A.length (-1)/\y=regTo x a Wd0/\nm=0)\/∃i:Nat,zJ x x.A.length (i:Int)/\y=regTo (dW x i (a2i (x.c i) 3)) a ⟨2,0,i⟩/\nm=1
def DoR(x:Hp)(a b c:Nat)(n:Int)(y:Hp)(cd nm:Int):Nat->Prop
 | 1=>b6t x a b c y cd nm
 | 2=>y=regTo x a ⟨1,n,0⟩/\cd=0/\nm=0
 | 3=>y=regTo x a Wd0/\cd=0/\nm=0
 | 4=>y=regTo x a (x.r b)/\cd=0/\nm=0
 | 5=>b6s x b c y cd nm λi=>y=regTo x a (qX x ((x.c i).p c).key)
 | 6=>b6s x b c y cd nm λi=>y=regTo x a (qX x ((x.c i).p c).val)
 | 7=>b6s x a c y cd nm λi=>y=shadeW (dW x i (keyC (x.c i) c (x.r b))) (x.r b)
 | 8=>b6s x a c y cd nm λi=>y=shadeW (dW x i (valC (x.c i) c (x.r b))) (x.r b)
 | 9=>b0m x a y cd nm λi=>b3m x a c i y cd nm
 | 10=>b0m x a y cd nm λi=>y=qJ x i c/\cd=0/\nm=0
 | 11=>b0m x a y cd nm λi=>y=dW x i (c3e (x.c i) c)/\cd=0/\nm=0
 | 12=>b0m x a y cd nm λi=>y=(if c=1 then uW (dW x i (a2i (x.c i) c)) i else dW x i (a2i (x.c i) c))/\cd=0/\nm=0
 | 13=>y=x/\cd=0/\nm=if wdB (x.r a) (x.r b)=true then 1 else 0
 | 14=>y=x/\cd=0/\nm=(x.r a).k
 | 15=>y=x/\(((x.r a).k≠1/\cd=2/\nm=0)\/((x.r a).k=1/\cd=0/\nm=(x.r a).n))
 | 16=>b0m x a y cd nm λi=>y=x/\cd=0/\nm=(x.c i).kind
 | 17=>b0m x a y cd nm λi=>y=x/\cd=0/\nm=((x.c i).F.length:Nat)
 | 18=>cd=0/\∃H:Nat->Bool,(∀i,H i=true↔tU x i)/\y=a4h x H/\nm=(a8o x H x.A.length:Nat)
 | 19=>cd=0/\c8d x a y nm
 | 20=>y=x/\cd=0/\SumIs x (tU x) nm
 | 21=>y=x/\cd=0/\SumIs x (uY x) nm
 | 22=>cd=0/\nm=0/\∃k,a5i (stepH x c) c k/\y=itU k (stepH x c)
 | 23=>y=paceTo x b c/\cd=0/\nm=0
 | 24=>cd=0/\nm=0/\b4d x y
 | _=>False
def DoIs(x:Hp)(op a b c n:Int)(y:Hp)(cd nm:Int):Prop:=(qY op a b c n=false/\y=x/\cd=1/\nm=0)\/(qY op a b c n=true/\DoR x a.toNat b.toNat c.toNat n y cd nm op.toNat)
end Go.Proofs.YtddkhnclmeikfaaGreat
