import Derived.Test.YtddkhnclmeikfaaGreatBk
namespace Go.Proofs.YtddkhnclmeikfaaGreat
open Go.RowKit
theorem DoR.snd{x:Hp}{a b c:Nat}{n:Int}{y:Hp}{cd nm:Int}{k:Nat}(s:Snd x)(ha:a<16)(hb:k≠1->k≠23->b<16)(h1:k=1->b<=255/\c<=200)(h23:k=23->b<=64/\c<=4000)(h11:k=11->c<=3)(h12:k=12->c<=1)(h:DoR x a b c n y cd nm k):Snd y:=by
 by_cases e9:k=9
 ·subst e9;rcases h with h | h
  ·rw[h.2.1];exact s
  ·exact b4a.snd s ha h.1 rfl h.2
 ·exact h.sndB s ha hb h1 h23 h11 h12 e9
end Go.Proofs.YtddkhnclmeikfaaGreat
