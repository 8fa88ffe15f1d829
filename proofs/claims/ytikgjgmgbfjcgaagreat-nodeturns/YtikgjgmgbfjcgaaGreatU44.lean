import Derived.Test.YtikgjgmgbfjcgaaGreatU41
import Derived.Test.YtikgjgmgbfjcgaaGreatU28
namespace Go.Proofs.YtikgjgmgbfjcgaaGreat
namespace Sv
open Go.RowKit
end Sv
namespace Sv
open Go.RowKit
end Sv
namespace Sv
open Go.RowKit
def AtI (ms:List Svc) (node idn:ByteArray) (r:Int):Prop:=
 (∃ k:Nat,k < ms.length∧r=k∧(ms.getD k dm).node=node∧(ms.getD k dm).idn=idn)∨(r = -1∧∀ j,j < ms.length→¬ ((ms.getD j dm).node=node∧(ms.getD j dm).idn=idn))
theorem ord_zero {a b:Svc}:ord a b=0↔a.node=b.node∧a.idn=b.idn:=by
 constructor
 ·intro h
  obtain ⟨h1,h2⟩:=RL.lex_zero h
  exact ⟨(cmpI_eq _ _).1 h1,(cmpI_eq _ _).1 h2⟩
 ·rintro ⟨h1,h2⟩
  show (if cmpI a.node b.node=0 then cmpI a.idn b.idn else cmpI a.node b.node)=0
  rw [if_pos ((cmpI_eq _ _).2 h1)];exact (cmpI_eq _ _).2 h2
theorem atI_at {ms:List Svc} {t:Svc} {r:Int} {p:Nat} {f:Bool} (hi:AtI ms t.node t.idn r) (ha:At ms t p f) (hr:Rise ms):(f=true→r=p)∧(f=false→r = -1):=by
 rcases hi with ⟨k,hk,rfl,hn⟩ | ⟨rfl,hn⟩
 ·obtain ⟨rfl,rfl⟩:=at_uniq ha (RL.at_of ord dm keyed hr hk (ord_zero.2 hn))
  exact ⟨fun _=>rfl,fun h=>by cases h⟩
 ·refine ⟨fun h=>?_,fun _=>rfl⟩
  have:=ha.is.1 h
  exact absurd (ord_zero.1 this.2) (hn p this.1)
theorem hearL_old {ms:List Svc} {m:Svc} {p:Nat} (h:At ms m p true) (hn:newE m (ms.getD p dm)=false):hearL ms m=ms:=by
 rw [hearL_at ms m p true h,if_pos rfl,if_neg (by rw [hn];exact Bool.false_ne_true)]
end Sv
end Go.Proofs.YtikgjgmgbfjcgaaGreat
