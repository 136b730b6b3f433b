/- Parts of a proof. -/
import Derived.Test.YtidndekacnmihaaGreatC13
import Derived.Test.YtidndekacnmihaaGreatC18
set_option linter.all false
set_option maxHeartbeats 8000000
set_option maxRecDepth 100000
namespace Go.Proofs.YtidndekacnmihaaGreat
open Bool renaming false→g
variable {k n:Nat}
open Go.RowKit
section
open Vi
theorem zrW:∀ k:Int,0≤k→k≤10→zbo (fl k) 111=g:=by
 intro k h0 h1
 have:k=0∨k=1∨k=2∨k=3∨k=4∨k=5∨k=6∨k=7∨k=8∨k=9∨k=10:=by omega
 rcases this with rfl|rfl|rfl|rfl|rfl|rfl|rfl|rfl|rfl|rfl|rfl<;>decide +kernel
theorem zqq {X:En} (ok:X.Ok) (h:zdl X=true):X.old=⟨#[]⟩:=by
 have hr:=zda h;have A:=(zcW X ok).1 hr;have f:0≤X.kind∧X.kind≤11:=of_decide_eq_true A.f
 have h11:X.kind≠11:=by
  intro e;unfold zdl lvl at h;rw [if_pos e] at h;simp at h
 have hz:=A.o0 (zrW X.kind f.1 (by omega));exact ByteArray.ext (Array.eq_empty_of_size_eq_zero (show X.old.size=0 by omega))
def zhg (a b:En):Bool :=
 decide (a.term=b.term)&&(decide (a.index=b.index)&&(decide (a.kind=b.kind)&&(decide (a.client=b.client)&&(decide (a.seq=b.seq)&&(decide (a.block=b.block)&&(decide (a.many=b.many)&&(decide (a.node=b.node)&&(decide (a.level=b.level)&&(decide (a.data.toList=b.data.toList)&&decide (a.old.toList=b.old.toList))))))))))
def zkc (es fs:List En) (k:Nat):Bool:=(List.zipWith zhg (es.take k) (fs.take k)).all id
theorem zhh (es fs:List En) (k:Nat) (e f:En) (he:es[k]?=some e) (hf:fs[k]?=some f):zkc es fs (k+1)=(zkc es fs k&&zhg e f):=by
 unfold zkc;have h1:es.take (k+1)=es.take k++[e]:=by rw [List.take_add_one,he];rfl
 have h2:fs.take (k+1)=fs.take k++[f]:=by rw [List.take_add_one,hf];rfl
 have l1:(es.take k).length=(fs.take k).length:=by
  have:=(List.getElem?_eq_some_iff.1 he).1
  have:=(List.getElem?_eq_some_iff.1 hf).1
  rw [zt5,zt5];omega
 rw [h1,h2,List.zipWith_append l1,List.all_append]
 simp
def ze0 (n k:Nat) (es fs:List En):Bool:=decide (n=k)&&zkc es fs n
theorem zlc {es fs:List En} (h:n≠k):ze0 n k es fs=g:=by
 unfold ze0;rw [ztM h];rfl
theorem zld {es fs:List En} (h:zkc es fs k=g) (hk:k≤n) (h1:es.length=n) (h2:fs.length=n):zkc es fs n=g:=by
 obtain ⟨d,rfl⟩:∃ d,n=k+d:=⟨n-k,by omega⟩
 have hd:∀ j,k+j≤k+d→zkc es fs (k+j)=g:=by
  intro j;induction j with
  | zero=>intro _;exact h
  | succ j ih =>
    intro hj;obtain ⟨e,he⟩:∃ e,es[k+j]?=some e:=⟨_,zt2 (by omega)⟩;obtain ⟨f,hf⟩:∃ f,fs[k+j]?=some f:=⟨_,zt2 (by omega)⟩;rw [show k+(j+1)=(k+j)+1 by omega,zhh es fs (k+j) e f he hf,ih (by omega)];rfl
 exact hd d (ztI _)
end
end Go.Proofs.YtidndekacnmihaaGreat
