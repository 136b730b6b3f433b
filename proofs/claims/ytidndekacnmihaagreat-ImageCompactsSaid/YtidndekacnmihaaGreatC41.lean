/- Parts of a proof. -/
import Derived.Test.YtidndekacnmihaaGreatC36
set_option linter.all false
set_option maxHeartbeats 8000000
set_option maxRecDepth 100000
namespace Go.Proofs.YtidndekacnmihaaGreat
variable {M a n:Nat} {v:Int}
namespace Ar
open Go.RowKit Vi Dk
theorem zjM (first:Nat) (l:List UInt8) (n:Nat):∀ (r k:Nat) (d:St),Alv d n→first+k+r≤n→(∀ j,(wrL first l r k d).1.fl j=d.fl j)∧∀ j,((wrL first l r k d).1.wt j).isSome=(decide (first+k≤j∧j<first+k+r)||(d.wt j).isSome)
 | 0,k,d,h,_=>⟨fun j=>rfl,fun j=>by rw [ztM (by omega),Bool.false_or];rfl⟩
 | r+1,k,d,h,hk=>by
   obtain ⟨h1,h2⟩:=h.write (i:=first+k) (by omega) ((l.drop (k*64)).take 64) (by rw [zt5];omega);have ih:=zjM first l n r (k+1) _ h2 (by omega)
   have e:wrL first l (r+1) k d=wrL first l r (k+1) (d.step.put (first+k) (pad ((l.drop (k*64)).take 64))):=by
    rw [wrL,h1,if_pos rfl]
   rw [e];refine ⟨fun j=>ih.1 j,fun j=>?_⟩;rw [ih.2 j];show (decide _||(if j=first+k then some _ else d.wt j).isSome)=_
   by_cases hj:j=first+k
   ·rw [if_pos hj,ztM (by omega),ztN (by omega)];rfl
   ·rw [if_neg hj]
    congr 1
    rw [decide_eq_decide];omega
theorem zsE {d:St} {s:Sn} (hO:snO v s=true) (hon:onA d.n a M=true) (hf:(snS v s).size≤M*64):arW d a M v s=wrL a (snS v s).data.toList M 0 d:=by
 unfold arW;rw [hO,hon,Bool.and_self,if_pos rfl,if_pos (by omega),ztV,ztV]
theorem zmA (h1:1≤M) (h2:a+M≤n):onA n a M=true:=zfu.2 ⟨by omega,by omega,by omega⟩
theorem zmB {d:St} {s:Sn} (ok:s.Ok) (hO:snO v s=true) (hf:(snS v s).size≤M*64) (hM:1≤M) (hn:a+M≤d.n) (hd:d.dead=false) (h:∀ i,i<M→d.now (a+i)=sx (snS v s).data.toList i):arR d a M=(s,v,0):=by
 have hl:(snS v s).data.toList.length=(snS v s).size:=zug
 have hb:rdB d a M=snS v s++txt (List.replicate (M*64-(snS v s).size) 0):=by
  unfold rdB;rw [zlj _ _ M h,zt9 (by rw [zt4,zuu,hl];omega),hl];apply ByteArray.ext;apply Array.toList_inj.1;rw [zup,zuC,zal,zal]
 obtain ⟨g1,g2,g3⟩:=zsD ok hO (txt (List.replicate (M*64-(snS v s).size) 0));unfold arR;rw [zmA hM hn,if_pos rfl,hd,if_neg (by decide),ztV,ztV,hb,g1,g2,g3,if_pos rfl]
theorem zmC {d:St} {s:Sn} (h:Alv d n) (hO:snO v s=true) (hf:(snS v s).size≤M*64) (hM:1≤M) (hn:a+M≤n) :
 (arW d a M v s).2=0∧Alv (arW d a M v s).1 n∧(∀ i,i<M→(arW d a M v s).1.now (a+i)=sx (snS v s).data.toList i)∧(∀ j,j<a∨a+M≤j→(arW d a M v s).1.now j=d.now j) ∧
 (∀ j,(arW d a M v s).1.fl j=d.fl j)∧∀ j,((arW d a M v s).1.wt j).isSome=(decide (a≤j∧j<a+M)||(d.wt j).isSome):=by
 rw [zsE hO (zmA hM (by rw [h.n];exact hn)) hf];obtain ⟨h1,h2⟩:=zli a (snS v s).data.toList n M 0 d h (by omega);have h3:=ziu a (snS v s).data.toList n M 0 d h (by omega);obtain ⟨h4,h5⟩:=zjM a (snS v s).data.toList n M 0 d h (by omega);refine ⟨h1,h2,fun i hi=>?_,fun j hj=>?_,h4,fun j=>by rw [h5,Nat.add_zero]⟩
 ·rw [h3,if_pos (by omega),show a+i-a=i by omega]
 ·rw [h3,if_neg (by omega)]
end Ar
end Go.Proofs.YtidndekacnmihaaGreat
