/- Parts of a proof. -/
import Derived.Test.YtidndekacnmihaaGreatC11
set_option linter.all false
set_option maxHeartbeats 8000000
set_option maxRecDepth 100000
namespace Go.Proofs.YtidndekacnmihaaGreat
open List renaming replicate→f
variable {M a i k:Nat}
open Go.RowKit
section
open Vi Dk
theorem zlf (s:ByteArray):txt s.data.toList=s:=by apply ByteArray.ext;simp [txt]
theorem zdC (t:ByteArray):(⟨#[]⟩:ByteArray)++t=t:=by apply ByteArray.ext;simp
namespace Crc
theorem zlg (n:Nat):strOfNums [(n:Int) / 16777216,(n:Int) / 65536 % 256,(n:Int) / 256 % 256,(n:Int) % 256]=head n:=by
 have a1:((n:Int) / 16777216).toNat=n / 16777216:=by omega
 have a2:((n:Int) / 65536 % 256).toNat=n / 65536 % 256:=by omega
 have a3:((n:Int) / 256 % 256).toNat=n / 256 % 256:=by omega
 have a4:((n:Int) % 256).toNat=n % 256:=by omega
 simp only [strOfNums,List.map,a1,a2,a3,a4];rfl
end Crc
theorem zqr (s:ByteArray):s++(⟨#[]⟩:ByteArray)=s:=by apply ByteArray.ext;simp
theorem zdD (g:Nat) (L:List Nat) (d:St) (w:World) (h:Dv w g L d):Calls Tryz.prog 39 #[ptr g] w fun e w'=>e=.returned (.int .i64 d.n)∧w=w':=by
 obtain ⟨ho,fb,mb,cap,rfl,h⟩:=h;have c0:=h.c0;clear h;unfold ptr;go_enter Tryz.func39,Tryz.ntmps39;go_wp2;go_ret;exact ⟨rfl,rfl⟩
theorem zlh (l:List UInt8) (a b:Nat) (hb:b=min (a+64) l.length):(txt l).extract a b=txt ((l.drop a).take 64):=by
 apply ByteArray.ext;apply Array.toList_inj.1;rw [zuB,zuJ,zal,zal,zuO];rw [List.take_eq_take_iff,zuh];omega
def wrL (first:Nat) (l:List UInt8):Nat→Nat→St→St×Int
 | 0,_,d=>(d,0)
 | r+1,k,d=>if (d.write ((first+k:Nat):Int) ((l.drop (k*64)).take 64)).2=0 then wrL first l r (k+1) (d.write ((first+k:Nat):Int) ((l.drop (k*64)).take 64)).1 else d.write ((first+k:Nat):Int) ((l.drop (k*64)).take 64)
structure Alv (d:St) (n:Nat):Prop where
 n:d.n=n
 l:d.left=-1
 x:d.dead=false
theorem Alv.fresh (n:Nat) (F:Nat→Sec):Alv (St.fresh n F) n:=⟨rfl,rfl,rfl⟩
theorem Alv.refuses {d:St} {n:Nat} (h:Alv d n) (hi:i<n):d.refuses (i:Int)=0:=by
 unfold St.refuses;rw [h.x,h.n]
 simp
 omega
theorem Alv.write {d:St} {n:Nat} (h:Alv d n) (hi:i<n) (s:List UInt8) (hs:s.length≤64):d.write (i:Int) s=(d.step.put i (pad s),0)∧Alv (d.step.put i (pad s)) n:=by
 have hl:d.step.left=-1:=by show (if 0<d.left then d.left-1 else d.left)=-1;rw [h.l];rfl
 refine ⟨?_,⟨h.n,hl,h.x⟩⟩;unfold St.write St.try_;rw [h.refuses hi,if_neg (by simp),if_neg (by omega),if_neg (by rw [h.l];decide),if_neg (by rw [h.x];decide),ztV]
theorem zli (first:Nat) (l:List UInt8) (n:Nat):∀ (r k:Nat) (d:St),Alv d n→first+k+r≤n→(wrL first l r k d).2=0∧Alv (wrL first l r k d).1 n
 | 0,k,d,h,_=>⟨rfl,h⟩
 | r+1,k,d,h,hk=>by
   obtain ⟨h1,h2⟩:=h.write (i:=first+k) (by omega) ((l.drop (k*64)).take 64) (by rw [zt5];omega);have ih:=zli first l n r (k+1) _ h2 (by omega)
   have e:wrL first l (r+1) k d=wrL first l r (k+1) (d.step.put (first+k) (pad ((l.drop (k*64)).take 64))):=by
    rw [wrL,h1,if_pos rfl]
   rw [e];exact ih
theorem zbY (F:Nat→Sec) (h:∀ i,(F i).length=64):∀ k,(zeq F k).length=k*64
 | 0=>rfl
 | k+1=>by rw [zeq,zt4,zbY F h k,h];omega
def sx (T:List UInt8) (i:Nat):Sec:=pad ((T.drop (i*64)).take 64)
theorem zqs (d:St) (i j:Nat) (s:Sec):(d.step.put i s).now j=if j=i then s else d.now j:=by
 unfold St.put St.now
 by_cases h:j=i
 ·simp [h]
 ·simp only [h,if_false];rfl
theorem ziu (first:Nat) (l:List UInt8) (n:Nat):∀ (r k:Nat) (d:St),Alv d n→first+k+r≤n→∀ j,(wrL first l r k d).1.now j=if first+k≤j∧j<first+k+r then sx l (j-first) else d.now j
 | 0,k,d,h,_,j=>by rw [if_neg (by omega)];rfl
 | r+1,k,d,h,hk,j=>by
   obtain ⟨h1,h2⟩:=h.write (i:=first+k) (by omega) ((l.drop (k*64)).take 64) (by rw [zt5];omega);have ih:=ziu first l n r (k+1) _ h2 (by omega) j
   have e:wrL first l (r+1) k d=wrL first l r (k+1) (d.step.put (first+k) (pad ((l.drop (k*64)).take 64))):=by
    rw [wrL,h1,if_pos rfl]
   rw [e,ih,zqs]
   by_cases hj:j=first+k
   ·rw [if_neg (by omega),if_pos hj,if_pos (by omega)];unfold sx;rw [show j-first=k by omega]
   ·rw [if_neg hj]
    by_cases h3:first+(k+1)≤j∧j<first+(k+1)+r
    ·rw [if_pos h3,if_pos (by omega)]
    ·rw [if_neg h3,if_neg (by omega)]
theorem zlj (F:Nat→Sec) (T:List UInt8):∀ m,(∀ i,i<m→F i=sx T i)→zeq F m=(T++f (m*64-T.length) 0).take (m*64)
 | 0,_=>by simp [zeq]
 | m+1,h=>by
   have ih:=zlj F T m fun i hi=>h i (by omega);rw [zeq,ih,h m (by omega)]
   have e0:(T++f (m*64-T.length) (0:UInt8)).take (m*64)=(T++f ((m+1)*64-T.length) 0).take (m*64):=by
    by_cases h1:m*64≤T.length
    ·rw [zuW h1,zuW h1]
    ·rw [List.take_append,List.take_append,List.take_replicate,List.take_replicate]
     congr 2
     omega
   rw [e0,show (m+1)*64=m*64+64 by omega,List.take_add]
   congr 1
   unfold sx pad
   by_cases h1:T.length≤m*64
   ·rw [zut h1,List.drop_append,zut h1,List.drop_replicate,zuK,List.take_replicate];show f 64 (0:UInt8)=_
    congr 1
    omega
   ·rw [List.drop_append_of_le_length (by omega),List.take_append,List.take_replicate,zt5,zuh]
    congr 2
    omega
theorem zhi (d:St) (i:Int) (a b:List UInt8) (ha:a.length≤64) (hb:b.length≤64) (h:pad a=pad b):d.write i a=d.write i b:=by
 unfold St.write;rw [h,if_neg (show ¬ 64<a.length by omega),if_neg (show ¬ 64<b.length by omega)]
theorem ze2 (l:List UInt8) (r k:Nat):pad (((l++f r 0).drop k).take 64)=pad ((l.drop k).take 64):=by
 unfold pad;apply List.ext_getElem?;intro i;simp only [List.getElem?_append,zt5,zuh,zt4,zuu,zuP,List.getElem?_drop,List.getElem?_replicate]
 repeat' split
 all_goals first
  | rfl
  | omega
  | (exfalso;omega)
def rdB (d:St) (at_ m:Nat):ByteArray:=txt (zeq (fun i=>d.now (at_+i)) m)
theorem zbL {d:St} (h:a+M≤d.n) (hk:k<M):d.refuses ((a+k:Nat):Int)=if d.dead then 7 else 0:=by
 unfold St.refuses
 split
 ·rfl
 ·rw [if_neg (by omega)]
theorem zeG {d:St} (h:a+M≤d.n) (hk:k<M) (hd:d.dead=false):d.readS ((a+k:Nat):Int)=d.now (a+k):=by
 unfold St.readS;rw [zbL h hk,hd,if_pos (by decide),ztV]
theorem ze3 (d:St) (a k:Nat):txt (zeq (fun i=>d.now (a+i)) k)++txt (d.now (a+k))=txt (zeq (fun i=>d.now (a+i)) (k+1)):=by
 apply ByteArray.ext;apply Array.toList_inj.1;rw [zup,zuC,zal,zal,zal,zeq]
end
end Go.Proofs.YtidndekacnmihaaGreat
