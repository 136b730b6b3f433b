/- Parts of a proof. -/
import Derived.Test.YtidndekacnmihaaGreatC07
set_option linter.all false
set_option maxHeartbeats 8000000
set_option maxRecDepth 100000
namespace Go.Proofs.YtidndekacnmihaaGreat
open Bool renaming true→C,false→D
open Ending renaming returned→J
open Go renaming World→y,Calls→L,Value→U
open Go.RowKit renaming Below→z,intOf→S
open Go.RowKit.Below renaming refl→Y
open IntKind renaming i64→f,u64→V
open Obj renaming cells→R
open Option renaming some→p,none→O
open Tryz renaming prog→G
open Value renaming int→d,string→I,tuple→N,bool→Q,pointer→X
open Tryz
variable {v:Int} {b s:ByteArray} {clock g:Nat} {w:y}
open Go.RowKit
namespace Crc
def step (r t:Nat):Nat:=r / 2 ^^^ 2197175160*((r ^^^ t) &&& 1)
def zgu (r b:Nat):Nat→Nat
 | 0=>r
 | k+1=>step (zgu r b k) (b / 2 ^ k)
def zdE (r b:Nat):Nat:=zgu r b 8
def raw (r:Nat) (l:List UInt8):Nat:=l.foldl (fun r c=>zdE r c.toNat) r
def comp (x:Nat):Nat:=4294967295-x
def more (sum:Nat) (l:List UInt8):Nat:=comp (raw (comp sum) l)
theorem zf5 (x:Nat):x &&& 1≤1:=Nat.and_le_right
theorem zqt (r t:Nat) (hr:r<4294967296):step r t<4294967296:=by
 unfold step;have h:=zf5 (r ^^^ t);exact Nat.xor_lt_two_pow (n:=32) (by omega) (by omega)
theorem zeH (r b:Nat) (hr:r<4294967296):∀ k,zgu r b k<4294967296
 | 0=>hr
 | k+1=>zqt _ _ (zeH r b hr k)
theorem ziv (r b:Nat) (hr:r<4294967296):zdE r b<4294967296:=zeH r b hr 8
theorem zhj:∀ (l:List UInt8) (r:Nat),r<4294967296→raw r l<4294967296
 | [],_,h=>h
 | c :: l,r,h=>zhj l _ (ziv r c.toNat h)
theorem ze4 (x:Nat):comp x<4294967296:=by unfold comp;omega
theorem zll (x:Nat) (h:x<4294967296):comp (comp x)=x:=by unfold comp;omega
theorem zf6 (r:Nat) (a b:List UInt8):raw r (a++b)=raw (raw r a) b:=by unfold raw;rw [List.foldl_append]
theorem znX (r:Nat) (a:List UInt8) (c:UInt8):raw r (a++[c])=zdE (raw r a) c.toNat:=zf6 r a [c]
theorem ziw (x:Nat) (a b:List UInt8):more (more x a) b=more x (a++b):=by
 unfold more;rw [zll _ (zhj _ _ (ze4 _)),zf6]
theorem znY (r b k:Nat) (hr:r<4294967296) (hb:b<256) :
 bits BinOp.xor IntKind.u32 ((r:Int) / 2) (2197175160*bits BinOp.and IntKind.u32 (bits BinOp.xor IntKind.u32 (r:Int) ((b:Int) / 2 ^ k % 4294967296)) 1 % 4294967296)=((step r (b / 2 ^ k):Nat):Int):=by
 have hq:b / 2 ^ k≤b:=Nat.div_le_self _ _;have e0:(b:Int) / 2 ^ k=((b / 2 ^ k:Nat):Int):=by push_cast;rfl
 rw [e0];generalize b / 2 ^ k=q at *;have e1:(q:Int) % 4294967296=(q:Int):=by omega
 rw [e1,u32_xor_nat r q hr (by omega)];have hx:r ^^^ q<4294967296:=Nat.xor_lt_two_pow (n:=32) (by omega) (by omega);have e2:bits BinOp.and IntKind.u32 ((r ^^^ q:Nat):Int) 1=((r ^^^ q) &&& 1:Nat):=u32_and_nat (r ^^^ q) 1 hx (by omega);rw [e2];have h1:=zf5 (r ^^^ q);have e3:(2197175160*(((r ^^^ q) &&& 1:Nat):Int) % 4294967296)=((2197175160*((r ^^^ q) &&& 1):Nat):Int):=by omega
 have e4:(r:Int) / 2=((r / 2:Nat):Int):=by omega
 rw [e3,e4,u32_xor_nat _ _ (by omega) (by omega)];rfl
theorem zgv (x:Nat) (hx:x<4294967296):bits BinOp.xor IntKind.u32 IntKind.u32.max (x:Int)=((comp x:Nat):Int):=by
 show IntKind.u32.wrap ((BitVec.ofInt 32 4294967295 ^^^ BitVec.ofInt 32 (x:Int)).toNat:Int)=_;have h1:BitVec.ofInt 32 4294967295=BitVec.allOnes 32:=by decide
 have h2:=ofInt_u32 x hx;rw [h1,BitVec.allOnes_xor,BitVec.toNat_not,h2,IntKind.wrap_u32'];unfold comp;omega
theorem zlm (s:ByteArray) (k:Nat) (h:k<s.size):s.data.toList.take (k+1)=s.data.toList.take k++[s[k]]:=by
 rw [zuU (by simpa using h)];rfl
theorem zdF (r:Nat) (s:ByteArray) (k:Nat) (h:k<s.size):raw r (s.data.toList.take (k+1))=zdE (raw r (s.data.toList.take k)) s[k].toNat:=by
 rw [zlm s k h,znX]
def head (n:Nat):ByteArray:=⟨#[UInt8.ofNat (n / 16777216),UInt8.ofNat (n / 65536 % 256),UInt8.ofNat (n / 256 % 256),UInt8.ofNat (n % 256)]⟩
theorem zdG (n:Nat):(head n).size=4:=rfl
def zbf (sum:Nat) (s:ByteArray):Nat:=more sum s.data.toList
def zaE (s:ByteArray):ByteArray:=head (zbf 0 s)++s
theorem zc3 (x:Nat) (s:ByteArray):zbf x s<4294967296:=ze4 _
theorem zaW (s:ByteArray):(zaE s).size=s.size+4:=by
 unfold zaE;rw [ztS,zdG];omega
end Crc
theorem znW (a:Addr) (r b:Nat) (w:y) (hr:r<4294967296) (hb:b<256) (hc:w.cell? a=p (d .u32 r)) (hf:w.frozen? a=D) :
 L G 318 #[X (p a),d .u8 b] w fun e w'=>e=J (N #[])∧w'=w.setCell a (d .u32 (Crc.zdE r b)):=by
 go_enter func318,ntmps318;go_wp2
 go_loop [4,10] (fun n i=>∃ k:Nat,k≤8∧i=d f k∧n=d .u32 (Crc.zgu r b k)) (fun _ i=>8-(S i).toNat)
 case atStart=>exact ⟨0,by omega,rfl,rfl⟩
 case round =>
  obtain ⟨k,hk,rfl,rfl⟩:=hrel
  by_cases hlt:k<8
  ·have HE:=zh (Crc.znY (Crc.zgu r b k) b k (Crc.zeH r b hr k) hb);go_wp2
   go_round
   case rel=>exact ⟨k+1,by omega,by go_num,by rw [HE.out];rfl⟩
   case measure=>simp [S];omega
  ·have h8:k=8:=by omega
   subst h8;go_wp2;go_end0;exact ⟨rfl,rfl⟩
theorem zjf (sum:Nat) (s:ByteArray) (w:y) (hs:s.size≤maxLen) (hsum:sum<4294967296) :
 L G 286 #[d .u32 sum,I s] w fun e w'=>e=J (d .u32 (Crc.zbf sum s))∧z w.heap.size w w':=by
 unfold maxLen at hs;go_enter func286,ntmps286;go_wp2;have H0:=zh (Crc.zgv sum hsum)
 go_loopw [13] (fun i wr=>∃ k:Nat,k≤s.size∧i=d f k∧wr.cell? ⟨w.heap.size,0,O⟩=p (d .u32 (Crc.raw (Crc.comp sum) (s.data.toList.take k)))∧wr.frozen? ⟨w.heap.size,0,O⟩=D∧z w.heap.size w wr)
  (fun i _=>s.size-(S i).toNat)
 case atStart =>
  refine ⟨0,by omega,rfl,?_,?_,zba⟩
  ·rw [H0.out];simp [Crc.raw]
  ·simp
 case round =>
  obtain ⟨k,hk,rfl,hcell,hfz,hbel⟩:=hrel
  by_cases hlt:k<s.size
  ·have hraw:=Crc.zhj (s.data.toList.take k) _ (Crc.ze4 sum);have hbyte:s[k].toNat<256:=s[k].toNat_lt;have HR:=zh (Crc.zdF (Crc.comp sum) s k hlt)
   go_wp2_with fail
   refine (znW _ _ _ _ hraw hbyte hcell hfz).mono ?_;rintro e w1 ⟨rfl,rfl⟩;have HC:=zh hcell;have HF:=zh hfz;clear hcell hfz;go_wp2
   go_roundw
   case rel =>
    refine ⟨k+1,by omega,by go_num,?_,?_,hbel.setCell (ztI _) _⟩
    ·rw [HR.out];exact World.cell?_setCell_same _ _ _ HC.out
    ·rw [World.frozen?_setCell];exact HF.out
   case measure=>simp [S];omega
  ·have hk':k=s.size:=by omega
   subst hk';have hraw:=Crc.zhj (s.data.toList.take s.size) _ (Crc.ze4 sum);have H1:=zh (Crc.zgv _ hraw);have H2:Hid (s.data.toList.take s.size=s.data.toList):=by rw [zt9 (by simp)];exact rfl
   go_wp2;go_ret;refine ⟨?_,hbel⟩;rw [H1.out,H2.out];rfl
theorem zlk (s:ByteArray) (w:y) (hs:s.size≤maxLen) :
 L G 256 #[I s] w fun e w'=>e=J (d .u32 (Crc.zbf 0 s))∧z w.heap.size w w':=by
 go_enter func256,ntmps256
 go_wp2_with fail
 refine (zjf 0 s w hs (by omega)).mono ?_;rintro e w1 ⟨rfl,hb⟩;go_wp2;go_ret;exact ⟨rfl,hb⟩
namespace Crc
theorem zgw (x:Nat):x &&& 1=0∨x &&& 1=1:=by rw [Nat.and_one_is_mod];omega
theorem znZ (r q:Nat) (h:(r ^^^ q) &&& 1=1):step r q=r / 2 ^^^ 2197175160:=by unfold step;rw [h]
theorem zln (r q:Nat) (h:(r ^^^ q) &&& 1=0):step r q=r / 2:=by unfold step;rw [h];simp
theorem zqu (r b k:Nat) (hr:r<4294967296) (hb:b<256) :
 ((bits BinOp.xor IntKind.u32 (r:Int) ((b:Int) / 2 ^ k % 4294967296)).tmod 2==1)=decide ((r ^^^ b / 2 ^ k) &&& 1=1):=by
 have hq:b / 2 ^ k≤b:=Nat.div_le_self _ _;have e0:(b:Int) / 2 ^ k=((b / 2 ^ k:Nat):Int):=by rw [Int.natCast_ediv,Int.natCast_pow];rfl
 rw [e0];generalize b / 2 ^ k=q at *;have e1:(q:Int) % 4294967296=(q:Int):=by omega
 rw [e1,u32_xor_nat r q hr (by omega),Nat.and_one_is_mod];generalize r ^^^ q=x;have e2:((x:Int)).tmod 2=((x % 2:Nat):Int):=by rw [Int.tmod_eq_emod_of_nonneg (by omega)];omega
 rw [e2,Bool.eq_iff_iff,beq_iff_eq,decide_eq_true_iff];omega
theorem zqv (r:Nat) (hr:r<4294967296):bits BinOp.xor IntKind.u32 ((r:Int) / 2) 2197175160=((r / 2 ^^^ 2197175160:Nat):Int):=by
 have e:(r:Int) / 2=((r / 2:Nat):Int):=by omega
 rw [e];exact u32_xor_nat (r / 2) 2197175160 (by omega) (by omega)
end Crc
theorem zlo (sum:Nat) (s:ByteArray) (w:y) (hs:s.size≤maxLen) (hsum:sum<4294967296) :
 L G 257 #[d .u32 sum,I s] w fun e w'=>e=J (d .u32 (Crc.zbf sum s))∧w=w':=by
 unfold maxLen at hs;have H0:=zh (Crc.zgv sum hsum);go_enter func257,ntmps257;go_wp2;rw [H0.out]
 go_loop [0,5] (fun r i=>∃ k:Nat,k≤s.size∧i=d f k∧r=d .u32 (Crc.raw (Crc.comp sum) (s.data.toList.take k))) (fun _ i=>s.size-(S i).toNat)
 case atStart=>exact ⟨0,by omega,rfl,rfl⟩
 case round =>
  obtain ⟨k,hk,rfl,rfl⟩:=hrel;have hraw:=Crc.zhj (s.data.toList.take k) _ (Crc.ze4 sum)
  by_cases hlt:k<s.size
  ·have hbyte:s[k].toNat<256:=s[k].toNat_lt;have HR:=zh (Crc.zdF (Crc.comp sum) s k hlt);generalize Crc.raw (Crc.comp sum) (s.data.toList.take k)=r0 at *;go_wp2
   go_loop [0,6] (fun r j=>∃ m:Nat,m≤8∧j=d f m∧r=d .u32 (Crc.zgu r0 s[k].toNat m)) (fun _ j=>8-(S j).toNat)
   case atStart=>exact ⟨0,by omega,rfl,rfl⟩
   case round =>
    obtain ⟨m,hm,rfl,rfl⟩:=hrel
    by_cases hm8:m<8
    ·have hst:=Crc.zeH r0 s[k].toNat hraw m;have hte:=Crc.zqu (Crc.zgu r0 s[k].toNat m) s[k].toNat m hst hbyte;have HE:=zh (Crc.zqv (Crc.zgu r0 s[k].toNat m) hst);rcases Crc.zgw (Crc.zgu r0 s[k].toNat m ^^^ s[k].toNat / 2 ^ m) with hbit|hbit
     ·have HS:=zh (Crc.zln _ _ hbit);rw [ztM (by rw [hbit];decide)] at hte;clear hbit;go_wp2
      go_round
      case rel=>exact ⟨m+1,by omega,by go_num,by show _=d IntKind.u32 ((Crc.step _ _:Nat):Int);rw [HS.out];go_num⟩
      case measure=>simp [S];omega
     ·have HS:=zh (Crc.znZ _ _ hbit);rw [ztN hbit] at hte;clear hbit;go_wp2
      go_round
      case rel=>exact ⟨m+1,by omega,by go_num,by show _=d IntKind.u32 ((Crc.step _ _:Nat):Int);rw [HS.out,HE.out]⟩
      case measure=>simp [S];omega
    ·have h8:m=8:=by omega
     subst h8;go_wp2
     go_round
     case rel=>exact ⟨k+1,by omega,by go_num,by rw [HR.out];rfl⟩
     case measure=>simp [S];omega
  ·have hk':k=s.size:=by omega
   subst hk';have H1:=zh (Crc.zgv _ hraw);have H2:Hid (s.data.toList.take s.size=s.data.toList):=by rw [zt9 (by simp)];exact rfl
   go_wp2;go_ret;refine ⟨?_,rfl⟩;rw [H1.out,H2.out];rfl
theorem zgy (s:ByteArray) (w:y) (hs:s.size≤maxLen) :
 L G 216 #[I s] w fun e w'=>e=J (d .u32 (Crc.zbf 0 s))∧w=w':=by
 go_enter func216,ntmps216
 go_wp2_with fail
 refine (zlo 0 s w hs (by omega)).mono ?_;rintro e w1 ⟨rfl,rfl⟩;go_wp2;go_ret;exact ⟨rfl,rfl⟩
section
namespace Vi
theorem zs8:∀ (l:List Nat),(∀ x∈l,x<256)→fx (be l) l.length=l:=by
 have key0:∀ (n:Nat) (l:List Nat),l.length=n→(∀ x∈l,x<256)→fx (be l) l.length=l:=by
  intro n;induction n with
  | zero =>
   intro l hl _
   have:l=[]:=zuX hl
   subst this;rfl
  | succ n ih0 =>
   intro l0 hl0 h0;obtain ⟨l,b,rfl⟩:∃ l b,l0=l++[b]:=⟨l0.dropLast,l0.getLast (by intro e;rw [e] at hl0;simp at hl0),(List.dropLast_concat_getLast _).symm⟩;have ih:=ih0 l (by simpa using hl0);have h:=h0;have hb:b<256:=h b (by simp);have ih':=ih fun x hx=>h x (by simp [hx]);rw [zmX,zt4,List.length_singleton]
   have key:∀ k,fx (be l*256+b) (k+1)=fx (be l) k++[b]:=by
    intro k;induction k with
    | zero =>
      unfold fx fx
      simp
      omega
    | succ k ik =>
      rw [fx,ik,fx]
      have h1:(be l*256+b) / 256 ^ (k+1)=be l / 256 ^ k:=by
       rw [Nat.pow_succ',←Nat.div_div_eq_div_mul]
       congr 1
       omega
      rw [h1];rfl
   rw [key,ih']
 intro l h;exact key0 l.length l rfl h
theorem zhm (n:Nat):nums (zaE n)=put n:=zeU _ (zqe n)
theorem ziB (n:Nat) (hn:n<18446744073709551616) (t:ByteArray):zb3 (zaE n++t)=n∧za2 (zaE n++t)=t∧zcd (zaE n++t)=C:=by
 obtain ⟨h1,h2,h3⟩:=zms n hn (nums t);have e:nums (zaE n++t)=put n++nums t:=by rw [zbq,zhm]
 unfold zb3 za2 zcd;rw [e];refine ⟨h2,?_,h1⟩;rw [h3];have e2:(put n).length=(zaE n).size:=by unfold zaE;rw [zb2]
 rw [e2];exact zcH _ _
theorem zp0:∀ (l:List Nat),cnt l<l.length→l.getD (cnt l) 0<128
 | [],h=>absurd h (by simp)
 | b :: l,h=>by
   by_cases hb:128≤b
   ·have e:cnt (b :: l)=cnt l+1:=by
     unfold cnt;rw [zuS,if_pos (by simpa using hb),zud]
    rw [e] at h ⊢;have ih:=zp0 l (by simpa using h)
    simpa using ih
   ·have e:cnt (b :: l)=0:=by
     unfold cnt;rw [zuS,if_neg (by simpa using hb)];rfl
    rw [e]
    simp
    omega
theorem zqx (l:List Nat):∀ j,j<cnt l→128≤l.getD j 0:=by
 intro j hj
 have hl:cnt l≤l.length:=by
  unfold cnt;exact (List.takeWhile_sublist _).length_le
 have hm:l.getD j 0∈l.take (cnt l):=by
  rw [zuq,zt2 (by omega),Option.getD_some];exact List.mem_take_iff_getElem.2 ⟨j,by omega,rfl⟩
 exact zmr l _ hm
theorem zlt (s:ByteArray) (h:zcd s=C):zaE (zb3 s)++za2 s=s:=by
 have ho:okL (nums s)=C:=h
 have hd:cnt (nums s)≤9∧cnt (nums s)<(nums s).length∧(cnt (nums s)=0∨(nums s).getD (cnt (nums s)) 0≠0)∧(cnt (nums s)=9→(nums s).getD 9 0≤1):=by
  have:=ho
  unfold okL at this;exact of_decide_eq_true this
 obtain ⟨d1,d2,d3,d4⟩:=hd;have hb:=zp0 _ d2;have hp:=zqx (nums s);have ht:=(zjJ (nums s) (cnt (nums s)) (zg3 s) hp d2 hb d1).2 ho;have hv:=zm3 (nums s) (cnt (nums s)) d2 d1 (fun e=>by rw [e];exact d4 e);rw [hv] at ht;obtain ⟨v1,v2⟩:=ziO (nums s) (cnt (nums s)) hp d2 hb ho;apply zdj;rw [zbq,zhm];unfold zb3 za2;rw [v1,v2,ht,za7]
 have:(List.drop (cnt (nums s)+1) (nums s)).take (s.size-(cnt (nums s)+1))=List.drop (cnt (nums s)+1) (nums s):=zt9 (by rw [zuh,zaA];omega)
 rw [this,List.take_append_drop]
theorem zhn (s:ByteArray) (k:Nat) (hk:k≤8) (h:za3 s k=C):fxB (za1 s k) k++zan s k=s:=by
 have hh:0≤(k:Int)∧(k:Int)≤8∧(k:Int)≤s.size:=of_decide_eq_true h;apply zdj;have e1:za1 s k=be ((nums s).take k):=by unfold za1;rw [if_pos h,ztV]
 have e2:zan s k=s.extract k s.size:=by unfold zan;rw [if_pos h,ztV]
 have hl:((nums s).take k).length=k:=by rw [zt5,zaA];omega
 have hf:=zs8 ((nums s).take k) (fun x hx=>zg3 s x (List.mem_of_mem_take hx));rw [hl] at hf;rw [zbq,zjS _ k hk,zeU _ (zrD _ _),e1,e2,hf,za7,zt9 (l:=List.drop k (nums s)) (by rw [zuh,zaA];omega),List.take_append_drop]
theorem zrZ (s:ByteArray) (n:Nat) (h:zbC s n=C):zcG s n++zdh s n=s∧(zcG s n).size=n:=by
 have hh:0≤(n:Int)∧(n:Int)≤s.size:=of_decide_eq_true h;have e1:zcG s n=s.extract 0 n:=by unfold zcG;rw [if_pos h,ztV]
 have e2:zdh s n=s.extract n s.size:=by unfold zdh;rw [if_pos h,ztV]
 rw [e1,e2];refine ⟨?_,by rw [zue];omega⟩;rw [ByteArray.extract_append_extract]
 have:n≤s.size:=by omega
 simp [this]
theorem ze6 (a t:ByteArray):zcG (a++t) a.size=a∧zdh (a++t) a.size=t∧zbC (a++t) a.size=C:=by
 have hh:zbC (a++t) a.size=C:=ztN (by rw [ztS];omega);unfold zcG zdh;rw [if_pos hh,if_pos hh,ztV];exact ⟨zcY a t,zcH a t,hh⟩
theorem zqy (s:ByteArray) (k:Nat) (hk:k≤8):za3 s k=zbC s k:=by
 unfold za3 zbC;rw [decide_eq_decide];omega
theorem zr0 (s:ByteArray) (k:Nat) (hk:k≤8):zan s k=zdh s k:=by
 unfold zan zdh;rw [zqy s k hk]
theorem zbZ (s:ByteArray):za1 s 1<256:=by
 unfold za1
 split
 ·have h:=zbO (nums s) (zaG s) 1;exact h
 ·omega
theorem zak (s:ByteArray) (k:Int):(zan s k).size≤s.size:=by
 unfold zan
 split
 ·rw [zue];omega
 ·exact ztO _
theorem zbs (s:ByteArray) (k:Int):(zdh s k).size≤s.size:=by
 unfold zdh
 split
 ·rw [zue];omega
 ·exact ztO _
end Vi
open Vi
def zb4 (h b:ByteArray):ByteArray:=fxB (Crc.zbf (Crc.zbf 0 h) b) 4
def zho (v:Int) (n:Nat):ByteArray:=if v=1 then fxB n 4 else zaE n
def hdF (v:Int) (n:Nat):ByteArray:=fxB (160+v).toNat 1++zho v n
def pack (v:Int) (b:ByteArray):ByteArray:=hdF v b.size++zb4 (hdF v b.size) b++b
def pkO (v:Int) (b:ByteArray):Bool:=(decide (v=1)||decide (v=2))&&decide (b.size≤1048576)
def pkS (v:Int) (b:ByteArray):ByteArray:=if pkO v b then pack v b else ⟨#[]⟩
theorem zbh (h b:ByteArray):(zb4 h b).size=4:=zac _ 4 (by omega)
def nV (s:ByteArray):Int:=(za1 s 1:Int)-160
def nM (s:ByteArray):Nat:=if nV s=1 then za1 (zan s 1) 4 else zb3 (zan s 1)
def nT (s:ByteArray):ByteArray:=if nV s=1 then zan (zan s 1) 4 else za2 (zan s 1)
def nO2 (s:ByteArray):Bool:=za3 s 1&&(if nV s=1 then za3 (zan s 1) 4 else zcd (zan s 1))
def nHd (s:ByteArray):ByteArray:=s.extract 0 (s.size-(nT s).size)
def nS (s:ByteArray):ByteArray:=zcG (nT s) 4
def nU (s:ByteArray):ByteArray:=zdh (nT s) 4
def nBd (s:ByteArray):ByteArray:=zcG (nU s) (nM s)
def nW (s:ByteArray):ByteArray:=zdh (nU s) (nM s)
def nR (s:ByteArray):Bool:=nO2 s&&zbC (nT s) 4&&zbC (nU s) (nM s)
def nOk (s:ByteArray):Bool:=(decide (nV s=1)||decide (nV s=2))&&(decide (nM s≤1048576)&&(nR s&&((nS s).toList==(zb4 (nHd s) (nBd s)).toList)))
def nxV (s:ByteArray):Int:=if nOk s then nV s else 0
def nxB (s:ByteArray):ByteArray:=if nOk s then nBd s else ⟨#[]⟩
def nxN (s:ByteArray):Int:=if nOk s then (s.size:Int)-(nW s).size else 0
theorem zcQ (a b:ByteArray):(a.toList==b.toList)=C↔a=b:=by
 rw [zjT,decide_eq_true_iff];exact ⟨zdj,fun h=>by rw [h]⟩
theorem zqz (hv:v=1∨v=2) (n:Nat) (hn:n≤1048576) (t:ByteArray) :
 (if v=1 then za1 (zho v n++t) 4 else zb3 (zho v n++t))=n∧(if v=1 then zan (zho v n++t) 4 else za2 (zho v n++t))=t∧(if v=1 then za3 (zho v n++t) 4 else zcd (zho v n++t))=C:=by
 unfold zho;rcases hv with rfl|rfl
 ·obtain ⟨h1,h2,h3⟩:=zcb n 4 (by omega) t;simp only [if_true];refine ⟨?_,h2,h3⟩;refine h1.trans ?_;have e:(256:Nat) ^ 4=4294967296:=by decide
  rw [e];omega
 ·obtain ⟨h1,h2,h3⟩:=ziB n (by omega) t;simp only [show ¬ ((2:Int)=1) by decide,if_false];exact ⟨h1,h2,h3⟩
theorem zec (hv:v=1∨v=2) (n:Nat) (hn:n≤1048576) (t:ByteArray) :
 nV (hdF v n++t)=v∧nM (hdF v n++t)=n∧nT (hdF v n++t)=t∧nO2 (hdF v n++t)=C∧nHd (hdF v n++t)=hdF v n:=by
 have e:hdF v n++t=fxB (160+v).toNat 1++(zho v n++t):=by unfold hdF;rw [zaK]
 obtain ⟨h1,h2,h3⟩:=zcb (160+v).toNat 1 (by omega) (zho v n++t);obtain ⟨l1,l2,l3⟩:=zqz hv n hn t;have e2:(256:Nat) ^ 1=256:=by decide
 rw [e2] at h1
 have kV:nV (hdF v n++t)=v:=by
  unfold nV;rw [e];have h1':za1 (fxB (160+v).toNat 1++(zho v n++t)) 1=(160+v).toNat % 256:=h1;rw [h1'];omega
 have kF:zan (hdF v n++t) 1=zho v n++t:=by rw [e];exact h2
 have kH:za3 (hdF v n++t) 1=C:=by rw [e];exact h3
 have kT:nT (hdF v n++t)=t:=by unfold nT;rw [kV,kF];exact l2
 refine ⟨kV,?_,kT,?_,?_⟩
 ·unfold nM;rw [kV,kF];exact l1
 ·unfold nO2;rw [kV,kF,kH,l3];rfl
 ·unfold nHd;rw [kT,ztS,Nat.add_sub_cancel];exact zcY _ _
theorem zp1 {A B:ByteArray} (h:s=A++B):s.extract 0 A.size=A:=by rw [h];exact zcY A B
theorem zn3 (hv:nV s=1∨nV s=2) (h:nO2 s=C):s=hdF (nV s) (nM s)++nT s∧nHd s=hdF (nV s) (nM s):=by
 have key:s=hdF (nV s) (nM s)++nT s:=by
  unfold nO2 at h;rw [ztZ] at h;have h1:=zhn s 1 (by omega) h.1;have e1:(160+nV s).toNat=za1 s 1:=by unfold nV;omega
  unfold hdF;rw [zaK,e1]
  have h2:zho (nV s) (nM s)++nT s=zan s 1:=by
   have h3:=h.2;unfold zho nM nT;rcases hv with hv|hv
   ·rw [hv] at h3 ⊢;simp only [if_true] at h3 ⊢;exact zhn _ 4 (by omega) h3
   ·rw [hv] at h3 ⊢;simp only [show ¬ ((2:Int)=1) by decide,if_false] at h3 ⊢;exact zlt _ h3
  rw [h2];exact h1.symm
 refine ⟨key,?_⟩;have hz:=congrArg ByteArray.size key;rw [ztS] at hz;unfold nHd;have e3:s.size-(nT s).size=(hdF (nV s) (nM s)).size:=by omega
 rw [e3];exact zp1 key
theorem zjj (h:pkO v b=C) (t:ByteArray) :
 nOk (pack v b++t)=C∧nV (pack v b++t)=v∧nBd (pack v b++t)=b∧nW (pack v b++t)=t:=by
 unfold pkO at h;simp only [ztZ,zuD,decide_eq_true_eq] at h;obtain ⟨hv,hb⟩:=h;have e:pack v b++t=hdF v b.size++(zb4 (hdF v b.size) b++(b++t)):=by unfold pack;simp only [zaK]
 obtain ⟨h1,h2,h3,h4,h5⟩:=zec hv b.size hb (zb4 (hdF v b.size) b++(b++t));rw [←e] at h1 h2 h3 h4 h5;have hz:=zbh (hdF v b.size) b;have hp:=ze6 (zb4 (hdF v b.size) b) (b++t);rw [hz] at hp;obtain ⟨p1,p2,p3⟩:=hp;obtain ⟨q1,q2,q3⟩:=ze6 b t;have kS:nS (pack v b++t)=zb4 (hdF v b.size) b:=by unfold nS;rw [h3];exact p1
 have kU:nU (pack v b++t)=b++t:=by unfold nU;rw [h3];exact p2
 have kB:nBd (pack v b++t)=b:=by unfold nBd;rw [kU,h2];exact q1
 have kW:nW (pack v b++t)=t:=by unfold nW;rw [kU,h2];exact q2
 refine ⟨?_,h1,kB,kW⟩
 have c1:(decide (nV (pack v b++t)=1)||decide (nV (pack v b++t)=2))=C:=by
  rw [h1];rcases hv with rfl|rfl<;>rfl
 have c2:decide (nM (pack v b++t)≤1048576)=C:=by rw [h2];exact ztN hb
 have c3:nR (pack v b++t)=C:=by
  unfold nR;rw [h4,kU,h2,q3,h3];have p3':zbC (zb4 (hdF v b.size) b++(b++t)) 4=C:=p3;rw [p3'];rfl
 have c4:((nS (pack v b++t)).toList==(zb4 (nHd (pack v b++t)) (nBd (pack v b++t))).toList)=C:=by
  rw [zcQ,kS,h5,kB]
 unfold nOk;rw [c1,c2,c3,c4];rfl
theorem ze7 (h:nOk s=C):pkO (nV s) (nBd s)=C∧s=pack (nV s) (nBd s)++nW s∧(nBd s).size=nM s:=by
 unfold nOk nR at h;simp only [ztZ,zuD,decide_eq_true_eq] at h;obtain ⟨hv,hm,⟨⟨h1,h2⟩,h3⟩,h4⟩:=h;rw [zcQ] at h4;obtain ⟨k1,k2⟩:=zn3 hv h1;have b1:=zrZ (nT s) 4 h2;have b2:=zrZ (nU s) (nM s) h3;have hz:(nBd s).size=nM s:=b2.2;refine ⟨?_,?_,hz⟩
 ·unfold pkO;rw [hz];simp only [ztZ,zuD,decide_eq_true_eq];exact ⟨hv,hm⟩
 ·unfold pack;rw [hz,←k2,←h4];have e1:nBd s++nW s=nU s:=b2.1;have e2:nS s++nU s=nT s:=b1.1;simp only [zaK];rw [e1,e2,k2];exact k1
theorem zlu (h:nOk s=C):(s.size:Int)-(nW s).size=(pack (nV s) (nBd s)).size:=by
 have h1:=congrArg ByteArray.size (ze7 h).2.1;rw [ztS] at h1;omega
theorem zeI (v:Int) (n:Nat) (hn:n<18446744073709551616):(hdF v n).size≤11:=by
 unfold hdF zho;rw [ztS];have h1:=zac (160+v).toNat 1 (by omega);have h1':(fxB (160+v).toNat 1).size=1:=h1
 split
 ·have h2:=zac n 4 (by omega);have h2':(fxB n 4).size=4:=h2;omega
 ·have h2:=_root_.Go.Proofs.YtidndekacnmihaaGreat.zaW n hn;omega
theorem zgC (v:Int) (b:ByteArray):(pkS v b).size≤1048600:=by
 unfold pkS
 split
 ·rename_i h
  unfold pkO at h;simp only [ztZ,zuD,decide_eq_true_eq] at h;unfold pack;rw [ztS,ztS,zbh]
  have:=zeI v b.size (by omega)
  omega
 ·exact ztO _
def zsZ (s:ByteArray):Bool:=decide (nM s≤(nU s).size)&&(nR s&&(pkO (nV s) (nBd s)&&(decide ((pack (nV s) (nBd s)).size≤s.size)&&((s.extract 0 (pack (nV s) (nBd s)).size).toList==(pack (nV s) (nBd s)).toList))))
theorem zlv (s:ByteArray):zsZ s=nOk s:=by
 cases hn:nOk s with
 | true =>
   obtain ⟨h1,h2,h3⟩:=ze7 hn
   have hr:nR s=C:=by
    unfold nOk at hn;simp only [ztZ] at hn;exact hn.2.2.1
   have hm:nM s≤(nU s).size:=by
    have hr2:=hr;unfold nR at hr2;simp only [ztZ] at hr2
    have:=hr2.2
    have hh:0≤((nM s:Nat):Int)∧((nM s:Nat):Int)≤(nU s).size:=of_decide_eq_true this;omega
   have hs:(pack (nV s) (nBd s)).size≤s.size:=by
    have:=congrArg ByteArray.size h2
    rw [ztS] at this;omega
   have he:((s.extract 0 (pack (nV s) (nBd s)).size).toList==(pack (nV s) (nBd s)).toList)=C:=by
    rw [zcQ];exact zp1 h2
   unfold zsZ;rw [ztN hm,hr,h1,ztN hs,he];rfl
 | false =>
   cases hr:zsZ s with
   | false=>rfl
   | true =>
     exfalso;unfold zsZ at hr;simp only [ztZ,decide_eq_true_eq] at hr;obtain ⟨h0,h1,h2,h3,h4⟩:=hr;rw [zcQ] at h4
     have e:s=pack (nV s) (nBd s)++s.extract (pack (nV s) (nBd s)).size s.size:=by
      conv=>rhs;arg 1;rw [←h4]
      rw [ByteArray.extract_append_extract];simp [h3]
     have hh:=(zjj h2 (s.extract (pack (nV s) (nBd s)).size s.size)).1;rw [←e,hn] at hh
     cases hh
end
section
open Vi
theorem zaM {T E:TypeId} {es:Array MapEntry} (c:Int) (v:U) {B:Nat} {a:y} (hT:prog.underlying T=p (.map 3 E)) (hb:w.heap[g]?=p (.map es clock))
 (hf:Instr.findNow (.int f) (d f c) es.toList 0=p O) (hbw:z B a w) (hg:B≤g) :
 ∃ w',(Instr.mapUpdate T (.map (p g)) (d f c) v).run G w=.ok () w'∧w'.heap[g]?=p (.map (es.push { key:=d f c,val:=v,born:=clock }) (clock+1))∧z B a w'∧(∀ k,k≠g→w'.heap[k]?=w.heap[k]?)∧w'.heap.size=w.heap.size:=by
 have hk:prog.underlying 3=p (.int f):=underlying3;have hc:(Instr.checkKey D 10000 3 (d f c)).run G w=.ok () w:=MapKept.run_checkKey (k:=d f c) hk (by simp [MapKept.IsKey]) D 9999;refine ⟨{ w with heap:=w.heap.setIfInBounds g (.map (es.push { key:=d f c,val:=v,born:=clock }) (clock+1)) },?_,?_,?_,?_,by simp⟩
 ·simp [Instr.mapUpdate,run_underlying hT,MapKept.run_getObj_map hb,hc,MapKept.run_findKey hk hf,MapKept.run_setObj_map _ hb,Result.andThen]
 ·exact (MapKept.heap_set hb).1
 ·refine ⟨hbw.os,hbw.tape,hbw.output,by simpa using hbw.size,fun k hk=>?_⟩;exact ((MapKept.heap_set hb).2 k (by omega)).trans (hbw.block k hk)
 ·exact fun k hk=>(MapKept.heap_set hb).2 k hk
theorem zaD {T E:TypeId} {i:Nat} {es:Array MapEntry} (c:Int) (v:U) (hT:prog.underlying T=p (.map 3 E)) (hb:w.heap[g]?=p (.map es clock))
 (hf:Instr.findNow (.int f) (d f c) es.toList 0=p (p (i,v))) :
 (Instr.lookup T (.map (p g)) (d f c) C).run G w=.ok (N #[v,Q C]) w:=by
 have hk:prog.underlying 3=p (.int f):=underlying3;have hc:(Instr.checkKey es.isEmpty 10000 3 (d f c)).run G w=.ok () w:=MapKept.run_checkKey (k:=d f c) hk (by simp [MapKept.IsKey]) es.isEmpty 9999;simp [Instr.lookup,run_underlying hT,MapKept.run_getObj_map hb,hc,MapKept.run_findKey hk hf,Result.andThen]
theorem zce {T E:TypeId} {es:Array MapEntry} (c:Int) (hT:prog.underlying T=p (.map 3 E)) (hE:∀ w,(zeroValue E).run G w=.ok .nilFunc w) (hb:w.heap[g]?=p (.map es clock))
 (hf:Instr.findNow (.int f) (d f c) es.toList 0=p O) :
 (Instr.lookup T (.map (p g)) (d f c) C).run G w=.ok (N #[.nilFunc,Q D]) w:=by
 have hk:prog.underlying 3=p (.int f):=underlying3;have hc:(Instr.checkKey es.isEmpty 10000 3 (d f c)).run G w=.ok () w:=MapKept.run_checkKey (k:=d f c) hk (by simp [MapKept.IsKey]) es.isEmpty 9999;simp [Instr.lookup,run_underlying hT,MapKept.run_getObj_map hb,hc,MapKept.run_findKey hk hf,hE,Result.andThen]
abbrev two (a b:U):Array MapEntry:=#[{ key:=d f 1,val:=a,born:=0 },{ key:=d f 2,val:=b,born:=1 }]
theorem zed (a b:U):Instr.findNow (.int f) (d f 1) (two a b).toList 0=p (p (0,a)):=rfl
theorem zee (a b:U):Instr.findNow (.int f) (d f 2) (two a b).toList 0=p (p (1,b)):=rfl
theorem zkq (a b:U) (c:Int) (h1:c≠1) (h2:c≠2):Instr.findNow (.int f) (d f c) (two a b).toList 0=p O:=by
 have e1:(c==1)=D:=by simpa using h1
 have e2:(c==2)=D:=by simpa using h2
 simp [Instr.findNow,Instr.sameNow,e1,e2]
abbrev fv (n:Nat):U:=.func (.func n) #[] #[]
theorem zeK (w:y) :
 L G 249 #[] w fun r w'=>r=J (.map (p w.heap.size))∧w'.heap[w.heap.size]?=p (.map (two (fv 285) (fv 211)) 2)∧z w.heap.size w w':=by
 have hmm:=@run_makeMap G;obtain ⟨w1,e1,h1,b1,_,_⟩:=zaM (T:=272) 1 (fv 285) underlying272 (ztJ w (.map #[] 0)) rfl zba (ztI _);obtain ⟨w2,e2,h2,b2,_,_⟩:=zaM (T:=272) 2 (fv 211) underlying272 h1 rfl b1 (ztI _);have H2:Hid (w2.heap[w.heap.size]?=p (.map (two (fv 285) (fv 211)) 2)):=h2;have B2:=zh b2;clear h1 h2 b1 b2;go_enter func249,ntmps249;go_wp2;go_ret;exact ⟨rfl,H2.out,B2.out⟩
theorem zn6 (n:Nat) (w:y) (hn:n<18446744073709551616):L G 285 #[d V n] w fun e w'=>e=J (I (fxB n 4))∧z w.heap.size w w':=by
 go_enter func285,ntmps285
 go_wp2_with fail
 refine (zbm n 4 _).mono ?_;rintro e w1 ⟨rfl,b1⟩;go_wp2;go_ret;exact ⟨rfl,b1⟩
theorem zdJ (h b:ByteArray) (w:y) (hh:h.size≤281474976710656) (hb:b.size≤281474976710656):L G 250 #[I h,I b] w fun e w'=>e=J (I (zb4 h b))∧z w.heap.size w w':=by
 have m1:=Crc.zc3 0 h;have m2:=Crc.zc3 (Crc.zbf 0 h) b;go_enter func250,ntmps250
 go_wp2_with fail
 refine (zlk h _ (by unfold maxLen;omega)).mono ?_;rintro e w1 ⟨rfl,b1⟩
 go_wp2_with fail
 refine (zjf _ b _ (by unfold maxLen;omega) m1).mono ?_;rintro e w2 ⟨rfl,b2⟩;have hw:V.wrap ((Crc.zbf (Crc.zbf 0 h) b:Nat):Int)=((Crc.zbf (Crc.zbf 0 h) b:Nat):Int):=by rw [zt3];omega
 go_wp2_with fail
 refine (zbm _ 4 _).mono ?_;rintro e w3 ⟨rfl,b3⟩;go_wp2;go_ret;exact ⟨rfl,(b1.trans (b2.mono b1.size)).trans (b3.mono (ztL b1.size b2.size))⟩
theorem zjl (h b:ByteArray) (n:Nat) (hh:h.size≤11) (hb:b.size≤1048576):(h++zb4 h b).size+b.size≤9223372036854775807:=by
 rw [ztS,zbh];omega
theorem zfc (v:Int) (b:ByteArray) (w:y) (hv:v=1∨v=2) (hb:b.size≤1048576) :
 L G 207 #[d f v,I b] w fun e w'=>e=J (N #[I (pack v b),Q C])∧z w.heap.size w w':=by
 have hgt:¬ ((1048576:Int)<b.size):=by omega
 have hw:V.wrap (b.size:Int)=b.size:=by rw [zt3];omega
 have hz:=zeI v b.size (by omega);have hfx:=zjl (hdF v b.size) b 0 hz hb;have hs:=zbh (hdF v b.size) b;have KS:=zh (fun (W:y)=>zdJ (hdF v b.size) b W (by omega) (by omega));have KP:=zh (fun (W:y)=>zeK W);rcases hv with rfl|rfl
 ·have h1:(fxB 161 1).size=1:=zac 161 1 (by omega);have h2:(fxB b.size 4).size=4:=zac b.size 4 (by omega);obtain ⟨H,hH⟩:∃ H,H=hdF 1 b.size:=⟨_,rfl⟩;have hcat:Hid (fxB 161 1++fxB b.size 4=H):=hH.symm;have hfin:Hid (H++zb4 H b++b=pack 1 b):=by show _=_;rw [hH];rfl
  rw [←hH] at KS hfx hz hs;have HZ:=zh hz;clear hH hz;go_enter func207,ntmps207
  go_wp2_with fail
  refine (KP.out _).mono ?_;rintro e w1 ⟨rfl,m1,b1⟩;have hl:=zaD (T:=272) 1 (fv 285) underlying272 m1 (zed _ _);have HB1:=zh b1;clear m1 b1
  go_wp2_with fail
  refine (zbm 161 1 _).mono ?_;rintro e w2 ⟨rfl,b2⟩;have HB2:=zh (HB1.out.trans (b2.mono HB1.out.size));clear b2 hl
  go_wp2_with fail
  refine (zn6 b.size _ (by omega)).mono ?_;rintro e w3 ⟨rfl,b3⟩;have HB3:=zh (HB2.out.trans (b3.mono HB2.out.size));clear b3
  go_wp2_with fail
  rw [hcat.out];refine (KS.out _).mono ?_;rintro e w4 ⟨rfl,b4⟩;have HB4:=zh (HB3.out.trans (b4.mono HB3.out.size));clear b4;have hz2:=HZ.out;go_wp2;go_ret2;rw [hfin.out];exact ⟨rfl,HB4.out⟩
 ·have h1:(fxB 162 1).size=1:=zac 162 1 (by omega);have h2:=_root_.Go.Proofs.YtidndekacnmihaaGreat.zaW b.size (by omega);obtain ⟨H,hH⟩:∃ H,H=hdF 2 b.size:=⟨_,rfl⟩;have hcat:Hid (fxB 162 1++zaE b.size=H):=hH.symm;have hfin:Hid (H++zb4 H b++b=pack 2 b):=by show _=_;rw [hH];rfl
  rw [←hH] at KS hfx hz hs;have HZ:=zh hz;clear hH hz;go_enter func207,ntmps207
  go_wp2_with fail
  refine (KP.out _).mono ?_;rintro e w1 ⟨rfl,m1,b1⟩;have hl:=zaD (T:=272) 2 (fv 211) underlying272 m1 (zee _ _);have HB1:=zh b1;clear m1 b1
  go_wp2_with fail
  refine (zbm 162 1 _).mono ?_;rintro e w2 ⟨rfl,b2⟩;have HB2:=zh (HB1.out.trans (b2.mono HB1.out.size));clear b2 hl
  go_wp2_with fail
  refine (zcX b.size _ (by omega)).mono ?_;rintro e w3 ⟨rfl,b3⟩;have HB3:=zh (HB2.out.trans (b3.mono HB2.out.size));clear b3
  go_wp2_with fail
  rw [hcat.out];refine (KS.out _).mono ?_;rintro e w4 ⟨rfl,b4⟩;have HB4:=zh (HB3.out.trans (b4.mono HB3.out.size));clear b4;have hz2:=HZ.out;go_wp2;go_ret2;rw [hfin.out];exact ⟨rfl,HB4.out⟩
theorem zn7 (v:Int) (b:ByteArray):((v=1∨v=2)∧b.size≤1048576∧pkO v b=C∧pkS v b=pack v b)∨((v=1∨v=2)∧1048576<b.size∧pkO v b=D∧pkS v b=⟨#[]⟩)∨(v≠1∧v≠2∧pkO v b=D∧pkS v b=⟨#[]⟩):=by
 have hs:pkS v b=if pkO v b then pack v b else ⟨#[]⟩:=rfl
 by_cases hv:v=1∨v=2
 ·have e:(decide (v=1)||decide (v=2))=C:=by rcases hv with rfl|rfl<;>rfl
  by_cases hb:b.size≤1048576
  ·have ho:pkO v b=C:=by unfold pkO;rw [e,ztN hb];rfl
   exact .inl ⟨hv,hb,ho,by rw [hs,if_pos ho]⟩
  ·have ho:pkO v b=D:=by unfold pkO;rw [ztM hb];cases (decide (v=1)||decide (v=2))<;>rfl
   exact .inr (.inl ⟨hv,by omega,ho,by rw [hs,ho];rfl⟩)
 ·have h1:v≠1:=fun h=>hv (.inl h);have h2:v≠2:=fun h=>hv (.inr h);have ho:pkO v b=D:=by unfold pkO;rw [ztM h1,ztM h2];rfl
  exact .inr (.inr ⟨h1,h2,ho,by rw [hs,ho];rfl⟩)
theorem zjm (a:Int) (w:y):∀ i,i<1→(w.alloc (R #[d .u8 a] 5)).cell? ⟨w.heap.size,0+i,O⟩=p (d .u8 ([a].getD i 0))
 | 0,_=>by simp
 | k+1,h=>by omega
theorem zlz (v:Nat) (h:v<256):strOfNums [(v:Int)]=fxB v 1:=by
 have e:fxB v 1=str (fx v 1):=zjS v 1 (by omega);rw [e];show strOfNums [(v:Int)]=strOfNums [((v / 256 ^ 0 % 256:Nat):Int)];have e2:v / 256 ^ 0 % 256=v:=by rw [Nat.pow_zero,Nat.div_one];omega
 rw [e2]
theorem zqC:strOfNums [(161:Int)]=fxB 161 1:=zlz 161 (by omega)
theorem zqD:strOfNums [(162:Int)]=fxB 162 1:=zlz 162 (by omega)
theorem zhp (h b:ByteArray):Crc.zbf 0 (h++b)=Crc.zbf (Crc.zbf 0 h) b:=by
 unfold Crc.zbf;rw [Crc.ziw]
 congr 1
theorem zkr (v:Int) (b:ByteArray) (w:y) (hv:v=1∨v=2) (hb:b.size≤1048576) :
 L G 173 #[d f v,I b] w fun e w'=>e=J (N #[I (pack v b),Q C])∧z w.heap.size w w':=by
 have hgt:¬ ((1048576:Int)<b.size):=by omega
 have hw:V.wrap (b.size:Int)=b.size:=by rw [zt3];omega
 have hz:=zeI v b.size (by omega);have hfx:=zjl (hdF v b.size) b 0 hz hb;have hs:=zbh (hdF v b.size) b;have KX:=zh (fun (W:y)=>zaO b.size 4 W (by omega));have KY:=zh (fun (W:y)=>zbH b.size W (by omega));rcases hv with rfl|rfl
 ·have h1:(fxB 161 1).size=1:=zac 161 1 (by omega);have h2:(fxB b.size 4).size=4:=zac b.size 4 (by omega);obtain ⟨H,hH⟩:∃ H,H=hdF 1 b.size:=⟨_,rfl⟩;have hcat:Hid (fxB 161 1++fxB b.size 4=H):=hH.symm;have hfin:Hid (H++zb4 H b++b=pack 1 b):=by show _=_;rw [hH];rfl
  rw [←hH] at hfx hz hs;have hsum:=Crc.zc3 0 (H++b);have hw2:V.wrap ((Crc.zbf 0 (H++b):Nat):Int)=((Crc.zbf 0 (H++b):Nat):Int):=by rw [zt3];omega
  have hsl:Hid (fxB (Crc.zbf 0 (H++b)) 4=zb4 H b):=by show _=_;rw [zhp];rfl
  have KS:=zh (fun (W:y)=>zgy (H++b) W (by unfold maxLen;rw [ztS];omega));have hhb:H.size+b.size≤9223372036854775807:=by omega
  have HZ:=zh hz
  have hcv:∀ W:y,(convert 78 9 (.slice (p ⟨W.heap.size,0,O⟩) 1 1)).run G (W.alloc (R #[d .u8 161] 5))=.ok (I (fxB 161 1)) (W.alloc (R #[d .u8 161] 5)):=fun W=>by
   have h:=run_convert_bytes_arg (P:=G) (W.alloc (R #[d .u8 161] 5)) 78 5 underlying78 underlying5 W.heap.size 0 1 1 [161] rfl (zjm 161 W) 9 underlying9;rw [zqC] at h;exact h
  clear hH hz;go_enter func173,ntmps173
  go_wp2_with fail
  refine (KX.out _).mono ?_;rintro e w1 ⟨rfl,b1⟩;have HB1:=zh b1;clear b1;have hcv1:=hcv w1
  go_wp2_with fail
  rw [hcat.out];refine (KS.out _).mono ?_;rintro e w2 ⟨rfl,rfl⟩;have KF:=zh (fun (W:y)=>zaO (Crc.zbf 0 (H++b)) 4 W (by omega));have hz2:=HZ.out
  go_wp2_with fail
  refine (KF.out _).mono ?_;rintro e w3 ⟨rfl,b3⟩;rw [hsl.out];have HB3:Hid (z w.heap.size w w3):=(HB1.out.alloc HB1.out.size _).trans (b3.mono (by have:=HB1.out.size;simp;omega));clear b3;go_wp2;go_ret2;rw [hfin.out];exact ⟨rfl,HB3.out⟩
 ·have h1:(fxB 162 1).size=1:=zac 162 1 (by omega);have h2:=_root_.Go.Proofs.YtidndekacnmihaaGreat.zaW b.size (by omega);obtain ⟨H,hH⟩:∃ H,H=hdF 2 b.size:=⟨_,rfl⟩;have hcat:Hid (fxB 162 1++zaE b.size=H):=hH.symm;have hfin:Hid (H++zb4 H b++b=pack 2 b):=by show _=_;rw [hH];rfl
  rw [←hH] at hfx hz hs;have hsum:=Crc.zc3 0 (H++b);have hw2:V.wrap ((Crc.zbf 0 (H++b):Nat):Int)=((Crc.zbf 0 (H++b):Nat):Int):=by rw [zt3];omega
  have hsl:Hid (fxB (Crc.zbf 0 (H++b)) 4=zb4 H b):=by show _=_;rw [zhp];rfl
  have KS:=zh (fun (W:y)=>zgy (H++b) W (by unfold maxLen;rw [ztS];omega));have hhb:H.size+b.size≤9223372036854775807:=by omega
  have HZ:=zh hz
  have hcv:∀ W:y,(convert 78 9 (.slice (p ⟨W.heap.size,0,O⟩) 1 1)).run G (W.alloc (R #[d .u8 162] 5))=.ok (I (fxB 162 1)) (W.alloc (R #[d .u8 162] 5)):=fun W=>by
   have h:=run_convert_bytes_arg (P:=G) (W.alloc (R #[d .u8 162] 5)) 78 5 underlying78 underlying5 W.heap.size 0 1 1 [162] rfl (zjm 162 W) 9 underlying9;rw [zqD] at h;exact h
  clear hH hz;go_enter func173,ntmps173
  go_wp2_with fail
  refine (KX.out _).mono ?_;rintro e w1 ⟨rfl,b1⟩;have HB1:=zh b1;clear b1
  go_wp2_with fail
  refine (KY.out _).mono ?_;rintro e w2 ⟨rfl,b2⟩;have HB2:=zh (HB1.out.trans (b2.mono HB1.out.size));clear b2;have hcv1:=hcv w2
  go_wp2_with fail
  rw [hcat.out];refine (KS.out _).mono ?_;rintro e w4 ⟨rfl,rfl⟩;have KF:=zh (fun (W:y)=>zaO (Crc.zbf 0 (H++b)) 4 W (by omega));have hz2:=HZ.out
  go_wp2_with fail
  refine (KF.out _).mono ?_;rintro e w3 ⟨rfl,b3⟩;rw [hsl.out];have HB3:Hid (z w.heap.size w w3):=(HB2.out.alloc HB2.out.size _).trans (b3.mono (by have:=HB2.out.size;simp;omega));clear b3;go_wp2;go_ret2;rw [hfin.out];exact ⟨rfl,HB3.out⟩
theorem zf8 (v:Int) (b:ByteArray) (w:y) (h:(v=1∨v=2)∧1048576<b.size∨v≠1∧v≠2) :
 L G 173 #[d f v,I b] w fun e w'=>e=J (N #[I ⟨#[]⟩,Q D])∧z w.heap.size w w':=by
 rcases h with ⟨rfl|rfl,hb⟩|⟨h1,h2⟩
 ·have hgt:(1048576:Int)<b.size:=by omega
  go_enter func173,ntmps173;go_wp2;go_ret2;exact ⟨rfl,Y _ _⟩
 ·have hgt:(1048576:Int)<b.size:=by omega
  go_enter func173,ntmps173;go_wp2;go_ret2;exact ⟨rfl,Y _ _⟩
 ·go_enter func173,ntmps173;go_wp2;go_ret2;exact ⟨rfl,Y _ _⟩
theorem zcR (v:Int) (b:ByteArray) (w:y) :
 L G 173 #[d f v,I b] w fun e w'=>e=J (N #[I (pkS v b),Q (pkO v b)])∧z w.heap.size w w':=by
 rcases zn7 v b with ⟨hv,hb,h1,h2⟩|⟨hv,hb,h1,h2⟩|⟨hv,hb,h1,h2⟩
 ·rw [h1,h2];exact zkr v b w hv hb
 ·rw [h1,h2];exact zf8 v b w (.inl ⟨hv,hb⟩)
 ·rw [h1,h2];exact zf8 v b w (.inr ⟨hv,hb⟩)
end
section
open Vi
theorem zqA (h:nOk s=D):nxV s=0∧nxB s=⟨#[]⟩∧nxN s=0:=by
 unfold nxV nxB nxN;rw [h];exact ⟨rfl,rfl,rfl⟩
theorem ze8 (h:nOk s=C):nxV s=nV s∧nxB s=nBd s∧nxN s=(s.size:Int)-(nW s).size:=by
 unfold nxV nxB nxN;rw [h];exact ⟨rfl,rfl,rfl⟩
theorem zn4 (s:ByteArray):za1 s 4<18446744073709551616:=by
 unfold za1
 split
 ·have h:=zbO (nums s) (zaG s) 4;have h2:be (List.take 4 (nums s))<256 ^ 4:=h;have h3:(256:Nat) ^ 4=4294967296:=by decide
  rw [h3] at h2;show be (List.take 4 (nums s))<_;omega
 ·omega
theorem zn5 (s:ByteArray):nM s<18446744073709551616:=by
 unfold nM
 split
 ·exact zn4 _
 ·exact zm2 _
theorem zaF (h:nOk s=D):J (N #[d f 0,I ⟨#[]⟩,d f 0,Q D])=J (N #[d f (nxV s),I (nxB s),d f (nxN s),Q (nOk s)]):=by
 obtain ⟨e1,e2,e3⟩:=zqA h;rw [e1,e2,e3,h]
theorem zc5 {n:Int} (h:nOk s=C) (hv:nV s=v) (hb:nBd s=b) (hn:(s.size:Int)-(nW s).size=n):J (N #[d f v,I b,d f n,Q C])=J (N #[d f (nxV s),I (nxB s),d f (nxN s),Q (nOk s)]):=by
 obtain ⟨e1,e2,e3⟩:=ze8 h;rw [e1,e2,e3,h,hv,hb,hn]
theorem ze9 (s:ByteArray) (k:Int):(zcG s k).size≤s.size:=by
 unfold zcG
 split
 ·rw [zue];omega
 ·exact ztO _
theorem zjk (s:ByteArray):(nHd s).size≤s.size:=by unfold nHd;rw [zue];omega
theorem zfa (g:Nat) (w:y) :
 L G 266 #[rdp g] w fun r w'=>r=J (.map (p (w.heap.size+1)))∧w'.heap[w.heap.size]?=p (R #[.func (.func 262) #[rdp g] #[]] 255 (0,0))∧w'.heap[w.heap.size+1]?=p (.map (two (.func (.func 291) #[] #[X (p ⟨w.heap.size,0,O⟩)]) (.func (.func 268) #[rdp g] #[])) 2)∧z w.heap.size w w':=by
 have hmm:=@run_makeMap G;have hmf:=zmL;obtain ⟨W,hW⟩:∃ W,W=w.alloc (R #[.func (.func 262) #[rdp g] #[]] 255):=⟨_,rfl⟩;have hz:W.heap.size=w.heap.size+1:=by rw [hW];simp
 have hB:z w.heap.size w W:=by rw [hW];exact zba
 have hK:W.heap[w.heap.size]?=p (R #[.func (.func 262) #[rdp g] #[]] 255 (0,0)):=by rw [hW];exact ztJ w _
 obtain ⟨w1,e1,h1,b1,o1,s1⟩:=zaM (T:=292) 1 (.func (.func 291) #[] #[X (p ⟨w.heap.size,0,O⟩)]) underlying292 (ztJ W (.map #[] 0)) rfl zba (ztI _);obtain ⟨w2,e2,h2,b2,o2,s2⟩:=zaM (T:=292) 2 (.func (.func 268) #[rdp g] #[]) underlying292 h1 rfl b1 (ztI _);have H2:Hid (w2.heap[w.heap.size+1]?=p (.map (two (.func (.func 291) #[] #[X (p ⟨w.heap.size,0,O⟩)]) (.func (.func 268) #[rdp g] #[])) 2)):=by rw [←hz];exact h2
 have B2:=zh (hB.trans (b2.mono hB.size));have K2:Hid (w2.heap[w.heap.size]?=p (R #[.func (.func 262) #[rdp g] #[]] 255 (0,0))):=(b2.block _ (by omega)).trans hK;have HW:=zh hW;have HZ:=zh hz;clear h1 h2 b1 b2 o1 o2 s1 s2 hB hK hW hz;unfold rdp at *;go_enter func266,ntmps266
 go_upto_region 2 with fail
 rw [←HW.out];go_wp2;go_ret;rw [HZ.out];exact ⟨rfl,K2.out,H2.out,B2.out⟩
theorem zqB (A g:Nat) (s:ByteArray) (bad:Bool) (w:y) (hA:w.heap[A]?=p (R #[.func (.func 262) #[rdp g] #[]] 255 (0,0))) (h:Rd 327 g s bad w) (hm:s.size≤281474976710656) :
 L G 291 #[X (p ⟨A,0,O⟩)] w fun e w'=>e=J (d V (za1 s 4))∧Rd 327 g (zan s 4) (bad||!za3 s 4) w'∧w.grownBy w' (p g):=by
 have c0:w.cell? ⟨A,0,O⟩=p (.func (.func 262) #[rdp g] #[]):=zcr w A 0 _ 255 (0,0) hA;have K:=zh (zaH g s bad 4 w h hm);unfold rdp at *;clear h hA;go_enter func291,ntmps291
 go_wp2_with fail
 refine K.out.mono ?_;rintro e w1 ⟨rfl,R1,g1⟩;go_wp2;go_ret;exact ⟨rfl,R1,g1⟩
theorem zlw (s:ByteArray) (w:y) (hs:s.size≤281474976710656) (hF:za1 s 1=161) :
 L G 222 #[I s] w fun e w'=>e=J (N #[d f (nxV s),I (nxB s),d f (nxN s),Q (nOk s)])∧z w.heap.size w w':=by
 have hv:nV s=1:=by unfold nV;rw [hF];rfl
 have KN:=zh (fun (W:y)=>zbE s W);have KR:=zh (fun (g:Nat) (W:y)=>zfa g W);have HF:Hid (za1 s 1=161):=hF;have HS:=zh hs;have HS1:Hid ((zan s 1).size≤281474976710656):=ztL (zak s 1) hs;have HM:Hid ((za1 (zan s 1) 4:Nat)=nM s):=by show _=_;unfold nM;rw [hv];rfl
 have HT:Hid (zan (zan s 1) 4=nT s):=by show _=_;unfold nT;rw [hv];rfl
 have HO2:Hid ((D||!za3 s ((1:Nat):Int)||!za3 (zan s 1) 4)=!nO2 s):=by show _=_;unfold nO2;rw [hv];show _=!(za3 s 1&&za3 (zan s 1) 4);show (D||!za3 s 1||!za3 (zan s 1) 4)=_;cases za3 s 1<;>cases za3 (zan s 1) 4<;>rfl
 have HTS:Hid ((nT s).size≤s.size):=by show _≤_;rw [←HT.out];exact ztL (zak _ 4) (zak s 1)
 have HU:Hid ((nU s).size≤(nT s).size):=zbs _ _;have HW:Hid ((nW s).size≤(nU s).size):=zbs _ _;have HR:Hid ((!nO2 s||!zbC (nT s) 4||!zbC (nU s) (nM s))=!nR s):=by show _=_;unfold nR;cases nO2 s<;>cases zbC (nT s) 4<;>cases zbC (nU s) (nM s)<;>rfl
 have HHD:Hid (s.extract 0 (s.size-(nT s).size)=nHd s):=rfl;have HQ:Hid (nOk s=(decide (nM s≤1048576)&&(nR s&&((nS s).toList==(zb4 (nHd s) (nBd s)).toList)))):=by show _=_;unfold nOk;rw [hv];rfl
 have HVV:Hid (nV s=1):=hv;obtain ⟨M,hM⟩:∃ M,M=nM s:=⟨_,rfl⟩;obtain ⟨T,hT⟩:∃ T,T=nT s:=⟨_,rfl⟩;obtain ⟨r,hr⟩:∃ r,r=nR s:=⟨_,rfl⟩;have HNM:=zh hM;have HNT:=zh hT;have HNR:=zh hr;rw [←hM] at HM HQ HR;rw [←hT] at HT HTS HU HR HHD;rw [←hr] at HQ HR;have HML:Hid (M<18446744073709551616):=by show _<_;rw [hM];exact zn5 s
 have HS4:Hid (zcG T 4=nS s):=by show _=_;rw [hT];rfl
 have HU4:Hid (zdh T 4=nU s):=by show _=_;rw [hT];rfl
 have HB4:Hid (zcG (nU s) M=nBd s):=by show _=_;rw [hM];rfl
 have HW4:Hid (zdh (nU s) M=nW s):=by show _=_;rw [hM];rfl
 have HUS:Hid ((nU s).size≤281474976710656):=ztL HU.out (ztL HTS.out hs);clear hF hs hv hM hT hr;go_enter func222,ntmps222
 go_wp2_with fail
 refine (KN.out _).mono ?_;rintro e w1 ⟨rfl,hw1⟩;have R1:Hid (Rd 327 w.heap.size s D w1):=by show Rd _ _ _ _ _;rw [hw1];exact Rd.new w 327 s D
 have B1:Hid (z w.heap.size w w1):=by show z _ _ _;rw [hw1];exact zba
 have Z1:Hid (w1.heap.size=w.heap.size+1):=by show _=_;rw [hw1];simp
 clear hw1
 go_wp2_with fail
 refine (zaH _ _ _ 1 _ R1.out HS.out).mono ?_;rintro e w2 ⟨rfl,r2,g2⟩;rw [HF.out];have R2:=zh r2;have B2:Hid (z w.heap.size w w2):=zaa B1.out g2 B1.out.size (ztI _);have Z2:Hid (w.heap.size<w2.heap.size):=r2.lt;clear r2 g2
 go_wp2_with fail
 refine (KR.out _ _).mono ?_;rintro e w3 ⟨rfl,a3,m3,b3⟩;have hl:=zaD (T:=292) 1 (.func (.func 291) #[] #[X (p ⟨w2.heap.size,0,O⟩)]) underlying292 m3 (zed _ _);have R2:Hid (Rd 327 w.heap.size (zan s 1) (D||!za3 s ((1:Nat):Int)) w3):=R2.out.below b3 Z2.out;have A2:=zh a3;have B3:=zh (B2.out.trans (b3.mono B2.out.size));clear m3 b3 a3;unfold rdp at *
 go_wp2_with fail
 refine (zqB _ _ _ _ _ A2.out R2.out HS1.out).mono ?_;rintro e w4 ⟨rfl,r4,g4⟩;rw [HM.out];rw [HT.out,HO2.out] at r4;have R4:=zh r4;have B4:Hid (z w.heap.size w w4):=zaa B3.out g4 B3.out.size (ztI _);clear r4 g4 hl
 by_cases hgt:(1048576:Int)<(M:Int)
 ·have hno:nOk s=D:=by rw [HQ.out,ztM (by omega)];rfl
  go_wp2;refine ztP (v:=_) (by simp [results,results222,go_sem]) rfl ⟨zaF hno,B4.out⟩
 have hms:=HTS.out;have hss:=HS.out;have hsub:wrap64 ((s.size:Int)-(T.size:Int))=((s.size-T.size:Nat):Int):=by unfold wrap64;omega
 have hsz:s.size-T.size≤s.size:=by omega
 have hMw:f.wrap (M:Int)=M:=IntWalk.i64_in _ (by omega);have hgt2:¬ ((1048576:Int)<(M:Int)):=hgt
 go_wp2_with fail
 refine (zbr _ _ _ _ R4.out).mono ?_;rintro e w5 ⟨rfl,rfl⟩
 go_wp2_with fail
 refine (zby _ _ _ 4 _ R4.out (ztL hms hss)).mono ?_;rintro e w6 ⟨rfl,r6,g6⟩;rw [HS4.out,HHD.out];rw [HU4.out] at r6;have R6:=zh r6;have B6:Hid (z w.heap.size w w6):=zaa B4.out g6 B4.out.size (ztI _);clear r6 g6
 go_wp2_with fail
 refine (zby _ _ _ (M:Int) _ R6.out HUS.out).mono ?_;rintro e w7 ⟨rfl,r7,g7⟩;rw [HB4.out];rw [HW4.out,HR.out] at r7;have R7:=zh r7;have B7:Hid (z w.heap.size w w7):=zaa B6.out g7 B6.out.size (ztI _);clear r7 g7
 cases r with
 | false =>
   have hno:nOk s=D:=by rw [HQ.out,ztN (by omega)];rfl
   have HNO:=zh hno;clear hno
   go_wp2_with fail
   refine (zex _ _ _ _ R7.out).mono ?_;rintro e w8 ⟨rfl,rfl⟩;go_wp2;refine ztP (v:=_) (by simp [results,results222,go_sem]) rfl ⟨zaF HNO.out,B7.out⟩
 | true =>
   obtain ⟨q,hq⟩:∃ q,((nS s).toList==(zb4 (nHd s) (nBd s)).toList)=q:=⟨_,rfl⟩;have HQ2:Hid (nOk s=q):=by show _=_;rw [HQ.out,ztN (by omega),hq];rfl
   have HHZ:=zh (zjk s);have HBZ:Hid ((nBd s).size≤281474976710656):=ztL (ze9 _ _) HUS.out
   cases q with
   | false =>
     go_wp2_with fail
     refine (zex _ _ _ _ R7.out).mono ?_;rintro e w8 ⟨rfl,rfl⟩
     go_wp2_with fail
     refine (zdJ _ _ _ (ztL HHZ.out hss) HBZ.out).mono ?_;rintro e w9 ⟨rfl,b9⟩;have B9:=zh (B7.out.trans (b9.mono B7.out.size));clear b9;go_wp2;refine ztP (v:=_) (by simp [results,results222,go_sem]) rfl ⟨zaF HQ2.out,B9.out⟩
   | true =>
     have hw4:(nW s).size≤s.size:=ztL HW.out (ztL HU.out hms);have hsub2:wrap64 ((s.size:Int)-((nW s).size:Int))=(s.size:Int)-((nW s).size:Int):=by unfold wrap64;omega
     go_wp2_with fail
     refine (zex _ _ _ _ R7.out).mono ?_;rintro e w8 ⟨rfl,rfl⟩
     go_wp2_with fail
     refine (zdJ _ _ _ (ztL HHZ.out hss) HBZ.out).mono ?_;rintro e w9 ⟨rfl,b9⟩;have B9:=zh (B7.out.trans (b9.mono B7.out.size));have R9:=zh (R7.out.below b9 R7.out.lt);clear b9
     go_wp2_with fail
     refine (zbr _ _ _ _ R9.out).mono ?_;rintro e w10 ⟨rfl,rfl⟩;go_wp2;refine ztP (v:=_) (by simp [results,results222,go_sem]) rfl ⟨zc5 HQ2.out HVV.out rfl rfl,B9.out⟩
theorem zlx (s:ByteArray) (w:y) (hs:s.size≤281474976710656) (hF:za1 s 1=162) :
 L G 222 #[I s] w fun e w'=>e=J (N #[d f (nxV s),I (nxB s),d f (nxN s),Q (nOk s)])∧z w.heap.size w w':=by
 have hv:nV s=2:=by unfold nV;rw [hF];rfl
 have KN:=zh (fun (W:y)=>zbE s W);have KR:=zh (fun (g:Nat) (W:y)=>zfa g W);have HF:Hid (za1 s 1=162):=hF;have HS:=zh hs;have HS1:Hid ((zan s 1).size≤281474976710656):=ztL (zak s 1) hs;have HM:Hid ((zb3 (zan s 1):Nat)=nM s):=by show _=_;unfold nM;rw [hv];rfl
 have HT:Hid (za2 (zan s 1)=nT s):=by show _=_;unfold nT;rw [hv];rfl
 have HO2:Hid ((D||!za3 s ((1:Nat):Int)||!zcd (zan s 1))=!nO2 s):=by show _=_;unfold nO2;rw [hv];show _=!(za3 s 1&&zcd (zan s 1));show (D||!za3 s 1||!zcd (zan s 1))=_;cases za3 s 1<;>cases zcd (zan s 1)<;>rfl
 have HTS:Hid ((nT s).size≤s.size):=by show _≤_;rw [←HT.out];exact ztL (zbz _) (zak s 1)
 have HU:Hid ((nU s).size≤(nT s).size):=zbs _ _;have HW:Hid ((nW s).size≤(nU s).size):=zbs _ _;have HR:Hid ((!nO2 s||!zbC (nT s) 4||!zbC (nU s) (nM s))=!nR s):=by show _=_;unfold nR;cases nO2 s<;>cases zbC (nT s) 4<;>cases zbC (nU s) (nM s)<;>rfl
 have HHD:Hid (s.extract 0 (s.size-(nT s).size)=nHd s):=rfl;have HQ:Hid (nOk s=(decide (nM s≤1048576)&&(nR s&&((nS s).toList==(zb4 (nHd s) (nBd s)).toList)))):=by show _=_;unfold nOk;rw [hv];rfl
 have HVV:Hid (nV s=2):=hv;obtain ⟨M,hM⟩:∃ M,M=nM s:=⟨_,rfl⟩;obtain ⟨T,hT⟩:∃ T,T=nT s:=⟨_,rfl⟩;obtain ⟨r,hr⟩:∃ r,r=nR s:=⟨_,rfl⟩;have HNM:=zh hM;have HNT:=zh hT;have HNR:=zh hr;rw [←hM] at HM HQ HR;rw [←hT] at HT HTS HU HR HHD;rw [←hr] at HQ HR;have HML:Hid (M<18446744073709551616):=by show _<_;rw [hM];exact zn5 s
 have HS4:Hid (zcG T 4=nS s):=by show _=_;rw [hT];rfl
 have HU4:Hid (zdh T 4=nU s):=by show _=_;rw [hT];rfl
 have HB4:Hid (zcG (nU s) M=nBd s):=by show _=_;rw [hM];rfl
 have HW4:Hid (zdh (nU s) M=nW s):=by show _=_;rw [hM];rfl
 have HUS:Hid ((nU s).size≤281474976710656):=ztL HU.out (ztL HTS.out hs);clear hF hs hv hM hT hr;go_enter func222,ntmps222
 go_wp2_with fail
 refine (KN.out _).mono ?_;rintro e w1 ⟨rfl,hw1⟩;have R1:Hid (Rd 327 w.heap.size s D w1):=by show Rd _ _ _ _ _;rw [hw1];exact Rd.new w 327 s D
 have B1:Hid (z w.heap.size w w1):=by show z _ _ _;rw [hw1];exact zba
 have Z1:Hid (w1.heap.size=w.heap.size+1):=by show _=_;rw [hw1];simp
 clear hw1
 go_wp2_with fail
 refine (zaH _ _ _ 1 _ R1.out HS.out).mono ?_;rintro e w2 ⟨rfl,r2,g2⟩;rw [HF.out];have R2:=zh r2;have B2:Hid (z w.heap.size w w2):=zaa B1.out g2 B1.out.size (ztI _);have Z2:Hid (w.heap.size<w2.heap.size):=r2.lt;clear r2 g2
 go_wp2_with fail
 refine (KR.out _ _).mono ?_;rintro e w3 ⟨rfl,a3,m3,b3⟩;have hl:=zaD (T:=292) 2 (.func (.func 268) #[rdp w.heap.size] #[]) underlying292 m3 (zee _ _);have R2:Hid (Rd 327 w.heap.size (zan s 1) (D||!za3 s ((1:Nat):Int)) w3):=R2.out.below b3 Z2.out;have A2:=zh a3;have B3:=zh (B2.out.trans (b3.mono B2.out.size));clear m3 b3 a3;unfold rdp at *
 go_wp2_with fail
 refine (zg4 _ _ _ _ R2.out HS1.out).mono ?_;rintro e w4 ⟨rfl,r4,g4⟩;rw [HM.out];rw [HT.out,HO2.out] at r4;have R4:=zh r4;have B4:Hid (z w.heap.size w w4):=zaa B3.out g4 B3.out.size (ztI _);clear r4 g4 hl
 by_cases hgt:(1048576:Int)<(M:Int)
 ·have hno:nOk s=D:=by rw [HQ.out,ztM (by omega)];rfl
  go_wp2;refine ztP (v:=_) (by simp [results,results222,go_sem]) rfl ⟨zaF hno,B4.out⟩
 have hms:=HTS.out;have hss:=HS.out;have hsub:wrap64 ((s.size:Int)-(T.size:Int))=((s.size-T.size:Nat):Int):=by unfold wrap64;omega
 have hsz:s.size-T.size≤s.size:=by omega
 have hMw:f.wrap (M:Int)=M:=IntWalk.i64_in _ (by omega);have hgt2:¬ ((1048576:Int)<(M:Int)):=hgt
 go_wp2_with fail
 refine (zbr _ _ _ _ R4.out).mono ?_;rintro e w5 ⟨rfl,rfl⟩
 go_wp2_with fail
 refine (zby _ _ _ 4 _ R4.out (ztL hms hss)).mono ?_;rintro e w6 ⟨rfl,r6,g6⟩;rw [HS4.out,HHD.out];rw [HU4.out] at r6;have R6:=zh r6;have B6:Hid (z w.heap.size w w6):=zaa B4.out g6 B4.out.size (ztI _);clear r6 g6
 go_wp2_with fail
 refine (zby _ _ _ (M:Int) _ R6.out HUS.out).mono ?_;rintro e w7 ⟨rfl,r7,g7⟩;rw [HB4.out];rw [HW4.out,HR.out] at r7;have R7:=zh r7;have B7:Hid (z w.heap.size w w7):=zaa B6.out g7 B6.out.size (ztI _);clear r7 g7
 cases r with
 | false =>
   have hno:nOk s=D:=by rw [HQ.out,ztN (by omega)];rfl
   have HNO:=zh hno;clear hno
   go_wp2_with fail
   refine (zex _ _ _ _ R7.out).mono ?_;rintro e w8 ⟨rfl,rfl⟩;go_wp2;refine ztP (v:=_) (by simp [results,results222,go_sem]) rfl ⟨zaF HNO.out,B7.out⟩
 | true =>
   obtain ⟨q,hq⟩:∃ q,((nS s).toList==(zb4 (nHd s) (nBd s)).toList)=q:=⟨_,rfl⟩;have HQ2:Hid (nOk s=q):=by show _=_;rw [HQ.out,ztN (by omega),hq];rfl
   have HHZ:=zh (zjk s);have HBZ:Hid ((nBd s).size≤281474976710656):=ztL (ze9 _ _) HUS.out
   cases q with
   | false =>
     go_wp2_with fail
     refine (zex _ _ _ _ R7.out).mono ?_;rintro e w8 ⟨rfl,rfl⟩
     go_wp2_with fail
     refine (zdJ _ _ _ (ztL HHZ.out hss) HBZ.out).mono ?_;rintro e w9 ⟨rfl,b9⟩;have B9:=zh (B7.out.trans (b9.mono B7.out.size));clear b9;go_wp2;refine ztP (v:=_) (by simp [results,results222,go_sem]) rfl ⟨zaF HQ2.out,B9.out⟩
   | true =>
     have hw4:(nW s).size≤s.size:=ztL HW.out (ztL HU.out hms);have hsub2:wrap64 ((s.size:Int)-((nW s).size:Int))=(s.size:Int)-((nW s).size:Int):=by unfold wrap64;omega
     go_wp2_with fail
     refine (zex _ _ _ _ R7.out).mono ?_;rintro e w8 ⟨rfl,rfl⟩
     go_wp2_with fail
     refine (zdJ _ _ _ (ztL HHZ.out hss) HBZ.out).mono ?_;rintro e w9 ⟨rfl,b9⟩;have B9:=zh (B7.out.trans (b9.mono B7.out.size));have R9:=zh (R7.out.below b9 R7.out.lt);clear b9
     go_wp2_with fail
     refine (zbr _ _ _ _ R9.out).mono ?_;rintro e w10 ⟨rfl,rfl⟩;go_wp2;refine ztP (v:=_) (by simp [results,results222,go_sem]) rfl ⟨zc5 HQ2.out HVV.out rfl rfl,B9.out⟩
theorem zly (s:ByteArray) (w:y) (hs:s.size≤281474976710656) (h1:nV s≠1) (h2:nV s≠2) :
 L G 222 #[I s] w fun e w'=>e=J (N #[d f (nxV s),I (nxB s),d f (nxN s),Q (nOk s)])∧z w.heap.size w w':=by
 have hno:nOk s=D:=by unfold nOk;rw [ztM h1,ztM h2];rfl
 have HNO:=zh hno;have KN:=zh (fun (W:y)=>zbE s W);have KR:=zh (fun (g:Nat) (W:y)=>zfa g W);have HS:=zh hs;obtain ⟨v,hv⟩:∃ v,v=nV s:=⟨_,rfl⟩;obtain ⟨F,hF⟩:∃ F,F=za1 s 1:=⟨_,rfl⟩;have hlt:F<256:=by rw [hF];exact zbZ s
 have hvF:(F:Int)-160=v:=by rw [hv,hF];rfl
 have hw1:f.wrap (F:Int)=F:=IntWalk.i64_in _ (by omega);have hw2:wrap64 ((F:Int)-160)=v:=by rw [←hvF];unfold wrap64;omega
 have HF:Hid (za1 s 1=F):=hF.symm;rw [←hv] at h1 h2;have KL:=zh (fun (g:Nat) (a b:U) (W:y) (m:W.heap[g]?=p (.map (two a b) 2))=>zce (T:=292) v underlying292 zeroValue259 m (zkq a b v h1 h2));clear hF hs hv hno h1 h2 hlt hvF;go_enter func222,ntmps222
 go_wp2_with fail
 refine (KN.out _).mono ?_;rintro e w1 ⟨rfl,hw1⟩;have R1:Hid (Rd 327 w.heap.size s D w1):=by show Rd _ _ _ _ _;rw [hw1];exact Rd.new w 327 s D
 have B1:Hid (z w.heap.size w w1):=by show z _ _ _;rw [hw1];exact zba
 clear hw1
 go_wp2_with fail
 refine (zaH _ _ _ 1 _ R1.out HS.out).mono ?_;rintro e w2 ⟨rfl,r2,g2⟩;rw [HF.out];have R2:=zh r2;have B2:Hid (z w.heap.size w w2):=zaa B1.out g2 B1.out.size (ztI _);clear r2 g2
 go_wp2_with fail
 refine (KR.out _ _).mono ?_;rintro e w3 ⟨rfl,a3,m3,b3⟩;have hl:=KL.out _ _ _ _ m3;have B3:=zh (B2.out.trans (b3.mono B2.out.size));clear m3 b3 a3;go_wp2;refine ztP (v:=_) (by simp [results,results222,go_sem]) rfl ⟨zaF HNO.out,B3.out⟩
theorem zeJ (s:ByteArray) (w:y) (hs:s.size≤281474976710656) :
 L G 222 #[I s] w fun e w'=>e=J (N #[d f (nxV s),I (nxB s),d f (nxN s),Q (nOk s)])∧z w.heap.size w w':=by
 by_cases h1:nV s=1
 ·exact zlw s w hs (by unfold nV at h1;omega)
 ·by_cases h2:nV s=2
  ·exact zlx s w hs (by unfold nV at h2;omega)
  ·exact zly s w hs h1 h2
end
end Go.Proofs.YtidndekacnmihaaGreat
