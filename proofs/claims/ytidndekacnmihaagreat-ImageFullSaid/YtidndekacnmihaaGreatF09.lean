/- Parts of a proof. -/
import Derived.Test.YtidndekacnmihaaGreatF07
set_option linter.unusedVariables false
set_option linter.unusedSimpArgs false
set_option maxHeartbeats 8000000
set_option maxRecDepth 100000
namespace Go.Proofs.YtidndekacnmihaaGreat
open Go.RowKit
namespace Crc
def step (r t:Nat):Nat:=r / 2 ^^^ 2197175160*((r ^^^ t) &&& 1)
def zgk (r b:Nat):Nat→Nat
 | 0=>r
 | k+1=>step (zgk r b k) (b / 2 ^ k)
def zdu (r b:Nat):Nat:=zgk r b 8
def raw (r:Nat) (l:List UInt8):Nat:=l.foldl (fun r c=>zdu r c.toNat) r
def comp (x:Nat):Nat:=4294967295-x
def more (sum:Nat) (l:List UInt8):Nat:=comp (raw (comp sum) l)
theorem zfX (x:Nat):x &&& 1≤1:=Nat.and_le_right
theorem zps (r t:Nat) (hr:r<4294967296):step r t<4294967296:=by
 unfold step;have h:=zfX (r ^^^ t);exact Nat.xor_lt_two_pow (n:=32) (by omega) (by omega)
theorem zez (r b:Nat) (hr:r<4294967296):∀ k,zgk r b k<4294967296
 | 0=>hr
 | k+1=>zps _ _ (zez r b hr k)
theorem zih (r b:Nat) (hr:r<4294967296):zdu r b<4294967296:=zez r b hr 8
theorem zg6:∀ (l:List UInt8) (r:Nat),r<4294967296→raw r l<4294967296
 | [],_,h=>h
 | c :: l,r,h=>zg6 l _ (zih r c.toNat h)
theorem zeW (x:Nat):comp x<4294967296:=by unfold comp;omega
theorem zkV (x:Nat) (h:x<4294967296):comp (comp x)=x:=by unfold comp;omega
theorem zfY (r:Nat) (a b:List UInt8):raw r (a++b)=raw (raw r a) b:=by unfold raw;rw [List.foldl_append]
theorem znc (r:Nat) (a:List UInt8) (c:UInt8):raw r (a++[c])=zdu (raw r a) c.toNat:=zfY r a [c]
theorem zii (x:Nat) (a b:List UInt8):more (more x a) b=more x (a++b):=by
 unfold more;rw [zkV _ (zg6 _ _ (zeW _)),zfY]
theorem znd (r b k:Nat) (hr:r<4294967296) (hb:b<256) :
 bits BinOp.xor IntKind.u32 ((r:Int) / 2) (2197175160*bits BinOp.and IntKind.u32 (bits BinOp.xor IntKind.u32 (r:Int) ((b:Int) / 2 ^ k % 4294967296)) 1 % 4294967296)=((step r (b / 2 ^ k):Nat):Int):=by
 have hq:b / 2 ^ k≤b:=Nat.div_le_self _ _;have e0:(b:Int) / 2 ^ k=((b / 2 ^ k:Nat):Int):=by push_cast;rfl
 rw [e0];generalize b / 2 ^ k=q at *;have e1:(q:Int) % 4294967296=(q:Int):=by omega
 rw [e1,u32_xor_nat r q hr (by omega)];have hx:r ^^^ q<4294967296:=Nat.xor_lt_two_pow (n:=32) (by omega) (by omega);have e2:bits BinOp.and IntKind.u32 ((r ^^^ q:Nat):Int) 1=((r ^^^ q) &&& 1:Nat):=u32_and_nat (r ^^^ q) 1 hx (by omega);rw [e2];have h1:=zfX (r ^^^ q);have e3:(2197175160*(((r ^^^ q) &&& 1:Nat):Int) % 4294967296)=((2197175160*((r ^^^ q) &&& 1):Nat):Int):=by omega
 have e4:(r:Int) / 2=((r / 2:Nat):Int):=by omega
 rw [e3,e4,u32_xor_nat _ _ (by omega) (by omega)];rfl
theorem zgl (x:Nat) (hx:x<4294967296):bits BinOp.xor IntKind.u32 IntKind.u32.max (x:Int)=((comp x:Nat):Int):=by
 show IntKind.u32.wrap ((BitVec.ofInt 32 4294967295 ^^^ BitVec.ofInt 32 (x:Int)).toNat:Int)=_;have h1:BitVec.ofInt 32 4294967295=BitVec.allOnes 32:=by decide
 have h2:=ofInt_u32 x hx;rw [h1,BitVec.allOnes_xor,BitVec.toNat_not,h2,IntKind.wrap_u32'];unfold comp;omega
theorem zkW (s:ByteArray) (k:Nat) (h:k<s.size):s.data.toList.take (k+1)=s.data.toList.take k++[s[k]]:=by
 rw [ztJ (by simpa using h)];rfl
theorem zdv (r:Nat) (s:ByteArray) (k:Nat) (h:k<s.size):raw r (s.data.toList.take (k+1))=zdu (raw r (s.data.toList.take k)) s[k].toNat:=by
 rw [zkW s k h,znc]
def head (n:Nat):ByteArray:=⟨#[UInt8.ofNat (n / 16777216),UInt8.ofNat (n / 65536 % 256),UInt8.ofNat (n / 256 % 256),UInt8.ofNat (n % 256)]⟩
theorem zdw (n:Nat):(head n).size=4:=rfl
def zbe (sum:Nat) (s:ByteArray):Nat:=more sum s.data.toList
def zaH (s:ByteArray):ByteArray:=head (zbe 0 s)++s
theorem zcW (x:Nat) (s:ByteArray):zbe x s<4294967296:=zeW _
theorem za9 (s:ByteArray):(zaH s).size=s.size+4:=by
 unfold zaH;rw [zsH,zdw];omega
end Crc
theorem znb (a:Addr) (r b:Nat) (w:World) (hr:r<4294967296) (hb:b<256) (hc:w.cell? a=some (.int .u32 r)) (hf:w.frozen? a=false) :
 Calls Tryz.prog 318 #[.pointer (some a),.int .u8 b] w fun e w'=>e=.returned (.tuple #[])∧w'=w.setCell a (.int .u32 (Crc.zdu r b)):=by
 go_enter Tryz.func318,Tryz.ntmps318;go_wp2
 go_loop [4,10] (fun n i=>∃ k:Nat,k≤8∧i=.int .i64 k∧n=.int .u32 (Crc.zgk r b k)) (fun _ i=>8-(Go.RowKit.intOf i).toNat)
 case atStart=>exact ⟨0,by omega,rfl,rfl⟩
 case round =>
  obtain ⟨k,hk,rfl,rfl⟩:=hrel
  by_cases hlt:k<8
  ·have HE:=zh (Crc.znd (Crc.zgk r b k) b k (Crc.zez r b hr k) hb);go_wp2
   go_round
   case rel=>exact ⟨k+1,by omega,by go_num,by rw [HE.out];rfl⟩
   case measure=>simp [Go.RowKit.intOf];omega
  ·have h8:k=8:=by omega
   subst h8;go_wp2;go_end0;exact ⟨rfl,rfl⟩
theorem zi3 (sum:Nat) (s:ByteArray) (w:World) (hs:s.size≤maxLen) (hsum:sum<4294967296) :
 Calls Tryz.prog 286 #[.int .u32 sum,.string s] w fun e w'=>e=.returned (.int .u32 (Crc.zbe sum s))∧Below w.heap.size w w':=by
 unfold maxLen at hs;go_enter Tryz.func286,Tryz.ntmps286;go_wp2;have H0:=zh (Crc.zgl sum hsum)
 go_loopw [13] (fun i wr=>∃ k:Nat,k≤s.size∧i=.int .i64 k∧wr.cell? ⟨w.heap.size,0,none⟩=some (.int .u32 (Crc.raw (Crc.comp sum) (s.data.toList.take k)))∧wr.frozen? ⟨w.heap.size,0,none⟩=false∧Below w.heap.size w wr)
  (fun i _=>s.size-(Go.RowKit.intOf i).toNat)
 case atStart =>
  refine ⟨0,by omega,rfl,?_,?_,zba⟩
  ·rw [H0.out];simp [Crc.raw]
  ·simp
 case round =>
  obtain ⟨k,hk,rfl,hcell,hfz,hbel⟩:=hrel
  by_cases hlt:k<s.size
  ·have hraw:=Crc.zg6 (s.data.toList.take k) _ (Crc.zeW sum);have hbyte:s[k].toNat<256:=s[k].toNat_lt;have HR:=zh (Crc.zdv (Crc.comp sum) s k hlt)
   go_wp2_with fail
   refine (znb _ _ _ _ hraw hbyte hcell hfz).mono ?_;rintro e w1 ⟨rfl,rfl⟩;have HC:=zh hcell;have HF:=zh hfz;clear hcell hfz;go_wp2
   go_roundw
   case rel =>
    refine ⟨k+1,by omega,by go_num,?_,?_,hbel.setCell (zsy _) _⟩
    ·rw [HR.out];exact World.cell?_setCell_same _ _ _ HC.out
    ·rw [World.frozen?_setCell];exact HF.out
   case measure=>simp [Go.RowKit.intOf];omega
  ·have hk':k=s.size:=by omega
   subst hk';have hraw:=Crc.zg6 (s.data.toList.take s.size) _ (Crc.zeW sum);have H1:=zh (Crc.zgl _ hraw);have H2:Hid (s.data.toList.take s.size=s.data.toList):=by rw [zsX (by simp)];exact rfl
   go_wp2;go_ret;refine ⟨?_,hbel⟩;rw [H1.out,H2.out];rfl
theorem zkU (s:ByteArray) (w:World) (hs:s.size≤maxLen) :
 Calls Tryz.prog 256 #[.string s] w fun e w'=>e=.returned (.int .u32 (Crc.zbe 0 s))∧Below w.heap.size w w':=by
 go_enter Tryz.func256,Tryz.ntmps256
 go_wp2_with fail
 refine (zi3 0 s w hs (by omega)).mono ?_;rintro e w1 ⟨rfl,hb⟩;go_wp2;go_ret;exact ⟨rfl,hb⟩
namespace Crc
theorem zgm (x:Nat):x &&& 1=0∨x &&& 1=1:=by rw [Nat.and_one_is_mod];omega
theorem zne (r q:Nat) (h:(r ^^^ q) &&& 1=1):step r q=r / 2 ^^^ 2197175160:=by unfold step;rw [h]
theorem zkX (r q:Nat) (h:(r ^^^ q) &&& 1=0):step r q=r / 2:=by unfold step;rw [h];simp
theorem zpt (r b k:Nat) (hr:r<4294967296) (hb:b<256) :
 ((bits BinOp.xor IntKind.u32 (r:Int) ((b:Int) / 2 ^ k % 4294967296)).tmod 2==1)=decide ((r ^^^ b / 2 ^ k) &&& 1=1):=by
 have hq:b / 2 ^ k≤b:=Nat.div_le_self _ _;have e0:(b:Int) / 2 ^ k=((b / 2 ^ k:Nat):Int):=by rw [Int.natCast_ediv,Int.natCast_pow];rfl
 rw [e0];generalize b / 2 ^ k=q at *;have e1:(q:Int) % 4294967296=(q:Int):=by omega
 rw [e1,u32_xor_nat r q hr (by omega),Nat.and_one_is_mod];generalize r ^^^ q=x;have e2:((x:Int)).tmod 2=((x % 2:Nat):Int):=by rw [Int.tmod_eq_emod_of_nonneg (by omega)];omega
 rw [e2,Bool.eq_iff_iff,beq_iff_eq,decide_eq_true_iff];omega
theorem zpu (r:Nat) (hr:r<4294967296):bits BinOp.xor IntKind.u32 ((r:Int) / 2) 2197175160=((r / 2 ^^^ 2197175160:Nat):Int):=by
 have e:(r:Int) / 2=((r / 2:Nat):Int):=by omega
 rw [e];exact u32_xor_nat (r / 2) 2197175160 (by omega) (by omega)
end Crc
theorem zkY (sum:Nat) (s:ByteArray) (w:World) (hs:s.size≤maxLen) (hsum:sum<4294967296) :
 Calls Tryz.prog 257 #[.int .u32 sum,.string s] w fun e w'=>e=.returned (.int .u32 (Crc.zbe sum s))∧w=w':=by
 unfold maxLen at hs;have H0:=zh (Crc.zgl sum hsum);go_enter Tryz.func257,Tryz.ntmps257;go_wp2;rw [H0.out]
 go_loop [0,5] (fun r i=>∃ k:Nat,k≤s.size∧i=.int .i64 k∧r=.int .u32 (Crc.raw (Crc.comp sum) (s.data.toList.take k))) (fun _ i=>s.size-(Go.RowKit.intOf i).toNat)
 case atStart=>exact ⟨0,by omega,rfl,rfl⟩
 case round =>
  obtain ⟨k,hk,rfl,rfl⟩:=hrel;have hraw:=Crc.zg6 (s.data.toList.take k) _ (Crc.zeW sum)
  by_cases hlt:k<s.size
  ·have hbyte:s[k].toNat<256:=s[k].toNat_lt;have HR:=zh (Crc.zdv (Crc.comp sum) s k hlt);generalize Crc.raw (Crc.comp sum) (s.data.toList.take k)=r0 at *;go_wp2
   go_loop [0,6] (fun r j=>∃ m:Nat,m≤8∧j=.int .i64 m∧r=.int .u32 (Crc.zgk r0 s[k].toNat m)) (fun _ j=>8-(Go.RowKit.intOf j).toNat)
   case atStart=>exact ⟨0,by omega,rfl,rfl⟩
   case round =>
    obtain ⟨m,hm,rfl,rfl⟩:=hrel
    by_cases hm8:m<8
    ·have hst:=Crc.zez r0 s[k].toNat hraw m;have hte:=Crc.zpt (Crc.zgk r0 s[k].toNat m) s[k].toNat m hst hbyte;have HE:=zh (Crc.zpu (Crc.zgk r0 s[k].toNat m) hst);rcases Crc.zgm (Crc.zgk r0 s[k].toNat m ^^^ s[k].toNat / 2 ^ m) with hbit|hbit
     ·have HS:=zh (Crc.zkX _ _ hbit);rw [zsC (by rw [hbit];decide)] at hte;clear hbit;go_wp2
      go_round
      case rel=>exact ⟨m+1,by omega,by go_num,by show _=Value.int IntKind.u32 ((Crc.step _ _:Nat):Int);rw [HS.out];go_num⟩
      case measure=>simp [Go.RowKit.intOf];omega
     ·have HS:=zh (Crc.zne _ _ hbit);rw [zsD hbit] at hte;clear hbit;go_wp2
      go_round
      case rel=>exact ⟨m+1,by omega,by go_num,by show _=Value.int IntKind.u32 ((Crc.step _ _:Nat):Int);rw [HS.out,HE.out]⟩
      case measure=>simp [Go.RowKit.intOf];omega
    ·have h8:m=8:=by omega
     subst h8;go_wp2
     go_round
     case rel=>exact ⟨k+1,by omega,by go_num,by rw [HR.out];rfl⟩
     case measure=>simp [Go.RowKit.intOf];omega
  ·have hk':k=s.size:=by omega
   subst hk';have H1:=zh (Crc.zgl _ hraw);have H2:Hid (s.data.toList.take s.size=s.data.toList):=by rw [zsX (by simp)];exact rfl
   go_wp2;go_ret;refine ⟨?_,rfl⟩;rw [H1.out,H2.out];rfl
theorem zgn (s:ByteArray) (w:World) (hs:s.size≤maxLen) :
 Calls Tryz.prog 216 #[.string s] w fun e w'=>e=.returned (.int .u32 (Crc.zbe 0 s))∧w=w':=by
 go_enter Tryz.func216,Tryz.ntmps216
 go_wp2_with fail
 refine (zkY 0 s w hs (by omega)).mono ?_;rintro e w1 ⟨rfl,rfl⟩;go_wp2;go_ret;exact ⟨rfl,rfl⟩
section
namespace Vi
theorem zr0:∀ (l:List Nat),(∀ x∈l,x<256)→fx (be l) l.length=l:=by
 have key0:∀ (n:Nat) (l:List Nat),l.length=n→(∀ x∈l,x<256)→fx (be l) l.length=l:=by
  intro n;induction n with
  | zero =>
   intro l hl _
   have:l=[]:=ztK hl
   subst this;rfl
  | succ n ih0 =>
   intro l0 hl0 h0;obtain ⟨l,b,rfl⟩:∃ l b,l0=l++[b]:=⟨l0.dropLast,l0.getLast (by intro e;rw [e] at hl0;simp at hl0),(List.dropLast_concat_getLast _).symm⟩;have ih:=ih0 l (by simpa using hl0);have h:=h0;have hb:b<256:=h b (by simp);have ih':=ih fun x hx=>h x (by simp [hx]);rw [zmn,zsS,List.length_singleton]
   have key:∀ k,fx (be l*256+b) (k+1)=fx (be l) k++[b]:=by
    intro k;induction k with
    | zero =>
      unfold fx fx
      simp
      omega
    | succ k ik =>
      rw [fx,ik,fx]
      have h1:(be l*256+b) / 256 ^ (k+1)=be l / 256 ^ k:=by
       rw [Nat.pow_succ',←Nat.div_div_eq_div_mul]
       congr 1
       omega
      rw [h1];rfl
   rw [key,ih']
 intro l h;exact key0 l.length l rfl h
theorem zg8 (n:Nat):nums (zaH n)=put n:=zeN _ (zpf n)
theorem zim (n:Nat) (hn:n<18446744073709551616) (t:ByteArray):zbY (zaH n++t)=n∧za0 (zaH n++t)=t∧zca (zaH n++t)=true:=by
 obtain ⟨h1,h2,h3⟩:=zlT n hn (nums t);have e:nums (zaH n++t)=put n++nums t:=by rw [zbo,zg8]
 unfold zbY za0 zca;rw [e];refine ⟨h2,?_,h1⟩;rw [h3];have e2:(put n).length=(zaH n).size:=by unfold zaH;rw [zc5]
 rw [e2];exact zcB _ _
theorem zo3:∀ (l:List Nat),cnt l<l.length→l.getD (cnt l) 0<128
 | [],h=>absurd h (by simp)
 | b :: l,h=>by
   by_cases hb:128≤b
   ·have e:cnt (b :: l)=cnt l+1:=by
     unfold cnt;rw [ztD,if_pos (by simpa using hb),zs2]
    rw [e] at h ⊢;have ih:=zo3 l (by simpa using h)
    simpa using ih
   ·have e:cnt (b :: l)=0:=by
     unfold cnt;rw [ztD,if_neg (by simpa using hb)];rfl
    rw [e]
    simp
    omega
theorem zpw (l:List Nat):∀ j,j<cnt l→128≤l.getD j 0:=by
 intro j hj
 have hl:cnt l≤l.length:=by
  unfold cnt;exact (List.takeWhile_sublist _).length_le
 have hm:l.getD j 0∈l.take (cnt l):=by
  rw [ztc,zsW (by omega),Option.getD_some];exact List.mem_take_iff_getElem.2 ⟨j,by omega,rfl⟩
 exact zlS l _ hm
theorem zk1 (s:ByteArray) (h:zca s=true):zaH (zbY s)++za0 s=s:=by
 have ho:okL (nums s)=true:=h
 have hd:cnt (nums s)≤9∧cnt (nums s)<(nums s).length∧(cnt (nums s)=0∨(nums s).getD (cnt (nums s)) 0≠0)∧(cnt (nums s)=9→(nums s).getD 9 0≤1):=by
  have:=ho
  unfold okL at this;exact of_decide_eq_true this
 obtain ⟨d1,d2,d3,d4⟩:=hd;have hb:=zo3 _ d2;have hp:=zpw (nums s);have ht:=(zjv (nums s) (cnt (nums s)) (zgT s) hp d2 hb d1).2 ho;have hv:=zmt (nums s) (cnt (nums s)) d2 d1 (fun e=>by rw [e];exact d4 e);rw [hv] at ht;obtain ⟨v1,v2⟩:=ziA (nums s) (cnt (nums s)) hp d2 hb ho;apply zda;rw [zbo,zg8];unfold zbY za0;rw [v1,v2,ht,za5]
 have:(List.drop (cnt (nums s)+1) (nums s)).take (s.size-(cnt (nums s)+1))=List.drop (cnt (nums s)+1) (nums s):=zsX (by rw [zs4,zaz];omega)
 rw [this,List.take_append_drop]
theorem zg9 (s:ByteArray) (k:Nat) (hk:k≤8) (h:za1 s k=true):fxB (zaZ s k) k++zan s k=s:=by
 have hh:0≤(k:Int)∧(k:Int)≤8∧(k:Int)≤s.size:=of_decide_eq_true h;apply zda;have e1:zaZ s k=be ((nums s).take k):=by unfold zaZ;rw [if_pos h,zsK]
 have e2:zan s k=s.extract k s.size:=by unfold zan;rw [if_pos h,zsK]
 have hl:((nums s).take k).length=k:=by rw [zsU,zaz];omega
 have hf:=zr0 ((nums s).take k) (fun x hx=>zgT s x (List.mem_of_mem_take hx));rw [hl] at hf;rw [zbo,zjE _ k hk,zeN _ (zqy _ _),e1,e2,hf,za5,zsX (l:=List.drop k (nums s)) (by rw [zs4,zaz];omega),List.take_append_drop]
theorem zqT (s:ByteArray) (n:Nat) (h:zbx s n=true):zcA s n++zc8 s n=s∧(zcA s n).size=n:=by
 have hh:0≤(n:Int)∧(n:Int)≤s.size:=of_decide_eq_true h;have e1:zcA s n=s.extract 0 n:=by unfold zcA;rw [if_pos h,zsK]
 have e2:zc8 s n=s.extract n s.size:=by unfold zc8;rw [if_pos h,zsK]
 rw [e1,e2];refine ⟨?_,by rw [zs5];omega⟩;rw [ByteArray.extract_append_extract]
 have:n≤s.size:=by omega
 simp [this]
theorem zeZ (a t:ByteArray):zcA (a++t) a.size=a∧zc8 (a++t) a.size=t∧zbx (a++t) a.size=true:=by
 have hh:zbx (a++t) a.size=true:=zsD (by rw [zsH];omega);unfold zcA zc8;rw [if_pos hh,if_pos hh,zsK];exact ⟨zcS a t,zcB a t,hh⟩
theorem zpx (s:ByteArray) (k:Nat) (hk:k≤8):za1 s k=zbx s k:=by
 unfold za1 zbx;rw [decide_eq_decide];omega
theorem zqU (s:ByteArray) (k:Nat) (hk:k≤8):zan s k=zc8 s k:=by
 unfold zan zc8;rw [zpx s k hk]
theorem zbV (s:ByteArray):zaZ s 1<256:=by
 unfold zaZ
 split
 ·have h:=zbI (nums s) (zaE s) 1;exact h
 ·omega
theorem zak (s:ByteArray) (k:Int):(zan s k).size≤s.size:=by
 unfold zan
 split
 ·rw [zs5];omega
 ·exact zsE _
theorem zbq (s:ByteArray) (k:Int):(zc8 s k).size≤s.size:=by
 unfold zc8
 split
 ·rw [zs5];omega
 ·exact zsE _
end Vi
open Vi
def zb0 (h b:ByteArray):ByteArray:=fxB (Crc.zbe (Crc.zbe 0 h) b) 4
def zic (v:Int) (n:Nat):ByteArray:=if v=1 then fxB n 4 else zaH n
def hdF (v:Int) (n:Nat):ByteArray:=fxB (160+v).toNat 1++zic v n
def pack (v:Int) (b:ByteArray):ByteArray:=hdF v b.size++zb0 (hdF v b.size) b++b
def pkO (v:Int) (b:ByteArray):Bool:=(decide (v=1)||decide (v=2))&&decide (b.size≤1048576)
def pkS (v:Int) (b:ByteArray):ByteArray:=if pkO v b then pack v b else ⟨#[]⟩
theorem zbg (h b:ByteArray):(zb0 h b).size=4:=zad _ 4 (by omega)
def nV (s:ByteArray):Int:=(zaZ s 1:Int)-160
def nM (s:ByteArray):Nat:=if nV s=1 then zaZ (zan s 1) 4 else zbY (zan s 1)
def nT (s:ByteArray):ByteArray:=if nV s=1 then zan (zan s 1) 4 else za0 (zan s 1)
def nO2 (s:ByteArray):Bool:=za1 s 1&&(if nV s=1 then za1 (zan s 1) 4 else zca (zan s 1))
def nHd (s:ByteArray):ByteArray:=s.extract 0 (s.size-(nT s).size)
def nS (s:ByteArray):ByteArray:=zcA (nT s) 4
def nU (s:ByteArray):ByteArray:=zc8 (nT s) 4
def nBd (s:ByteArray):ByteArray:=zcA (nU s) (nM s)
def nW (s:ByteArray):ByteArray:=zc8 (nU s) (nM s)
def nR (s:ByteArray):Bool:=nO2 s&&zbx (nT s) 4&&zbx (nU s) (nM s)
def nOk (s:ByteArray):Bool:=(decide (nV s=1)||decide (nV s=2))&&(decide (nM s≤1048576)&&(nR s&&((nS s).toList==(zb0 (nHd s) (nBd s)).toList)))
def nxV (s:ByteArray):Int:=if nOk s then nV s else 0
def nxB (s:ByteArray):ByteArray:=if nOk s then nBd s else ⟨#[]⟩
def nxN (s:ByteArray):Int:=if nOk s then (s.size:Int)-(nW s).size else 0
theorem zcL (a b:ByteArray):(a.toList==b.toList)=true↔a=b:=by
 rw [zjF,decide_eq_true_iff];exact ⟨zda,fun h=>by rw [h]⟩
theorem zpy {v:Int} (hv:v=1∨v=2) (n:Nat) (hn:n≤1048576) (t:ByteArray) :
 (if v=1 then zaZ (zic v n++t) 4 else zbY (zic v n++t))=n∧(if v=1 then zan (zic v n++t) 4 else za0 (zic v n++t))=t∧(if v=1 then za1 (zic v n++t) 4 else zca (zic v n++t))=true:=by
 unfold zic;rcases hv with rfl|rfl
 ·obtain ⟨h1,h2,h3⟩:=zb7 n 4 (by omega) t;simp only [if_true];refine ⟨?_,h2,h3⟩;refine h1.trans ?_;have e:(256:Nat) ^ 4=4294967296:=by decide
  rw [e];omega
 ·obtain ⟨h1,h2,h3⟩:=zim n (by omega) t;simp only [show ¬ ((2:Int)=1) by decide,if_false];exact ⟨h1,h2,h3⟩
theorem zd6 {v:Int} (hv:v=1∨v=2) (n:Nat) (hn:n≤1048576) (t:ByteArray) :
 nV (hdF v n++t)=v∧nM (hdF v n++t)=n∧nT (hdF v n++t)=t∧nO2 (hdF v n++t)=true∧nHd (hdF v n++t)=hdF v n:=by
 have e:hdF v n++t=fxB (160+v).toNat 1++(zic v n++t):=by unfold hdF;rw [zaI]
 obtain ⟨h1,h2,h3⟩:=zb7 (160+v).toNat 1 (by omega) (zic v n++t);obtain ⟨l1,l2,l3⟩:=zpy hv n hn t;have e2:(256:Nat) ^ 1=256:=by decide
 rw [e2] at h1
 have kV:nV (hdF v n++t)=v:=by
  unfold nV;rw [e];have h1':zaZ (fxB (160+v).toNat 1++(zic v n++t)) 1=(160+v).toNat % 256:=h1;rw [h1'];omega
 have kF:zan (hdF v n++t) 1=zic v n++t:=by rw [e];exact h2
 have kH:za1 (hdF v n++t) 1=true:=by rw [e];exact h3
 have kT:nT (hdF v n++t)=t:=by unfold nT;rw [kV,kF];exact l2
 refine ⟨kV,?_,kT,?_,?_⟩
 ·unfold nM;rw [kV,kF];exact l1
 ·unfold nO2;rw [kV,kF,kH,l3];rfl
 ·unfold nHd;rw [kT,zsH,Nat.add_sub_cancel];exact zcS _ _
theorem zo4 {s A B:ByteArray} (h:s=A++B):s.extract 0 A.size=A:=by rw [h];exact zcS A B
theorem znh {s:ByteArray} (hv:nV s=1∨nV s=2) (h:nO2 s=true):s=hdF (nV s) (nM s)++nT s∧nHd s=hdF (nV s) (nM s):=by
 have key:s=hdF (nV s) (nM s)++nT s:=by
  unfold nO2 at h;rw [zsR] at h;have h1:=zg9 s 1 (by omega) h.1;have e1:(160+nV s).toNat=zaZ s 1:=by unfold nV;omega
  unfold hdF;rw [zaI,e1]
  have h2:zic (nV s) (nM s)++nT s=zan s 1:=by
   have h3:=h.2;unfold zic nM nT;rcases hv with hv|hv
   ·rw [hv] at h3 ⊢;simp only [if_true] at h3 ⊢;exact zg9 _ 4 (by omega) h3
   ·rw [hv] at h3 ⊢;simp only [show ¬ ((2:Int)=1) by decide,if_false] at h3 ⊢;exact zk1 _ h3
  rw [h2];exact h1.symm
 refine ⟨key,?_⟩;have hz:=congrArg ByteArray.size key;rw [zsH] at hz;unfold nHd;have e3:s.size-(nT s).size=(hdF (nV s) (nM s)).size:=by omega
 rw [e3];exact zo4 key
theorem zi5 {v:Int} {b:ByteArray} (h:pkO v b=true) (t:ByteArray) :
 nOk (pack v b++t)=true∧nV (pack v b++t)=v∧nBd (pack v b++t)=b∧nW (pack v b++t)=t:=by
 unfold pkO at h;simp only [zsR,ztu,decide_eq_true_eq] at h;obtain ⟨hv,hb⟩:=h;have e:pack v b++t=hdF v b.size++(zb0 (hdF v b.size) b++(b++t)):=by unfold pack;simp only [zaI]
 obtain ⟨h1,h2,h3,h4,h5⟩:=zd6 hv b.size hb (zb0 (hdF v b.size) b++(b++t));rw [←e] at h1 h2 h3 h4 h5;have hz:=zbg (hdF v b.size) b;have hp:=zeZ (zb0 (hdF v b.size) b) (b++t);rw [hz] at hp;obtain ⟨p1,p2,p3⟩:=hp;obtain ⟨q1,q2,q3⟩:=zeZ b t;have kS:nS (pack v b++t)=zb0 (hdF v b.size) b:=by unfold nS;rw [h3];exact p1
 have kU:nU (pack v b++t)=b++t:=by unfold nU;rw [h3];exact p2
 have kB:nBd (pack v b++t)=b:=by unfold nBd;rw [kU,h2];exact q1
 have kW:nW (pack v b++t)=t:=by unfold nW;rw [kU,h2];exact q2
 refine ⟨?_,h1,kB,kW⟩
 have c1:(decide (nV (pack v b++t)=1)||decide (nV (pack v b++t)=2))=true:=by
  rw [h1];rcases hv with rfl|rfl<;>rfl
 have c2:decide (nM (pack v b++t)≤1048576)=true:=by rw [h2];exact zsD hb
 have c3:nR (pack v b++t)=true:=by
  unfold nR;rw [h4,kU,h2,q3,h3];have p3':zbx (zb0 (hdF v b.size) b++(b++t)) 4=true:=p3;rw [p3'];rfl
 have c4:((nS (pack v b++t)).toList==(zb0 (nHd (pack v b++t)) (nBd (pack v b++t))).toList)=true:=by
  rw [zcL,kS,h5,kB]
 unfold nOk;rw [c1,c2,c3,c4];rfl
theorem ze0 {s:ByteArray} (h:nOk s=true):pkO (nV s) (nBd s)=true∧s=pack (nV s) (nBd s)++nW s∧(nBd s).size=nM s:=by
 unfold nOk nR at h;simp only [zsR,ztu,decide_eq_true_eq] at h;obtain ⟨hv,hm,⟨⟨h1,h2⟩,h3⟩,h4⟩:=h;rw [zcL] at h4;obtain ⟨k1,k2⟩:=znh hv h1;have b1:=zqT (nT s) 4 h2;have b2:=zqT (nU s) (nM s) h3;have hz:(nBd s).size=nM s:=b2.2;refine ⟨?_,?_,hz⟩
 ·unfold pkO;rw [hz];simp only [zsR,ztu,decide_eq_true_eq];exact ⟨hv,hm⟩
 ·unfold pack;rw [hz,←k2,←h4];have e1:nBd s++nW s=nU s:=b2.1;have e2:nS s++nU s=nT s:=b1.1;simp only [zaI];rw [e1,e2,k2];exact k1
theorem zk2 {s:ByteArray} (h:nOk s=true):(s.size:Int)-(nW s).size=(pack (nV s) (nBd s)).size:=by
 have h1:=congrArg ByteArray.size (ze0 h).2.1;rw [zsH] at h1;omega
theorem zeA (v:Int) (n:Nat) (hn:n<18446744073709551616):(hdF v n).size≤11:=by
 unfold hdF zic;rw [zsH];have h1:=zad (160+v).toNat 1 (by omega);have h1':(fxB (160+v).toNat 1).size=1:=h1
 split
 ·have h2:=zad n 4 (by omega);have h2':(fxB n 4).size=4:=h2;omega
 ·have h2:=_root_.Go.Proofs.YtidndekacnmihaaGreat.za9 n hn;omega
theorem zgq (v:Int) (b:ByteArray):(pkS v b).size≤1048600:=by
 unfold pkS
 split
 ·rename_i h
  unfold pkO at h;simp only [zsR,ztu,decide_eq_true_eq] at h;unfold pack;rw [zsH,zsH,zbg]
  have:=zeA v b.size (by omega)
  omega
 ·exact zsE _
def zrQ (s:ByteArray):Bool:=decide (nM s≤(nU s).size)&&(nR s&&(pkO (nV s) (nBd s)&&(decide ((pack (nV s) (nBd s)).size≤s.size)&&((s.extract 0 (pack (nV s) (nBd s)).size).toList==(pack (nV s) (nBd s)).toList))))
theorem zk3 (s:ByteArray):zrQ s=nOk s:=by
 cases hn:nOk s with
 | true =>
   obtain ⟨h1,h2,h3⟩:=ze0 hn
   have hr:nR s=true:=by
    unfold nOk at hn;simp only [zsR] at hn;exact hn.2.2.1
   have hm:nM s≤(nU s).size:=by
    have hr2:=hr;unfold nR at hr2;simp only [zsR] at hr2
    have:=hr2.2
    have hh:0≤((nM s:Nat):Int)∧((nM s:Nat):Int)≤(nU s).size:=of_decide_eq_true this;omega
   have hs:(pack (nV s) (nBd s)).size≤s.size:=by
    have:=congrArg ByteArray.size h2
    rw [zsH] at this;omega
   have he:((s.extract 0 (pack (nV s) (nBd s)).size).toList==(pack (nV s) (nBd s)).toList)=true:=by
    rw [zcL];exact zo4 h2
   unfold zrQ;rw [zsD hm,hr,h1,zsD hs,he];rfl
 | false =>
   cases hr:zrQ s with
   | false=>rfl
   | true =>
     exfalso;unfold zrQ at hr;simp only [zsR,decide_eq_true_eq] at hr;obtain ⟨h0,h1,h2,h3,h4⟩:=hr;rw [zcL] at h4
     have e:s=pack (nV s) (nBd s)++s.extract (pack (nV s) (nBd s)).size s.size:=by
      conv=>rhs;arg 1;rw [←h4]
      rw [ByteArray.extract_append_extract];simp [h3]
     have hh:=(zi5 h2 (s.extract (pack (nV s) (nBd s)).size s.size)).1;rw [←e,hn] at hh
     cases hh
end
section
open Vi
theorem zaL {T E:TypeId} {g clock:Nat} {es:Array MapEntry} (c:Int) (v:Value) {B:Nat} {a w:World} (hT:Tryz.prog.underlying T=some (.map 3 E)) (hb:w.heap[g]?=some (.map es clock))
 (hf:Instr.findNow (.int .i64) (.int .i64 c) es.toList 0=some none) (hbw:Below B a w) (hg:B≤g) :
 ∃ w',(Instr.mapUpdate T (.map (some g)) (.int .i64 c) v).run Tryz.prog w=.ok () w'∧w'.heap[g]?=some (.map (es.push { key:=.int .i64 c,val:=v,born:=clock }) (clock+1))∧Below B a w'∧(∀ k,k≠g→w'.heap[k]?=w.heap[k]?)∧w'.heap.size=w.heap.size:=by
 have hk:Tryz.prog.underlying 3=some (.int .i64):=Tryz.underlying3;have hc:(Instr.checkKey false 10000 3 (.int .i64 c)).run Tryz.prog w=.ok () w:=MapKept.run_checkKey (k:=.int .i64 c) hk (by simp [MapKept.IsKey]) false 9999;refine ⟨{ w with heap:=w.heap.setIfInBounds g (.map (es.push { key:=.int .i64 c,val:=v,born:=clock }) (clock+1)) },?_,?_,?_,?_,by simp⟩
 ·simp [Instr.mapUpdate,run_underlying hT,MapKept.run_getObj_map hb,hc,MapKept.run_findKey hk hf,MapKept.run_setObj_map _ hb,Result.andThen]
 ·exact (MapKept.heap_set hb).1
 ·refine ⟨hbw.os,hbw.tape,hbw.output,by simpa using hbw.size,fun k hk=>?_⟩;exact ((MapKept.heap_set hb).2 k (by omega)).trans (hbw.block k hk)
 ·exact fun k hk=>(MapKept.heap_set hb).2 k hk
theorem zaB {T E:TypeId} {g clock i:Nat} {es:Array MapEntry} (c:Int) (v:Value) {w:World} (hT:Tryz.prog.underlying T=some (.map 3 E)) (hb:w.heap[g]?=some (.map es clock))
 (hf:Instr.findNow (.int .i64) (.int .i64 c) es.toList 0=some (some (i,v))) :
 (Instr.lookup T (.map (some g)) (.int .i64 c) true).run Tryz.prog w=.ok (.tuple #[v,.bool true]) w:=by
 have hk:Tryz.prog.underlying 3=some (.int .i64):=Tryz.underlying3;have hc:(Instr.checkKey es.isEmpty 10000 3 (.int .i64 c)).run Tryz.prog w=.ok () w:=MapKept.run_checkKey (k:=.int .i64 c) hk (by simp [MapKept.IsKey]) es.isEmpty 9999;simp [Instr.lookup,run_underlying hT,MapKept.run_getObj_map hb,hc,MapKept.run_findKey hk hf,Result.andThen]
theorem zcb {T E:TypeId} {g clock:Nat} {es:Array MapEntry} (c:Int) {w:World} (hT:Tryz.prog.underlying T=some (.map 3 E)) (hE:∀ w,(zeroValue E).run Tryz.prog w=.ok .nilFunc w) (hb:w.heap[g]?=some (.map es clock))
 (hf:Instr.findNow (.int .i64) (.int .i64 c) es.toList 0=some none) :
 (Instr.lookup T (.map (some g)) (.int .i64 c) true).run Tryz.prog w=.ok (.tuple #[.nilFunc,.bool false]) w:=by
 have hk:Tryz.prog.underlying 3=some (.int .i64):=Tryz.underlying3;have hc:(Instr.checkKey es.isEmpty 10000 3 (.int .i64 c)).run Tryz.prog w=.ok () w:=MapKept.run_checkKey (k:=.int .i64 c) hk (by simp [MapKept.IsKey]) es.isEmpty 9999;simp [Instr.lookup,run_underlying hT,MapKept.run_getObj_map hb,hc,MapKept.run_findKey hk hf,hE,Result.andThen]
abbrev two (a b:Value):Array MapEntry:=#[{ key:=.int .i64 1,val:=a,born:=0 },{ key:=.int .i64 2,val:=b,born:=1 }]
theorem zd7 (a b:Value):Instr.findNow (.int .i64) (.int .i64 1) (two a b).toList 0=some (some (0,a)):=rfl
theorem zd8 (a b:Value):Instr.findNow (.int .i64) (.int .i64 2) (two a b).toList 0=some (some (1,b)):=rfl
theorem zj7 (a b:Value) (c:Int) (h1:c≠1) (h2:c≠2):Instr.findNow (.int .i64) (.int .i64 c) (two a b).toList 0=some none:=by
 have e1:(c==1)=false:=by simpa using h1
 have e2:(c==2)=false:=by simpa using h2
 simp [Instr.findNow,Instr.sameNow,e1,e2]
abbrev fv (n:Nat):Value:=.func (.func n) #[] #[]
theorem zeC (w:World) :
 Calls Tryz.prog 249 #[] w fun r w'=>r=.returned (.map (some w.heap.size))∧w'.heap[w.heap.size]?=some (.map (two (fv 285) (fv 211)) 2)∧Below w.heap.size w w':=by
 have hmm:=@run_makeMap Tryz.prog;obtain ⟨w1,e1,h1,b1,_,_⟩:=zaL (T:=272) 1 (fv 285) Tryz.underlying272 (zsz w (.map #[] 0)) rfl zba (zsy _);obtain ⟨w2,e2,h2,b2,_,_⟩:=zaL (T:=272) 2 (fv 211) Tryz.underlying272 h1 rfl b1 (zsy _);have H2:Hid (w2.heap[w.heap.size]?=some (.map (two (fv 285) (fv 211)) 2)):=h2;have B2:=zh b2;clear h1 h2 b1 b2;go_enter Tryz.func249,Tryz.ntmps249;go_wp2;go_ret;exact ⟨rfl,H2.out,B2.out⟩
theorem znk (n:Nat) (w:World) (hn:n<18446744073709551616):Calls Tryz.prog 285 #[.int .u64 n] w fun e w'=>e=.returned (.string (fxB n 4))∧Below w.heap.size w w':=by
 go_enter Tryz.func285,Tryz.ntmps285
 go_wp2_with fail
 refine (zbl n 4 _).mono ?_;rintro e w1 ⟨rfl,b1⟩;go_wp2;go_ret;exact ⟨rfl,b1⟩
theorem zdz (h b:ByteArray) (w:World) (hh:h.size≤281474976710656) (hb:b.size≤281474976710656):Calls Tryz.prog 250 #[.string h,.string b] w fun e w'=>e=.returned (.string (zb0 h b))∧Below w.heap.size w w':=by
 have m1:=Crc.zcW 0 h;have m2:=Crc.zcW (Crc.zbe 0 h) b;go_enter Tryz.func250,Tryz.ntmps250
 go_wp2_with fail
 refine (zkU h _ (by unfold maxLen;omega)).mono ?_;rintro e w1 ⟨rfl,b1⟩
 go_wp2_with fail
 refine (zi3 _ b _ (by unfold maxLen;omega) m1).mono ?_;rintro e w2 ⟨rfl,b2⟩;have hw:IntKind.u64.wrap ((Crc.zbe (Crc.zbe 0 h) b:Nat):Int)=((Crc.zbe (Crc.zbe 0 h) b:Nat):Int):=by rw [zsT];omega
 go_wp2_with fail
 refine (zbl _ 4 _).mono ?_;rintro e w3 ⟨rfl,b3⟩;go_wp2;go_ret;exact ⟨rfl,(b1.trans (b2.mono b1.size)).trans (b3.mono (zsB b1.size b2.size))⟩
theorem zi7 (h b:ByteArray) (n:Nat) (hh:h.size≤11) (hb:b.size≤1048576):(h++zb0 h b).size+b.size≤9223372036854775807:=by
 rw [zsH,zbg];omega
theorem ze5 (v:Int) (b:ByteArray) (w:World) (hv:v=1∨v=2) (hb:b.size≤1048576) :
 Calls Tryz.prog 207 #[.int .i64 v,.string b] w fun e w'=>e=.returned (.tuple #[.string (pack v b),.bool true])∧Below w.heap.size w w':=by
 have hgt:¬ ((1048576:Int)<b.size):=by omega
 have hw:IntKind.u64.wrap (b.size:Int)=b.size:=by rw [zsT];omega
 have hz:=zeA v b.size (by omega);have hfx:=zi7 (hdF v b.size) b 0 hz hb;have hs:=zbg (hdF v b.size) b;have KS:=zh (fun (W:World)=>zdz (hdF v b.size) b W (by omega) (by omega));have KP:=zh (fun (W:World)=>zeC W);rcases hv with rfl|rfl
 ·have h1:(fxB 161 1).size=1:=zad 161 1 (by omega);have h2:(fxB b.size 4).size=4:=zad b.size 4 (by omega);obtain ⟨H,hH⟩:∃ H,H=hdF 1 b.size:=⟨_,rfl⟩;have hcat:Hid (fxB 161 1++fxB b.size 4=H):=hH.symm;have hfin:Hid (H++zb0 H b++b=pack 1 b):=by show _=_;rw [hH];rfl
  rw [←hH] at KS hfx hz hs;have HZ:=zh hz;clear hH hz;go_enter Tryz.func207,Tryz.ntmps207
  go_wp2_with fail
  refine (KP.out _).mono ?_;rintro e w1 ⟨rfl,m1,b1⟩;have hl:=zaB (T:=272) 1 (fv 285) Tryz.underlying272 m1 (zd7 _ _);have HB1:=zh b1;clear m1 b1
  go_wp2_with fail
  refine (zbl 161 1 _).mono ?_;rintro e w2 ⟨rfl,b2⟩;have HB2:=zh (HB1.out.trans (b2.mono HB1.out.size));clear b2 hl
  go_wp2_with fail
  refine (znk b.size _ (by omega)).mono ?_;rintro e w3 ⟨rfl,b3⟩;have HB3:=zh (HB2.out.trans (b3.mono HB2.out.size));clear b3
  go_wp2_with fail
  rw [hcat.out];refine (KS.out _).mono ?_;rintro e w4 ⟨rfl,b4⟩;have HB4:=zh (HB3.out.trans (b4.mono HB3.out.size));clear b4;have hz2:=HZ.out;go_wp2;go_ret2;rw [hfin.out];exact ⟨rfl,HB4.out⟩
 ·have h1:(fxB 162 1).size=1:=zad 162 1 (by omega);have h2:=_root_.Go.Proofs.YtidndekacnmihaaGreat.za9 b.size (by omega);obtain ⟨H,hH⟩:∃ H,H=hdF 2 b.size:=⟨_,rfl⟩;have hcat:Hid (fxB 162 1++zaH b.size=H):=hH.symm;have hfin:Hid (H++zb0 H b++b=pack 2 b):=by show _=_;rw [hH];rfl
  rw [←hH] at KS hfx hz hs;have HZ:=zh hz;clear hH hz;go_enter Tryz.func207,Tryz.ntmps207
  go_wp2_with fail
  refine (KP.out _).mono ?_;rintro e w1 ⟨rfl,m1,b1⟩;have hl:=zaB (T:=272) 2 (fv 211) Tryz.underlying272 m1 (zd8 _ _);have HB1:=zh b1;clear m1 b1
  go_wp2_with fail
  refine (zbl 162 1 _).mono ?_;rintro e w2 ⟨rfl,b2⟩;have HB2:=zh (HB1.out.trans (b2.mono HB1.out.size));clear b2 hl
  go_wp2_with fail
  refine (zcR b.size _ (by omega)).mono ?_;rintro e w3 ⟨rfl,b3⟩;have HB3:=zh (HB2.out.trans (b3.mono HB2.out.size));clear b3
  go_wp2_with fail
  rw [hcat.out];refine (KS.out _).mono ?_;rintro e w4 ⟨rfl,b4⟩;have HB4:=zh (HB3.out.trans (b4.mono HB3.out.size));clear b4;have hz2:=HZ.out;go_wp2;go_ret2;rw [hfin.out];exact ⟨rfl,HB4.out⟩
theorem znl (v:Int) (b:ByteArray):((v=1∨v=2)∧b.size≤1048576∧pkO v b=true∧pkS v b=pack v b)∨((v=1∨v=2)∧1048576<b.size∧pkO v b=false∧pkS v b=⟨#[]⟩)∨(v≠1∧v≠2∧pkO v b=false∧pkS v b=⟨#[]⟩):=by
 have hs:pkS v b=if pkO v b then pack v b else ⟨#[]⟩:=rfl
 by_cases hv:v=1∨v=2
 ·have e:(decide (v=1)||decide (v=2))=true:=by rcases hv with rfl|rfl<;>rfl
  by_cases hb:b.size≤1048576
  ·have ho:pkO v b=true:=by unfold pkO;rw [e,zsD hb];rfl
   exact .inl ⟨hv,hb,ho,by rw [hs,if_pos ho]⟩
  ·have ho:pkO v b=false:=by unfold pkO;rw [zsC hb];cases (decide (v=1)||decide (v=2))<;>rfl
   exact .inr (.inl ⟨hv,by omega,ho,by rw [hs,ho];rfl⟩)
 ·have h1:v≠1:=fun h=>hv (.inl h);have h2:v≠2:=fun h=>hv (.inr h);have ho:pkO v b=false:=by unfold pkO;rw [zsC h1,zsC h2];rfl
  exact .inr (.inr ⟨h1,h2,ho,by rw [hs,ho];rfl⟩)
theorem zi8 (a:Int) (w:World):∀ i,i<1→(w.alloc (.cells #[.int .u8 a] 5)).cell? ⟨w.heap.size,0+i,none⟩=some (.int .u8 ([a].getD i 0))
 | 0,_=>by simp
 | k+1,h=>by omega
theorem zk7 (v:Nat) (h:v<256):strOfNums [(v:Int)]=fxB v 1:=by
 have e:fxB v 1=str (fx v 1):=zjE v 1 (by omega);rw [e];show strOfNums [(v:Int)]=strOfNums [((v / 256 ^ 0 % 256:Nat):Int)];have e2:v / 256 ^ 0 % 256=v:=by rw [Nat.pow_zero,Nat.div_one];omega
 rw [e2]
theorem zpB:strOfNums [(161:Int)]=fxB 161 1:=zk7 161 (by omega)
theorem zpC:strOfNums [(162:Int)]=fxB 162 1:=zk7 162 (by omega)
theorem zha (h b:ByteArray):Crc.zbe 0 (h++b)=Crc.zbe (Crc.zbe 0 h) b:=by
 unfold Crc.zbe;rw [Crc.zii]
 congr 1
theorem zj8 (v:Int) (b:ByteArray) (w:World) (hv:v=1∨v=2) (hb:b.size≤1048576) :
 Calls Tryz.prog 173 #[.int .i64 v,.string b] w fun e w'=>e=.returned (.tuple #[.string (pack v b),.bool true])∧Below w.heap.size w w':=by
 have hgt:¬ ((1048576:Int)<b.size):=by omega
 have hw:IntKind.u64.wrap (b.size:Int)=b.size:=by rw [zsT];omega
 have hz:=zeA v b.size (by omega);have hfx:=zi7 (hdF v b.size) b 0 hz hb;have hs:=zbg (hdF v b.size) b;have KX:=zh (fun (W:World)=>zaN b.size 4 W (by omega));have KY:=zh (fun (W:World)=>zbC b.size W (by omega));rcases hv with rfl|rfl
 ·have h1:(fxB 161 1).size=1:=zad 161 1 (by omega);have h2:(fxB b.size 4).size=4:=zad b.size 4 (by omega);obtain ⟨H,hH⟩:∃ H,H=hdF 1 b.size:=⟨_,rfl⟩;have hcat:Hid (fxB 161 1++fxB b.size 4=H):=hH.symm;have hfin:Hid (H++zb0 H b++b=pack 1 b):=by show _=_;rw [hH];rfl
  rw [←hH] at hfx hz hs;have hsum:=Crc.zcW 0 (H++b);have hw2:IntKind.u64.wrap ((Crc.zbe 0 (H++b):Nat):Int)=((Crc.zbe 0 (H++b):Nat):Int):=by rw [zsT];omega
  have hsl:Hid (fxB (Crc.zbe 0 (H++b)) 4=zb0 H b):=by show _=_;rw [zha];rfl
  have KS:=zh (fun (W:World)=>zgn (H++b) W (by unfold maxLen;rw [zsH];omega));have hhb:H.size+b.size≤9223372036854775807:=by omega
  have HZ:=zh hz
  have hcv:∀ W:World,(convert 78 9 (.slice (some ⟨W.heap.size,0,none⟩) 1 1)).run Tryz.prog (W.alloc (.cells #[.int .u8 161] 5))=.ok (.string (fxB 161 1)) (W.alloc (.cells #[.int .u8 161] 5)):=fun W=>by
   have h:=run_convert_bytes_arg (P:=Tryz.prog) (W.alloc (.cells #[.int .u8 161] 5)) 78 5 Tryz.underlying78 Tryz.underlying5 W.heap.size 0 1 1 [161] rfl (zi8 161 W) 9 Tryz.underlying9;rw [zpB] at h;exact h
  clear hH hz;go_enter Tryz.func173,Tryz.ntmps173
  go_wp2_with fail
  refine (KX.out _).mono ?_;rintro e w1 ⟨rfl,b1⟩;have HB1:=zh b1;clear b1;have hcv1:=hcv w1
  go_wp2_with fail
  rw [hcat.out];refine (KS.out _).mono ?_;rintro e w2 ⟨rfl,rfl⟩;have KF:=zh (fun (W:World)=>zaN (Crc.zbe 0 (H++b)) 4 W (by omega));have hz2:=HZ.out
  go_wp2_with fail
  refine (KF.out _).mono ?_;rintro e w3 ⟨rfl,b3⟩;rw [hsl.out];have HB3:Hid (Below w.heap.size w w3):=(HB1.out.alloc HB1.out.size _).trans (b3.mono (by have:=HB1.out.size;simp;omega));clear b3;go_wp2;go_ret2;rw [hfin.out];exact ⟨rfl,HB3.out⟩
 ·have h1:(fxB 162 1).size=1:=zad 162 1 (by omega);have h2:=_root_.Go.Proofs.YtidndekacnmihaaGreat.za9 b.size (by omega);obtain ⟨H,hH⟩:∃ H,H=hdF 2 b.size:=⟨_,rfl⟩;have hcat:Hid (fxB 162 1++zaH b.size=H):=hH.symm;have hfin:Hid (H++zb0 H b++b=pack 2 b):=by show _=_;rw [hH];rfl
  rw [←hH] at hfx hz hs;have hsum:=Crc.zcW 0 (H++b);have hw2:IntKind.u64.wrap ((Crc.zbe 0 (H++b):Nat):Int)=((Crc.zbe 0 (H++b):Nat):Int):=by rw [zsT];omega
  have hsl:Hid (fxB (Crc.zbe 0 (H++b)) 4=zb0 H b):=by show _=_;rw [zha];rfl
  have KS:=zh (fun (W:World)=>zgn (H++b) W (by unfold maxLen;rw [zsH];omega));have hhb:H.size+b.size≤9223372036854775807:=by omega
  have HZ:=zh hz
  have hcv:∀ W:World,(convert 78 9 (.slice (some ⟨W.heap.size,0,none⟩) 1 1)).run Tryz.prog (W.alloc (.cells #[.int .u8 162] 5))=.ok (.string (fxB 162 1)) (W.alloc (.cells #[.int .u8 162] 5)):=fun W=>by
   have h:=run_convert_bytes_arg (P:=Tryz.prog) (W.alloc (.cells #[.int .u8 162] 5)) 78 5 Tryz.underlying78 Tryz.underlying5 W.heap.size 0 1 1 [162] rfl (zi8 162 W) 9 Tryz.underlying9;rw [zpC] at h;exact h
  clear hH hz;go_enter Tryz.func173,Tryz.ntmps173
  go_wp2_with fail
  refine (KX.out _).mono ?_;rintro e w1 ⟨rfl,b1⟩;have HB1:=zh b1;clear b1
  go_wp2_with fail
  refine (KY.out _).mono ?_;rintro e w2 ⟨rfl,b2⟩;have HB2:=zh (HB1.out.trans (b2.mono HB1.out.size));clear b2;have hcv1:=hcv w2
  go_wp2_with fail
  rw [hcat.out];refine (KS.out _).mono ?_;rintro e w4 ⟨rfl,rfl⟩;have KF:=zh (fun (W:World)=>zaN (Crc.zbe 0 (H++b)) 4 W (by omega));have hz2:=HZ.out
  go_wp2_with fail
  refine (KF.out _).mono ?_;rintro e w3 ⟨rfl,b3⟩;rw [hsl.out];have HB3:Hid (Below w.heap.size w w3):=(HB2.out.alloc HB2.out.size _).trans (b3.mono (by have:=HB2.out.size;simp;omega));clear b3;go_wp2;go_ret2;rw [hfin.out];exact ⟨rfl,HB3.out⟩
theorem zf1 (v:Int) (b:ByteArray) (w:World) (h:(v=1∨v=2)∧1048576<b.size∨v≠1∧v≠2) :
 Calls Tryz.prog 173 #[.int .i64 v,.string b] w fun e w'=>e=.returned (.tuple #[.string ⟨#[]⟩,.bool false])∧Below w.heap.size w w':=by
 rcases h with ⟨rfl|rfl,hb⟩|⟨h1,h2⟩
 ·have hgt:(1048576:Int)<b.size:=by omega
  go_enter Tryz.func173,Tryz.ntmps173;go_wp2;go_ret2;exact ⟨rfl,Below.refl _ _⟩
 ·have hgt:(1048576:Int)<b.size:=by omega
  go_enter Tryz.func173,Tryz.ntmps173;go_wp2;go_ret2;exact ⟨rfl,Below.refl _ _⟩
 ·go_enter Tryz.func173,Tryz.ntmps173;go_wp2;go_ret2;exact ⟨rfl,Below.refl _ _⟩
theorem zcM (v:Int) (b:ByteArray) (w:World) :
 Calls Tryz.prog 173 #[.int .i64 v,.string b] w fun e w'=>e=.returned (.tuple #[.string (pkS v b),.bool (pkO v b)])∧Below w.heap.size w w':=by
 rcases znl v b with ⟨hv,hb,h1,h2⟩|⟨hv,hb,h1,h2⟩|⟨hv,hb,h1,h2⟩
 ·rw [h1,h2];exact zj8 v b w hv hb
 ·rw [h1,h2];exact zf1 v b w (.inl ⟨hv,hb⟩)
 ·rw [h1,h2];exact zf1 v b w (.inr ⟨hv,hb⟩)
end
section
open Vi
theorem zpz {s:ByteArray} (h:nOk s=false):nxV s=0∧nxB s=⟨#[]⟩∧nxN s=0:=by
 unfold nxV nxB nxN;rw [h];exact ⟨rfl,rfl,rfl⟩
theorem ze1 {s:ByteArray} (h:nOk s=true):nxV s=nV s∧nxB s=nBd s∧nxN s=(s.size:Int)-(nW s).size:=by
 unfold nxV nxB nxN;rw [h];exact ⟨rfl,rfl,rfl⟩
theorem zni (s:ByteArray):zaZ s 4<18446744073709551616:=by
 unfold zaZ
 split
 ·have h:=zbI (nums s) (zaE s) 4;have h2:be (List.take 4 (nums s))<256 ^ 4:=h;have h3:(256:Nat) ^ 4=4294967296:=by decide
  rw [h3] at h2;show be (List.take 4 (nums s))<_;omega
 ·omega
theorem znj (s:ByteArray):nM s<18446744073709551616:=by
 unfold nM
 split
 ·exact zni _
 ·exact zms _
theorem zaD {s:ByteArray} (h:nOk s=false):Ending.returned (.tuple #[.int .i64 0,.string ⟨#[]⟩,.int .i64 0,.bool false])=Ending.returned (.tuple #[.int .i64 (nxV s),.string (nxB s),.int .i64 (nxN s),.bool (nOk s)]):=by
 obtain ⟨e1,e2,e3⟩:=zpz h;rw [e1,e2,e3,h]
theorem zcX {s b:ByteArray} {v n:Int} (h:nOk s=true) (hv:nV s=v) (hb:nBd s=b) (hn:(s.size:Int)-(nW s).size=n):Ending.returned (.tuple #[.int .i64 v,.string b,.int .i64 n,.bool true])=Ending.returned (.tuple #[.int .i64 (nxV s),.string (nxB s),.int .i64 (nxN s),.bool (nOk s)]):=by
 obtain ⟨e1,e2,e3⟩:=ze1 h;rw [e1,e2,e3,h,hv,hb,hn]
theorem ze2 (s:ByteArray) (k:Int):(zcA s k).size≤s.size:=by
 unfold zcA
 split
 ·rw [zs5];omega
 ·exact zsE _
theorem zi6 (s:ByteArray):(nHd s).size≤s.size:=by unfold nHd;rw [zs5];omega
theorem ze3 (g:Nat) (w:World) :
 Calls Tryz.prog 266 #[rdp g] w fun r w'=>r=.returned (.map (some (w.heap.size+1)))∧w'.heap[w.heap.size]?=some (.cells #[.func (.func 262) #[rdp g] #[]] 255 (0,0))∧w'.heap[w.heap.size+1]?=some (.map (two (.func (.func 291) #[] #[.pointer (some ⟨w.heap.size,0,none⟩)]) (.func (.func 268) #[rdp g] #[])) 2)∧Below w.heap.size w w':=by
 have hmm:=@run_makeMap Tryz.prog;have hmf:=zmL;obtain ⟨W,hW⟩:∃ W,W=w.alloc (Obj.cells #[.func (.func 262) #[rdp g] #[]] 255):=⟨_,rfl⟩;have hz:W.heap.size=w.heap.size+1:=by rw [hW];simp
 have hB:Below w.heap.size w W:=by rw [hW];exact zba
 have hK:W.heap[w.heap.size]?=some (.cells #[.func (.func 262) #[rdp g] #[]] 255 (0,0)):=by rw [hW];exact zsz w _
 obtain ⟨w1,e1,h1,b1,o1,s1⟩:=zaL (T:=292) 1 (.func (.func 291) #[] #[.pointer (some ⟨w.heap.size,0,none⟩)]) Tryz.underlying292 (zsz W (.map #[] 0)) rfl zba (zsy _);obtain ⟨w2,e2,h2,b2,o2,s2⟩:=zaL (T:=292) 2 (.func (.func 268) #[rdp g] #[]) Tryz.underlying292 h1 rfl b1 (zsy _);have H2:Hid (w2.heap[w.heap.size+1]?=some (.map (two (.func (.func 291) #[] #[.pointer (some ⟨w.heap.size,0,none⟩)]) (.func (.func 268) #[rdp g] #[])) 2)):=by rw [←hz];exact h2
 have B2:=zh (hB.trans (b2.mono hB.size));have K2:Hid (w2.heap[w.heap.size]?=some (.cells #[.func (.func 262) #[rdp g] #[]] 255 (0,0))):=(b2.block _ (by omega)).trans hK;have HW:=zh hW;have HZ:=zh hz;clear h1 h2 b1 b2 o1 o2 s1 s2 hB hK hW hz;unfold rdp at *;go_enter Tryz.func266,Tryz.ntmps266
 go_upto_region 2 with fail
 rw [←HW.out];go_wp2;go_ret;rw [HZ.out];exact ⟨rfl,K2.out,H2.out,B2.out⟩
theorem zpA (A g:Nat) (s:ByteArray) (bad:Bool) (w:World) (hA:w.heap[A]?=some (.cells #[.func (.func 262) #[rdp g] #[]] 255 (0,0))) (h:Rd 327 g s bad w) (hm:s.size≤281474976710656) :
 Calls Tryz.prog 291 #[.pointer (some ⟨A,0,none⟩)] w fun e w'=>e=.returned (.int .u64 (zaZ s 4))∧Rd 327 g (zan s 4) (bad||!za1 s 4) w'∧w.grownBy w' (some g):=by
 have c0:w.cell? ⟨A,0,none⟩=some (.func (.func 262) #[rdp g] #[]):=zcr w A 0 _ 255 (0,0) hA;have K:=zh (zaF g s bad 4 w h hm);unfold rdp at *;clear h hA;go_enter Tryz.func291,Tryz.ntmps291
 go_wp2_with fail
 refine K.out.mono ?_;rintro e w1 ⟨rfl,R1,g1⟩;go_wp2;go_ret;exact ⟨rfl,R1,g1⟩
theorem zk4 (s:ByteArray) (w:World) (hs:s.size≤281474976710656) (hF:zaZ s 1=161) :
 Calls Tryz.prog 222 #[.string s] w fun e w'=>e=.returned (.tuple #[.int .i64 (nxV s),.string (nxB s),.int .i64 (nxN s),.bool (nOk s)])∧Below w.heap.size w w':=by
 have hv:nV s=1:=by unfold nV;rw [hF];rfl
 have KN:=zh (fun (W:World)=>zbz s W);have KR:=zh (fun (g:Nat) (W:World)=>ze3 g W);have HF:Hid (zaZ s 1=161):=hF;have HS:=zh hs;have HS1:Hid ((zan s 1).size≤281474976710656):=zsB (zak s 1) hs;have HM:Hid ((zaZ (zan s 1) 4:Nat)=nM s):=by show _=_;unfold nM;rw [hv];rfl
 have HT:Hid (zan (zan s 1) 4=nT s):=by show _=_;unfold nT;rw [hv];rfl
 have HO2:Hid ((false||!za1 s ((1:Nat):Int)||!za1 (zan s 1) 4)=!nO2 s):=by show _=_;unfold nO2;rw [hv];show _=!(za1 s 1&&za1 (zan s 1) 4);show (false||!za1 s 1||!za1 (zan s 1) 4)=_;cases za1 s 1<;>cases za1 (zan s 1) 4<;>rfl
 have HTS:Hid ((nT s).size≤s.size):=by show _≤_;rw [←HT.out];exact zsB (zak _ 4) (zak s 1)
 have HU:Hid ((nU s).size≤(nT s).size):=zbq _ _;have HW:Hid ((nW s).size≤(nU s).size):=zbq _ _;have HR:Hid ((!nO2 s||!zbx (nT s) 4||!zbx (nU s) (nM s))=!nR s):=by show _=_;unfold nR;cases nO2 s<;>cases zbx (nT s) 4<;>cases zbx (nU s) (nM s)<;>rfl
 have HHD:Hid (s.extract 0 (s.size-(nT s).size)=nHd s):=rfl;have HQ:Hid (nOk s=(decide (nM s≤1048576)&&(nR s&&((nS s).toList==(zb0 (nHd s) (nBd s)).toList)))):=by show _=_;unfold nOk;rw [hv];rfl
 have HVV:Hid (nV s=1):=hv;obtain ⟨M,hM⟩:∃ M,M=nM s:=⟨_,rfl⟩;obtain ⟨T,hT⟩:∃ T,T=nT s:=⟨_,rfl⟩;obtain ⟨r,hr⟩:∃ r,r=nR s:=⟨_,rfl⟩;have HNM:=zh hM;have HNT:=zh hT;have HNR:=zh hr;rw [←hM] at HM HQ HR;rw [←hT] at HT HTS HU HR HHD;rw [←hr] at HQ HR;have HML:Hid (M<18446744073709551616):=by show _<_;rw [hM];exact znj s
 have HS4:Hid (zcA T 4=nS s):=by show _=_;rw [hT];rfl
 have HU4:Hid (zc8 T 4=nU s):=by show _=_;rw [hT];rfl
 have HB4:Hid (zcA (nU s) M=nBd s):=by show _=_;rw [hM];rfl
 have HW4:Hid (zc8 (nU s) M=nW s):=by show _=_;rw [hM];rfl
 have HUS:Hid ((nU s).size≤281474976710656):=zsB HU.out (zsB HTS.out hs);clear hF hs hv hM hT hr;go_enter Tryz.func222,Tryz.ntmps222
 go_wp2_with fail
 refine (KN.out _).mono ?_;rintro e w1 ⟨rfl,hw1⟩;have R1:Hid (Rd 327 w.heap.size s false w1):=by show Rd _ _ _ _ _;rw [hw1];exact Rd.new w 327 s false
 have B1:Hid (Below w.heap.size w w1):=by show Below _ _ _;rw [hw1];exact zba
 have Z1:Hid (w1.heap.size=w.heap.size+1):=by show _=_;rw [hw1];simp
 clear hw1
 go_wp2_with fail
 refine (zaF _ _ _ 1 _ R1.out HS.out).mono ?_;rintro e w2 ⟨rfl,r2,g2⟩;rw [HF.out];have R2:=zh r2;have B2:Hid (Below w.heap.size w w2):=zaa B1.out g2 B1.out.size (zsy _);have Z2:Hid (w.heap.size<w2.heap.size):=r2.lt;clear r2 g2
 go_wp2_with fail
 refine (KR.out _ _).mono ?_;rintro e w3 ⟨rfl,a3,m3,b3⟩;have hl:=zaB (T:=292) 1 (.func (.func 291) #[] #[.pointer (some ⟨w2.heap.size,0,none⟩)]) Tryz.underlying292 m3 (zd7 _ _);have R2:Hid (Rd 327 w.heap.size (zan s 1) (false||!za1 s ((1:Nat):Int)) w3):=R2.out.below b3 Z2.out;have A2:=zh a3;have B3:=zh (B2.out.trans (b3.mono B2.out.size));clear m3 b3 a3;unfold rdp at *
 go_wp2_with fail
 refine (zpA _ _ _ _ _ A2.out R2.out HS1.out).mono ?_;rintro e w4 ⟨rfl,r4,g4⟩;rw [HM.out];rw [HT.out,HO2.out] at r4;have R4:=zh r4;have B4:Hid (Below w.heap.size w w4):=zaa B3.out g4 B3.out.size (zsy _);clear r4 g4 hl
 by_cases hgt:(1048576:Int)<(M:Int)
 ·have hno:nOk s=false:=by rw [HQ.out,zsC (by omega)];rfl
  go_wp2;refine zsF (v:=_) (by simp [results,Tryz.results222,go_sem]) rfl ⟨zaD hno,B4.out⟩
 have hms:=HTS.out;have hss:=HS.out;have hsub:wrap64 ((s.size:Int)-(T.size:Int))=((s.size-T.size:Nat):Int):=by unfold wrap64;omega
 have hsz:s.size-T.size≤s.size:=by omega
 have hMw:IntKind.i64.wrap (M:Int)=M:=IntWalk.i64_in _ (by omega);have hgt2:¬ ((1048576:Int)<(M:Int)):=hgt
 go_wp2_with fail
 refine (zbp _ _ _ _ R4.out).mono ?_;rintro e w5 ⟨rfl,rfl⟩
 go_wp2_with fail
 refine (zbt _ _ _ 4 _ R4.out (zsB hms hss)).mono ?_;rintro e w6 ⟨rfl,r6,g6⟩;rw [HS4.out,HHD.out];rw [HU4.out] at r6;have R6:=zh r6;have B6:Hid (Below w.heap.size w w6):=zaa B4.out g6 B4.out.size (zsy _);clear r6 g6
 go_wp2_with fail
 refine (zbt _ _ _ (M:Int) _ R6.out HUS.out).mono ?_;rintro e w7 ⟨rfl,r7,g7⟩;rw [HB4.out];rw [HW4.out,HR.out] at r7;have R7:=zh r7;have B7:Hid (Below w.heap.size w w7):=zaa B6.out g7 B6.out.size (zsy _);clear r7 g7
 cases r with
 | false =>
   have hno:nOk s=false:=by rw [HQ.out,zsD (by omega)];rfl
   have HNO:=zh hno;clear hno
   go_wp2_with fail
   refine (zeo _ _ _ _ R7.out).mono ?_;rintro e w8 ⟨rfl,rfl⟩;go_wp2;refine zsF (v:=_) (by simp [results,Tryz.results222,go_sem]) rfl ⟨zaD HNO.out,B7.out⟩
 | true =>
   obtain ⟨q,hq⟩:∃ q,((nS s).toList==(zb0 (nHd s) (nBd s)).toList)=q:=⟨_,rfl⟩;have HQ2:Hid (nOk s=q):=by show _=_;rw [HQ.out,zsD (by omega),hq];rfl
   have HHZ:=zh (zi6 s);have HBZ:Hid ((nBd s).size≤281474976710656):=zsB (ze2 _ _) HUS.out
   cases q with
   | false =>
     go_wp2_with fail
     refine (zeo _ _ _ _ R7.out).mono ?_;rintro e w8 ⟨rfl,rfl⟩
     go_wp2_with fail
     refine (zdz _ _ _ (zsB HHZ.out hss) HBZ.out).mono ?_;rintro e w9 ⟨rfl,b9⟩;have B9:=zh (B7.out.trans (b9.mono B7.out.size));clear b9;go_wp2;refine zsF (v:=_) (by simp [results,Tryz.results222,go_sem]) rfl ⟨zaD HQ2.out,B9.out⟩
   | true =>
     have hw4:(nW s).size≤s.size:=zsB HW.out (zsB HU.out hms);have hsub2:wrap64 ((s.size:Int)-((nW s).size:Int))=(s.size:Int)-((nW s).size:Int):=by unfold wrap64;omega
     go_wp2_with fail
     refine (zeo _ _ _ _ R7.out).mono ?_;rintro e w8 ⟨rfl,rfl⟩
     go_wp2_with fail
     refine (zdz _ _ _ (zsB HHZ.out hss) HBZ.out).mono ?_;rintro e w9 ⟨rfl,b9⟩;have B9:=zh (B7.out.trans (b9.mono B7.out.size));have R9:=zh (R7.out.below b9 R7.out.lt);clear b9
     go_wp2_with fail
     refine (zbp _ _ _ _ R9.out).mono ?_;rintro e w10 ⟨rfl,rfl⟩;go_wp2;refine zsF (v:=_) (by simp [results,Tryz.results222,go_sem]) rfl ⟨zcX HQ2.out HVV.out rfl rfl,B9.out⟩
theorem zk5 (s:ByteArray) (w:World) (hs:s.size≤281474976710656) (hF:zaZ s 1=162) :
 Calls Tryz.prog 222 #[.string s] w fun e w'=>e=.returned (.tuple #[.int .i64 (nxV s),.string (nxB s),.int .i64 (nxN s),.bool (nOk s)])∧Below w.heap.size w w':=by
 have hv:nV s=2:=by unfold nV;rw [hF];rfl
 have KN:=zh (fun (W:World)=>zbz s W);have KR:=zh (fun (g:Nat) (W:World)=>ze3 g W);have HF:Hid (zaZ s 1=162):=hF;have HS:=zh hs;have HS1:Hid ((zan s 1).size≤281474976710656):=zsB (zak s 1) hs;have HM:Hid ((zbY (zan s 1):Nat)=nM s):=by show _=_;unfold nM;rw [hv];rfl
 have HT:Hid (za0 (zan s 1)=nT s):=by show _=_;unfold nT;rw [hv];rfl
 have HO2:Hid ((false||!za1 s ((1:Nat):Int)||!zca (zan s 1))=!nO2 s):=by show _=_;unfold nO2;rw [hv];show _=!(za1 s 1&&zca (zan s 1));show (false||!za1 s 1||!zca (zan s 1))=_;cases za1 s 1<;>cases zca (zan s 1)<;>rfl
 have HTS:Hid ((nT s).size≤s.size):=by show _≤_;rw [←HT.out];exact zsB (zbu _) (zak s 1)
 have HU:Hid ((nU s).size≤(nT s).size):=zbq _ _;have HW:Hid ((nW s).size≤(nU s).size):=zbq _ _;have HR:Hid ((!nO2 s||!zbx (nT s) 4||!zbx (nU s) (nM s))=!nR s):=by show _=_;unfold nR;cases nO2 s<;>cases zbx (nT s) 4<;>cases zbx (nU s) (nM s)<;>rfl
 have HHD:Hid (s.extract 0 (s.size-(nT s).size)=nHd s):=rfl;have HQ:Hid (nOk s=(decide (nM s≤1048576)&&(nR s&&((nS s).toList==(zb0 (nHd s) (nBd s)).toList)))):=by show _=_;unfold nOk;rw [hv];rfl
 have HVV:Hid (nV s=2):=hv;obtain ⟨M,hM⟩:∃ M,M=nM s:=⟨_,rfl⟩;obtain ⟨T,hT⟩:∃ T,T=nT s:=⟨_,rfl⟩;obtain ⟨r,hr⟩:∃ r,r=nR s:=⟨_,rfl⟩;have HNM:=zh hM;have HNT:=zh hT;have HNR:=zh hr;rw [←hM] at HM HQ HR;rw [←hT] at HT HTS HU HR HHD;rw [←hr] at HQ HR;have HML:Hid (M<18446744073709551616):=by show _<_;rw [hM];exact znj s
 have HS4:Hid (zcA T 4=nS s):=by show _=_;rw [hT];rfl
 have HU4:Hid (zc8 T 4=nU s):=by show _=_;rw [hT];rfl
 have HB4:Hid (zcA (nU s) M=nBd s):=by show _=_;rw [hM];rfl
 have HW4:Hid (zc8 (nU s) M=nW s):=by show _=_;rw [hM];rfl
 have HUS:Hid ((nU s).size≤281474976710656):=zsB HU.out (zsB HTS.out hs);clear hF hs hv hM hT hr;go_enter Tryz.func222,Tryz.ntmps222
 go_wp2_with fail
 refine (KN.out _).mono ?_;rintro e w1 ⟨rfl,hw1⟩;have R1:Hid (Rd 327 w.heap.size s false w1):=by show Rd _ _ _ _ _;rw [hw1];exact Rd.new w 327 s false
 have B1:Hid (Below w.heap.size w w1):=by show Below _ _ _;rw [hw1];exact zba
 have Z1:Hid (w1.heap.size=w.heap.size+1):=by show _=_;rw [hw1];simp
 clear hw1
 go_wp2_with fail
 refine (zaF _ _ _ 1 _ R1.out HS.out).mono ?_;rintro e w2 ⟨rfl,r2,g2⟩;rw [HF.out];have R2:=zh r2;have B2:Hid (Below w.heap.size w w2):=zaa B1.out g2 B1.out.size (zsy _);have Z2:Hid (w.heap.size<w2.heap.size):=r2.lt;clear r2 g2
 go_wp2_with fail
 refine (KR.out _ _).mono ?_;rintro e w3 ⟨rfl,a3,m3,b3⟩;have hl:=zaB (T:=292) 2 (.func (.func 268) #[rdp w.heap.size] #[]) Tryz.underlying292 m3 (zd8 _ _);have R2:Hid (Rd 327 w.heap.size (zan s 1) (false||!za1 s ((1:Nat):Int)) w3):=R2.out.below b3 Z2.out;have A2:=zh a3;have B3:=zh (B2.out.trans (b3.mono B2.out.size));clear m3 b3 a3;unfold rdp at *
 go_wp2_with fail
 refine (zgU _ _ _ _ R2.out HS1.out).mono ?_;rintro e w4 ⟨rfl,r4,g4⟩;rw [HM.out];rw [HT.out,HO2.out] at r4;have R4:=zh r4;have B4:Hid (Below w.heap.size w w4):=zaa B3.out g4 B3.out.size (zsy _);clear r4 g4 hl
 by_cases hgt:(1048576:Int)<(M:Int)
 ·have hno:nOk s=false:=by rw [HQ.out,zsC (by omega)];rfl
  go_wp2;refine zsF (v:=_) (by simp [results,Tryz.results222,go_sem]) rfl ⟨zaD hno,B4.out⟩
 have hms:=HTS.out;have hss:=HS.out;have hsub:wrap64 ((s.size:Int)-(T.size:Int))=((s.size-T.size:Nat):Int):=by unfold wrap64;omega
 have hsz:s.size-T.size≤s.size:=by omega
 have hMw:IntKind.i64.wrap (M:Int)=M:=IntWalk.i64_in _ (by omega);have hgt2:¬ ((1048576:Int)<(M:Int)):=hgt
 go_wp2_with fail
 refine (zbp _ _ _ _ R4.out).mono ?_;rintro e w5 ⟨rfl,rfl⟩
 go_wp2_with fail
 refine (zbt _ _ _ 4 _ R4.out (zsB hms hss)).mono ?_;rintro e w6 ⟨rfl,r6,g6⟩;rw [HS4.out,HHD.out];rw [HU4.out] at r6;have R6:=zh r6;have B6:Hid (Below w.heap.size w w6):=zaa B4.out g6 B4.out.size (zsy _);clear r6 g6
 go_wp2_with fail
 refine (zbt _ _ _ (M:Int) _ R6.out HUS.out).mono ?_;rintro e w7 ⟨rfl,r7,g7⟩;rw [HB4.out];rw [HW4.out,HR.out] at r7;have R7:=zh r7;have B7:Hid (Below w.heap.size w w7):=zaa B6.out g7 B6.out.size (zsy _);clear r7 g7
 cases r with
 | false =>
   have hno:nOk s=false:=by rw [HQ.out,zsD (by omega)];rfl
   have HNO:=zh hno;clear hno
   go_wp2_with fail
   refine (zeo _ _ _ _ R7.out).mono ?_;rintro e w8 ⟨rfl,rfl⟩;go_wp2;refine zsF (v:=_) (by simp [results,Tryz.results222,go_sem]) rfl ⟨zaD HNO.out,B7.out⟩
 | true =>
   obtain ⟨q,hq⟩:∃ q,((nS s).toList==(zb0 (nHd s) (nBd s)).toList)=q:=⟨_,rfl⟩;have HQ2:Hid (nOk s=q):=by show _=_;rw [HQ.out,zsD (by omega),hq];rfl
   have HHZ:=zh (zi6 s);have HBZ:Hid ((nBd s).size≤281474976710656):=zsB (ze2 _ _) HUS.out
   cases q with
   | false =>
     go_wp2_with fail
     refine (zeo _ _ _ _ R7.out).mono ?_;rintro e w8 ⟨rfl,rfl⟩
     go_wp2_with fail
     refine (zdz _ _ _ (zsB HHZ.out hss) HBZ.out).mono ?_;rintro e w9 ⟨rfl,b9⟩;have B9:=zh (B7.out.trans (b9.mono B7.out.size));clear b9;go_wp2;refine zsF (v:=_) (by simp [results,Tryz.results222,go_sem]) rfl ⟨zaD HQ2.out,B9.out⟩
   | true =>
     have hw4:(nW s).size≤s.size:=zsB HW.out (zsB HU.out hms);have hsub2:wrap64 ((s.size:Int)-((nW s).size:Int))=(s.size:Int)-((nW s).size:Int):=by unfold wrap64;omega
     go_wp2_with fail
     refine (zeo _ _ _ _ R7.out).mono ?_;rintro e w8 ⟨rfl,rfl⟩
     go_wp2_with fail
     refine (zdz _ _ _ (zsB HHZ.out hss) HBZ.out).mono ?_;rintro e w9 ⟨rfl,b9⟩;have B9:=zh (B7.out.trans (b9.mono B7.out.size));have R9:=zh (R7.out.below b9 R7.out.lt);clear b9
     go_wp2_with fail
     refine (zbp _ _ _ _ R9.out).mono ?_;rintro e w10 ⟨rfl,rfl⟩;go_wp2;refine zsF (v:=_) (by simp [results,Tryz.results222,go_sem]) rfl ⟨zcX HQ2.out HVV.out rfl rfl,B9.out⟩
theorem zk6 (s:ByteArray) (w:World) (hs:s.size≤281474976710656) (h1:nV s≠1) (h2:nV s≠2) :
 Calls Tryz.prog 222 #[.string s] w fun e w'=>e=.returned (.tuple #[.int .i64 (nxV s),.string (nxB s),.int .i64 (nxN s),.bool (nOk s)])∧Below w.heap.size w w':=by
 have hno:nOk s=false:=by unfold nOk;rw [zsC h1,zsC h2];rfl
 have HNO:=zh hno;have KN:=zh (fun (W:World)=>zbz s W);have KR:=zh (fun (g:Nat) (W:World)=>ze3 g W);have HS:=zh hs;obtain ⟨v,hv⟩:∃ v,v=nV s:=⟨_,rfl⟩;obtain ⟨F,hF⟩:∃ F,F=zaZ s 1:=⟨_,rfl⟩;have hlt:F<256:=by rw [hF];exact zbV s
 have hvF:(F:Int)-160=v:=by rw [hv,hF];rfl
 have hw1:IntKind.i64.wrap (F:Int)=F:=IntWalk.i64_in _ (by omega);have hw2:wrap64 ((F:Int)-160)=v:=by rw [←hvF];unfold wrap64;omega
 have HF:Hid (zaZ s 1=F):=hF.symm;rw [←hv] at h1 h2;have KL:=zh (fun (g:Nat) (a b:Value) (W:World) (m:W.heap[g]?=some (.map (two a b) 2))=>zcb (T:=292) v Tryz.underlying292 Tryz.zeroValue259 m (zj7 a b v h1 h2));clear hF hs hv hno h1 h2 hlt hvF;go_enter Tryz.func222,Tryz.ntmps222
 go_wp2_with fail
 refine (KN.out _).mono ?_;rintro e w1 ⟨rfl,hw1⟩;have R1:Hid (Rd 327 w.heap.size s false w1):=by show Rd _ _ _ _ _;rw [hw1];exact Rd.new w 327 s false
 have B1:Hid (Below w.heap.size w w1):=by show Below _ _ _;rw [hw1];exact zba
 clear hw1
 go_wp2_with fail
 refine (zaF _ _ _ 1 _ R1.out HS.out).mono ?_;rintro e w2 ⟨rfl,r2,g2⟩;rw [HF.out];have R2:=zh r2;have B2:Hid (Below w.heap.size w w2):=zaa B1.out g2 B1.out.size (zsy _);clear r2 g2
 go_wp2_with fail
 refine (KR.out _ _).mono ?_;rintro e w3 ⟨rfl,a3,m3,b3⟩;have hl:=KL.out _ _ _ _ m3;have B3:=zh (B2.out.trans (b3.mono B2.out.size));clear m3 b3 a3;go_wp2;refine zsF (v:=_) (by simp [results,Tryz.results222,go_sem]) rfl ⟨zaD HNO.out,B3.out⟩
theorem zeB (s:ByteArray) (w:World) (hs:s.size≤281474976710656) :
 Calls Tryz.prog 222 #[.string s] w fun e w'=>e=.returned (.tuple #[.int .i64 (nxV s),.string (nxB s),.int .i64 (nxN s),.bool (nOk s)])∧Below w.heap.size w w':=by
 by_cases h1:nV s=1
 ·exact zk4 s w hs (by unfold nV at h1;omega)
 ·by_cases h2:nV s=2
  ·exact zk5 s w hs (by unfold nV at h2;omega)
  ·exact zk6 s w hs h1 h2
end
end Go.Proofs.YtidndekacnmihaaGreat
