/-
  WalPlays: WQ CM CC CR FM.
  Conditions: named in each theorem.
-/
import Derived.Test.YtnobeoppffoomaaGreatP08
import Derived.Laws.BitsAllLaws
import Derived.RowKit
import Derived.Laws.BytesArg
import Derived.Test.YtnobeoppffoomaaGreatRows
import Derived.WalkKit
import Derived.WalkSpells
import Derived.WalkLawsBesides
import Derived.Lib.Hide
import Derived.Deep.RegionHeld3
import Derived.Lib.BufferWrite
import Derived.Lib.UnsafeStr
import Derived.Test.YtnobeoppffoomaaGreatP0
set_option linter.unusedVariables false
set_option linter.unusedSimpArgs false
set_option maxHeartbeats 8000000
set_option maxRecDepth 100000
namespace Go.Proofs.YtnobeoppffoomaaGreat
open Go.RowKit
open Dk
theorem mk_zeros (w:World) (m:Nat) (hm:m≤140737488355328):(Instr.makeSlice 68 (.int .i64 m) (.int .i64 m)).run Tryz.prog w=.ok (.slice (some ⟨w.heap.size,0,none⟩) m m) (w.alloc (.cells (Lib.byteCells (zeros m)).toArray 5)):=by
 obtain ⟨i0,hi0,hz0,hz1,hz2⟩:=info_parts Tryz.info5
 have h1:=run_make (P:=Tryz.prog) w 68 5 i0 (.int .u8 0) Tryz.underlying68 hi0 hz0 .i64 .i64 m m (by omega) (by omega) (by rw [hz2];omega) (by omega)
 have e:madeCells (Value.int .u8 0).cells ((m:Int).toNat*i0.size)=(Lib.byteCells (Dk.zeros m)).toArray:=by
  rw [hz1]
  apply Array.ext'
  have h2:=toList_madeCells_one (Value.int .u8 0) m
  have h3:((m:Int).toNat*1)=m:=by omega
  rw [h3]
  show (madeCells #[Value.int IntKind.u8 0] m).toList=_
  rw [h2]
  simp [Lib.byteCells,Dk.zeros]
 rw [e] at h1
 exact h1
theorem cv_zeros (w:World) (g m:Nat) (h:w.heap[g]?=some (.cells (Lib.byteCells (zeros m)).toArray 5 (0,0))):(convert 68 9 (.slice (some ⟨g,0,none⟩) m m)).run Tryz.prog w=.ok (.string (zz m)) w:=by
 refine conv_sec (by simp [Dk.zeros]) (fun j u hu=>?_)
 rw [zcr _ _ _ _ 5 (0,0) h,Nat.zero_add]
 simpa using hu
theorem rrecords_any (v:Int) (S:En→ByteArray) (O:En→Bool) (A:Option Addr) (n c:Nat) (es:List En) (w:World) (hE:Ents w.heap.size A n es w) (hn:n≤64)
 (hS:∀ e∈es,(S e).size≤2097152) (hP:Puts 42 v S O es) :
 Calls Tryz.prog 13 #[.int .i64 v,.slice A n c] w fun q w'=>q=.returned (.tuple #[.string (rcS v S O es),.bool (rcO v O es)])∧Below w.heap.size w w':=by
 have HE:=zh hE
 have HS:=zh hS
 have HP:=zh hP
 clear hE hS hP
 by_cases hvn:v≠1∧v≠2
 ·have hk:knB v=false:=decide_eq_false (by omega)
  have hT1:Hid (rcS v S O es=⟨#[]⟩):=by show _=_;unfold rcS;rw [hk];rfl
  have hT2:Hid (rcO v O es=false):=by show _=_;unfold rcO;rw [hk];rfl
  have h1:(v==1)=false:=beqF (by omega)
  have h2:(v==2)=false:=beqF (by omega)
  have g1:(v != 1)=true:=by unfold bne;rw [h1];rfl
  have g2:(v != 2)=true:=by unfold bne;rw [h2];rfl
  clear hvn hk
  go_enter Tryz.func13,Tryz.ntmps13
  go_wp2
  go_ret2
  exact ⟨by rw [hT1.out,hT2.out];rfl,Below.refl _ _⟩
 ·have hv:v=1∨v=2:=by omega
  clear hvn
  have hk:knB v=true:=decide_eq_true hv
  have hT1:Hid (rcS v S O es=if es.all O then rcA v S es else ⟨#[]⟩):=by show _=_;unfold rcS;rw [hk];rfl
  have hT2:Hid (rcO v O es=es.all O):=by show _=_;unfold rcO;rw [hk];rfl
  clear hk
  have hB0:=Below.refl w.heap.size w
  go_enter Tryz.func13,Tryz.ntmps13
  obtain ⟨V,hV⟩:∃ V,V=v:=⟨_,rfl⟩
  rw [←hV] at hT1 hT2
  have HV:=zh hV
  rcases hv with rfl|rfl
  all_goals
   clear hV
   go_wp2
   go_loopw [6,7] (fun s i wr=>∃ k:Nat,k≤n∧i=.int .i64 k∧Hid ((es.take k).all O=true)∧(∃ r,s=.string r∧Hid (rcA V S (es.take k)=r))∧Below w.heap.size w wr) (fun _ i _=>n-(Go.RowKit.intOf i).toNat)
   case atStart=>exact ⟨0,Nat.zero_le _,rfl,rfl,⟨_,rfl,rfl⟩,hB0⟩
   case round =>
    obtain ⟨k,hk,rfl,hall,⟨r,rfl,hrr⟩,hb⟩:=hrel
    by_cases hlt:k<n
    ·obtain ⟨e,he⟩:∃ e,es[k]?=some e:=⟨_,List.getElem?_eq_getElem (by rw [HE.out.len];exact hlt)⟩
     obtain ⟨a,hA,hB,d0,d1,d2,d3,d4,d5,d6,d7,d8,d9,d10⟩:=(HE.out.below hb).cs he
     have hmem:e∈es:=List.mem_of_getElem? he
     have K:=zh (HP.out e hmem)
     have hsz:(S e).size≤2097152:=HS.out e hmem
     have htk:=take_snoc he
     have hra:r.size≤k*(2097152+63):=by
      rw [←hrr.out]
      refine Nat.le_trans (rcA_le _ S 2097152 (es.take k) fun e he=>HS.out e (List.mem_of_mem_take he)) ?_
      rw [List.length_take]
      exact Nat.mul_le_mul_right _ (Nat.min_le_left _ _)
     have hall1:Hid ((es.take (k+1)).all O=((es.take k).all O&&O e)):=by show _=_;rw [htk,List.all_append];simp
     have hrc1:∀ v,rcA v S (es.take k)=r→Hid (padv v (r++S e)=rcA v S (es.take (k+1))):=fun v hr=>by show _=_;rw [htk,rcA_snoc,hr]
     have hrc:=hrc1 _ hrr.out
     have hrs:r.size≤134217728:=by
      have:k*(2097152+63)≤63*(2097152+63):=Nat.mul_le_mul_right _ (by omega)
      omega
     have HB:=zh hb
     have HEE:=zh he
     clear hb he hrr hra htk hmem hrc1
     rw [hA]
     clear hA
     cases ho:O e with
     | false =>
       have hF:Hid (es.all O=false):=by
        show _=_
        rw [List.all_eq_false]
        exact ⟨e,List.mem_of_getElem? HEE.out,by rw [ho];simp⟩
       rw [ho] at K
       go_wp2_with (go_at_call 42;(with_reducible refine (K.out _).mono ?_);rintro q w1 ⟨rfl,hb1⟩)
       go_ret2
       exact ⟨by rw [←HV.out,hT1.out,hT2.out,hF.out];rfl,HB.out.trans (hb1.mono HB.out.size)⟩
     | true =>
       rw [ho] at K
       obtain ⟨R,hR⟩:∃ R,R=r++S e:=⟨_,rfl⟩
       have hRs:R.size=r.size+(S e).size:=by rw [hR,ByteArray.size_append]
       rw [←hR] at hrc
       have hlr:¬ 9223372036854775807<r.size+(S e).size:=by omega
       have hRl:R.size≤140737488355000:=by omega
       have HR:=zh hR
       clear hR hRs
       go_upto_region 11 with (go_at_call 42;(with_reducible refine (K.out _).mono ?_);rintro q w1 ⟨rfl,hb1⟩)
       rw [←HR.out]
       have B1:Below w.heap.size w w1:=HB.out.trans (hb1.mono HB.out.size)
       clear hb1
       first
        | (have e1:V=1:=HV.out
           have KU:=zh (up_any R.size)
           have hlm:R.size≤4611686018427387904:=by omega
           obtain ⟨U,hU⟩:∃ U,U=(R.size+63) / 64*64:=⟨_,rfl⟩
           rw [←hU] at KU
           obtain ⟨m,hm⟩:∃ m,m=U-R.size:=⟨_,rfl⟩
           have hmi:(U:Int)-(R.size:Int)=(m:Int):=by omega
           have hm63:m≤63:=by omega
           have hmax:U≤4611686018427387904:=by omega
           have hmk:=mk_zeros w1 m (by omega)
           have hcv:=cv_zeros (w1.alloc (.cells (Lib.byteCells (zeros m)).toArray 5)) w1.heap.size m (heap_alloc_new w1 _)
           have hpd:Hid (R++zz m=rcA V S (es.take (k+1))):=by show _=_;rw [←hrc.out,e1,hm,hU];rfl
           have hls:¬ 9223372036854775807<R.size+(zz m).size:=by rw [zz_size];omega
           have B2:=B1.alloc B1.size (.cells (Lib.byteCells (zeros m)).toArray 5)
           obtain ⟨M,hM⟩:∃ M,M=(Lib.byteCells (zeros m)).toArray:=⟨_,rfl⟩
           rw [←hM] at hmk hcv B2
           clear e1 hU hm hM
           go_wp2_with (go_at_call 43;(with_reducible refine (KU.out _ hlm).mono ?_);rintro q w2 ⟨rfl,rfl⟩)
           go_roundw
           case rel=>exact ⟨k+1,by omega,by go_num,by show _=_;rw [hall1.out,hall.out,ho];rfl,⟨_,rfl,hpd.symm⟩,B2⟩
           case measure=>simp [Go.RowKit.intOf];omega)
        | (have hpd:Hid (rcA V S (es.take (k+1))=R):=by
            show _=_
            rw [←hrc.out,HV.out]
            unfold padv
            have:bgn 2 R.size-R.size=0:=by unfold bgn;rw [if_neg (by decide)];omega
            rw [this]
            apply ByteArray.ext
            simp [zz,Dk.zeros,txt,ByteArray.data_append]
           go_wp2
           go_roundw
           case rel=>exact ⟨k+1,by omega,by go_num,by show _=_;rw [hall1.out,hall.out,ho];rfl,⟨_,rfl,hpd⟩,B1⟩
           case measure=>simp [Go.RowKit.intOf];omega)
    ·have hF:es.take k=es:=List.take_of_length_le (by rw [HE.out.len];omega)
     rw [hF] at hall hrr
     go_wp2
     go_ret2
     exact ⟨by rw [←HV.out,hT1.out,hT2.out,hall.out,hrr.out];rfl,hb⟩
end Go.Proofs.YtnobeoppffoomaaGreat
namespace Go.Proofs.YtnobeoppffoomaaGreat
open Go.RowKit
namespace Crc
def step (r t:Nat):Nat:=r / 2 ^^^ 2197175160*((r ^^^ t) &&& 1)
def stepN (r b:Nat):Nat→Nat
 | 0=>r
 | k+1=>step (stepN r b k) (b / 2 ^ k)
def byteStep (r b:Nat):Nat:=stepN r b 8
def raw (r:Nat) (l:List UInt8):Nat:=l.foldl (fun r c=>byteStep r c.toNat) r
def comp (x:Nat):Nat:=4294967295-x
def more (sum:Nat) (l:List UInt8):Nat:=comp (raw (comp sum) l)
theorem and_one_le (x:Nat):x &&& 1≤1:=Nat.and_le_right
theorem step_lt (r t:Nat) (hr:r<4294967296):step r t<4294967296:=by
 unfold step
 have h:=and_one_le (r ^^^ t)
 exact Nat.xor_lt_two_pow (n:=32) (by omega) (by omega)
theorem stepN_lt (r b:Nat) (hr:r<4294967296):∀ k,stepN r b k<4294967296
 | 0=>hr
 | k+1=>step_lt _ _ (stepN_lt r b hr k)
theorem byteStep_lt (r b:Nat) (hr:r<4294967296):byteStep r b<4294967296:=stepN_lt r b hr 8
theorem raw_lt:∀ (l:List UInt8) (r:Nat),r<4294967296→raw r l<4294967296
 | [],_,h=>h
 | c :: l,r,h=>raw_lt l _ (byteStep_lt r c.toNat h)
theorem comp_lt (x:Nat):comp x<4294967296:=by unfold comp;omega
theorem comp_comp (x:Nat) (h:x<4294967296):comp (comp x)=x:=by unfold comp;omega
theorem raw_append (r:Nat) (a b:List UInt8):raw r (a++b)=raw (raw r a) b:=by unfold raw;rw [List.foldl_append]
theorem raw_snoc (r:Nat) (a:List UInt8) (c:UInt8):raw r (a++[c])=byteStep (raw r a) c.toNat:=raw_append r a [c]
theorem more_append (x:Nat) (a b:List UInt8):more (more x a) b=more x (a++b):=by
 unfold more
 rw [comp_comp _ (raw_lt _ _ (comp_lt _)),raw_append]
theorem round_eq (r b k:Nat) (hr:r<4294967296) (hb:b<256) :
 bits BinOp.xor IntKind.u32 ((r:Int) / 2) (2197175160*bits BinOp.and IntKind.u32 (bits BinOp.xor IntKind.u32 (r:Int) ((b:Int) / 2 ^ k % 4294967296)) 1 % 4294967296)=((step r (b / 2 ^ k):Nat):Int):=by
 have hq:b / 2 ^ k≤b:=Nat.div_le_self _ _
 have e0:(b:Int) / 2 ^ k=((b / 2 ^ k:Nat):Int):=by push_cast;rfl
 rw [e0]
 generalize b / 2 ^ k=q at *
 have e1:(q:Int) % 4294967296=(q:Int):=by omega
 rw [e1,u32_xor_nat r q hr (by omega)]
 have hx:r ^^^ q<4294967296:=Nat.xor_lt_two_pow (n:=32) (by omega) (by omega)
 have e2:bits BinOp.and IntKind.u32 ((r ^^^ q:Nat):Int) 1=((r ^^^ q) &&& 1:Nat):=u32_and_nat (r ^^^ q) 1 hx (by omega)
 rw [e2]
 have h1:=and_one_le (r ^^^ q)
 have e3:(2197175160*(((r ^^^ q) &&& 1:Nat):Int) % 4294967296)=((2197175160*((r ^^^ q) &&& 1):Nat):Int):=by omega
 have e4:(r:Int) / 2=((r / 2:Nat):Int):=by omega
 rw [e3,e4,u32_xor_nat _ _ (by omega) (by omega)]
 rfl
theorem comp_eq (x:Nat) (hx:x<4294967296):bits BinOp.xor IntKind.u32 IntKind.u32.max (x:Int)=((comp x:Nat):Int):=by
 show IntKind.u32.wrap ((BitVec.ofInt 32 4294967295 ^^^ BitVec.ofInt 32 (x:Int)).toNat:Int)=_
 have h1:BitVec.ofInt 32 4294967295=BitVec.allOnes 32:=by decide
 have h2:=ofInt_u32 x hx
 rw [h1,BitVec.allOnes_xor,BitVec.toNat_not,h2,IntKind.wrap_u32']
 unfold comp
 omega
theorem take_succ (s:ByteArray) (k:Nat) (h:k<s.size):s.data.toList.take (k+1)=s.data.toList.take k++[s[k]]:=by
 rw [List.take_succ_eq_append_getElem (by simpa using h)];rfl
theorem raw_take_succ (r:Nat) (s:ByteArray) (k:Nat) (h:k<s.size):raw r (s.data.toList.take (k+1))=byteStep (raw r (s.data.toList.take k)) s[k].toNat:=by
 rw [take_succ s k h,raw_snoc]
def head (n:Nat):ByteArray:=⟨#[UInt8.ofNat (n / 16777216),UInt8.ofNat (n / 65536 % 256),UInt8.ofNat (n / 256 % 256),UInt8.ofNat (n % 256)]⟩
theorem head_size (n:Nat):(head n).size=4:=rfl
def moreB (sum:Nat) (s:ByteArray):Nat:=more sum s.data.toList
def putB (s:ByteArray):ByteArray:=head (moreB 0 s)++s
theorem moreB_lt (x:Nat) (s:ByteArray):moreB x s<4294967296:=comp_lt _
theorem putB_size (s:ByteArray):(putB s).size=s.size+4:=by
 unfold putB;rw [ByteArray.size_append,head_size];omega
end Crc
end Go.Proofs.YtnobeoppffoomaaGreat
namespace Go.Proofs.YtnobeoppffoomaaGreat
open Go.RowKit
theorem take_any (a:Addr) (r b:Nat) (w:World) (hr:r<4294967296) (hb:b<256) (hc:w.cell? a=some (.int .u32 r)) (hf:w.frozen? a=false) :
 Calls Tryz.prog 193 #[.pointer (some a),.int .u8 b] w fun e w'=>e=.returned (.tuple #[])∧w'=w.setCell a (.int .u32 (Crc.byteStep r b)):=by
 go_enter Tryz.func193,Tryz.ntmps193
 go_wp2
 go_loop [4,10] (fun n i=>∃ k:Nat,k≤8∧i=.int .i64 k∧n=.int .u32 (Crc.stepN r b k)) (fun _ i=>8-(Go.RowKit.intOf i).toNat)
 case atStart=>exact ⟨0,by omega,rfl,rfl⟩
 case round =>
  obtain ⟨k,hk,rfl,rfl⟩:=hrel
  by_cases hlt:k<8
  ·have HE:=zh (Crc.round_eq (Crc.stepN r b k) b k (Crc.stepN_lt r b hr k) hb)
   go_wp2
   go_round
   case rel=>exact ⟨k+1,by omega,by go_num,by rw [HE.out];rfl⟩
   case measure=>simp [Go.RowKit.intOf];omega
  ·have h8:k=8:=by omega
   subst h8
   go_wp2
   go_end0
   exact ⟨rfl,rfl⟩
theorem more_any (sum:Nat) (s:ByteArray) (w:World) (hs:s.size≤maxLen) (hsum:sum<4294967296) :
 Calls Tryz.prog 168 #[.int .u32 sum,.string s] w fun e w'=>e=.returned (.int .u32 (Crc.moreB sum s))∧Below w.heap.size w w':=by
 unfold maxLen at hs
 go_enter Tryz.func168,Tryz.ntmps168
 go_wp2
 have H0:=zh (Crc.comp_eq sum hsum)
 go_loopw [13] (fun i wr=>∃ k:Nat,k≤s.size∧i=.int .i64 k∧wr.cell? ⟨w.heap.size,0,none⟩=some (.int .u32 (Crc.raw (Crc.comp sum) (s.data.toList.take k)))∧wr.frozen? ⟨w.heap.size,0,none⟩=false∧Below w.heap.size w wr)
  (fun i _=>s.size-(Go.RowKit.intOf i).toNat)
 case atStart =>
  refine ⟨0,by omega,rfl,?_,?_,(Below.refl _ _).alloc (Nat.le_refl _) _⟩
  ·rw [H0.out];simp [Crc.raw]
  ·simp
 case round =>
  obtain ⟨k,hk,rfl,hcell,hfz,hbel⟩:=hrel
  by_cases hlt:k<s.size
  ·have hraw:=Crc.raw_lt (s.data.toList.take k) _ (Crc.comp_lt sum)
   have hbyte:s[k].toNat<256:=s[k].toNat_lt
   have HR:=zh (Crc.raw_take_succ (Crc.comp sum) s k hlt)
   go_wp2_with fail
   refine (take_any _ _ _ _ hraw hbyte hcell hfz).mono ?_
   rintro e w1 ⟨rfl,rfl⟩
   have HC:=zh hcell
   have HF:=zh hfz
   clear hcell hfz
   go_wp2
   go_roundw
   case rel =>
    refine ⟨k+1,by omega,by go_num,?_,?_,hbel.setCell (Nat.le_refl _) _⟩
    ·rw [HR.out];exact World.cell?_setCell_same _ _ _ HC.out
    ·rw [World.frozen?_setCell];exact HF.out
   case measure=>simp [Go.RowKit.intOf];omega
  ·have hk':k=s.size:=by omega
   subst hk'
   have hraw:=Crc.raw_lt (s.data.toList.take s.size) _ (Crc.comp_lt sum)
   have H1:=zh (Crc.comp_eq _ hraw)
   have H2:Hid (s.data.toList.take s.size=s.data.toList):=by rw [List.take_of_length_le (by simp)];exact rfl
   go_wp2
   go_ret
   refine ⟨?_,hbel⟩
   rw [H1.out,H2.out]
   rfl
theorem sum_any (s:ByteArray) (w:World) (hs:s.size≤maxLen) :
 Calls Tryz.prog 169 #[.string s] w fun e w'=>e=.returned (.int .u32 (Crc.moreB 0 s))∧Below w.heap.size w w':=by
 go_enter Tryz.func169,Tryz.ntmps169
 go_wp2_with fail
 refine (more_any 0 s w hs (by omega)).mono ?_
 rintro e w1 ⟨rfl,hb⟩
 go_wp2
 go_ret
 exact ⟨rfl,hb⟩
end Go.Proofs.YtnobeoppffoomaaGreat
namespace Go.Proofs.YtnobeoppffoomaaGreat
open Go.RowKit
namespace Crc
theorem and_one_cases (x:Nat):x &&& 1=0∨x &&& 1=1:=by rw [Nat.and_one_is_mod];omega
theorem step_one (r q:Nat) (h:(r ^^^ q) &&& 1=1):step r q=r / 2 ^^^ 2197175160:=by unfold step;rw [h]
theorem step_none (r q:Nat) (h:(r ^^^ q) &&& 1=0):step r q=r / 2:=by unfold step;rw [h];simp
theorem test_eq (r b k:Nat) (hr:r<4294967296) (hb:b<256) :
 ((bits BinOp.xor IntKind.u32 (r:Int) ((b:Int) / 2 ^ k % 4294967296)).tmod 2==1)=decide ((r ^^^ b / 2 ^ k) &&& 1=1):=by
 have hq:b / 2 ^ k≤b:=Nat.div_le_self _ _
 have e0:(b:Int) / 2 ^ k=((b / 2 ^ k:Nat):Int):=by rw [Int.natCast_ediv,Int.natCast_pow];rfl
 rw [e0]
 generalize b / 2 ^ k=q at *
 have e1:(q:Int) % 4294967296=(q:Int):=by omega
 rw [e1,u32_xor_nat r q hr (by omega),Nat.and_one_is_mod]
 generalize r ^^^ q=x
 have e2:((x:Int)).tmod 2=((x % 2:Nat):Int):=by rw [Int.tmod_eq_emod_of_nonneg (by omega)];omega
 rw [e2,Bool.eq_iff_iff,beq_iff_eq,decide_eq_true_iff]
 omega
theorem half_eq (r:Nat) (hr:r<4294967296):bits BinOp.xor IntKind.u32 ((r:Int) / 2) 2197175160=((r / 2 ^^^ 2197175160:Nat):Int):=by
 have e:(r:Int) / 2=((r / 2:Nat):Int):=by omega
 rw [e]
 exact u32_xor_nat (r / 2) 2197175160 (by omega) (by omega)
end Crc
theorem rmore_any (sum:Nat) (s:ByteArray) (w:World) (hs:s.size≤maxLen) (hsum:sum<4294967296) :
 Calls Tryz.prog 155 #[.int .u32 sum,.string s] w fun e w'=>e=.returned (.int .u32 (Crc.moreB sum s))∧w=w':=by
 unfold maxLen at hs
 have H0:=zh (Crc.comp_eq sum hsum)
 go_enter Tryz.func155,Tryz.ntmps155
 go_wp2
 rw [H0.out]
 go_loop [0,5] (fun r i=>∃ k:Nat,k≤s.size∧i=.int .i64 k∧r=.int .u32 (Crc.raw (Crc.comp sum) (s.data.toList.take k))) (fun _ i=>s.size-(Go.RowKit.intOf i).toNat)
 case atStart=>exact ⟨0,by omega,rfl,rfl⟩
 case round =>
  obtain ⟨k,hk,rfl,rfl⟩:=hrel
  have hraw:=Crc.raw_lt (s.data.toList.take k) _ (Crc.comp_lt sum)
  by_cases hlt:k<s.size
  ·have hbyte:s[k].toNat<256:=s[k].toNat_lt
   have HR:=zh (Crc.raw_take_succ (Crc.comp sum) s k hlt)
   generalize Crc.raw (Crc.comp sum) (s.data.toList.take k)=r0 at *
   go_wp2
   go_loop [0,6] (fun r j=>∃ m:Nat,m≤8∧j=.int .i64 m∧r=.int .u32 (Crc.stepN r0 s[k].toNat m)) (fun _ j=>8-(Go.RowKit.intOf j).toNat)
   case atStart=>exact ⟨0,by omega,rfl,rfl⟩
   case round =>
    obtain ⟨m,hm,rfl,rfl⟩:=hrel
    by_cases hm8:m<8
    ·have hst:=Crc.stepN_lt r0 s[k].toNat hraw m
     have hte:=Crc.test_eq (Crc.stepN r0 s[k].toNat m) s[k].toNat m hst hbyte
     have HE:=zh (Crc.half_eq (Crc.stepN r0 s[k].toNat m) hst)
     rcases Crc.and_one_cases (Crc.stepN r0 s[k].toNat m ^^^ s[k].toNat / 2 ^ m) with hbit|hbit
     ·have HS:=zh (Crc.step_none _ _ hbit)
      rw [decide_eq_false (by rw [hbit];decide)] at hte
      clear hbit
      go_wp2
      go_round
      case rel=>exact ⟨m+1,by omega,by go_num,by show _=Value.int IntKind.u32 ((Crc.step _ _:Nat):Int);rw [HS.out];go_num⟩
      case measure=>simp [Go.RowKit.intOf];omega
     ·have HS:=zh (Crc.step_one _ _ hbit)
      rw [decide_eq_true hbit] at hte
      clear hbit
      go_wp2
      go_round
      case rel=>exact ⟨m+1,by omega,by go_num,by show _=Value.int IntKind.u32 ((Crc.step _ _:Nat):Int);rw [HS.out,HE.out]⟩
      case measure=>simp [Go.RowKit.intOf];omega
    ·have h8:m=8:=by omega
     subst h8
     go_wp2
     go_round
     case rel=>exact ⟨k+1,by omega,by go_num,by rw [HR.out];rfl⟩
     case measure=>simp [Go.RowKit.intOf];omega
  ·have hk':k=s.size:=by omega
   subst hk'
   have H1:=zh (Crc.comp_eq _ hraw)
   have H2:Hid (s.data.toList.take s.size=s.data.toList):=by rw [List.take_of_length_le (by simp)];exact rfl
   go_wp2
   go_ret
   refine ⟨?_,rfl⟩
   rw [H1.out,H2.out]
   rfl
theorem rsum_any (s:ByteArray) (w:World) (hs:s.size≤maxLen) :
 Calls Tryz.prog 118 #[.string s] w fun e w'=>e=.returned (.int .u32 (Crc.moreB 0 s))∧w=w':=by
 go_enter Tryz.func118,Tryz.ntmps118
 go_wp2_with fail
 refine (rmore_any 0 s w hs (by omega)).mono ?_
 rintro e w1 ⟨rfl,rfl⟩
 go_wp2
 go_ret
 exact ⟨rfl,rfl⟩
end Go.Proofs.YtnobeoppffoomaaGreat
namespace Go.Proofs.YtnobeoppffoomaaGreat
open Go.RowKit
namespace Vi
theorem fx_be:∀ (l:List Nat),(∀ x∈l,x<256)→fx (be l) l.length=l:=by
 have key0:∀ (n:Nat) (l:List Nat),l.length=n→(∀ x∈l,x<256)→fx (be l) l.length=l:=by
  intro n
  induction n with
  | zero =>
   intro l hl _
   have:l=[]:=List.eq_nil_of_length_eq_zero hl
   subst this
   rfl
  | succ n ih0 =>
   intro l0 hl0 h0
   obtain ⟨l,b,rfl⟩:∃ l b,l0=l++[b]:=⟨l0.dropLast,l0.getLast (by intro e;rw [e] at hl0;simp at hl0),(List.dropLast_concat_getLast _).symm⟩
   have ih:=ih0 l (by simpa using hl0)
   have h:=h0
   have hb:b<256:=h b (by simp)
   have ih':=ih fun x hx=>h x (by simp [hx])
   rw [be_snoc,List.length_append,List.length_singleton]
   have key:∀ k,fx (be l*256+b) (k+1)=fx (be l) k++[b]:=by
    intro k
    induction k with
    | zero =>
      unfold fx fx
      simp
      omega
    | succ k ik =>
      rw [fx,ik,fx]
      have h1:(be l*256+b) / 256 ^ (k+1)=be l / 256 ^ k:=by
       rw [Nat.pow_succ',←Nat.div_div_eq_div_mul]
       congr 1
       omega
      rw [h1]
      rfl
   rw [key,ih']
 intro l h
 exact key0 l.length l rfl h
theorem nums_putB (n:Nat):nums (putB n)=put n:=nums_str _ (put_lt n)
theorem var_put (n:Nat) (hn:n<18446744073709551616) (t:ByteArray):varV (putB n++t)=n∧varT (putB n++t)=t∧varO (putB n++t)=true:=by
 obtain ⟨h1,h2,h3⟩:=put_reads n hn (nums t)
 have e:nums (putB n++t)=put n++nums t:=by rw [nums_append,nums_putB]
 unfold varV varT varO
 rw [e]
 refine ⟨h2,?_,h1⟩
 rw [h3]
 have e2:(put n).length=(putB n).size:=by unfold putB;rw [str_size]
 rw [e2]
 exact extract_right _ _
theorem cnt_at:∀ (l:List Nat),cnt l<l.length→l.getD (cnt l) 0<128
 | [],h=>absurd h (by simp)
 | b :: l,h=>by
   by_cases hb:128≤b
   ·have e:cnt (b :: l)=cnt l+1:=by
     unfold cnt
     rw [List.takeWhile_cons,if_pos (by simpa using hb),List.length_cons]
    rw [e] at h ⊢
    have ih:=cnt_at l (by simpa using h)
    simpa using ih
   ·have e:cnt (b :: l)=0:=by
     unfold cnt
     rw [List.takeWhile_cons,if_neg (by simpa using hb)];rfl
    rw [e]
    simp
    omega
theorem cnt_pre (l:List Nat):∀ j,j<cnt l→128≤l.getD j 0:=by
 intro j hj
 have hl:cnt l≤l.length:=by
  unfold cnt
  exact (List.takeWhile_sublist _).length_le
 have hm:l.getD j 0∈l.take (cnt l):=by
  rw [List.getD_eq_getElem?_getD,List.getElem?_eq_getElem (by omega),Option.getD_some]
  exact List.mem_take_iff_getElem.2 ⟨j,by omega,rfl⟩
 exact cnt_mem l _ hm
theorem var_sound (s:ByteArray) (h:varO s=true):putB (varV s)++varT s=s:=by
 have ho:okL (nums s)=true:=h
 have hd:cnt (nums s)≤9∧cnt (nums s)<(nums s).length∧(cnt (nums s)=0∨(nums s).getD (cnt (nums s)) 0≠0)∧(cnt (nums s)=9→(nums s).getD 9 0≤1):=by
  have:=ho
  unfold okL at this
  exact of_decide_eq_true this
 obtain ⟨d1,d2,d3,d4⟩:=hd
 have hb:=cnt_at _ d2
 have hp:=cnt_pre (nums s)
 have ht:=(put_test (nums s) (cnt (nums s)) (nums_lt s) hp d2 hb d1).2 ho
 have hv:=val_ok (nums s) (cnt (nums s)) d2 d1 (fun e=>by rw [e];exact d4 e)
 rw [hv] at ht
 obtain ⟨v1,v2⟩:=valL_at (nums s) (cnt (nums s)) hp d2 hb ho
 apply nums_inj
 rw [nums_append,nums_putB]
 unfold varV varT
 rw [v1,v2,ht,nums_extract]
 have:(List.drop (cnt (nums s)+1) (nums s)).take (s.size-(cnt (nums s)+1))=List.drop (cnt (nums s)+1) (nums s):=List.take_of_length_le (by rw [List.length_drop,nums_length];omega)
 rw [this,List.take_append_drop]
theorem fix_sound (s:ByteArray) (k:Nat) (hk:k≤8) (h:hasF s k=true):fxB (fixV s k) k++fixT s k=s:=by
 have hh:0≤(k:Int)∧(k:Int)≤8∧(k:Int)≤s.size:=of_decide_eq_true h
 apply nums_inj
 have e1:fixV s k=be ((nums s).take k):=by unfold fixV;rw [if_pos h,Int.toNat_natCast]
 have e2:fixT s k=s.extract k s.size:=by unfold fixT;rw [if_pos h,Int.toNat_natCast]
 have hl:((nums s).take k).length=k:=by rw [List.length_take,nums_length];omega
 have hf:=fx_be ((nums s).take k) (fun x hx=>nums_lt s x (List.mem_of_mem_take hx))
 rw [hl] at hf
 rw [nums_append,fxB_eq _ k hk,nums_str _ (fx_lt _ _),e1,e2,hf,nums_extract,List.take_of_length_le (l:=List.drop k (nums s)) (by rw [List.length_drop,nums_length];omega),List.take_append_drop]
theorem bytVT (s:ByteArray) (n:Nat) (h:hasB s n=true):bytV s n++bytT s n=s∧(bytV s n).size=n:=by
 have hh:0≤(n:Int)∧(n:Int)≤s.size:=of_decide_eq_true h
 have e1:bytV s n=s.extract 0 n:=by unfold bytV;rw [if_pos h,Int.toNat_natCast]
 have e2:bytT s n=s.extract n s.size:=by unfold bytT;rw [if_pos h,Int.toNat_natCast]
 rw [e1,e2]
 refine ⟨?_,by rw [ByteArray.size_extract];omega⟩
 rw [ByteArray.extract_append_extract]
 have:n≤s.size:=by omega
 simp [this]
theorem byt_put (a t:ByteArray):bytV (a++t) a.size=a∧bytT (a++t) a.size=t∧hasB (a++t) a.size=true:=by
 have hh:hasB (a++t) a.size=true:=decide_eq_true (by rw [ByteArray.size_append];omega)
 unfold bytV bytT
 rw [if_pos hh,if_pos hh,Int.toNat_natCast]
 exact ⟨extract_left a t,extract_right a t,hh⟩
theorem hasFB (s:ByteArray) (k:Nat) (hk:k≤8):hasF s k=hasB s k:=by
 unfold hasF hasB
 rw [decide_eq_decide]
 omega
theorem fixBT (s:ByteArray) (k:Nat) (hk:k≤8):fixT s k=bytT s k:=by
 unfold fixT bytT
 rw [hasFB s k hk]
theorem fixV_lt1 (s:ByteArray):fixV s 1<256:=by
 unfold fixV
 split
 ·have h:=be_take_lt (nums s) (nums_getD_lt s) 1
  exact h
 ·omega
theorem fixT_size (s:ByteArray) (k:Int):(fixT s k).size≤s.size:=by
 unfold fixT
 split
 ·rw [ByteArray.size_extract];omega
 ·exact Nat.zero_le _
theorem bytT_size (s:ByteArray) (k:Int):(bytT s k).size≤s.size:=by
 unfold bytT
 split
 ·rw [ByteArray.size_extract];omega
 ·exact Nat.zero_le _
end Vi
open Vi
def sealB (h b:ByteArray):ByteArray:=fxB (Crc.moreB (Crc.moreB 0 h) b) 4
def lenB (v:Int) (n:Nat):ByteArray:=if v=1 then fxB n 4 else putB n
def hdF (v:Int) (n:Nat):ByteArray:=fxB (160+v).toNat 1++lenB v n
def pack (v:Int) (b:ByteArray):ByteArray:=hdF v b.size++sealB (hdF v b.size) b++b
def pkO (v:Int) (b:ByteArray):Bool:=(decide (v=1)||decide (v=2))&&decide (b.size≤1048576)
def pkS (v:Int) (b:ByteArray):ByteArray:=if pkO v b then pack v b else ⟨#[]⟩
theorem seal_size (h b:ByteArray):(sealB h b).size=4:=fxB_size _ 4 (by omega)
def nV (s:ByteArray):Int:=(fixV s 1:Int)-160
def nM (s:ByteArray):Nat:=if nV s=1 then fixV (fixT s 1) 4 else varV (fixT s 1)
def nT (s:ByteArray):ByteArray:=if nV s=1 then fixT (fixT s 1) 4 else varT (fixT s 1)
def nO2 (s:ByteArray):Bool:=hasF s 1&&(if nV s=1 then hasF (fixT s 1) 4 else varO (fixT s 1))
def nHd (s:ByteArray):ByteArray:=s.extract 0 (s.size-(nT s).size)
def nS (s:ByteArray):ByteArray:=bytV (nT s) 4
def nU (s:ByteArray):ByteArray:=bytT (nT s) 4
def nBd (s:ByteArray):ByteArray:=bytV (nU s) (nM s)
def nW (s:ByteArray):ByteArray:=bytT (nU s) (nM s)
def nR (s:ByteArray):Bool:=nO2 s&&hasB (nT s) 4&&hasB (nU s) (nM s)
def nOk (s:ByteArray):Bool:=(decide (nV s=1)||decide (nV s=2))&&(decide (nM s≤1048576)&&(nR s&&((nS s).toList==(sealB (nHd s) (nBd s)).toList)))
def nxV (s:ByteArray):Int:=if nOk s then nV s else 0
def nxB (s:ByteArray):ByteArray:=if nOk s then nBd s else ⟨#[]⟩
def nxN (s:ByteArray):Int:=if nOk s then (s.size:Int)-(nW s).size else 0
theorem beq_iff (a b:ByteArray):(a.toList==b.toList)=true↔a=b:=by
 rw [beq_nums,decide_eq_true_iff]
 exact ⟨nums_inj,fun h=>by rw [h]⟩
theorem len_pre {v:Int} (hv:v=1∨v=2) (n:Nat) (hn:n≤1048576) (t:ByteArray) :
 (if v=1 then fixV (lenB v n++t) 4 else varV (lenB v n++t))=n∧(if v=1 then fixT (lenB v n++t) 4 else varT (lenB v n++t))=t∧(if v=1 then hasF (lenB v n++t) 4 else varO (lenB v n++t))=true:=by
 unfold lenB
 rcases hv with rfl|rfl
 ·obtain ⟨h1,h2,h3⟩:=fix_put n 4 (by omega) t
  simp only [if_true]
  refine ⟨?_,h2,h3⟩
  refine h1.trans ?_
  have e:(256:Nat) ^ 4=4294967296:=by decide
  rw [e];omega
 ·obtain ⟨h1,h2,h3⟩:=var_put n (by omega) t
  simp only [show ¬ ((2:Int)=1) by decide,if_false]
  exact ⟨h1,h2,h3⟩
theorem hd_read {v:Int} (hv:v=1∨v=2) (n:Nat) (hn:n≤1048576) (t:ByteArray) :
 nV (hdF v n++t)=v∧nM (hdF v n++t)=n∧nT (hdF v n++t)=t∧nO2 (hdF v n++t)=true∧nHd (hdF v n++t)=hdF v n:=by
 have e:hdF v n++t=fxB (160+v).toNat 1++(lenB v n++t):=by unfold hdF;rw [append_assoc3]
 obtain ⟨h1,h2,h3⟩:=fix_put (160+v).toNat 1 (by omega) (lenB v n++t)
 obtain ⟨l1,l2,l3⟩:=len_pre hv n hn t
 have e2:(256:Nat) ^ 1=256:=by decide
 rw [e2] at h1
 have kV:nV (hdF v n++t)=v:=by
  unfold nV
  rw [e]
  have h1':fixV (fxB (160+v).toNat 1++(lenB v n++t)) 1=(160+v).toNat % 256:=h1
  rw [h1']
  omega
 have kF:fixT (hdF v n++t) 1=lenB v n++t:=by rw [e];exact h2
 have kH:hasF (hdF v n++t) 1=true:=by rw [e];exact h3
 have kT:nT (hdF v n++t)=t:=by unfold nT;rw [kV,kF];exact l2
 refine ⟨kV,?_,kT,?_,?_⟩
 ·unfold nM;rw [kV,kF];exact l1
 ·unfold nO2;rw [kV,kF,kH,l3];rfl
 ·unfold nHd
  rw [kT,ByteArray.size_append,Nat.add_sub_cancel]
  exact extract_left _ _
theorem ext_of {s A B:ByteArray} (h:s=A++B):s.extract 0 A.size=A:=by rw [h];exact extract_left A B
theorem hd_sound {s:ByteArray} (hv:nV s=1∨nV s=2) (h:nO2 s=true):s=hdF (nV s) (nM s)++nT s∧nHd s=hdF (nV s) (nM s):=by
 have key:s=hdF (nV s) (nM s)++nT s:=by
  unfold nO2 at h
  rw [Bool.and_eq_true] at h
  have h1:=fix_sound s 1 (by omega) h.1
  have e1:(160+nV s).toNat=fixV s 1:=by unfold nV;omega
  unfold hdF
  rw [append_assoc3,e1]
  have h2:lenB (nV s) (nM s)++nT s=fixT s 1:=by
   have h3:=h.2
   unfold lenB nM nT
   rcases hv with hv|hv
   ·rw [hv] at h3 ⊢
    simp only [if_true] at h3 ⊢
    exact fix_sound _ 4 (by omega) h3
   ·rw [hv] at h3 ⊢
    simp only [show ¬ ((2:Int)=1) by decide,if_false] at h3 ⊢
    exact var_sound _ h3
  rw [h2]
  exact h1.symm
 refine ⟨key,?_⟩
 have hz:=congrArg ByteArray.size key
 rw [ByteArray.size_append] at hz
 unfold nHd
 have e3:s.size-(nT s).size=(hdF (nV s) (nM s)).size:=by omega
 rw [e3]
 exact ext_of key
theorem nOk_pack {v:Int} {b:ByteArray} (h:pkO v b=true) (t:ByteArray) :
 nOk (pack v b++t)=true∧nV (pack v b++t)=v∧nBd (pack v b++t)=b∧nW (pack v b++t)=t:=by
 unfold pkO at h
 simp only [Bool.and_eq_true,Bool.or_eq_true,decide_eq_true_eq] at h
 obtain ⟨hv,hb⟩:=h
 have e:pack v b++t=hdF v b.size++(sealB (hdF v b.size) b++(b++t)):=by unfold pack;simp only [append_assoc3]
 obtain ⟨h1,h2,h3,h4,h5⟩:=hd_read hv b.size hb (sealB (hdF v b.size) b++(b++t))
 rw [←e] at h1 h2 h3 h4 h5
 have hz:=seal_size (hdF v b.size) b
 have hp:=byt_put (sealB (hdF v b.size) b) (b++t)
 rw [hz] at hp
 obtain ⟨p1,p2,p3⟩:=hp
 obtain ⟨q1,q2,q3⟩:=byt_put b t
 have kS:nS (pack v b++t)=sealB (hdF v b.size) b:=by unfold nS;rw [h3];exact p1
 have kU:nU (pack v b++t)=b++t:=by unfold nU;rw [h3];exact p2
 have kB:nBd (pack v b++t)=b:=by unfold nBd;rw [kU,h2];exact q1
 have kW:nW (pack v b++t)=t:=by unfold nW;rw [kU,h2];exact q2
 refine ⟨?_,h1,kB,kW⟩
 have c1:(decide (nV (pack v b++t)=1)||decide (nV (pack v b++t)=2))=true:=by
  rw [h1]
  rcases hv with rfl|rfl<;>rfl
 have c2:decide (nM (pack v b++t)≤1048576)=true:=by rw [h2];exact decide_eq_true hb
 have c3:nR (pack v b++t)=true:=by
  unfold nR
  rw [h4,kU,h2,q3,h3]
  have p3':hasB (sealB (hdF v b.size) b++(b++t)) 4=true:=p3
  rw [p3']
  rfl
 have c4:((nS (pack v b++t)).toList==(sealB (nHd (pack v b++t)) (nBd (pack v b++t))).toList)=true:=by
  rw [beq_iff,kS,h5,kB]
 unfold nOk
 rw [c1,c2,c3,c4]
 rfl
theorem nOk_sound {s:ByteArray} (h:nOk s=true):pkO (nV s) (nBd s)=true∧s=pack (nV s) (nBd s)++nW s∧(nBd s).size=nM s:=by
 unfold nOk nR at h
 simp only [Bool.and_eq_true,Bool.or_eq_true,decide_eq_true_eq] at h
 obtain ⟨hv,hm,⟨⟨h1,h2⟩,h3⟩,h4⟩:=h
 rw [beq_iff] at h4
 obtain ⟨k1,k2⟩:=hd_sound hv h1
 have b1:=bytVT (nT s) 4 h2
 have b2:=bytVT (nU s) (nM s) h3
 have hz:(nBd s).size=nM s:=b2.2
 refine ⟨?_,?_,hz⟩
 ·unfold pkO
  rw [hz]
  simp only [Bool.and_eq_true,Bool.or_eq_true,decide_eq_true_eq]
  exact ⟨hv,hm⟩
 ·unfold pack
  rw [hz,←k2,←h4]
  have e1:nBd s++nW s=nU s:=b2.1
  have e2:nS s++nU s=nT s:=b1.1
  simp only [append_assoc3]
  rw [e1,e2,k2]
  exact k1
theorem nxN_eq {s:ByteArray} (h:nOk s=true):(s.size:Int)-(nW s).size=(pack (nV s) (nBd s)).size:=by
 have h1:=congrArg ByteArray.size (nOk_sound h).2.1
 rw [ByteArray.size_append] at h1
 omega
theorem hdF_size (v:Int) (n:Nat) (hn:n<18446744073709551616):(hdF v n).size≤11:=by
 unfold hdF lenB
 rw [ByteArray.size_append]
 have h1:=fxB_size (160+v).toNat 1 (by omega)
 have h1':(fxB (160+v).toNat 1).size=1:=h1
 split
 ·have h2:=fxB_size n 4 (by omega)
  have h2':(fxB n 4).size=4:=h2
  omega
 ·have h2:=_root_.Go.Proofs.YtnobeoppffoomaaGreat.putB_size n hn
  omega
theorem pkS_size (v:Int) (b:ByteArray):(pkS v b).size≤1048600:=by
 unfold pkS
 split
 ·rename_i h
  unfold pkO at h
  simp only [Bool.and_eq_true,Bool.or_eq_true,decide_eq_true_eq] at h
  unfold pack
  rw [ByteArray.size_append,ByteArray.size_append,seal_size]
  have:=hdF_size v b.size (by omega)
  omega
 ·exact Nat.zero_le _
def rOkF (s:ByteArray):Bool:=decide (nM s≤(nU s).size)&&(nR s&&(pkO (nV s) (nBd s)&&(decide ((pack (nV s) (nBd s)).size≤s.size)&&((s.extract 0 (pack (nV s) (nBd s)).size).toList==(pack (nV s) (nBd s)).toList))))
theorem rOkF_eq (s:ByteArray):rOkF s=nOk s:=by
 cases hn:nOk s with
 | true =>
   obtain ⟨h1,h2,h3⟩:=nOk_sound hn
   have hr:nR s=true:=by
    unfold nOk at hn
    simp only [Bool.and_eq_true] at hn
    exact hn.2.2.1
   have hm:nM s≤(nU s).size:=by
    have hr2:=hr
    unfold nR at hr2
    simp only [Bool.and_eq_true] at hr2
    have:=hr2.2
    have hh:0≤((nM s:Nat):Int)∧((nM s:Nat):Int)≤(nU s).size:=of_decide_eq_true this
    omega
   have hs:(pack (nV s) (nBd s)).size≤s.size:=by
    have:=congrArg ByteArray.size h2
    rw [ByteArray.size_append] at this
    omega
   have he:((s.extract 0 (pack (nV s) (nBd s)).size).toList==(pack (nV s) (nBd s)).toList)=true:=by
    rw [beq_iff]
    exact ext_of h2
   unfold rOkF
   rw [decide_eq_true hm,hr,h1,decide_eq_true hs,he]
   rfl
 | false =>
   cases hr:rOkF s with
   | false=>rfl
   | true =>
     exfalso
     unfold rOkF at hr
     simp only [Bool.and_eq_true,decide_eq_true_eq] at hr
     obtain ⟨h0,h1,h2,h3,h4⟩:=hr
     rw [beq_iff] at h4
     have e:s=pack (nV s) (nBd s)++s.extract (pack (nV s) (nBd s)).size s.size:=by
      conv=>rhs;arg 1;rw [←h4]
      rw [ByteArray.extract_append_extract]
      simp [h3]
     have hh:=(nOk_pack h2 (s.extract (pack (nV s) (nBd s)).size s.size)).1
     rw [←e,hn] at hh
     cases hh
end Go.Proofs.YtnobeoppffoomaaGreat
