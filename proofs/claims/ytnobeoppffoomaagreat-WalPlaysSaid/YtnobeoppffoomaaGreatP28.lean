/-
  WalPlays: DSRef DSTake DSLe.
  Conditions: named in each theorem.
-/
import Derived.Test.YtnobeoppffoomaaGreatP27
import Derived.Test.YtnobeoppffoomaaGreatP13
import Derived.Test.YtnobeoppffoomaaGreatP0
set_option linter.unusedVariables false
set_option linter.unusedSimpArgs false
set_option maxHeartbeats 8000000
set_option maxRecDepth 100000
namespace Go.Proofs.YtnobeoppffoomaaGreat.D
open Go.RowKit
open Vi
def rdn (t:Nat) (P:ByteArray):ByteArray:=if P.size=0 then ⟨#[]⟩ else putB t++P
theorem rdn_le (t:Nat) (P:ByteArray) (ht:t<12) (h:P.size≤74):(rdn t P).size≤84:=by
 unfold rdn
 split
 ·exact Nat.zero_le _
 ·rw [ByteArray.size_append]
  have:=putB_le t (by omega)
  omega
section
set_option maxRecDepth 100000
set_option maxHeartbeats 1000000
theorem rnumber_any (t n:Nat) (w:World) (ht:t<12) (hn:n<18446744073709551616) :
 Calls Tryz.prog 114 #[.int .u64 t,.int .u64 n] w fun e w'=>e=.returned (.string (rdn t (nb n)))∧Below w.heap.size w w':=by
 by_cases h0:n=0
 ·subst h0
  have e0:rdn t (nb ((0:Nat):Int))=⟨#[]⟩:=rfl
  rw [e0]
  clear e0
  go_enter Tryz.func114,Tryz.ntmps114
  go_wp2
  go_ret
  exact ⟨rfl,Below.refl _ _⟩
 ·have e0:rdn t (nb (n:Int))=putB t++putB n:=by
   have e1:nb (n:Int)=putB n:=by unfold nb;rw [if_neg (by omega),Int.toNat_natCast]
   have:=putB_pos_b n
   unfold rdn
   rw [e1,if_neg (by omega)]
  have e1:((n:Int)==0)=false:=by simp;omega
  have k1:=putB_le t (by omega)
  have k2:=putB_le n hn
  have K1:=zh (fun W=>rput_any t W (by omega))
  have K2:=zh (fun W=>rput_any n W hn)
  rw [e0]
  clear e0 h0 hn ht
  have hsz:¬ 9223372036854775807<(putB t).size+(putB n).size:=by omega
  go_enter Tryz.func114,Tryz.ntmps114
  go_wp2_with fail
  refine (K1.out _).mono ?_
  rintro e w1 ⟨rfl,b1⟩
  go_wp2_with fail
  refine (K2.out _).mono ?_
  rintro e w2 ⟨rfl,b2⟩
  go_wp2
  go_ret
  exact ⟨rfl,b1.trans (b2.mono b1.size)⟩
theorem rtext2_any (t:Nat) (d:ByteArray) (w:World) (ht:t<12) (hd:d.size≤64) :
 Calls Tryz.prog 115 #[.int .u64 t,.string d] w fun e w'=>e=.returned (.string (rdn t (tb d)))∧Below w.heap.size w w':=by
 by_cases h0:d.size=0
 ·have hde:=(size0 d).1 h0
  subst hde
  have e0:rdn t (tb ⟨#[]⟩)=⟨#[]⟩:=rfl
  rw [e0]
  clear e0 h0
  go_enter Tryz.func115,Tryz.ntmps115
  go_wp2
  go_ret
  exact ⟨rfl,Below.refl _ _⟩
 ·have e0:rdn t (tb d)=putB t++(putB d.size++d):=by
   have e1:tb d=putB d.size++d:=by unfold tb;rw [if_neg h0]
   have:=putB_pos_b d.size
   unfold rdn
   rw [e1,if_neg (by rw [ByteArray.size_append];omega)]
  have h2:¬ d=ByteArray.empty:=fun e=>h0 (by rw [e];rfl)
  have h3:¬ d.toList=[]:=by
   rw [Lib.toList_data]
   intro e
   have:=congrArg List.length e
   exact h0 (by simpa using this)
  have h6:d.toList.isEmpty=false:=by
   cases hq:d.toList with
   | nil=>exact absurd hq h3
   | cons a l=>rfl
  have k1:=putB_le t (by omega)
  have k2:=putB_le d.size (by omega)
  have K1:=zh (fun W=>rput_any t W (by omega))
  have K2:=zh (fun W=>rtext_any d W (by omega))
  rw [e0]
  clear e0 h0 ht
  have hsz:¬ 9223372036854775807<(putB t).size+(putB d.size++d).size:=by rw [ByteArray.size_append];omega
  have hsz2:¬ 9223372036854775807<(putB t).size+((putB d.size).size+d.size):=by omega
  go_enter Tryz.func115,Tryz.ntmps115
  go_wp2_with fail
  refine (K1.out _).mono ?_
  rintro e w1 ⟨rfl,b1⟩
  go_wp2_with fail
  refine (K2.out _).mono ?_
  rintro e w2 ⟨rfl,b2⟩
  go_wp2
  go_ret
  exact ⟨rfl,b1.trans (b2.mono b1.size)⟩
end
structure Bq (w0:World) (e:En) (w:World):Prop where
 k:w.heap[w0.heap.size]?=some (.cells (ec e) 28 (0,0))
 be:Below w0.heap.size w0 w
theorem Bq.on {w0 w w1:World} {e:En} (h:Bq w0 e w) (hb:Below w.heap.size w w1):Bq w0 e w1 :=
 ⟨(hb.block _ (zgx h.k)).trans h.k,h.be.trans (hb.mono h.be.size)⟩
theorem Bq.all {w w':World} {e:En} (h:Bq w e w'):Bq w e w'∧w'.cell? ⟨w.heap.size,0,none⟩=some (.int .u64 e.term)∧w'.cell? ⟨w.heap.size,1,none⟩=some (.int .u64 e.index)∧w'.cell? ⟨w.heap.size,2,none⟩=some (.int .i64 e.kind)∧w'.cell? ⟨w.heap.size,3,none⟩=some (.int .u64 e.client)∧w'.cell? ⟨w.heap.size,4,none⟩=some (.int .u64 e.seq)∧w'.cell? ⟨w.heap.size,5,none⟩=some (.int .u64 e.block)∧w'.cell? ⟨w.heap.size,6,none⟩=some (.int .u64 e.many)∧w'.cell? ⟨w.heap.size,7,none⟩=some (.int .i64 e.node)∧w'.cell? ⟨w.heap.size,8,none⟩=some (.int .i64 e.level)∧w'.cell? ⟨w.heap.size,9,none⟩=some (.string e.data)∧w'.cell? ⟨w.heap.size,10,none⟩=some (.string e.old) :=
 ⟨h,zcr w' _ 0 _ 28 (0,0) h.k,zcr w' _ 1 _ 28 (0,0) h.k,zcr w' _ 2 _ 28 (0,0) h.k,zcr w' _ 3 _ 28 (0,0) h.k,zcr w' _ 4 _ 28 (0,0) h.k,zcr w' _ 5 _ 28 (0,0) h.k,zcr w' _ 6 _ 28 (0,0) h.k,zcr w' _ 7 _ 28 (0,0) h.k,zcr w' _ 8 _ 28 (0,0) h.k,zcr w' _ 9 _ 28 (0,0) h.k,zcr w' _ 10 _ 28 (0,0) h.k⟩
theorem sbE_eq (e:En):sbE e=rdn 1 (nb e.kind)++rdn 2 (nb e.term)++rdn 3 (nb e.index)++rdn 4 (nb e.client)++rdn 5 (nb e.seq)++rdn 6 (nb e.block)++rdn 7 (nb e.many)++rdn 8 (nb e.node)++rdn 9 (nb e.level)++rdn 10 (tb e.data)++rdn 11 (tb e.old)++⟨#[0]⟩:=by
 have h0:putB 0=⟨#[0]⟩:=by unfold putB;rw [put_small 0 (by omega)];rfl
 unfold sbE secB
 rw [h0]
 have hs:∀ k,secU eF e (k+1)=secU eF e k++rdn (k+1) (fP (k+1) e):=fun k=>rfl
 have h00:secU eF e 0=⟨#[]⟩:=rfl
 rw [hs 10,hs 9,hs 8,hs 7,hs 6,hs 5,hs 4,hs 3,hs 2,hs 1,hs 0,h00,empty_app_b]
 rfl
theorem rputE_any (e:En) (w:World) (ok:e.Ok) :
 Calls Tryz.prog 84 #[ev e] w fun q w'=>q=.returned (.tuple #[.string (putS_b e),.bool (rightB e)])∧Below w.heap.size w w':=by
 obtain ⟨W0,hW0⟩:∃ W0,W0=w.alloc (Obj.cells (ec e) 28):=⟨_,rfl⟩
 have S0:Bq w e W0:=by
  rw [hW0]
  exact ⟨heap_alloc_new w _,(Below.refl _ _).alloc (Nat.le_refl _) _⟩
 have KR:=zh (fun (W:World) (h:Bq w e W)=>(rright_any e W ok).mono fun q w' ⟨h1,h2⟩=>And.intro h1 (h.on h2).all)
 have HW:=zh hW0
 have HP:Hid (putS_b e=if rightB e then sbE e else ⟨#[]⟩):=rfl
 have S1:=zh S0
 clear hW0 S0
 obtain ⟨rb,hrb⟩:∃ rb,rb=rightB e:=⟨_,rfl⟩
 rw [←hrb] at KR HP ⊢
 cases rb with
 | false =>
   have HE:Hid (putS_b e=⟨#[]⟩):=HP.out
   clear hrb
   go_enter Tryz.func84,Tryz.ntmps84
   go_wp2_with fail
   rw [←HW.out]
   refine (KR.out _ S1.out).mono ?_
   rintro q w1 ⟨rfl,T,_⟩
   go_wp2
   go_ret2
   exact ⟨ret_pair_b HE.out.symm rfl,T.be⟩
 | true =>
   have HE:Hid (putS_b e=sbE e):=HP.out
   have fw:=few_of_b ok hrb.symm
   obtain ⟨a1,a2,a3,a4,a5,a6,a7,a8,a9,a10,a11⟩:=e_bounds ok fw
   have l1:=rdn_le 1 (nb e.kind) (by omega) (fP_le ok fw 1)
   have l2:=rdn_le 2 (nb e.term) (by omega) (fP_le ok fw 2)
   have l3:=rdn_le 3 (nb e.index) (by omega) (fP_le ok fw 3)
   have l4:=rdn_le 4 (nb e.client) (by omega) (fP_le ok fw 4)
   have l5:=rdn_le 5 (nb e.seq) (by omega) (fP_le ok fw 5)
   have l6:=rdn_le 6 (nb e.block) (by omega) (fP_le ok fw 6)
   have l7:=rdn_le 7 (nb e.many) (by omega) (fP_le ok fw 7)
   have l8:=rdn_le 8 (nb e.node) (by omega) (fP_le ok fw 8)
   have l9:=rdn_le 9 (nb e.level) (by omega) (fP_le ok fw 9)
   have l10:=rdn_le 10 (tb e.data) (by omega) (fP_le ok fw 10)
   have l11:=rdn_le 11 (tb e.old) (by omega) (fP_le ok fw 11)
   have y1:¬ 9223372036854775807<(rdn 1 (nb e.kind)).size+(rdn 2 (nb e.term)).size:=by omega
   have y2:¬ 9223372036854775807<(rdn 1 (nb e.kind)).size+(rdn 2 (nb e.term)).size+(rdn 3 (nb e.index)).size:=by omega
   have y3:¬ 9223372036854775807<(rdn 1 (nb e.kind)).size+(rdn 2 (nb e.term)).size+(rdn 3 (nb e.index)).size+(rdn 4 (nb e.client)).size:=by omega
   have y4:¬ 9223372036854775807<(rdn 1 (nb e.kind)).size+(rdn 2 (nb e.term)).size+(rdn 3 (nb e.index)).size+(rdn 4 (nb e.client)).size+(rdn 5 (nb e.seq)).size:=by omega
   have y5:¬ 9223372036854775807<(rdn 1 (nb e.kind)).size+(rdn 2 (nb e.term)).size+(rdn 3 (nb e.index)).size+(rdn 4 (nb e.client)).size+(rdn 5 (nb e.seq)).size+(rdn 6 (nb e.block)).size:=by omega
   have y6:¬ 9223372036854775807<(rdn 1 (nb e.kind)).size+(rdn 2 (nb e.term)).size+(rdn 3 (nb e.index)).size+(rdn 4 (nb e.client)).size+(rdn 5 (nb e.seq)).size+(rdn 6 (nb e.block)).size+(rdn 7 (nb e.many)).size:=by omega
   have y7:¬ 9223372036854775807<(rdn 1 (nb e.kind)).size+(rdn 2 (nb e.term)).size+(rdn 3 (nb e.index)).size+(rdn 4 (nb e.client)).size+(rdn 5 (nb e.seq)).size+(rdn 6 (nb e.block)).size+(rdn 7 (nb e.many)).size+(rdn 8 (nb e.node)).size:=by omega
   have y8:¬ 9223372036854775807<(rdn 1 (nb e.kind)).size+(rdn 2 (nb e.term)).size+(rdn 3 (nb e.index)).size+(rdn 4 (nb e.client)).size+(rdn 5 (nb e.seq)).size+(rdn 6 (nb e.block)).size+(rdn 7 (nb e.many)).size+(rdn 8 (nb e.node)).size+(rdn 9 (nb e.level)).size:=by omega
   have y9:¬ 9223372036854775807<(rdn 1 (nb e.kind)).size+(rdn 2 (nb e.term)).size+(rdn 3 (nb e.index)).size+(rdn 4 (nb e.client)).size+(rdn 5 (nb e.seq)).size+(rdn 6 (nb e.block)).size+(rdn 7 (nb e.many)).size+(rdn 8 (nb e.node)).size+(rdn 9 (nb e.level)).size+(rdn 10 (tb e.data)).size:=by omega
   have y10:¬ 9223372036854775807<(rdn 1 (nb e.kind)).size+(rdn 2 (nb e.term)).size+(rdn 3 (nb e.index)).size+(rdn 4 (nb e.client)).size+(rdn 5 (nb e.seq)).size+(rdn 6 (nb e.block)).size+(rdn 7 (nb e.many)).size+(rdn 8 (nb e.node)).size+(rdn 9 (nb e.level)).size+(rdn 10 (tb e.data)).size+(rdn 11 (tb e.old)).size:=by omega
   have y11:¬ 9223372036854775807<(rdn 1 (nb e.kind)).size+(rdn 2 (nb e.term)).size+(rdn 3 (nb e.index)).size+(rdn 4 (nb e.client)).size+(rdn 5 (nb e.seq)).size+(rdn 6 (nb e.block)).size+(rdn 7 (nb e.many)).size+(rdn 8 (nb e.node)).size+(rdn 9 (nb e.level)).size+(rdn 10 (tb e.data)).size+(rdn 11 (tb e.old)).size+1:=by omega
   have hk1:IntKind.u64.wrap e.kind=e.kind:=IntWalk.u64_in _ (by omega)
   have hk2:IntKind.u64.wrap e.node=e.node:=IntWalk.u64_in _ (by omega)
   have hk3:IntKind.u64.wrap e.level=e.level:=IntWalk.u64_in _ (by omega)
   have KN:Hid (∀ (t:Nat) (tt v:Int) (W:World),tt=(t:Int)→t<12→(0≤v∧v≤18446744073709551615)→Bq w e W→Calls Tryz.prog 114 #[.int .u64 tt,.int .u64 v] W fun q w'=>q=.returned (.string (rdn t (nb v)))∧Bq w e w'∧w'.cell? ⟨w.heap.size,0,none⟩=some (.int .u64 e.term)∧w'.cell? ⟨w.heap.size,1,none⟩=some (.int .u64 e.index)∧w'.cell? ⟨w.heap.size,2,none⟩=some (.int .i64 e.kind)∧w'.cell? ⟨w.heap.size,3,none⟩=some (.int .u64 e.client)∧w'.cell? ⟨w.heap.size,4,none⟩=some (.int .u64 e.seq)∧w'.cell? ⟨w.heap.size,5,none⟩=some (.int .u64 e.block)∧w'.cell? ⟨w.heap.size,6,none⟩=some (.int .u64 e.many)∧w'.cell? ⟨w.heap.size,7,none⟩=some (.int .i64 e.node)∧w'.cell? ⟨w.heap.size,8,none⟩=some (.int .i64 e.level)∧w'.cell? ⟨w.heap.size,9,none⟩=some (.string e.data)∧w'.cell? ⟨w.heap.size,10,none⟩=some (.string e.old)):=by
    intro t tt v W htt ht hv hW
    subst htt
    obtain ⟨n,rfl⟩:=Int.eq_ofNat_of_zero_le hv.1
    exact (rnumber_any t n W ht (by omega)).mono fun q w' ⟨h1,h2⟩=>⟨h1,(hW.on h2).all⟩
   have KT:Hid (∀ (t:Nat) (tt:Int) (d:ByteArray) (W:World),tt=(t:Int)→t<12→d.size≤64→Bq w e W→Calls Tryz.prog 115 #[.int .u64 tt,.string d] W fun q w'=>q=.returned (.string (rdn t (tb d)))∧Bq w e w'∧w'.cell? ⟨w.heap.size,0,none⟩=some (.int .u64 e.term)∧w'.cell? ⟨w.heap.size,1,none⟩=some (.int .u64 e.index)∧w'.cell? ⟨w.heap.size,2,none⟩=some (.int .i64 e.kind)∧w'.cell? ⟨w.heap.size,3,none⟩=some (.int .u64 e.client)∧w'.cell? ⟨w.heap.size,4,none⟩=some (.int .u64 e.seq)∧w'.cell? ⟨w.heap.size,5,none⟩=some (.int .u64 e.block)∧w'.cell? ⟨w.heap.size,6,none⟩=some (.int .u64 e.many)∧w'.cell? ⟨w.heap.size,7,none⟩=some (.int .i64 e.node)∧w'.cell? ⟨w.heap.size,8,none⟩=some (.int .i64 e.level)∧w'.cell? ⟨w.heap.size,9,none⟩=some (.string e.data)∧w'.cell? ⟨w.heap.size,10,none⟩=some (.string e.old)):=fun t tt d W htt ht hd hW=>htt▸(rtext2_any t d W ht hd).mono fun q w' ⟨h1,h2⟩=>⟨h1,(hW.on h2).all⟩
   clear HP hrb fw l1 l2 l3 l4 l5 l6 l7 l8 l9 l10 l11
   have q1:0≤e.kind∧e.kind≤18446744073709551615:=by omega
   have q8:0≤e.node∧e.node≤18446744073709551615:=by omega
   have q9:0≤e.level∧e.level≤18446744073709551615:=by omega
   clear a1 a8 a9
   go_enter Tryz.func84,Tryz.ntmps84
   go_wp2_with fail
   rw [←HW.out]
   refine (KR.out _ S1.out).mono ?_
   rintro q w1 ⟨rfl,T,d0,d1,d2,d3,d4,d5,d6,d7,d8,d9,d10⟩
   go_upto_region 4 with fail
   have Td:Bq w e w1.drew:=T.on (Below.refl _ w1).drew
   clear KR S1
   go_region_held3 (fun w'=>w'.cell? ⟨w.heap.size,0,none⟩=some (.int .u64 e.term)∧w'.cell? ⟨w.heap.size,1,none⟩=some (.int .u64 e.index)∧w'.cell? ⟨w.heap.size,2,none⟩=some (.int .i64 e.kind)∧w'.cell? ⟨w.heap.size,3,none⟩=some (.int .u64 e.client)∧w'.cell? ⟨w.heap.size,4,none⟩=some (.int .u64 e.seq)∧w'.cell? ⟨w.heap.size,5,none⟩=some (.int .u64 e.block)∧w'.cell? ⟨w.heap.size,6,none⟩=some (.int .u64 e.many)∧w'.cell? ⟨w.heap.size,7,none⟩=some (.int .i64 e.node)∧w'.cell? ⟨w.heap.size,8,none⟩=some (.int .i64 e.level)∧w'.cell? ⟨w.heap.size,9,none⟩=some (.string e.data)∧w'.cell? ⟨w.heap.size,10,none⟩=some (.string e.old)) (first|exact ⟨d0,d1,d2,d3,d4,d5,d6,d7,d8,d9,d10⟩|(refine ⟨?_,?_,?_,?_,?_,?_,?_,?_,?_,?_,?_⟩<;>assumption)) (first
    | (go_at_call 114;(with_reducible refine (KN.out 1 1 e.kind _ (by decide) (by decide) q1 Td).mono ?_);rintro q x1 ⟨rfl,X1,x1_0,x1_1,x1_2,x1_3,x1_4,x1_5,x1_6,x1_7,x1_8,x1_9,x1_10⟩)
    | (go_at_call 114;(with_reducible refine (KN.out 2 2 e.term _ (by decide) (by decide) a2 X1).mono ?_);rintro q x2 ⟨rfl,X2,x2_0,x2_1,x2_2,x2_3,x2_4,x2_5,x2_6,x2_7,x2_8,x2_9,x2_10⟩)
    | (go_at_call 114;(with_reducible refine (KN.out 3 3 e.index _ (by decide) (by decide) a3 X2).mono ?_);rintro q x3 ⟨rfl,X3,x3_0,x3_1,x3_2,x3_3,x3_4,x3_5,x3_6,x3_7,x3_8,x3_9,x3_10⟩)
    | (go_at_call 114;(with_reducible refine (KN.out 4 4 e.client _ (by decide) (by decide) a4 X3).mono ?_);rintro q x4 ⟨rfl,X4,x4_0,x4_1,x4_2,x4_3,x4_4,x4_5,x4_6,x4_7,x4_8,x4_9,x4_10⟩)
    | (go_at_call 114;(with_reducible refine (KN.out 5 5 e.seq _ (by decide) (by decide) a5 X4).mono ?_);rintro q x5 ⟨rfl,X5,x5_0,x5_1,x5_2,x5_3,x5_4,x5_5,x5_6,x5_7,x5_8,x5_9,x5_10⟩)
    | (go_at_call 114;(with_reducible refine (KN.out 6 6 e.block _ (by decide) (by decide) a6 X5).mono ?_);rintro q x6 ⟨rfl,X6,x6_0,x6_1,x6_2,x6_3,x6_4,x6_5,x6_6,x6_7,x6_8,x6_9,x6_10⟩)
    | (go_at_call 114;(with_reducible refine (KN.out 7 7 e.many _ (by decide) (by decide) a7 X6).mono ?_);rintro q x7 ⟨rfl,X7,x7_0,x7_1,x7_2,x7_3,x7_4,x7_5,x7_6,x7_7,x7_8,x7_9,x7_10⟩)
    | (go_at_call 114;(with_reducible refine (KN.out 8 8 e.node _ (by decide) (by decide) q8 X7).mono ?_);rintro q x8 ⟨rfl,X8,x8_0,x8_1,x8_2,x8_3,x8_4,x8_5,x8_6,x8_7,x8_8,x8_9,x8_10⟩)
    | (go_at_call 114;(with_reducible refine (KN.out 9 9 e.level _ (by decide) (by decide) q9 X8).mono ?_);rintro q x9 ⟨rfl,X9,x9_0,x9_1,x9_2,x9_3,x9_4,x9_5,x9_6,x9_7,x9_8,x9_9,x9_10⟩)
    | (go_at_call 115;(with_reducible refine (KT.out 10 10 e.data _ (by decide) (by decide) a10 X9).mono ?_);rintro q x10 ⟨rfl,X10,x10_0,x10_1,x10_2,x10_3,x10_4,x10_5,x10_6,x10_7,x10_8,x10_9,x10_10⟩)
    | (go_at_call 115;(with_reducible refine (KT.out 11 11 e.old _ (by decide) (by decide) a11 X10).mono ?_);rintro q x11 ⟨rfl,X11,x11_0,x11_1,x11_2,x11_3,x11_4,x11_5,x11_6,x11_7,x11_8,x11_9,x11_10⟩))
   go_wp2_with fail
   go_ret2
   refine ⟨ret_pair_b ?_ rfl,X11.be⟩
   rw [HE.out,sbE_eq]
end Go.Proofs.YtnobeoppffoomaaGreat.D
namespace Go.Proofs.YtnobeoppffoomaaGreat.D
open Go.RowKit
open Vi
structure Tr (w0:World) (g q:Nat) (E:En) (T:ByteArray) (b:Bool) (w:World):Prop where
 hr:Rd 145 g T b w
 al:w.heap[q]?=some (.cells (ec E) 28 (0,0))
 fr:w0.grownBy w (some g)
 lg:g<w0.heap.size
 lq:w0.heap.size≤q
 sz:T.size≤140737488351232
 sn:Vi.Sane T b
section
variable {w0 w w1:World} {g q:Nat} {E E':En} {T T':ByteArray} {b b':Bool}
theorem Tr.call (h:Tr w0 g q E T b w) (hb:Below w.heap.size w w1):Tr w0 g q E T b w1 :=
 ⟨h.hr.below hb h.hr.lt,(hb.block _ (zgx h.al)).trans h.al,gb_below_b h.fr hb,h.lg,h.lq,h.sz,h.sn⟩
theorem Tr.step (h:Tr w0 g q E T b w) (hx:Rd 145 g T' b' w1) (hf:w.grownBy w1 (some g)) (hT:T'.size≤T.size) (hs:Vi.Sane T' b'):Tr w0 g q E T' b' w1:=by
 have h1:=h.lg
 have h2:=h.lq
 exact ⟨hx,(hf.block _ (zgx h.al) (by simp;omega)).trans h.al,h.fr.trans hf,h.lg,h.lq,Nat.le_trans hT h.sz,hs⟩
theorem Tr.cell (h:Tr w0 g q E T b w) (i:Nat):w.cell? ⟨q,i,none⟩=(ec E)[i]?:=zcr w _ i _ 28 (0,0) h.al
theorem Tr.fz (h:Tr w0 g q E T b w) (i:Nat):w.frozen? ⟨q,i,none⟩=false:=Lib.frozen_of_heap h.al i
theorem Tr.set (h:Tr w0 g q E T b w) (i:Nat) (v:Value) (he:(ec E).setIfInBounds i v=ec E'):Tr w0 g q E' T b (w.setCell ⟨q,i,none⟩ v):=by
 have h1:=h.lg
 have h2:=h.lq
 refine ⟨rd_set_b h.hr (by simp;omega),?_,gb_set_b h.fr (by simp;omega),h.lg,h.lq,h.sz,h.sn⟩
 rw [←he];exact set_blk h.al i v
end
section
set_option maxRecDepth 100000
set_option maxHeartbeats 1000000
variable (w0:World) (g q:Nat) (E:En) (T:ByteArray) (b:Bool) (w:World)
theorem tr_var (h:Tr w0 g q E T b w) :
 Calls Tryz.prog 90 #[.pointer (some ⟨g,0,none⟩)] w fun e w'=>e=.returned (.int .u64 (varV T))∧Tr w0 g q E (varT T) (b||!varO T) w' :=
 (rvar_any g T b w h.hr (Nat.le_trans h.sz (by decide))).mono fun e w' ⟨h1,h2,h3⟩=>⟨h1,h.step h2 h3 (varT_size T) (Vi.sane_var _ _ h.sn)⟩
theorem tr_fail (h:Tr w0 g q E T b w) :
 Calls Tryz.prog 121 #[.pointer (some ⟨g,0,none⟩)] w fun e w'=>e=.returned (.tuple #[])∧Tr w0 g q E ⟨#[]⟩ true w' :=
 (rfail_any g T b w h.hr).mono fun e w' ⟨h1,h2,h3⟩=>⟨h1,h.step h2 h3 (Nat.zero_le _) (fun _=>rfl)⟩
theorem tr_tex (h:Tr w0 g q E T b w) :
 Calls Tryz.prog 166 #[.pointer (some ⟨g,0,none⟩)] w fun e w'=>e=.returned (.string (texV T))∧Tr w0 g q E (texT T) (b||!texO T) w' :=
 (rtextr_any g T b w h.hr h.sn (Nat.le_trans h.sz (by decide))).mono fun e w' ⟨h1,h2,h3⟩=>⟨h1,h.step h2 h3 (texT_le T) (Vi.sane_tex _ _ h.sn)⟩
theorem rtake1_any (h:Tr w0 g q E T b w) :
 Calls Tryz.prog 122 #[.pointer (some ⟨g,0,none⟩),.pointer (some ⟨q,0,none⟩),.int .u64 1] w fun e w'=>e=.returned (.tuple #[])∧Tr w0 g q (fR 1 E T).1 (fR 1 E T).2.1 (b||!(fR 1 E T).2.2) w':=by
 have K:=zh (tr_var w0 g q E T b w h)
 have HC:Hid (fR 1 E T=(setR 1 E (varV T),varT T,varO T)):=by show _=_;unfold fR;rw [if_neg (by omega),if_pos (by omega)]
 rw [HC.out]
 have hvl:=varV_lt T
 obtain ⟨n,hn⟩:∃ n,n=varV T:=⟨_,rfl⟩
 rw [←hn] at K hvl ⊢
 have HSET:Hid (∀ T' b' W,Tr w0 g q E T' b' W→Tr w0 g q (setR 1 E n) T' b' (W.setCell ⟨q,2,none⟩ (.int .i64 ((n % 1000:Nat):Int)))):=fun T' b' W hW=>hW.set 2 _ (by simp [setR,setN])
 have e1:IntKind.i64.wrap ((n:Int) % 1000)=((n % 1000:Nat):Int):=by rw [IntWalk.i64_in _ (by omega)];omega
 have e2:(n:Int).tmod 1000=(n:Int) % 1000:=Int.tmod_eq_emod_of_nonneg (by omega)
 clear HC h hn
 go_enter Tryz.func122,Tryz.ntmps122
 go_wp2_with fail
 refine K.out.mono ?_
 rintro e w2 ⟨rfl,h2⟩
 have cq:w2.cell? ⟨q,2,none⟩=some (.int .i64 E.kind):=h2.cell 2
 have fq:=h2.fz 2
 have H2:=zh h2
 clear h2
 go_wp2
 first|go_end0|refine bodyPost_ret (results_none rfl _ _ _) rfl ?_
 exact ⟨rfl,HSET.out _ _ _ H2.out⟩
theorem rtake2_any (h:Tr w0 g q E T b w) :
 Calls Tryz.prog 122 #[.pointer (some ⟨g,0,none⟩),.pointer (some ⟨q,0,none⟩),.int .u64 2] w fun e w'=>e=.returned (.tuple #[])∧Tr w0 g q (fR 2 E T).1 (fR 2 E T).2.1 (b||!(fR 2 E T).2.2) w':=by
 have K:=zh (tr_var w0 g q E T b w h)
 have HC:Hid (fR 2 E T=(setR 2 E (varV T),varT T,varO T)):=by show _=_;unfold fR;rw [if_neg (by omega),if_pos (by omega)]
 rw [HC.out]
 have hvl:=varV_lt T
 obtain ⟨n,hn⟩:∃ n,n=varV T:=⟨_,rfl⟩
 rw [←hn] at K hvl ⊢
 have HSET:Hid (∀ T' b' W,Tr w0 g q E T' b' W→Tr w0 g q (setR 2 E n) T' b' (W.setCell ⟨q,0,none⟩ (.int .u64 ((n:Nat):Int)))):=fun T' b' W hW=>hW.set 0 _ (by simp [setR,setN])
 clear HC h hn
 go_enter Tryz.func122,Tryz.ntmps122
 go_wp2_with fail
 refine K.out.mono ?_
 rintro e w2 ⟨rfl,h2⟩
 have cq:w2.cell? ⟨q,0,none⟩=some (.int .u64 E.term):=h2.cell 0
 have fq:=h2.fz 0
 have H2:=zh h2
 clear h2
 go_wp2
 first|go_end0|refine bodyPost_ret (results_none rfl _ _ _) rfl ?_
 exact ⟨rfl,HSET.out _ _ _ H2.out⟩
theorem rtake3_any (h:Tr w0 g q E T b w) :
 Calls Tryz.prog 122 #[.pointer (some ⟨g,0,none⟩),.pointer (some ⟨q,0,none⟩),.int .u64 3] w fun e w'=>e=.returned (.tuple #[])∧Tr w0 g q (fR 3 E T).1 (fR 3 E T).2.1 (b||!(fR 3 E T).2.2) w':=by
 have K:=zh (tr_var w0 g q E T b w h)
 have HC:Hid (fR 3 E T=(setR 3 E (varV T),varT T,varO T)):=by show _=_;unfold fR;rw [if_neg (by omega),if_pos (by omega)]
 rw [HC.out]
 have hvl:=varV_lt T
 obtain ⟨n,hn⟩:∃ n,n=varV T:=⟨_,rfl⟩
 rw [←hn] at K hvl ⊢
 have HSET:Hid (∀ T' b' W,Tr w0 g q E T' b' W→Tr w0 g q (setR 3 E n) T' b' (W.setCell ⟨q,1,none⟩ (.int .u64 ((n:Nat):Int)))):=fun T' b' W hW=>hW.set 1 _ (by simp [setR,setN])
 clear HC h hn
 go_enter Tryz.func122,Tryz.ntmps122
 go_wp2_with fail
 refine K.out.mono ?_
 rintro e w2 ⟨rfl,h2⟩
 have cq:w2.cell? ⟨q,1,none⟩=some (.int .u64 E.index):=h2.cell 1
 have fq:=h2.fz 1
 have H2:=zh h2
 clear h2
 go_wp2
 first|go_end0|refine bodyPost_ret (results_none rfl _ _ _) rfl ?_
 exact ⟨rfl,HSET.out _ _ _ H2.out⟩
theorem rtake4_any (h:Tr w0 g q E T b w) :
 Calls Tryz.prog 122 #[.pointer (some ⟨g,0,none⟩),.pointer (some ⟨q,0,none⟩),.int .u64 4] w fun e w'=>e=.returned (.tuple #[])∧Tr w0 g q (fR 4 E T).1 (fR 4 E T).2.1 (b||!(fR 4 E T).2.2) w':=by
 have K:=zh (tr_var w0 g q E T b w h)
 have HC:Hid (fR 4 E T=(setR 4 E (varV T),varT T,varO T)):=by show _=_;unfold fR;rw [if_neg (by omega),if_pos (by omega)]
 rw [HC.out]
 have hvl:=varV_lt T
 obtain ⟨n,hn⟩:∃ n,n=varV T:=⟨_,rfl⟩
 rw [←hn] at K hvl ⊢
 have HSET:Hid (∀ T' b' W,Tr w0 g q E T' b' W→Tr w0 g q (setR 4 E n) T' b' (W.setCell ⟨q,3,none⟩ (.int .u64 ((n:Nat):Int)))):=fun T' b' W hW=>hW.set 3 _ (by simp [setR,setN])
 clear HC h hn
 go_enter Tryz.func122,Tryz.ntmps122
 go_wp2_with fail
 refine K.out.mono ?_
 rintro e w2 ⟨rfl,h2⟩
 have cq:w2.cell? ⟨q,3,none⟩=some (.int .u64 E.client):=h2.cell 3
 have fq:=h2.fz 3
 have H2:=zh h2
 clear h2
 go_wp2
 first|go_end0|refine bodyPost_ret (results_none rfl _ _ _) rfl ?_
 exact ⟨rfl,HSET.out _ _ _ H2.out⟩
theorem rtake5_any (h:Tr w0 g q E T b w) :
 Calls Tryz.prog 122 #[.pointer (some ⟨g,0,none⟩),.pointer (some ⟨q,0,none⟩),.int .u64 5] w fun e w'=>e=.returned (.tuple #[])∧Tr w0 g q (fR 5 E T).1 (fR 5 E T).2.1 (b||!(fR 5 E T).2.2) w':=by
 have K:=zh (tr_var w0 g q E T b w h)
 have HC:Hid (fR 5 E T=(setR 5 E (varV T),varT T,varO T)):=by show _=_;unfold fR;rw [if_neg (by omega),if_pos (by omega)]
 rw [HC.out]
 have hvl:=varV_lt T
 obtain ⟨n,hn⟩:∃ n,n=varV T:=⟨_,rfl⟩
 rw [←hn] at K hvl ⊢
 have HSET:Hid (∀ T' b' W,Tr w0 g q E T' b' W→Tr w0 g q (setR 5 E n) T' b' (W.setCell ⟨q,4,none⟩ (.int .u64 ((n:Nat):Int)))):=fun T' b' W hW=>hW.set 4 _ (by simp [setR,setN])
 clear HC h hn
 go_enter Tryz.func122,Tryz.ntmps122
 go_wp2_with fail
 refine K.out.mono ?_
 rintro e w2 ⟨rfl,h2⟩
 have cq:w2.cell? ⟨q,4,none⟩=some (.int .u64 E.seq):=h2.cell 4
 have fq:=h2.fz 4
 have H2:=zh h2
 clear h2
 go_wp2
 first|go_end0|refine bodyPost_ret (results_none rfl _ _ _) rfl ?_
 exact ⟨rfl,HSET.out _ _ _ H2.out⟩
theorem rtake6_any (h:Tr w0 g q E T b w) :
 Calls Tryz.prog 122 #[.pointer (some ⟨g,0,none⟩),.pointer (some ⟨q,0,none⟩),.int .u64 6] w fun e w'=>e=.returned (.tuple #[])∧Tr w0 g q (fR 6 E T).1 (fR 6 E T).2.1 (b||!(fR 6 E T).2.2) w':=by
 have K:=zh (tr_var w0 g q E T b w h)
 have HC:Hid (fR 6 E T=(setR 6 E (varV T),varT T,varO T)):=by show _=_;unfold fR;rw [if_neg (by omega),if_pos (by omega)]
 rw [HC.out]
 have hvl:=varV_lt T
 obtain ⟨n,hn⟩:∃ n,n=varV T:=⟨_,rfl⟩
 rw [←hn] at K hvl ⊢
 have HSET:Hid (∀ T' b' W,Tr w0 g q E T' b' W→Tr w0 g q (setR 6 E n) T' b' (W.setCell ⟨q,5,none⟩ (.int .u64 ((n:Nat):Int)))):=fun T' b' W hW=>hW.set 5 _ (by simp [setR,setN])
 clear HC h hn
 go_enter Tryz.func122,Tryz.ntmps122
 go_wp2_with fail
 refine K.out.mono ?_
 rintro e w2 ⟨rfl,h2⟩
 have cq:w2.cell? ⟨q,5,none⟩=some (.int .u64 E.block):=h2.cell 5
 have fq:=h2.fz 5
 have H2:=zh h2
 clear h2
 go_wp2
 first|go_end0|refine bodyPost_ret (results_none rfl _ _ _) rfl ?_
 exact ⟨rfl,HSET.out _ _ _ H2.out⟩
theorem rtake7_any (h:Tr w0 g q E T b w) :
 Calls Tryz.prog 122 #[.pointer (some ⟨g,0,none⟩),.pointer (some ⟨q,0,none⟩),.int .u64 7] w fun e w'=>e=.returned (.tuple #[])∧Tr w0 g q (fR 7 E T).1 (fR 7 E T).2.1 (b||!(fR 7 E T).2.2) w':=by
 have K:=zh (tr_var w0 g q E T b w h)
 have HC:Hid (fR 7 E T=(setR 7 E (varV T),varT T,varO T)):=by show _=_;unfold fR;rw [if_neg (by omega),if_pos (by omega)]
 rw [HC.out]
 have hvl:=varV_lt T
 obtain ⟨n,hn⟩:∃ n,n=varV T:=⟨_,rfl⟩
 rw [←hn] at K hvl ⊢
 have HSET:Hid (∀ T' b' W,Tr w0 g q E T' b' W→Tr w0 g q (setR 7 E n) T' b' (W.setCell ⟨q,6,none⟩ (.int .u64 ((n:Nat):Int)))):=fun T' b' W hW=>hW.set 6 _ (by simp [setR,setN])
 clear HC h hn
 go_enter Tryz.func122,Tryz.ntmps122
 go_wp2_with fail
 refine K.out.mono ?_
 rintro e w2 ⟨rfl,h2⟩
 have cq:w2.cell? ⟨q,6,none⟩=some (.int .u64 E.many):=h2.cell 6
 have fq:=h2.fz 6
 have H2:=zh h2
 clear h2
 go_wp2
 first|go_end0|refine bodyPost_ret (results_none rfl _ _ _) rfl ?_
 exact ⟨rfl,HSET.out _ _ _ H2.out⟩
theorem rtake8_any (h:Tr w0 g q E T b w) :
 Calls Tryz.prog 122 #[.pointer (some ⟨g,0,none⟩),.pointer (some ⟨q,0,none⟩),.int .u64 8] w fun e w'=>e=.returned (.tuple #[])∧Tr w0 g q (fR 8 E T).1 (fR 8 E T).2.1 (b||!(fR 8 E T).2.2) w':=by
 have K:=zh (tr_var w0 g q E T b w h)
 have HC:Hid (fR 8 E T=(setR 8 E (varV T),varT T,varO T)):=by show _=_;unfold fR;rw [if_neg (by omega),if_pos (by omega)]
 rw [HC.out]
 have hvl:=varV_lt T
 obtain ⟨n,hn⟩:∃ n,n=varV T:=⟨_,rfl⟩
 rw [←hn] at K hvl ⊢
 have HSET:Hid (∀ T' b' W,Tr w0 g q E T' b' W→Tr w0 g q (setR 8 E n) T' b' (W.setCell ⟨q,7,none⟩ (.int .i64 ((n % 1000:Nat):Int)))):=fun T' b' W hW=>hW.set 7 _ (by simp [setR,setN])
 have e1:IntKind.i64.wrap ((n:Int) % 1000)=((n % 1000:Nat):Int):=by rw [IntWalk.i64_in _ (by omega)];omega
 have e2:(n:Int).tmod 1000=(n:Int) % 1000:=Int.tmod_eq_emod_of_nonneg (by omega)
 clear HC h hn
 go_enter Tryz.func122,Tryz.ntmps122
 go_wp2_with fail
 refine K.out.mono ?_
 rintro e w2 ⟨rfl,h2⟩
 have cq:w2.cell? ⟨q,7,none⟩=some (.int .i64 E.node):=h2.cell 7
 have fq:=h2.fz 7
 have H2:=zh h2
 clear h2
 go_wp2
 first|go_end0|refine bodyPost_ret (results_none rfl _ _ _) rfl ?_
 exact ⟨rfl,HSET.out _ _ _ H2.out⟩
theorem rtake9_any (h:Tr w0 g q E T b w) :
 Calls Tryz.prog 122 #[.pointer (some ⟨g,0,none⟩),.pointer (some ⟨q,0,none⟩),.int .u64 9] w fun e w'=>e=.returned (.tuple #[])∧Tr w0 g q (fR 9 E T).1 (fR 9 E T).2.1 (b||!(fR 9 E T).2.2) w':=by
 have K:=zh (tr_var w0 g q E T b w h)
 have HC:Hid (fR 9 E T=(setR 9 E (varV T),varT T,varO T)):=by show _=_;unfold fR;rw [if_neg (by omega),if_pos (by omega)]
 rw [HC.out]
 have hvl:=varV_lt T
 obtain ⟨n,hn⟩:∃ n,n=varV T:=⟨_,rfl⟩
 rw [←hn] at K hvl ⊢
 have HSET:Hid (∀ T' b' W,Tr w0 g q E T' b' W→Tr w0 g q (setR 9 E n) T' b' (W.setCell ⟨q,8,none⟩ (.int .i64 ((n % 1000:Nat):Int)))):=fun T' b' W hW=>hW.set 8 _ (by simp [setR,setN])
 have e1:IntKind.i64.wrap ((n:Int) % 1000)=((n % 1000:Nat):Int):=by rw [IntWalk.i64_in _ (by omega)];omega
 have e2:(n:Int).tmod 1000=(n:Int) % 1000:=Int.tmod_eq_emod_of_nonneg (by omega)
 clear HC h hn
 go_enter Tryz.func122,Tryz.ntmps122
 go_wp2_with fail
 refine K.out.mono ?_
 rintro e w2 ⟨rfl,h2⟩
 have cq:w2.cell? ⟨q,8,none⟩=some (.int .i64 E.level):=h2.cell 8
 have fq:=h2.fz 8
 have H2:=zh h2
 clear h2
 go_wp2
 first|go_end0|refine bodyPost_ret (results_none rfl _ _ _) rfl ?_
 exact ⟨rfl,HSET.out _ _ _ H2.out⟩
theorem rtake10_any (h:Tr w0 g q E T b w) :
 Calls Tryz.prog 122 #[.pointer (some ⟨g,0,none⟩),.pointer (some ⟨q,0,none⟩),.int .u64 10] w fun e w'=>e=.returned (.tuple #[])∧Tr w0 g q (fR 10 E T).1 (fR 10 E T).2.1 (b||!(fR 10 E T).2.2) w':=by
 have K:=zh (tr_tex w0 g q E T b w h)
 have HC:Hid (fR 10 E T=(setT 10 E (texV T),texT T,texO T)):=by show _=_;unfold fR;rw [if_pos (by omega)]
 rw [HC.out]
 obtain ⟨d,hd⟩:∃ d,d=texV T:=⟨_,rfl⟩
 rw [←hd] at K ⊢
 have HSET:Hid (∀ T' b' W,Tr w0 g q E T' b' W→Tr w0 g q (setT 10 E d) T' b' (W.setCell ⟨q,9,none⟩ (.string d))):=fun T' b' W hW=>hW.set 9 _ (by simp [setT])
 clear HC h hd
 go_enter Tryz.func122,Tryz.ntmps122
 go_wp2_with fail
 refine K.out.mono ?_
 rintro e w2 ⟨rfl,h2⟩
 have cq:w2.cell? ⟨q,9,none⟩=some (.string E.data):=h2.cell 9
 have fq:=h2.fz 9
 have H2:=zh h2
 clear h2
 go_wp2
 refine bodyPost_ret (results_none rfl _ _ _) rfl ?_
 exact ⟨rfl,HSET.out _ _ _ H2.out⟩
theorem rtake11_any (h:Tr w0 g q E T b w) :
 Calls Tryz.prog 122 #[.pointer (some ⟨g,0,none⟩),.pointer (some ⟨q,0,none⟩),.int .u64 11] w fun e w'=>e=.returned (.tuple #[])∧Tr w0 g q (fR 11 E T).1 (fR 11 E T).2.1 (b||!(fR 11 E T).2.2) w':=by
 have K:=zh (tr_tex w0 g q E T b w h)
 have HC:Hid (fR 11 E T=(setT 11 E (texV T),texT T,texO T)):=by show _=_;unfold fR;rw [if_pos (by omega)]
 rw [HC.out]
 obtain ⟨d,hd⟩:∃ d,d=texV T:=⟨_,rfl⟩
 rw [←hd] at K ⊢
 have HSET:Hid (∀ T' b' W,Tr w0 g q E T' b' W→Tr w0 g q (setT 11 E d) T' b' (W.setCell ⟨q,10,none⟩ (.string d))):=fun T' b' W hW=>hW.set 10 _ (by simp [setT])
 clear HC h hd
 go_enter Tryz.func122,Tryz.ntmps122
 go_wp2_with fail
 refine K.out.mono ?_
 rintro e w2 ⟨rfl,h2⟩
 have cq:w2.cell? ⟨q,10,none⟩=some (.string E.old):=h2.cell 10
 have fq:=h2.fz 10
 have H2:=zh h2
 clear h2
 go_wp2
 refine bodyPost_ret (results_none rfl _ _ _) rfl ?_
 exact ⟨rfl,HSET.out _ _ _ H2.out⟩
theorem rtakeD_any (t:Nat) (ht:12≤t) (h:Tr w0 g q E T b w) :
 Calls Tryz.prog 122 #[.pointer (some ⟨g,0,none⟩),.pointer (some ⟨q,0,none⟩),.int .u64 t] w fun e w'=>e=.returned (.tuple #[])∧Tr w0 g q (fR t E T).1 (fR t E T).2.1 (b||!(fR t E T).2.2) w':=by
 have K:=zh (tr_var w0 g q E T b w h)
 have HC:Hid (fR t E T=(E,⟨#[]⟩,false)):=by show _=_;unfold fR;rw [if_neg (by omega),if_neg (by omega)]
 rw [HC.out]
 have k1:((t:Int)==1)=false:=by simp;omega
 have k2:((t:Int)==2)=false:=by simp;omega
 have k3:((t:Int)==3)=false:=by simp;omega
 have k4:((t:Int)==4)=false:=by simp;omega
 have k5:((t:Int)==5)=false:=by simp;omega
 have k6:((t:Int)==6)=false:=by simp;omega
 have k7:((t:Int)==7)=false:=by simp;omega
 have k8:((t:Int)==8)=false:=by simp;omega
 have k9:((t:Int)==9)=false:=by simp;omega
 have k10:((t:Int)==10)=false:=by simp;omega
 have k11:((t:Int)==11)=false:=by simp;omega
 clear HC h ht
 go_enter Tryz.func122,Tryz.ntmps122
 go_wp2_with fail
 refine K.out.mono ?_
 rintro e w2 ⟨rfl,h2⟩
 go_wp2_with fail
 refine (tr_fail w0 g q E _ _ w2 h2).mono ?_
 rintro e w3 ⟨rfl,h3⟩
 go_wp2
 go_end0
 refine ⟨rfl,?_⟩
 rw [Bool.not_false,Bool.or_true]
 exact h3
end
end Go.Proofs.YtnobeoppffoomaaGreat.D
namespace Go.Proofs.YtnobeoppffoomaaGreat.D
open Go.RowKit
open Vi
theorem setN_ok {t:Nat} {E:En} {v:Nat} (h:E.Ok) (hv:v<18446744073709551616):(setN t E v).Ok:=by
 have hw:-9223372036854775808≤IntKind.i64.wrap (v:Int)∧IntKind.i64.wrap (v:Int)≤9223372036854775807:=by rw [IntKind.wrap_i64];omega
 obtain ⟨h1,h2⟩:=hw
 have a1:=h.t0
 have a2:=h.t1
 have a3:=h.i0
 have a4:=h.i1
 have a5:=h.k0
 have a6:=h.k1
 have a7:=h.c0
 have a8:=h.c1
 have a9:=h.s0
 have a10:=h.s1
 have a11:=h.b0
 have a12:=h.b1
 have a13:=h.m0
 have a14:=h.m1
 have a15:=h.n0
 have a16:=h.n1
 have a17:=h.l0
 have a18:=h.l1
 have a19:=h.d1
 have a20:=h.o1
 unfold setN
 split<;>first|exact h|(constructor<;>(try dsimp only)<;>first|assumption|omega)
theorem setT_ok {t:Nat} {E:En} {d:ByteArray} (h:E.Ok) (hd:d.size≤140737488351232):(setT t E d).Ok:=by
 obtain ⟨a1,a2,a3,a4,a5,a6,a7,a8,a9,a10,a11,a12,a13,a14,a15,a16,a17,a18,a19,a20⟩:=h
 unfold setT
 split<;>(constructor<;>(try dsimp only)<;>first|assumption|omega)
theorem fS_ok {t:Nat} {E:En} {T:ByteArray} (h:E.Ok) (hT:T.size≤140737488351232):(fS t E T).1.Ok:=by
 unfold fS
 split
 ·exact setN_ok h (varV_lt T)
 ·exact setT_ok h (Nat.le_trans (texV_le T) hT)
theorem ezz_ok:ezz.Ok:=by constructor<;>decide
theorem fS_size (t:Nat) (E:En) (T:ByteArray):(fS t E T).2.1.size≤T.size:=by
 unfold fS
 split
 ·show (if varV T=0 then (⟨#[]⟩:ByteArray) else varT T).size≤_
  split
  ·exact Nat.zero_le _
  ·exact varT_size T
 ·show (if (texV T).size=0 then (⟨#[]⟩:ByteArray) else texT T).size≤_
  split
  ·exact Nat.zero_le _
  ·refine Nat.le_trans ?_ (varT_size T)
   unfold texT bytT
   split
   ·rw [ByteArray.size_extract];omega
   ·exact Nat.zero_le _
theorem pk_ok:∀ n last E T b,E.Ok→T.size≤140737488351232→(pk eF n last E T b).1.Ok
 | 0,_,_,_,_,h,_=>h
 | n+1,last,E,T,b,h,hT=>by
   unfold pk
   split
   ·exact h
   ·split
    ·exact h
    ·have h1:(varT T).size≤140737488351232:=Nat.le_trans (varT_size T) hT
     exact pk_ok n _ _ _ _ (fS_ok (t:=varV T) h h1) (Nat.le_trans (fS_size _ _ _) h1)
theorem eR_ok (s:ByteArray) (b:Bool) (h:s.size≤140737488351232):(eR s b).1.Ok:=pk_ok 12 0 ezz0 s b ezz_ok h
end Go.Proofs.YtnobeoppffoomaaGreat.D
