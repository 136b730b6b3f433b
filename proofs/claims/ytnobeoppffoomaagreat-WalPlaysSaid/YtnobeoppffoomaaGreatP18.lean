/-
  WalPlays: WF WG WH.
  Conditions: named in each theorem.
-/
import Derived.Test.YtnobeoppffoomaaGreatP11
import Derived.Test.YtnobeoppffoomaaGreatP17
import Derived.RangeFuncNested
import Derived.RangeFuncBound
import Derived.RangeFuncCalls
import Derived.RangeFuncLeaves
import Derived.Shelf.Abstract
import Derived.Shelf.RegionOpen
import Derived.WalkKit
import Derived.OwnWalkIn
import Derived.TacticsInMore
import Derived.LoopNIn
import Derived.LoopIn
import Derived.Test.YtnobeoppffoomaaGreatP0
set_option linter.unusedVariables false
set_option linter.unusedSimpArgs false
set_option maxHeartbeats 8000000
set_option maxRecDepth 100000
namespace Go.Proofs.YtnobeoppffoomaaGreat
open Go.RowKit
open Dk Vi
theorem ecz {w:World} {b:Nat} {e:En} (h:w.heap[b]?=some (.cells (ec e) 28 (0,0))):w.cell? ⟨b,0,none⟩=some (.int .u64 e.term)∧w.cell? ⟨b,1,none⟩=some (.int .u64 e.index)∧w.cell? ⟨b,2,none⟩=some (.int .i64 e.kind)∧w.cell? ⟨b,3,none⟩=some (.int .u64 e.client)∧w.cell? ⟨b,4,none⟩=some (.int .u64 e.seq)∧w.cell? ⟨b,5,none⟩=some (.int .u64 e.block)∧w.cell? ⟨b,6,none⟩=some (.int .u64 e.many)∧w.cell? ⟨b,7,none⟩=some (.int .i64 e.node)∧w.cell? ⟨b,8,none⟩=some (.int .i64 e.level)∧w.cell? ⟨b,9,none⟩=some (.string e.data)∧w.cell? ⟨b,10,none⟩=some (.string e.old) :=
 ⟨zcr w b 0 _ 28 (0,0) h,zcr w b 1 _ 28 (0,0) h,zcr w b 2 _ 28 (0,0) h,zcr w b 3 _ 28 (0,0) h,zcr w b 4 _ 28 (0,0) h,zcr w b 5 _ 28 (0,0) h,zcr w b 6 _ 28 (0,0) h,zcr w b 7 _ 28 (0,0) h,zcr w b 8 _ 28 (0,0) h,zcr w b 9 _ 28 (0,0) h,zcr w b 10 _ 28 (0,0) h⟩
theorem front_any (X:ByteArray→En) (V:ByteArray→Int) (O:ByteArray→Bool) (v:Int) (t:ByteArray) (w:World) (hs:t.size≤140737488351232) (hG:Gets 120 X V O) :
 Calls Tryz.prog 87 #[.int .i64 v,.string t] w fun q w'=>∃ E z,q=.returned (.tuple #[ev E,.int .i64 z,.bool (frB O v t)])∧(frB O v t=true→E=X (frm t)∧z=nxN t)∧Below w.heap.size w w':=by
 have HG:=zh hG
 clear hG
 obtain ⟨x,hx⟩:∃ x,x=nxV t:=⟨_,rfl⟩
 obtain ⟨N,hN⟩:∃ N,N=nxN t:=⟨_,rfl⟩
 obtain ⟨b,hb⟩:∃ b,b=nOk t:=⟨_,rfl⟩
 have hNt:b=true→(N.toNat:Int)=N∧N.toNat≤t.size:=fun h=>by
  have:=nOk_pos (hb.symm.trans h)
  rw [hN]
  exact ⟨this.2.1,this.2.2⟩
 have hfm:frm t=t.extract 0 N.toNat:=by rw [hN];rfl
 have K:=zh (next_any t (w.alloc (Obj.cells (ec ezz) 28)) (by omega))
 rw [←hx,←hN,←hb] at K
 have hfr:frB O v t=(b&&(decide (x=v)&&O (frm t))):=by rw [hb,hx];rfl
 obtain ⟨fr,hfq⟩:∃ fr,fr=frB O v t:=⟨_,rfl⟩
 rw [←hfq] at hfr ⊢
 cases b with
 | false =>
   rw [Bool.false_and] at hfr
   subst hfr
   clear hx hN hb hfq hNt hfm
   go_enter Tryz.func87,Tryz.ntmps87
   go_wp2_with (go_at_call 119;(with_reducible refine K.out.mono ?_);rintro q w1 ⟨rfl,b1⟩;have HK1:Hid (w1.heap[w.heap.size]?=some (.cells (ec ezz) 28 (0,0))):=(b1.block _ (by simp)).trans (heap_alloc_new w _);have HB1:Hid (Below w.heap.size w w1):=((Below.refl _ _).alloc (Nat.le_refl _) _).trans (b1.mono (by simp));obtain ⟨z0,z1,z2,z3,z4,z5,z6,z7,z8,z9,z10⟩:=ecz HK1.out;have fz:∀ i,w1.frozen? ⟨w.heap.size,i,none⟩=false:=fun i=>Lib.frozen_of_heap HK1.out i;clear b1)
   obtain ⟨W3,hW3⟩:∃ W3,W3=wz w1 w.heap.size ezz:=⟨_,rfl⟩
   have HK_:Hid (W3.heap[w.heap.size]?=some (.cells (ec ezz) 28 (0,0))):=by show _=_;rw [hW3];exact store_again ezz HK1.out
   have HBF:Hid (Below w.heap.size w W3):=by rw [hW3];exact below_all ezz HB1.out (Nat.le_refl _)
   change bodyPost Tryz.prog Tryz.f87 _ Exit.ret _ (wz w1 w.heap.size ezz)
   rw [←hW3]
   obtain ⟨f0,f1,f2,f3,f4,f5,f6,f7,f8,f9,f10⟩:=ecz HK_.out
   exact bodyPost_ret (v:=.tuple #[ev ezz,.int .i64 0,.bool false]) (by simp [results,Tryz.results87,go_sem,f0,f1,f2,f3,f4,f5,f6,f7,f8,f9,f10]) rfl ⟨ezz,0,rfl,(fun h=>by cases h),HBF.out⟩
 | true =>
   obtain ⟨hn1,hn2⟩:=hNt rfl
   obtain ⟨n,hn⟩:∃ n,n=N.toNat:=⟨_,rfl⟩
   rw [←hn] at hn1 hn2 hfm
   have hNN:N=(n:Int):=hn1.symm
   subst hNN
   rw [Bool.true_and] at hfr
   obtain ⟨T,hT⟩:∃ T,T=frm t:=⟨_,rfl⟩
   have hTs:T.size≤140737488351232:=by rw [hT,hfm,ByteArray.size_extract];omega
   have hcut:t.extract 0 n=T:=by rw [hT,hfm]
   have hnle:¬ (t.size:Int)<(n:Int):=by omega
   have KG:=zh (fun (W:World)=>HG.out T W hTs)
   rw [←hT] at hfr ⊢
   obtain ⟨E,hE⟩:∃ E,E=X T:=⟨_,rfl⟩
   rw [←hE] at KG
   have HFIN:Hid (fr=true→E=X T∧(n:Int)=nxN t):=fun _=>⟨hE,hN⟩
   by_cases hxv:x=v
   ·have hxx:(x==v)=true:=by simpa using hxv
    have hxx2:(x != v)=false:=by unfold bne;rw [hxx];rfl
    rw [decide_eq_true hxv,Bool.true_and] at hfr
    obtain ⟨o,ho⟩:∃ o,o=O T:=⟨_,rfl⟩
    rw [←ho] at hfr KG
    subst hfr
    clear hx hN hb hfq hNt hfm hn hn1 hT hE hxv ho
    go_enter Tryz.func87,Tryz.ntmps87
    go_upto_region 4 with (go_at_call 119;(with_reducible refine K.out.mono ?_);rintro q w1 ⟨rfl,b1⟩;have HK1:Hid (w1.heap[w.heap.size]?=some (.cells (ec ezz) 28 (0,0))):=(b1.block _ (by simp)).trans (heap_alloc_new w _);have HB1:Hid (Below w.heap.size w w1):=((Below.refl _ _).alloc (Nat.le_refl _) _).trans (b1.mono (by simp));clear b1)
    go_upto_region 5 with (go_at_call 120;(with_reducible refine (KG.out _).mono ?_);rintro q w2 ⟨rfl,b2⟩;have HK2:Hid (w2.heap[w.heap.size]?=some (.cells (ec ezz) 28 (0,0))):=(b2.block _ (zgx HK1.out)).trans HK1.out;have HB2:Hid (Below w.heap.size w w2):=HB1.out.trans (b2.mono HB1.out.size);obtain ⟨z0,z1,z2,z3,z4,z5,z6,z7,z8,z9,z10⟩:=ecz HK2.out;have fz:∀ i,w2.frozen? ⟨w.heap.size,i,none⟩=false:=fun i=>Lib.frozen_of_heap HK2.out i;clear b2)
    obtain ⟨W3,hW3⟩:∃ W3,W3=wz w2 w.heap.size E:=⟨_,rfl⟩
    have HK_:Hid (W3.heap[w.heap.size]?=some (.cells (ec E) 28 (0,0))):=by show _=_;rw [hW3];exact store_again E HK2.out
    have HB_:Hid (Below w.heap.size w W3):=by rw [hW3];exact below_all E HB2.out (Nat.le_refl _)
    unfold wz at hW3
    rw [←hW3]
    clear hW3 z0 z1 z2 z3 z4 z5 z6 z7 z8 z9 z10 fz
    obtain ⟨y0,y1,y2,y3,y4,y5,y6,y7,y8,y9,y10⟩:=ecz HK_.out
    have fz:∀ i,W3.frozen? ⟨w.heap.size,i,none⟩=false:=fun i=>Lib.frozen_of_heap HK_.out i
    go_wp2
    obtain ⟨WF,hWF⟩:∃ WF,WF=wz W3 w.heap.size E:=⟨_,rfl⟩
    have HBK:Hid (WF.heap[w.heap.size]?=some (.cells (ec E) 28 (0,0))):=by
     show _=_
     rw [hWF]
     exact store_again E HK_.out
    have HBF:Hid (Below w.heap.size w WF):=by rw [hWF];exact below_all E HB_.out (Nat.le_refl _)
    unfold wz at hWF
    rw [←hWF]
    obtain ⟨f0,f1,f2,f3,f4,f5,f6,f7,f8,f9,f10⟩:=ecz HBK.out
    exact bodyPost_ret (v:=.tuple #[ev E,.int .i64 n,.bool fr]) (by simp [results,Tryz.results87,go_sem,f0,f1,f2,f3,f4,f5,f6,f7,f8,f9,f10]) rfl ⟨E,n,rfl,HFIN.out,HBF.out⟩
   ·have hxx:(x==v)=false:=beqF hxv
    have hxx2:(x != v)=true:=by unfold bne;rw [hxx];rfl
    rw [decide_eq_false hxv,Bool.false_and] at hfr
    subst hfr
    clear hx hN hb hfq hNt hfm hn hn1 hT hE hxv HFIN
    go_enter Tryz.func87,Tryz.ntmps87
    go_wp2_with (go_at_call 119;(with_reducible refine K.out.mono ?_);rintro q w1 ⟨rfl,b1⟩;have HK1:Hid (w1.heap[w.heap.size]?=some (.cells (ec ezz) 28 (0,0))):=(b1.block _ (by simp)).trans (heap_alloc_new w _);have HB1:Hid (Below w.heap.size w w1):=((Below.refl _ _).alloc (Nat.le_refl _) _).trans (b1.mono (by simp));obtain ⟨z0,z1,z2,z3,z4,z5,z6,z7,z8,z9,z10⟩:=ecz HK1.out;have fz:∀ i,w1.frozen? ⟨w.heap.size,i,none⟩=false:=fun i=>Lib.frozen_of_heap HK1.out i;clear b1)
    obtain ⟨W3,hW3⟩:∃ W3,W3=wz w1 w.heap.size ezz:=⟨_,rfl⟩
    have HK_:Hid (W3.heap[w.heap.size]?=some (.cells (ec ezz) 28 (0,0))):=by show _=_;rw [hW3];exact store_again ezz HK1.out
    have HBF:Hid (Below w.heap.size w W3):=by rw [hW3];exact below_all ezz HB1.out (Nat.le_refl _)
    change bodyPost Tryz.prog Tryz.f87 _ Exit.ret _ (wz w1 w.heap.size ezz)
    rw [←hW3]
    obtain ⟨f0,f1,f2,f3,f4,f5,f6,f7,f8,f9,f10⟩:=ecz HK_.out
    exact bodyPost_ret (v:=.tuple #[ev ezz,.int .i64 0,.bool false]) (by simp [results,Tryz.results87,go_sem,f0,f1,f2,f3,f4,f5,f6,f7,f8,f9,f10]) rfl ⟨ezz,0,rfl,(fun h=>by cases h),HBF.out⟩
end Go.Proofs.YtnobeoppffoomaaGreat
namespace Go.Proofs.YtnobeoppffoomaaGreat
open Go.RowKit Go.Shelf
open Dk Vi
attribute [local go_sem] Oper.semAt_some
theorem gb_of {w w':World} (h:Below w.heap.size w w'):w.grownBy w' none:=⟨h.os,h.tape,h.output,h.size,fun k hk _=>h.block k hk⟩
structure Kp (n₀ bV bS:Nat) (A B:World):Prop where
 be:Below n₀ A B
 v:B.heap[bV]?=A.heap[bV]?
 s:B.heap[bS]?=A.heap[bS]?
theorem Kp.trans {n₀ bV bS:Nat} {A B C:World} (h:Kp n₀ bV bS A B) (k:Kp n₀ bV bS B C):Kp n₀ bV bS A C:=⟨h.be.trans k.be,k.v.trans h.v,k.s.trans h.s⟩
abbrev encP (x:En×Nat):Array Value:=#[ev x.1,.int .i64 (x.2:Int)]
theorem entries1_in (X:ByteArray→En) (V:ByteArray→Int) (O:ByteArray→Bool) (v:Int) (s:ByteArray) (n l bV bS n₀:Nat) (hs:s.size≤1000000000000) (hG:Gets 120 X V O) (hn:1≤n)
 (J Jx:List (En×Nat)→World→Prop) (B:Nat) (hJ:AbidesFrom B J)
 (hY:∀ pre x W,J pre W→pre.length<s.size+1→YieldAt Fence.wide (n-1) Tryz.prog l (encP x) W fun e W' =>
   (e=.returned (.bool true)∧J (pre++[x]) W'∧Kp n₀ bV bS W W')∨(e=.returned (.bool false)∧Jx (pre++[x]) W'))
 (W:World) (hbV:W.heap[bV]?=some (.cells #[.int .i64 v] 3 (0,0))) (hbS:W.heap[bS]?=some (.cells #[.string s] 9 (0,0))) (h0:J [] W) :
 CallsIn Fence.wide n Tryz.prog 86 #[.func (.yield l) #[] #[],.pointer (some ⟨bV,0,none⟩),.pointer (some ⟨bS,0,none⟩)] W fun e W'=>(∃ q,e=.returned q) ∧
  ((∃ ys,ys=parL X O v s∧J ys W')∨(∃ pre,True∧Jx pre W')):=by
 have KF:=zh (fun t W h=>front_any X V O v t W h hG)
 have HJ:=zh hJ
 have HY:=zh hY
 clear hG hJ hY
 refine callsIn_of_wp Tryz.func86 rfl trivial ?_ rfl
 simp only [Tryz.ntmps86,List.size_toArray,List.length_cons,List.length_nil,Nat.reduceAdd,Nat.reduceSub,Array.replicate_succ,Array.replicate_zero,List.push_toArray,List.append_toArray,List.nil_append,List.cons_append]
 refine wpIn_wide.2 ?_
 go_wp2
 go_loopw [4] (fun i wr=>∃ (k f:Nat) (pre:List (En×Nat)),i=.int .i64 k∧k≤s.size∧s.size<f+k∧pre.length≤k∧Hid (pre++pl X O v s f k=parL X O v s)∧wr.heap[bV]?=some (.cells #[.int .i64 v] 3 (0,0))∧wr.heap[bS]?=some (.cells #[.string s] 9 (0,0))∧J pre wr) (fun i _=>s.size-(Go.RowKit.intOf i).toNat)
 case atStart=>exact ⟨0,s.size+1,[],rfl,Nat.zero_le _,by omega,Nat.le_refl _,rfl,hbV,hbS,h0⟩
 case round =>
  obtain ⟨k,f,pre,rfl,hk,hf,hpk,hpl,hV,hS,hJ⟩:=hrel
  obtain ⟨f,rfl⟩:∃ f',f=f'+1:=⟨f-1,by omega⟩
  have hpf:Hid (pl X O v s (f+1) k=if frB O v (tlB s k) then (X (frm (tlB s k)),nxtP v s k) :: pl X O v s f (nxtP v s k) else []):=rfl
  obtain ⟨t,ht⟩:∃ t,t=tlB s k:=⟨_,rfl⟩
  have hts:t.size=s.size-k:=by rw [ht];exact tlB_size s k hk
  rw [←ht] at hpf
  have hext:s.extract k s.size=t:=ht.symm
  have htb:t.size≤140737488351232:=by omega
  have K:=zh (fun W=>KF.out t W htb)
  have c1:wr.drew.cell? ⟨bV,0,none⟩=some (.int .i64 v):=zcr wr bV 0 _ 3 (0,0) hV
  have c2:wr.drew.cell? ⟨bS,0,none⟩=some (.string s):=zcr wr bS 0 _ 9 (0,0) hS
  have hks:¬ (s.size:Int)<(k:Int):=by omega
  have HV:=zh hV
  have HS:=zh hS
  have HT:=zh ht
  have HJJ:=zh hJ
  clear hV hS ht hJ hbV hbS h0
  go_upto_region 1 with fail
  obtain ⟨fr,hfr⟩:∃ fr,fr=frB O v t:=⟨_,rfl⟩
  rw [←hfr] at K
  have HFR:=zh hfr
  clear hfr
  have hBa:Below wr.heap.size wr (wr.alloc (.cells (ec ezz) 28)).drew:=((Below.refl _ wr).alloc (Nat.le_refl _) _).drew
  have hsa:(wr.alloc (.cells (ec ezz) 28)).drew.heap.size=wr.heap.size+1:=World.size_alloc _ _
  have c1a:(wr.alloc (.cells #[.int .u64 0,.int .u64 0,.int .i64 0,.int .u64 0,.int .u64 0,.int .u64 0,.int .u64 0,.int .i64 0,.int .i64 0,.string ⟨#[]⟩,.string ⟨#[]⟩] 28)).drew.cell? ⟨bV,0,none⟩=some (.int .i64 v):=(Below.cell (B:=wr.heap.size) hBa (p:=⟨bV,0,none⟩) (zgx HV.out)).trans (zcr wr bV 0 _ 3 (0,0) HV.out)
  have c2a:(wr.alloc (.cells #[.int .u64 0,.int .u64 0,.int .i64 0,.int .u64 0,.int .u64 0,.int .u64 0,.int .u64 0,.int .i64 0,.int .i64 0,.string ⟨#[]⟩,.string ⟨#[]⟩] 28)).drew.cell? ⟨bS,0,none⟩=some (.string s):=(Below.cell (B:=wr.heap.size) hBa (p:=⟨bS,0,none⟩) (zgx HS.out)).trans (zcr wr bS 0 _ 9 (0,0) HS.out)
  have HBA:=zh hBa
  have HSA:=zh hsa
  clear hBa hsa
  go_cut [5,6,7] from 8 to 16 (fun s5 s6 s7 wx=>∃ (p:Nat) (E:En) (z:Int),s5=.pointer (some ⟨p,0,none⟩)∧s6=.int .i64 z∧s7=.bool fr∧Hid (fr=true→E=X (frm t)∧z=nxN t)∧wx.heap[p]?=some (.cells (ec E) 28 (0,0))∧wr.heap.size≤p∧Below wr.heap.size wr wx)
  case first =>
   go_region_law (first
    | (go_simp;go_at_call 87;(with_reducible refine (K.out _).mono ?_);rintro q w1 ⟨E,z,rfl,hE,hb1⟩;have HB1:Hid (Below wr.heap.size wr w1):=(Below.refl _ wr).drew.trans hb1;have HZ:Hid ((w1.alloc (.cells (ec ezz) 28)).heap[w1.heap.size]?=some (.cells (ec ezz) 28 (0,0))):=heap_alloc_new w1 _;obtain ⟨z0,z1,z2,z3,z4,z5,z6,z7,z8,z9,z10⟩:=ecz HZ.out;have fz:∀ i,(w1.alloc (.cells (ec ezz) 28)).frozen? ⟨w1.heap.size,i,none⟩=false:=fun i=>Lib.frozen_of_heap HZ.out i;clear hb1)
    | (go_simp;go_at_call 87;(with_reducible refine (K.out _).mono ?_);rintro q w1 ⟨E,z,rfl,hE,hb1⟩;have HB1:Hid (Below wr.heap.size wr w1):=HBA.out.trans (hb1.mono (Nat.le_trans (Nat.le_succ _) (Nat.le_of_eq HSA.out.symm)));have HZ:Hid (w1.heap[wr.heap.size]?=some (.cells (ec ezz) 28 (0,0))):=(hb1.block _ (Nat.lt_of_lt_of_eq (Nat.lt_succ_self _) HSA.out.symm)).trans (heap_alloc_new wr _);obtain ⟨z0,z1,z2,z3,z4,z5,z6,z7,z8,z9,z10⟩:=ecz HZ.out;have fz:∀ i,w1.frozen? ⟨wr.heap.size,i,none⟩=false:=fun i=>Lib.frozen_of_heap HZ.out i;clear hb1))
   all_goals
    go_wp2
    go_meet
    first
     | (refine ⟨w1.heap.size,E,z,by with_reducible rfl,rfl,rfl,hE,?_,HB1.out.size,?_⟩
        ·exact heap_alloc_new w1 _
        ·exact HB1.out.alloc HB1.out.size _)
     | (refine ⟨wr.heap.size,E,z,by with_reducible rfl,rfl,rfl,hE,?_,Nat.le_refl _,?_⟩
        ·exact store_all E HZ.out
        ·exact below_all E HB1.out (Nat.le_refl _))
  case rest =>
   obtain ⟨p,E,z,rfl,rfl,rfl,hE,hp,hlp,hbx⟩:=hcut
   clear c1 c2 c1a c2a K HBA HSA
   have HBX:=zh hbx
   have hJx:Hid (J pre wc):=HJ.out _ _ _ none HJJ.out (gb_of hbx) (fun r h=>by cases h)
   clear hbx HJJ
   cases fr with
   | false =>
     have hst:pre=parL X O v s:=by
      have h1:=hpf.out
      rw [←HFR.out,if_neg (by decide)] at h1
      have h2:=hpl.out
      rw [h1,List.append_nil] at h2
      exact h2
     have HST:=zh hst
     clear hst
     go_wp2
     refine bodyPost_ret (results_none rfl _ _ _) rfl ?_
     exact ⟨⟨_,rfl⟩,.inl (by rw [←HST.out];exact hJx.out)⟩
   | true =>
     obtain ⟨hE1,hz1⟩:=hE.out rfl
     have hok:nOk t=true:=frB_ok HFR.out.symm
     obtain ⟨hp1,hp2,hp3⟩:=nOk_pos hok
     have hlt2:=nxtP_lt (v:=v) hk (by rw [←HT.out];exact hok)
     have hnx:nxtP v s k=min (bgn v (k+(nxN t).toNat)) s.size:=by unfold nxtP;rw [←HT.out]
     obtain ⟨N,hN⟩:∃ N,N=(nxN t).toNat:=⟨_,rfl⟩
     rw [←hN] at hp1 hp2 hp3 hnx
     have hzN:z=(N:Int):=by rw [hz1,hp2]
     obtain ⟨P,hP⟩:∃ P,P=nxtP v s k:=⟨_,rfl⟩
     rw [←hP] at hnx hlt2
     have hnext:Hid ((pre++[(E,P)])++pl X O v s f P=parL X O v s):=by
      have h1:=hpf.out
      rw [←HFR.out,if_pos rfl,←hP,←hE1] at h1
      show _=_
      rw [List.append_assoc,List.singleton_append,←h1]
      exact hpl.out
     subst hzN
     have hle:k+N≤4611686018427387904:=by omega
     have KB:Hid (∀ w,Calls Tryz.prog 39 #[.int .i64 v,.int .i64 ((k:Int)+N)] w fun q w'=>q=.returned (.int .i64 (bgn v (k+N)))∧w=w'):=fun w=>by
      have h:=begin_any v (k+N) w hle
      rw [Int.natCast_add] at h
      exact h
     have hmin:(min (bgn v (k+N):Int) (s.size:Int))=(P:Int):=by rw [hnx];omega
     have hsum:IntKind.i64.wrap ((k:Int)+(N:Int))=(k:Int)+(N:Int):=IntWalk.i64_in _ (by omega)
     have d1:wc.drew.cell? ⟨bV,0,none⟩=some (.int .i64 v):=(HBX.out.cell (p:=⟨bV,0,none⟩) (zgx HV.out)).trans (zcr wr bV 0 _ 3 (0,0) HV.out)
     have d2:wc.drew.cell? ⟨bS,0,none⟩=some (.string s):=(HBX.out.cell (p:=⟨bS,0,none⟩) (zgx HS.out)).trans (zcr wr bS 0 _ 9 (0,0) HS.out)
     have HP:=zh hp
     clear hE hE1 hz1 hok hp2 hN hP hpf hpl hnx hp
     go_upto_region 3 with fail
     go_region_with (first|(go_at_call 39;(with_reducible refine (KB.out _).mono ?_);rintro q w5 ⟨rfl,rfl⟩))
     all_goals
      have hJd:J pre wc.drew:=HJ.out _ _ _ none hJx.out (gb_of (Below.refl _ _).drew) (fun r h=>by cases h)
      obtain ⟨fn,tmps,assign,body,hy,hR⟩:=HY.out pre (E,P) wc.drew hJd (by omega)
      dsimp only [encP] at hy
      obtain ⟨e0,e1,e2,e3,e4,e5,e6,e7,e8,e9,e10⟩:=ecz (w:=wc.drew) HP.out
      have HRR:=zh hR
      clear hJd hR
      go_upto_region 4 with fail
      refine (wpIn_wide (n:=n)).1 ?_
      gi_wp2
      have hV3:wc.heap[bV]?=some (.cells #[.int .i64 v] 3 (0,0)):=(HBX.out.block _ (zgx HV.out)).trans HV.out
      have hS3:wc.heap[bS]?=some (.cells #[.string s] 9 (0,0)):=(HBX.out.block _ (zgx HS.out)).trans HS.out
      have HV3:=zh hV3
      have HS3:=zh hS3
      clear hV3 hS3
      refine HRR.out.mono ?_
      rintro e W3 (⟨rfl,hJ3,hk3⟩|⟨rfl,hJx3⟩)
      ·have HJ3:=zh hJ3
       have HK3:=zh hk3
       clear hJ3 hk3
       gi_wp2
       go_wp2
       exact ⟨⟨P,f,pre++[(E,P)],rfl,hlt2.2,by omega,by rw [List.length_append];simp;omega,hnext,HK3.out.v.trans HV3.out,HK3.out.s.trans HS3.out,HJ3.out⟩,by simp [Go.RowKit.intOf];omega⟩
      ·have HJ3:=zh hJx3
       clear hJx3
       gi_wp2
       go_wp2
       refine bodyPost_ret (results_none rfl _ _ _) rfl ?_
       exact ⟨⟨_,rfl⟩,.inr ⟨_,trivial,HJ3.out⟩⟩
end Go.Proofs.YtnobeoppffoomaaGreat
namespace Go.Proofs.YtnobeoppffoomaaGreat
open Go.RowKit Go.Shelf
open Dk Vi
attribute [local go_sem] Oper.semAt_some
theorem entries_any (v:Int) (s:ByteArray) (w:World):Calls Tryz.prog 44 #[.int .i64 v,.string s] w fun q w'=>q=.returned (.func (.func 86) #[] #[.pointer (some ⟨w.heap.size,0,none⟩),.pointer (some ⟨w.heap.size+1,0,none⟩)])∧w'=(w.alloc (.cells #[.int .i64 v] 3)).alloc (.cells #[.string s] 9):=by
 have hmf:∀ (fn:Fn) (first cap:Array Value) (w:World),(Instr.makeFunc fn first cap).run Tryz.prog w=.ok (.func fn first cap) w:=fun _ _ _ _=>rfl
 go_enter Tryz.func44,Tryz.ntmps44
 go_wp2
 go_ret
 exact ⟨rfl,rfl⟩
theorem entries_stops (X:ByteArray→En) (V:ByteArray→Int) (O:ByteArray→Bool) (v:Int) (s:ByteArray) (n bV bS n₀:Nat) (hs:s.size≤1000000000000) (hG:Gets 120 X V O) (hn:1≤n) (w:World)
 (hbV:w.heap[bV]?=some (.cells #[.int .i64 v] 3 (0,0))) (hbS:w.heap[bS]?=some (.cells #[.string s] 9 (0,0))) :
 SeqStopsK Fence.wide n Tryz.prog 86 #[.pointer (some ⟨bV,0,none⟩),.pointer (some ⟨bS,0,none⟩)] encP (Kp n₀ bV bS) (fun ys=>ys=parL X O v s) (fun _=>True) (s.size+1) w:=fun l J Jx W hW hJ _ hY h0 =>
 entries1_in X V O v s n l bV bS n₀ hs hG hn J Jx W.heap.size hJ hY W ((hW.block _ (zgx hbV)).trans hbV) ((hW.block _ (zgx hbS)).trans hbS) h0
theorem Le.kept {B:Nat} {A:Option Addr} {n c:Nat} {es:List En} {w w':World} {row:Option Nat} (h:Le B A n c es w) (hg:w.grownBy w' row) (hr:∀ r,row=some r→∃ o:Obj,w.heap[r]?=some o∧o.isCells=false):Le B A n c es w' :=
 ⟨own_of_heap h.own fun k hk=>hg.block k (h.own.lt k hk).2 fun e=>(by
  obtain ⟨o,ho,hc⟩:=hr k e.symm
  rcases h.own.2 with ⟨hv,_⟩|⟨g,cap,cur,hv,_,hgb,_⟩
  ·rw [hv] at hk;cases hk
  ·rw [hv] at hk
   have:g=k:=by simpa [Value.ownBlock] using hk
   subst this
   rw [hgb] at ho
   cases ho
   cases hc),h.len⟩
theorem cells_kept {w w':World} {row:Option Nat} {b:Nat} {cs:Array Value} {T:TypeId} (h:w.heap[b]?=some (.cells cs T (0,0))) (hg:w.grownBy w' row) (hr:∀ r,row=some r→∃ o:Obj,w.heap[r]?=some o∧o.isCells=false):w'.heap[b]?=some (.cells cs T (0,0)) :=
 (hg.block b (zgx h) fun e=>by obtain ⟨o,ho,hc⟩:=hr b e.symm;rw [h] at ho;cases ho;cases hc).trans h
theorem ownsRow_low {w:World} {B B':Nat} {e:TypeId} {size:Nat} {v:Value} {n:Nat} {xs:List Value} (hB:B'≤B) (h:w.ownsRow B e size v n xs):w.ownsRow B' e size v n xs:=by
 obtain ⟨hl,h⟩:=h
 refine ⟨hl,?_⟩
 rcases h with h|⟨g,cap,cur,hv,hb,r⟩
 ·exact .inl h
 ·exact .inr ⟨g,cap,cur,hv,Nat.le_trans hB hb,r⟩
structure Pz (w:World) (v:Int) (s:ByteArray) (pre:List (En×Nat)) (A:Option Addr) (n c:Nat) (W:World):Prop where
 rl:W.heap[w.heap.size]?=some (.cells #[.slice A n c] 25 (0,0))
 ru:W.heap[w.heap.size+1]?=some (.cells #[.int .i64 (lpP pre)] 3 (0,0))
 bv:W.heap[w.heap.size+2]?=some (.cells #[.int .i64 v] 3 (0,0))
 bs:W.heap[w.heap.size+3]?=some (.cells #[.string s] 9 (0,0))
 le:Le (w.heap.size+4) A n c (pre.map Prod.fst) W
 be:Below w.heap.size w W
theorem Pz.kept {w:World} {v:Int} {s:ByteArray} {pre:List (En×Nat)} {A:Option Addr} {n c:Nat} {W W':World} {row:Option Nat} (h:Pz w v s pre A n c W) (hg:W.grownBy W' row) (hr:∀ r,row=some r→w.heap.size≤r∧∃ o:Obj,W.heap[r]?=some o∧o.isCells=false):Pz w v s pre A n c W' :=
 have hr':∀ r,row=some r→∃ o:Obj,W.heap[r]?=some o∧o.isCells=false:=fun r e=>(hr r e).2
 ⟨cells_kept h.rl hg hr',cells_kept h.ru hg hr',cells_kept h.bv hg hr',cells_kept h.bs hg hr',h.le.kept hg hr',h.be.grown hg h.be.size fun k e=>(hr k e).1⟩
theorem Pz.step {w:World} {v:Int} {s:ByteArray} {pre:List (En×Nat)} {A:Option Addr} {n c g cap:Nat} {W w1:World} {x:En×Nat} {tmp:Obj} (h:Pz w v s pre A n c W)
 (hown:w1.ownsRow (w.heap.size+4) 28 11 (.slice (some ⟨g,0,none⟩) (n+1) cap) (n+1) (flat (pre.map Prod.fst)++(ec x.1).toList)) (hgrow:(W.alloc tmp).grownBy w1 (Value.ownBlock (.slice A n c))) :
 (w1.heap[w.heap.size]?=some (.cells #[.slice A n c] 25 (0,0)))∧((w1.setCell ⟨w.heap.size,0,none⟩ (.slice (some ⟨g,0,none⟩) (n+1) cap)).heap[w.heap.size+1]?=some (.cells #[.int .i64 (lpP pre)] 3 (0,0))) ∧
 Pz w v s (pre++[x]) (some ⟨g,0,none⟩) (n+1) cap ((w1.setCell ⟨w.heap.size,0,none⟩ (.slice (some ⟨g,0,none⟩) (n+1) cap)).setCell ⟨w.heap.size+1,0,none⟩ (.int .i64 (x.2:Int))) ∧
 Kp w.heap.size (w.heap.size+2) (w.heap.size+3) W ((w1.setCell ⟨w.heap.size,0,none⟩ (.slice (some ⟨g,0,none⟩) (n+1) cap)).setCell ⟨w.heap.size+1,0,none⟩ (.int .i64 (x.2:Int))) ∧
 ∀ B,KeepsFrom B W ((w1.setCell ⟨w.heap.size,0,none⟩ (.slice (some ⟨g,0,none⟩) (n+1) cap)).setCell ⟨w.heap.size+1,0,none⟩ (.int .i64 (x.2:Int))):=by
 have hrow:∀ k,Value.ownBlock (.slice A n c)=some k→w.heap.size+4≤k∧∃ cs T fr,W.heap[k]?=some (.cells cs T fr):=fun k hk=>by
  refine ⟨(h.le.own.lt k hk).1,?_⟩
  rcases h.le.own.2 with ⟨hv,_⟩|⟨g,cap,cur,hv,_,hgb,_⟩
  ·rw [hv] at hk;cases hk
  ·rw [hv] at hk
   have:g=k:=by simpa [Value.ownBlock] using hk
   subst this
   exact ⟨_,_,_,hgb⟩
 have hsz1:W.heap.size≤w1.heap.size:=by have:=hgrow.size;simp at this;omega
 have old:∀ k,k<W.heap.size→Value.ownBlock (.slice A n c)≠some k→w1.heap[k]?=W.heap[k]?:=fun k hk hne =>
  (hgrow.block k (by simp;omega) fun e=>hne e.symm).trans (Lib.alloc_old W _ k hk)
 have lt0:=(zgx h.rl)
 have lt1:=(zgx h.ru)
 have lt2:=(zgx h.bv)
 have lt3:=(zgx h.bs)
 have far:∀ k,k<w.heap.size+4→Value.ownBlock (.slice A n c)≠some k:=fun k hk e=>by have:=(hrow k e).1;omega
 have o0:=(old _ lt0 (far _ (by omega))).trans h.rl
 have o1:=(old _ lt1 (far _ (by omega))).trans h.ru
 have o2:=(old _ lt2 (far _ (by omega))).trans h.bv
 have o3:=(old _ lt3 (far _ (by omega))).trans h.bs
 have q1:(w1.setCell ⟨w.heap.size,0,none⟩ (.slice (some ⟨g,0,none⟩) (n+1) cap)).heap[w.heap.size+1]?=some (.cells #[.int .i64 (lpP pre)] 3 (0,0)):=(Below.heap_setCell w1 _ _ _ (by simp)).trans o1
 have hB1:Below w.heap.size W w1:=((Below.refl _ W).alloc h.be.size tmp).grown hgrow (by have:=h.be.size;simp;omega) fun k e=>by have:=(hrow k e).1;omega
 have hB2:Below w.heap.size W ((w1.setCell ⟨w.heap.size,0,none⟩ (.slice (some ⟨g,0,none⟩) (n+1) cap)).setCell ⟨w.heap.size+1,0,none⟩ (.int .i64 (x.2:Int))) :=
  (hB1.setCell (p:=⟨w.heap.size,0,none⟩) (Nat.le_refl _) _).setCell (p:=⟨w.heap.size+1,0,none⟩) (by simp) _
 refine ⟨o0,q1,⟨?_,?_,?_,?_,⟨?_,?_⟩,h.be.trans hB2⟩,⟨hB2,?_,?_⟩,fun B=>⟨hB2.size,fun k o _ ho hc=>?_⟩⟩
 ·exact (Below.heap_setCell _ _ _ _ (by simp)).trans (set_blk o0 0 _)
 ·rw [lpP_snoc];exact set_blk q1 0 _
 ·exact (Below.heap_setCell _ _ _ _ (by simp)).trans ((Below.heap_setCell _ _ _ _ (by simp)).trans o2)
 ·exact (Below.heap_setCell _ _ _ _ (by simp)).trans ((Below.heap_setCell _ _ _ _ (by simp)).trans o3)
 ·rw [List.map_append]
  show World.ownsRow _ _ _ _ _ _ (flat (pre.map Prod.fst++[x.1]))
  rw [flat_snoc]
  exact ownsRow_setCell_below (ownsRow_setCell_below hown (by simp) _) (by simp) _
 ·rw [List.length_map,List.length_append,←h.le.len,List.length_map];rfl
 ·exact ((Below.heap_setCell _ _ _ _ (by simp)).trans ((Below.heap_setCell _ _ _ _ (by simp)).trans o2)).trans h.bv.symm
 ·exact ((Below.heap_setCell _ _ _ _ (by simp)).trans ((Below.heap_setCell _ _ _ _ (by simp)).trans o3)).trans h.bs.symm
 ·have hk:=(zgx ho)
  have n0:k≠w.heap.size:=fun e=>by subst e;rw [h.rl] at ho;cases ho;cases hc
  have n1:k≠w.heap.size+1:=fun e=>by subst e;rw [h.ru] at ho;cases ho;cases hc
  have nr:Value.ownBlock (.slice A n c)≠some k:=fun e=>by obtain ⟨_,cs,T,fr,h2⟩:=hrow k e;rw [h2] at ho;cases ho;cases hc
  rw [Below.heap_setCell _ _ _ _ (by simpa using n1),Below.heap_setCell _ _ _ _ (by simpa using n0),old k hk nr]
  exact ho
theorem parse_any (X:ByteArray→En) (V:ByteArray→Int) (O:ByteArray→Bool) (v:Int) (s:ByteArray) (w:World) (hs:s.size≤1000000000000) (hG:Gets 120 X V O) :
 Calls Tryz.prog 15 #[.int .i64 v,.string s] w fun q w'=>∃ A n c,q=.returned (.tuple #[.slice A n c,.int .i64 (parU X O v s)])∧Le w.heap.size A n c (parE X O v s) w'∧Below w.heap.size w w':=by
 refine (callsIn_wide (n:=8)).1 ?_
 refine callsIn_of_wp_marks Tryz.func15 rfl trivial ?_ rfl
 simp only [Tryz.ntmps15,List.size_toArray,List.length_cons,List.length_nil,Nat.reduceAdd,Nat.reduceSub,Array.replicate_succ,Array.replicate_zero,List.push_toArray,List.append_toArray,List.nil_append,List.cons_append]
 gi_wp2_with (refine ⟨trivial,?_⟩;gi_at_call 44;refine (callsIn_wide.2 (entries_any _ _ _)).mono ?_;rintro e w' ⟨rfl,rfl⟩)
 obtain ⟨W4,hW4⟩:∃ W4,W4=(((w.alloc (.cells #[.slice none 0 0] 25)).alloc (.cells #[.int .i64 0] 3)).alloc (.cells #[.int .i64 v] 3)).alloc (.cells #[.string s] 9):=⟨_,rfl⟩
 have hsz:W4.heap.size=w.heap.size+4:=by rw [hW4];simp
 have hP0:Pz w v s [] none 0 0 W4:=by
  rw [hW4]
  refine ⟨?_,?_,?_,?_,Le.nil _ _,((((Below.refl _ w).alloc (Nat.le_refl _) _).alloc (by simp only [World.size_alloc];omega) _).alloc (by simp only [World.size_alloc];omega) _).alloc (by simp only [World.size_alloc];omega) _⟩
  ·exact (Lib.alloc_old _ _ _ (by simp only [World.size_alloc];omega)).trans ((Lib.alloc_old _ _ _ (by simp only [World.size_alloc];omega)).trans ((Lib.alloc_old _ _ _ (by simp only [World.size_alloc];omega)).trans (heap_alloc_new w _)))
  ·have h:=heap_alloc_new (w.alloc (.cells #[.slice none 0 0] 25)) (.cells #[.int .i64 0] 3)
   rw [World.size_alloc] at h
   exact (Lib.alloc_old _ _ _ (by simp only [World.size_alloc];omega)).trans ((Lib.alloc_old _ _ _ (by simp only [World.size_alloc];omega)).trans h)
  ·have h:=heap_alloc_new ((w.alloc (.cells #[.slice none 0 0] 25)).alloc (.cells #[.int .i64 0] 3)) (.cells #[.int .i64 v] 3)
   rw [World.size_alloc,World.size_alloc] at h
   exact (Lib.alloc_old _ _ _ (by simp only [World.size_alloc];omega)).trans h
  ·have h:=heap_alloc_new (((w.alloc (.cells #[.slice none 0 0] 25)).alloc (.cells #[.int .i64 0] 3)).alloc (.cells #[.int .i64 v] 3)) (.cells #[.string s] 9)
   rw [World.size_alloc,World.size_alloc,World.size_alloc] at h
   exact h
 rw [←hW4]
 clear hW4
 obtain ⟨i0,hi,hz0,hz1,hz2⟩:=info_parts Tryz.info28
 refine wpIn_rangeFunc_ownH rfl (by omega) (gf:=86) (lb:=#[.pointer (some ⟨w.heap.size+1+1,0,none⟩),.pointer (some ⟨w.heap.size+1+1+1,0,none⟩)]) rfl trivial (enters_of Tryz.func86 (by kernel_rfl) rfl)
  (entries_stops X V O v s 7 (w.heap.size+1+1) (w.heap.size+1+1+1) w.heap.size hs hG (by omega) W4 hP0.bv hP0.bs) (fun h k=>h.trans k)
  (fun W l o o' hl h hc hw=>⟨belowK_b (w:=W4) (by omega) W l o o' hl h hc hw,World.putObj_heap_other (by omega),World.putObj_heap_other (by omega)⟩) (Below.refl _ _) (fun _=>rfl)
  (fun pre W=>∃ A n c,Pz w v s pre A n c W) (fun _ _ _=>False)
  (fun pre A B row ⟨A',n,c,hp⟩ hg hr=>⟨A',n,c,hp.kept hg (fun r e=>⟨by have:=(hr r e).1;omega,(hr r e).2⟩)⟩) (fun _ _ _ _ _ hs _ _=>hs) ⟨none,0,0,hP0⟩
  (fun x a' W=>∃ p,W.heap[p]?=some (.cells (ec x.1) 28 (0,0))∧w.heap.size+4≤p∧a'={ tmps:=#[.int .i64 v,.string s,undef,undef,.pointer (some ⟨w.heap.size,0,none⟩),.pointer (some ⟨w.heap.size+1,0,none⟩),.pointer (some ⟨p,0,none⟩),.int .i64 (x.2:Int),.int .i64 v,.string s,.func (.func 86) #[] #[.pointer (some ⟨w.heap.size+1+1,0,none⟩),.pointer (some ⟨w.heap.size+1+1+1,0,none⟩)],ev x.1,.int .i64 (x.2:Int),undef,undef,undef,undef,undef,undef,undef],defers:=[] })
  (fun x a' _ A B row ⟨p,h1,h2,h3⟩ hg hr=>⟨p,cells_kept h1 hg (fun r e=>(hr r e).2),h2,h3⟩) ?assign ?body ?done ?stop
 case assign =>
  rintro l pre x W K ⟨A,n,c,hp⟩ hK
  have hKK:=zh hK
  clear hK
  gi_wp2
  have l3:=(zgx hp.bs)
  exact hKK.out _ _ ((KeepsOthers.alloc _ _).from _) ⟨(Below.refl _ W).alloc hp.be.size _,Lib.alloc_old _ _ _ (by omega),Lib.alloc_old _ _ _ (by omega)⟩ ⟨A,n,c,hp.kept (World.grownBy_alloc W _ none) (fun r e=>by cases e)⟩ ⟨W.heap.size,heap_alloc_new W _,by omega,rfl⟩
 case body =>
  rintro l pre x a' W hl hr ⟨A,n,c,hp⟩ ⟨p,hpx,hpl,rfl⟩ hlt
  obtain ⟨e0,e1,e2,e3,e4,e5,e6,e7,e8,e9,e10⟩:=ecz hpx
  have c4:W.cell? ⟨w.heap.size,0,none⟩=some (.slice A n c):=zcr W _ 0 _ 25 (0,0) hp.rl
  have hn:n=pre.length:=by have:=hp.le.len;rw [List.length_map] at this;exact this.symm
  have hnb:n≤1000000000000:=by omega
  have hbs:=hp.be.size
  have HPP:=zh hp
  clear hp hpx hn hr hl
  gi_wp2_with (gi_at_builtin;refine wpListIn_append_own _ rfl _ _ 25 rfl (w.heap.size+4) 28 i0 (ev ezz) 11 104 Tryz.underlying25 hi hz0 hz1 hz2 rfl (by omega) (.slice A n c) n (flat (pre.map Prod.fst)) rfl (HPP.out.le.below ((Below.refl _ _).alloc (Nat.le_refl _) _)).own ⟨W.heap.size,0,none⟩ 1 1 (ec x.1).toList rfl rfl (World.news_of_block (heap_alloc_new W _)) (fun u hu=>by simp at hu;rcases hu with rfl|rfl|rfl|rfl|rfl|rfl|rfl|rfl|rfl|rfl|rfl<;>rfl) (by unfold maxLen;omega) (by omega) (by simp;have:=(zgx HPP.out.bs);omega) ?_;intro v' w1 hown' hgrow _;obtain ⟨g',cap',rfl⟩:=ownsRow_succ hown';obtain ⟨s0,s1,hPs,hKp,hKF⟩:=HPP.out.step hown' hgrow;have y0:w1.cell? ⟨w.heap.size,0,none⟩=some (.slice A n c):=zcr w1 _ 0 _ 25 (0,0) s0;have y0f:w1.frozen? ⟨w.heap.size,0,none⟩=false:=Lib.frozen_of_heap s0 0;have y1:(w1.setCell ⟨w.heap.size,0,none⟩ (.slice (some ⟨g',0,none⟩) (n+1) cap')).cell? ⟨w.heap.size+1,0,none⟩=some (.int .i64 (lpP pre)):=zcr _ _ 0 _ 3 (0,0) s1;have y1f:(w1.setCell ⟨w.heap.size,0,none⟩ (.slice (some ⟨g',0,none⟩) (n+1) cap')).frozen? ⟨w.heap.size+1,0,none⟩=false:=Lib.frozen_of_heap s1 0;have HPS:=zh hPs;have HKP:=zh hKp;have HKF:=zh hKF;clear hPs hKp hKF s0 s1 hown' hgrow)
  exact ⟨HKF.out _,HKP.out,_,_,_,HPS.out⟩
 case done =>
  rintro D ys W hD rfl ⟨A,n,c,hp⟩ hK
  have c4:W.drew.cell? ⟨w.heap.size,0,none⟩=some (.slice A n c):=zcr W _ 0 _ 25 (0,0) hp.rl
  have c5:W.drew.cell? ⟨w.heap.size+1,0,none⟩=some (.int .i64 (lpP (parL X O v s))):=zcr W _ 0 _ 3 (0,0) hp.ru
  have f4:W.drew.frozen? ⟨w.heap.size,0,none⟩=false:=Lib.frozen_of_heap (w:=W) hp.rl 0
  have f5:(W.drew.setCell ⟨w.heap.size,0,none⟩ (.slice A n c)).frozen? ⟨w.heap.size+1,0,none⟩=false:=Lib.frozen_of_heap ((Below.heap_setCell W ⟨w.heap.size,0,none⟩ (.slice A n c) (w.heap.size+1) (by simp)).trans hp.ru) 0
  have c6:(W.drew.setCell ⟨w.heap.size,0,none⟩ (.slice A n c)).cell? ⟨w.heap.size+1,0,none⟩=some (.int .i64 (lpP (parL X O v s))):=zcr _ _ 0 _ 3 (0,0) ((Below.heap_setCell W ⟨w.heap.size,0,none⟩ (.slice A n c) (w.heap.size+1) (by simp)).trans hp.ru)
  have g5:(W.setCell ⟨w.heap.size,0,none⟩ (.slice A n c)).frozen? ⟨w.heap.size+1,0,none⟩=false:=f5
  have g6:(W.setCell ⟨w.heap.size,0,none⟩ (.slice A n c)).cell? ⟨w.heap.size+1,0,none⟩=some (.int .i64 (lpP (parL X O v s))):=c6
  have h5:(W.setCell ⟨w.heap.size,0,none⟩ (.slice A n c)).drew.frozen? ⟨w.heap.size+1,0,none⟩=false:=f5
  have h6:(W.setCell ⟨w.heap.size,0,none⟩ (.slice A n c)).drew.cell? ⟨w.heap.size+1,0,none⟩=some (.int .i64 (lpP (parL X O v s))):=c6
  have HPP:=zh hp
  have HKD:=zh hK
  clear hp hK
  gi_wp2
  refine wpIn_wide.2 ?_
  go_region
  obtain ⟨W9,hW9⟩:∃ W9,W9=((W.setCell ⟨w.heap.size,0,none⟩ (.slice A n c)).setCell ⟨w.heap.size+1,0,none⟩ (.int .i64 (lpP (parL X O v s)))).drew:=⟨_,rfl⟩
  have hB9:Below w.heap.size W W9:=by rw [hW9];exact (((Below.refl _ W).setCell (p:=⟨w.heap.size,0,none⟩) (Nat.le_refl _) _).setCell (p:=⟨w.heap.size+1,0,none⟩) (by simp) _).drew
  have hD1:D≠w.heap.size:=by omega
  have hD2:D≠w.heap.size+1:=by omega
  have k0:W9.heap[w.heap.size]?=some (.cells #[.slice A n c] 25 (0,0)):=by
   rw [hW9]
   exact (Below.heap_setCell _ _ _ _ (by simp)).trans (set_blk HPP.out.rl 0 (.slice A n c))
  have k1:W9.heap[w.heap.size+1]?=some (.cells #[.int .i64 (lpP (parL X O v s))] 3 (0,0)):=by
   rw [hW9]
   exact set_blk ((Below.heap_setCell W ⟨w.heap.size,0,none⟩ (.slice A n c) (w.heap.size+1) (by simp)).trans HPP.out.ru) 0 (.int .i64 (lpP (parL X O v s)))
  have kD:W9.heap[D]?=some (.deferred (some [])):=by
   rw [hW9]
   exact (Below.heap_setCell _ _ _ _ (by simpa using hD2)).trans ((Below.heap_setCell _ _ _ _ (by simpa using hD1)).trans HKD.out)
  have kL:Le (w.heap.size+4) A n c (parE X O v s) W9:=by
   rw [hW9]
   exact ⟨ownsRow_setCell_below (ownsRow_setCell_below HPP.out.le.own (by simp) _) (by simp) _,HPP.out.le.len⟩
  have p0:(W9.putObj D (.deferred none)).cell? ⟨w.heap.size,0,none⟩=some (.slice A n c):=zcr _ _ 0 _ 25 (0,0) ((World.putObj_heap_other hD1.symm).trans k0)
  have p1:(W9.putObj D (.deferred none)).cell? ⟨w.heap.size+1,0,none⟩=some (.int .i64 (lpP (parL X O v s))):=zcr _ _ 0 _ 3 (0,0) ((World.putObj_heap_other hD2.symm).trans k1)
  have KL:=zh kL
  have KD:=zh kD
  have HB9:=zh hB9
  have hszD:w.heap.size≤D:=by omega
  rw [←hW9]
  clear hW9 k0 k1 kL kD hB9 c4 c5 f4 f5 c6 g5 g6 h5 h6
  gi_wp2
  refine ⟨by simp,.inl ⟨_,_,rfl,run_takeDeferred KD.out,?_⟩⟩
  refine ⟨.tuple #[.slice A n c,.int .i64 (lpP (parL X O v s))],by simp [results,Tryz.results15,go_sem,p0,p1],A,n,c,rfl,⟨?_,KL.out.len⟩,?_⟩
  ·exact ownsRow_low (by omega) (ownsRow_putObj KL.out.own _ KD.out rfl)
  ·exact (HPP.out.be.trans HB9.out).grown (grownBy_putObj' W9 D _) (Nat.le_trans HPP.out.be.size HB9.out.size) (fun k e=>by cases e;exact hszD)
 case stop =>
  rintro D c pre W _ _ h _
  exact h.elim
end Go.Proofs.YtnobeoppffoomaaGreat
