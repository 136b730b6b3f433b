/-
  FrameCodes: part G16.
  Conditions: named in each theorem.
-/
import Derived.Lib.ItoaMem
import Derived.Test.YtpdbeijfchmlgaaGreatZ0
import Derived.Test.YtpdbeijfchmlgaaGreatG08
import Derived.Test.YtpdbeijfchmlgaaGreatG09
import Derived.Test.YtpdbeijfchmlgaaGreatG11
import Derived.Test.YtpdbeijfchmlgaaGreatG12
import Derived.Test.YtpdbeijfchmlgaaGreatG13
import Derived.Test.YtpdbeijfchmlgaaGreatG14
import Derived.Test.YtpdbeijfchmlgaaGreatG15
set_option linter.unusedVariables false
set_option linter.unusedSimpArgs false
set_option maxHeartbeats 16000000
set_option maxRecDepth 100000
namespace Go.Proofs.YtpdbeijfchmlgaaGreat
open Go.RowKit
theorem mayB_right {e:En} (h:mayB e=true):rightB e=true:=by
 unfold mayB at h;simp only [Bool.and_eq_true] at h;exact h.1
theorem fresh_wt (w:World) (B:Nat) (hB:B≤w.heap.size):Wt B w.heap.size ⟨#[]⟩ (w.alloc (.cells #[.pointer none,.slice none 0 0] 95)):=by
 refine .inl ⟨hB,.slice none 0 0,heap_alloc_new w _,World.ownsRow_nil _ _ _ _,by simp [Value.ownBlock]⟩
theorem ret_pair {a b:ByteArray} {x y:Bool} (h:a=b) (k:x=y):Ending.returned (.tuple #[.string a,.bool x])=.returned (.tuple #[.string b,.bool y]):=by rw [h,k]
theorem put_any5 (e:En) (w:World) (ok:e.Ok) :
 Calls Tryz.prog 25 #[ev e] w fun q w'=>q=.returned (.tuple #[.string (putS e),.bool (mayB e)])∧Below w.heap.size w w':=by
 obtain ⟨W0,hW0⟩:∃ W0,W0=w.alloc (Obj.cells (ec e) 24):=⟨_,rfl⟩;have hb0:Below w.heap.size w W0:=by rw [hW0];exact zba
 have k0:W0.heap[w.heap.size]?=some (.cells (ec e) 24 (0,0)):=by rw [hW0];exact heap_alloc_new w _
 have hlt:w.heap.size<W0.heap.size:=(zgx k0);have KM:=zh (fun (W:World)=>may_any e W ok);have HW0:=zh hW0;have HB:=zh hb0;have HK:=zh k0;have HLT:=zh hlt;have OK:=zh ok;clear hW0 hb0 k0 ok hlt
 cases hm:mayB e with
 | false =>
   rw [hm] at KM;have HP:Hid (putS e=⟨#[]⟩):=by show _=_;unfold putS;rw [hm];rfl
   clear hm
   go_enter Tryz.func25,Tryz.ntmps25
   go_wp2_with (first
    | (go_at_call 59;rw [←HW0.out];(with_reducible refine (KM.out _).mono ?_);rintro q w1 ⟨rfl,hb1⟩))
   go_ret2;exact ⟨ret_pair HP.out.symm rfl,HB.out.trans (hb1.mono HB.out.size)⟩
 | true =>
   have fw:=few_of OK.out (mayB_right hm);have hes:(⟨#[]⟩:ByteArray).size≤140737487000000:=Nat.zero_le _;rw [hm] at KM;have HP:Hid (putS e=pb e):=by show _=_;unfold putS;rw [hm];rfl
   have HS:=zh (pb_size fw);have FW:=zh fw;clear hm fw
   go_enter Tryz.func25,Tryz.ntmps25
   go_wp2_with (first
    | (go_at_call 59;rw [←HW0.out];(with_reducible refine (KM.out _).mono ?_);rintro q w1 ⟨rfl,hb1⟩;have k1:w1.heap[w.heap.size]?=some (.cells (ec e) 24 (0,0)):=(hb1.block _ HLT.out).trans HK.out;obtain ⟨c0,c1,c2,c3,c4,c5,c6,c7,c8,c9,c10⟩:=zecl (w:=(w1.alloc (.cells #[.pointer none,.slice none 0 0] 95))) (b:=w.heap.size) (e:=e) ((Lib.alloc_old w1 _ _ (zgx k1)).trans k1);have HB1:Hid (Below w.heap.size w w1):=zh (HB.out.trans (hb1.mono HB.out.size));have T1:=zh (fresh_wt w1 w.heap.size HB1.out.size);clear k1 hb1)
    | (go_at_call 60;(with_reducible refine (entry_any w.heap.size w1.heap.size e ⟨#[]⟩ _ T1.out hes (Nat.le_trans HB1.out.size (by simp)) OK.out FW.out).mono ?_);rintro q w2 ⟨rfl,S2⟩;have HS2:=zh S2;clear S2)
    | (go_at_call 61;(with_reducible refine (wstring w.heap.size w1.heap.size _ _ HS2.out.t (by rw [ByteArray.size_append,HS.out];omega)).mono ?_);rintro q w3 ⟨rfl,hb3⟩))
   go_ret2;refine ⟨ret_pair ?_ rfl,((HB1.out.alloc HB1.out.size _).trans HS2.out.be).trans hb3⟩;rw [HP.out]
   apply ByteArray.ext;simp
end Go.Proofs.YtpdbeijfchmlgaaGreat
namespace Go.Proofs.YtpdbeijfchmlgaaGreat
open Go.RowKit
theorem rnum_any (v k:Int) (w:World) (hv:0≤v∧v≤18446744073709551615) :
 Calls Tryz.prog 67 #[.int .u64 v,.int .i64 k] w fun q w'=>q=.returned (.string (fN v k))∧Below w.heap.size w w':=by
 obtain ⟨n,rfl⟩:=Int.eq_ofNat_of_zero_le hv.1;have K:=zh (rfixed_any n k w (by omega))
 go_enter Tryz.func67,Tryz.ntmps67
 go_wp2_with (go_at_call 70;(with_reducible refine K.out.mono ?_);rintro q w1 ⟨rfl,hb⟩)
 go_ret;exact ⟨rfl,hb⟩
structure Bq (w0:World) (e:En) (w:World):Prop where
 bx:Bx w0.heap.size e 24 w
 be:Below w0.heap.size w0 w
 sz:w0.heap.size≤w.heap.size
theorem Bq.on {w0 w w1:World} {e:En} (h:Bq w0 e w) (hb:Below w.heap.size w w1):Bq w0 e w1:=⟨h.bx.below hb,h.be.trans (hb.mono h.sz),Nat.le_trans h.sz hb.size⟩
theorem Bq.drew {w0 w:World} {e:En} (h:Bq w0 e w):Bq w0 e w.drew:=⟨⟨h.bx.bx⟩,h.be.drew,h.sz⟩
theorem Bq.all {w0 w:World} {e:En} (h:Bq w0 e w):Bq w0 e w∧w.cell? ⟨w0.heap.size,0,none⟩=some (.int .u64 e.term)∧w.cell? ⟨w0.heap.size,1,none⟩=some (.int .u64 e.index)∧w.cell? ⟨w0.heap.size,2,none⟩=some (.int .i64 e.kind)∧w.cell? ⟨w0.heap.size,3,none⟩=some (.int .u64 e.client)∧w.cell? ⟨w0.heap.size,4,none⟩=some (.int .u64 e.seq)∧w.cell? ⟨w0.heap.size,5,none⟩=some (.int .u64 e.block)∧w.cell? ⟨w0.heap.size,6,none⟩=some (.int .u64 e.many)∧w.cell? ⟨w0.heap.size,7,none⟩=some (.int .i64 e.node)∧w.cell? ⟨w0.heap.size,8,none⟩=some (.int .i64 e.level)∧w.cell? ⟨w0.heap.size,9,none⟩=some (.string e.data):=⟨h,h.bx.cell 0,h.bx.cell 1,h.bx.cell 2,h.bx.cell 3,h.bx.cell 4,h.bx.cell 5,h.bx.cell 6,h.bx.cell 7,h.bx.cell 8,h.bx.cell 9⟩
theorem zmk (m:Nat) (W:World) (hm:m≤66):(Instr.makeSlice 62 (.int .i64 m) (.int .i64 m)).run Tryz.prog W=.ok (.slice (some ⟨W.heap.size,0,none⟩) m m) (W.alloc (.cells (Lib.byteCells (List.replicate m 0)).toArray 5)):=by
 obtain ⟨i0,hi0,hz0,hz1,hz2⟩:=info_parts Tryz.info5;have h1:=run_make (P:=Tryz.prog) W 62 5 i0 (.int .u8 0) Tryz.underlying62 hi0 hz0 .i64 .i64 m m (by omega) (by omega) (by rw [hz2];omega) (by omega)
 have e:madeCells (Value.int .u8 0).cells ((m:Int).toNat*i0.size)=(Lib.byteCells (List.replicate m 0)).toArray:=by
  rw [hz1]
  apply Array.ext'
  have h2:=toList_madeCells_one (Value.int .u8 0) m;have h3:((m:Int).toNat*1)=m:=by omega
  rw [h3]
  show (madeCells #[Value.int IntKind.u8 0] m).toList=_
  rw [h2]
  simp [Lib.byteCells]
 rw [e] at h1;exact h1
theorem zcv (m g:Nat) (W:World) (h:W.heap[g]?=some (.cells (Lib.byteCells (List.replicate m 0)).toArray 5 (0,0))):(convert 62 9 (.slice (some ⟨g,0,none⟩) m m)).run Tryz.prog W=.ok (.string (zer m)) W:=by
 have h:=run_convert_bytes_back (P:=Tryz.prog) W 62 9 5 ⟨g,0,none⟩ m (List.replicate m 0) Tryz.underlying62 Tryz.underlying5 Tryz.underlying9 (fun j hj=>by
  rw [Lib.add_plain,zcr W g _ _ 5 (0,0) h,Nat.zero_add,List.getElem?_toArray];unfold Lib.byteCells;rw [List.getElem?_map,List.getElem?_eq_getElem hj]
  rfl)
 simp only [List.length_replicate] at h;exact h
theorem rput_any5 (e:En) (w:World) (ok:e.Ok) :
 Calls Tryz.prog 28 #[ev e] w fun q w'=>q=.returned (.tuple #[.string (putS e),.bool (mayB e)])∧Below w.heap.size w w':=by
 obtain ⟨W0,hW0⟩:∃ W0,W0=w.alloc (Obj.cells (ec e) 24):=⟨_,rfl⟩
 have S0:Bq w e W0:=by
  rw [hW0];exact ⟨⟨heap_alloc_new w _⟩,zba,by simp⟩
 have KR:=zh (fun (W:World) (h:Bq w e W)=>(rright_any e W ok).mono fun q w' ⟨h1,h2⟩=>And.intro h1 (h.on h2).all);have KL:=zh (fun (W:World) (h:Bq w e W)=>(rlevel_any e W).mono fun q w' ⟨h1,h2⟩=>And.intro h1 (h.on h2).all);have KN:=zh (fun (v k:Int) (W:World) (hv:0≤v∧v≤18446744073709551615) (h:Bq w e W)=>(rnum_any v k W hv).mono fun q w' ⟨h1,h2⟩=>And.intro h1 (h.on h2).all);have HW0:=zh hW0;have S1:=S0.all;rw [hW0] at S1;obtain ⟨S,c0,c1,c2,c3,c4,c5,c6,c7,c8,c9⟩:=S1;rw [←hW0] at S;clear hW0 S0
 cases hr:rightB e with
 | false =>
   rw [hr] at KR;have HM:Hid (mayB e=false):=by show _=_;unfold mayB;rw [hr];rfl
   have HP:Hid (putS e=⟨#[]⟩):=by show _=_;unfold putS;rw [HM.out];rfl
   clear hr
   go_enter Tryz.func28,Tryz.ntmps28
   go_wp2_with (first
    | (go_at_call 65;rw [←HW0.out];(with_reducible refine (KR.out _ S).mono ?_);rintro q w1 ⟨rfl,T,d0,d1,d2,d3,d4,d5,d6,d7,d8,d9⟩))
   go_ret2;exact ⟨ret_pair HP.out.symm HM.out.symm,T.be⟩
 | true =>
   have fw:=few_of ok hr;have hk1:IntKind.u64.wrap e.kind=e.kind:=IntWalk.u64_in _ (by have:=fw.k0;have:=fw.k1;omega);have hk2:IntKind.u64.wrap e.node=e.node:=IntWalk.u64_in _ (by have:=fw.n0;have:=fw.n1;omega);have hk3:IntKind.u64.wrap e.level=e.level:=IntWalk.u64_in _ (by have:=fw.l0;have:=fw.l1;omega);have hk4:IntKind.u64.wrap (e.data.size:Int)=(e.data.size:Int):=IntWalk.u64_in _ (by have:=fw.d;omega);have q1:0≤e.kind∧e.kind≤18446744073709551615:=by have:=fw.k0;have:=fw.k1;omega
   have q2:0≤e.node∧e.node≤18446744073709551615:=by have:=fw.n0;have:=fw.n1;omega
   have q3:0≤e.level∧e.level≤18446744073709551615:=by have:=fw.l0;have:=fw.l1;omega
   have q4:0≤(e.data.size:Int)∧(e.data.size:Int)≤18446744073709551615:=by have:=fw.d;omega
   have q5:0≤e.term∧e.term≤18446744073709551615:=⟨ok.t0,ok.t1⟩;have q6:0≤e.index∧e.index≤18446744073709551615:=⟨ok.i0,ok.i1⟩;have q7:0≤e.client∧e.client≤18446744073709551615:=⟨ok.c0,ok.c1⟩;have q8:0≤e.seq∧e.seq≤18446744073709551615:=⟨ok.s0,ok.s1⟩;have q9:0≤e.block∧e.block≤18446744073709551615:=⟨ok.b0,ok.b1⟩;have qa:0≤e.many∧e.many≤18446744073709551615:=⟨ok.m0,ok.m1⟩;obtain ⟨m,hm⟩:∃ m,m=66-e.data.size:=⟨_,rfl⟩;have hmi:IntKind.i64.wrap ((66:Int)-e.data.size)=(m:Int):=(IntWalk.i64_in _ (by have:=fw.d;omega)).trans (by have:=fw.d;omega);have hm66:m≤66:=by omega
   have hd64:e.data.size≤64:=fw.d;have HMM:=zh hm;rw [hr] at KR;clear hm
   by_cases hl:lvl e.kind=2
   ·rw [hl] at KL;have HM:Hid (mayB e=false):=by show _=_;unfold mayB;rw [hr,hl];rfl
    have HP:Hid (putS e=⟨#[]⟩):=by show _=_;unfold putS;rw [HM.out];rfl
    clear hr fw hl
    go_enter Tryz.func28,Tryz.ntmps28
    go_wp2_with (first
     | (go_at_call 65;rw [←HW0.out];(with_reducible refine (KR.out _ S).mono ?_);rintro q w1 ⟨rfl,T,d0,d1,d2,d3,d4,d5,d6,d7,d8,d9⟩;have z10:=T.bx.cell 10)
     | (go_at_call 66;(with_reducible refine (KL.out _ T).mono ?_);rintro q w2 ⟨rfl,U,f0,f1,f2,f3,f4,f5,f6,f7,f8,f9⟩))
    go_ret2;exact ⟨ret_pair HP.out.symm HM.out.symm,U.be⟩
   ·have hl1:lvl e.kind=1:=by
     unfold lvl at hl ⊢
     by_cases h11:e.kind=11
     ·rw [if_pos h11] at hl;exact absurd rfl hl
     ·rw [if_neg h11]
    rw [hl1] at KL;have HM:Hid (mayB e=true):=by show _=_;unfold mayB;rw [hr,hl1];rfl
    have HP:Hid (putS e=pb e):=by show _=_;unfold putS;rw [HM.out];rfl
    clear hr fw hl hl1
    go_enter Tryz.func28,Tryz.ntmps28
    go_upto_region 4 with (first
     | (go_at_call 65;rw [←HW0.out];(with_reducible refine (KR.out _ S).mono ?_);rintro q w1 ⟨rfl,T,d0,d1,d2,d3,d4,d5,d6,d7,d8,d9⟩;have z10:=T.bx.cell 10)
     | (go_at_call 66;(with_reducible refine (KL.out _ T).mono ?_);rintro q w2 ⟨rfl,U,f0,f1,f2,f3,f4,f5,f6,f7,f8,f9⟩))
    have mk:=zmk m w2.drew hm66;have cv:=zcv m w2.heap.size (w2.alloc (.cells (Lib.byteCells (List.replicate m 0)).toArray 5)).drew (heap_alloc_new w2 _);have V0:=zh ((U.on ((Below.refl _ w2).alloc (Nat.le_refl _) _)).drew:Bq w e (w2.alloc (.cells (Lib.byteCells (List.replicate m 0)).toArray 5)).drew);have va9:(w2.alloc (.cells (Lib.byteCells (List.replicate m 0)).toArray 5)).drew.cell? ⟨w.heap.size,9,none⟩=some (.string e.data):=V0.out.bx.cell 9;have hzl:¬ 9223372036854775807<e.data.size+(zer m).size:=by rw [zer_size];omega
    obtain ⟨M,hM⟩:∃ M,M=(Lib.byteCells (List.replicate m 0)).toArray:=⟨_,rfl⟩;rw [←hM] at mk cv V0 va9;clear S T c0 d0 c1 d1 c2 d2 c3 d3 c4 d4 c5 d5 c6 d6 c7 d7 c8 d8 c9 d9 z10 hM
    go_region
    go_wp2_with fail
    have V1:=V0.out.drew;clear U f0 f1 f2 f3 f4 f5 f6 f7 f8 f9 mk cv;obtain ⟨W3,hW3⟩:∃ W3,W3=(w2.alloc (.cells M 5)).drew:=⟨_,rfl⟩;rw [←hW3] at V0 V1 ⊢;have V2:=V0.out.all;obtain ⟨V,g0,g1,g2,g3,g4,g5,g6,g7,g8,g9⟩:=V2;obtain ⟨D,hD⟩:∃ D,D=e.data++zer m:=⟨_,rfl⟩;have hDs:D.size=66:=by rw [hD,ByteArray.size_append,zer_size,HMM.out];omega
    rw [←hD];have HD:=zh hD;have n1:∀ v,(fN v 1).size=1:=fun v=>fN_size v 1 (by omega) (by omega);have n8:∀ v,(fN v 8).size=8:=fun v=>fN_size v 8 (by omega) (by omega);have n4:∀ v,(fN v 4).size=4:=fun v=>fN_size v 4 (by omega) (by omega);clear hW3 hD va9 hzl
    go_region_held3 (fun w'=>w'.cell? ⟨w.heap.size,0,none⟩=some (.int .u64 e.term)∧w'.cell? ⟨w.heap.size,1,none⟩=some (.int .u64 e.index)∧w'.cell? ⟨w.heap.size,2,none⟩=some (.int .i64 e.kind)∧w'.cell? ⟨w.heap.size,3,none⟩=some (.int .u64 e.client)∧w'.cell? ⟨w.heap.size,4,none⟩=some (.int .u64 e.seq)∧w'.cell? ⟨w.heap.size,5,none⟩=some (.int .u64 e.block)∧w'.cell? ⟨w.heap.size,6,none⟩=some (.int .u64 e.many)∧w'.cell? ⟨w.heap.size,7,none⟩=some (.int .i64 e.node)∧w'.cell? ⟨w.heap.size,8,none⟩=some (.int .i64 e.level)∧w'.cell? ⟨w.heap.size,9,none⟩=some (.string e.data)) (first|exact ⟨g0,g1,g2,g3,g4,g5,g6,g7,g8,g9⟩|(refine ⟨?_,?_,?_,?_,?_,?_,?_,?_,?_,?_⟩<;>assumption)) (first
     | (go_at_call 67;(with_reducible refine (KN.out _ _ _ (by assumption) (by assumption)).mono ?_);rintro q w6 ⟨rfl,X,p0,p1,p2,p3,p4,p5,p6,p7,p8,p9⟩))
    go_wp2_with fail
    go_ret2;refine ⟨ret_pair ?_ HM.out.symm,X.be⟩;rw [HP.out];unfold pb;rw [←HMM.out,HD.out]
end Go.Proofs.YtpdbeijfchmlgaaGreat
namespace Go.Proofs.YtpdbeijfchmlgaaGreat
open Go.RowKit
theorem mright_any5 (m:Ms) (w:World) (hE:Ents w.heap.size m.A m.n m.es w) (hn:(m.n:Int)≤9223372036854775807) (hok:∀ e∈m.es,e.Ok) :
 Calls Tryz.prog 50 #[mv m] w fun r w'=>r=.returned (.bool (mrightB m))∧Below w.heap.size w w':=by
 by_cases h1:1≤m.frm<;>by_cases h2:1≤m.dst
 ·exact mright_11 m w hE hn hok h1 h2
 ·exact mright_10 m w hE hn hok h1 (by omega)
 ·exact mright_01 m w hE hn hok (by omega) h2
 ·exact mright_00 m w hE hn hok (by omega) (by omega)
def pbs:List En→ByteArray
 | []=>⟨#[]⟩
 | e :: l=>pb e++pbs l
def pbm (m:Ms):ByteArray :=
 fN m.kind 1++fN m.frm 1++fN m.dst 1++fN m.term 8++fN m.index 8++fN m.prev 8++fN m.commit 8++fN m.mark 8++fN (bitI m.ok) 1++fN m.n 1++pbs m.es++fN m.snap.size 4++m.snap
def mmayB (m:Ms):Bool:=mrightB m&&(mlvl m==1)
def putM (m:Ms):ByteArray:=if mmayB m then pbm m else ⟨#[]⟩
theorem pbs_snoc:∀ (l:List En) (e:En),pbs (l++[e])=pbs l++pb e
 | [],e=>by
   show pb e++⟨#[]⟩=⟨#[]⟩++pb e
   apply ByteArray.ext;simp
 | a :: l,e=>by
   show pb a++pbs (l++[e])=pb a++pbs l++pb e
   rw [pbs_snoc l e,Vi.append_assoc3]
theorem pbs_size:∀ (l:List En),(∀ e∈l,Few e)→(pbs l).size=110*l.length
 | [],_=>rfl
 | a :: l,h=>by
   show (pb a++pbs l).size=_
   rw [ByteArray.size_append,pb_size (h a (by simp)),pbs_size l (fun e he=>h e (by simp [he])),List.length_cons];omega
structure MFew (m:Ms):Prop where
 k0:0≤m.kind
 k1:m.kind≤10
 f0:0≤m.frm
 f1:m.frm≤7
 o0:0≤m.dst
 o1:m.dst≤7
 n1:m.n≤64
 s1:m.snap.size≤16384
 es:∀ e∈m.es,Few e
theorem mfew_of {m:Ms} (wd:m.Wide) (h:mrightB m=true):MFew m:=by
 unfold mrightB at h;simp only [Bool.and_eq_true,Bool.not_eq_true'] at h;obtain ⟨h1,h2⟩:=h
 have hes:∀ e∈m.es,Few e:=by
  intro e he;refine few_of (wd.eo e he) ?_;unfold hasWrong at h2;rw [List.any_eq_false] at h2
  simpa using h2 e he
 unfold masksB masks at h1;simp only [List.all_cons,List.all_nil,id,Bool.and_true,Bool.and_eq_true,decide_eq_true_eq,lim_facts,IntKind.wrap_u64] at h1;obtain ⟨a0,a1,a2,a3,a4,a5,a6,a7,a8,a9⟩:=h1;have f:1≤m.kind∧m.kind≤10:=of_decide_eq_true a0;have q1:=wd.n1;have q2:=wd.s1;refine ⟨by omega,f.2,by omega,a1.2,by omega,a2.2,?_,?_,hes⟩
 ·exact both (fun h=>by have:=a8.1 h;omega) (fun h=>by have:=a8.2 h;omega)
 ·exact both (fun h=>by have:=a9.1 h;omega) (fun h=>by have:=a9.2 h;omega)
theorem pbm_size {m:Ms} (h:MFew m) (hl:m.es.length=m.n):(pbm m).size=49+110*m.n+m.snap.size:=by
 unfold pbm;simp only [ByteArray.size_append,pbs_size _ h.es,fN_size _ 1 (by omega) (by omega),fN_size _ 8 (by omega) (by omega),fN_size _ 4 (by omega) (by omega)];rw [hl];omega
structure Wm (w0:World) (B b:Nat) (m:Ms) (x:ByteArray) (r:Nat) (w:World):Prop where
 s:Ws w0 B b x w
 lb:b<w0.heap.size
 box:w.heap[w0.heap.size]?=some (.cells (mc m) 29 (0,0))
 fn:w.heap[w0.heap.size+1]?=some (.cells #[.func (.func 108) #[.pointer (some ⟨b,0,none⟩)] #[]] 135 (0,0))
 en:Ents B m.A m.n m.es w
 sz:x.size+r≤140737488000000
section
variable {w0:World} {B b:Nat} {m:Ms} {x:ByteArray} {r:Nat} {w w1:World}
theorem Wm.cell (h:Wm w0 B b m x r w) (i:Nat):w.cell? ⟨w0.heap.size,i,none⟩=(mc m)[i]?:=zcr w _ i _ 29 (0,0) h.box
theorem Wm.fcell (h:Wm w0 B b m x r w):w.cell? ⟨w0.heap.size+1,0,none⟩=some (.func (.func 108) #[.pointer (some ⟨b,0,none⟩)] #[]):=zcr w _ 0 _ 135 (0,0) h.fn
theorem Wm.drew (h:Wm w0 B b m x r w):Wm w0 B b m x r w.drew:=⟨h.s.drew,h.lb,h.box,h.fn,h.en.below (Below.refl _ w).drew,h.sz⟩
theorem Wm.below (h:Wm w0 B b m x r w) (hb:Below w.heap.size w w1):Wm w0 B b m x r w1 :=
 ⟨h.s.below hb,h.lb,(hb.block _ (zgx h.box)).trans h.box,(hb.block _ (zgx h.fn)).trans h.fn,h.en.below (hb.mono h.s.sz),h.sz⟩
theorem Wm.on {y:ByteArray} {r':Nat} (h:Wm w0 B b m x r w) (k:Ws w B b (x++y) w1) (hr:y.size+r'≤r):Wm w0 B b m (x++y) r' w1:=by
 have h1:=h.lb;have h2:=h.sz;exact ⟨⟨k.t,h.s.be.trans k.be,h.s.ok.trans k.ok,k.sz,Nat.le_trans h.s.sw k.sw⟩,h.lb,kept_cells k.ok h.box (by omega) (by decide),kept_cells k.ok h.fn (by omega) (by decide),h.en.below k.be,by rw [ByteArray.size_append];omega⟩
theorem Wm.all (h:Wm w0 B b m x r w):Wm w0 B b m x r w∧w.cell? ⟨w0.heap.size,0,none⟩=some (.int .i64 m.kind)∧w.cell? ⟨w0.heap.size,1,none⟩=some (.int .i64 m.frm)∧w.cell? ⟨w0.heap.size,2,none⟩=some (.int .i64 m.dst)∧w.cell? ⟨w0.heap.size,3,none⟩=some (.int .u64 m.term)∧w.cell? ⟨w0.heap.size,4,none⟩=some (.int .u64 m.index)∧w.cell? ⟨w0.heap.size,5,none⟩=some (.int .u64 m.prev)∧w.cell? ⟨w0.heap.size,6,none⟩=some (.int .u64 m.commit)∧w.cell? ⟨w0.heap.size,7,none⟩=some (.int .u64 m.mark)∧w.cell? ⟨w0.heap.size,8,none⟩=some (.bool m.ok)∧w.cell? ⟨w0.heap.size,9,none⟩=some (.slice m.A m.n m.c)∧w.cell? ⟨w0.heap.size,10,none⟩=some (.string m.snap)∧w.cell? ⟨w0.heap.size+1,0,none⟩=some (.func (.func 108) #[.pointer (some ⟨b,0,none⟩)] #[]):=⟨h,h.cell 0,h.cell 1,h.cell 2,h.cell 3,h.cell 4,h.cell 5,h.cell 6,h.cell 7,h.cell 8,h.cell 9,h.cell 10,h.fcell⟩
end
theorem wm_number (w0:World) (B b:Nat) (m:Ms) (x:ByteArray) (r:Nat) (v k:Int) (w:World) (h:Wm w0 B b m x r w) (hr:8≤r) (hv:0≤v) (hk:0≤k∧k≤8) :
 Calls Tryz.prog 108 #[.pointer (some ⟨b,0,none⟩),.int .u64 v,.int .i64 k] w fun q w'=>q=.returned (.tuple #[])∧Wm w0 B b m (x++fN v k) (r-8) w'∧w'.cell? ⟨w0.heap.size,0,none⟩=some (.int .i64 m.kind)∧w'.cell? ⟨w0.heap.size,1,none⟩=some (.int .i64 m.frm)∧w'.cell? ⟨w0.heap.size,2,none⟩=some (.int .i64 m.dst)∧w'.cell? ⟨w0.heap.size,3,none⟩=some (.int .u64 m.term)∧w'.cell? ⟨w0.heap.size,4,none⟩=some (.int .u64 m.index)∧w'.cell? ⟨w0.heap.size,5,none⟩=some (.int .u64 m.prev)∧w'.cell? ⟨w0.heap.size,6,none⟩=some (.int .u64 m.commit)∧w'.cell? ⟨w0.heap.size,7,none⟩=some (.int .u64 m.mark)∧w'.cell? ⟨w0.heap.size,8,none⟩=some (.bool m.ok)∧w'.cell? ⟨w0.heap.size,9,none⟩=some (.slice m.A m.n m.c)∧w'.cell? ⟨w0.heap.size,10,none⟩=some (.string m.snap)∧w'.cell? ⟨w0.heap.size+1,0,none⟩=some (.func (.func 108) #[.pointer (some ⟨b,0,none⟩)] #[]):=by
 obtain ⟨n,rfl⟩:=Int.eq_ofNat_of_zero_le hv;obtain ⟨j,rfl⟩:=Int.eq_ofNat_of_zero_le hk.1;have hs:(fN n j).size=j:=by rw [fN_size _ _ (by omega) (by omega)];omega
 have h1:=h.sz;exact (number_any B b n j x w h.s.t (by omega) h.s.sz (by omega)).mono fun q w' ⟨h2,h3⟩=>⟨h2,(h.on (y:=fN n j) h3 (by omega)).all⟩
theorem wm_small (w0:World) (B b:Nat) (m:Ms) (x:ByteArray) (r:Nat) (v:Int) (w:World) (h:Wm w0 B b m x r w) (hr:8≤r) (hv:0≤v∧v≤255) :
 Calls Tryz.prog 130 #[.int .i64 v,.pointer (some ⟨w0.heap.size+1,0,none⟩)] w fun q w'=>q=.returned (.tuple #[])∧Wm w0 B b m (x++fN v 1) (r-8) w'∧w'.cell? ⟨w0.heap.size,0,none⟩=some (.int .i64 m.kind)∧w'.cell? ⟨w0.heap.size,1,none⟩=some (.int .i64 m.frm)∧w'.cell? ⟨w0.heap.size,2,none⟩=some (.int .i64 m.dst)∧w'.cell? ⟨w0.heap.size,3,none⟩=some (.int .u64 m.term)∧w'.cell? ⟨w0.heap.size,4,none⟩=some (.int .u64 m.index)∧w'.cell? ⟨w0.heap.size,5,none⟩=some (.int .u64 m.prev)∧w'.cell? ⟨w0.heap.size,6,none⟩=some (.int .u64 m.commit)∧w'.cell? ⟨w0.heap.size,7,none⟩=some (.int .u64 m.mark)∧w'.cell? ⟨w0.heap.size,8,none⟩=some (.bool m.ok)∧w'.cell? ⟨w0.heap.size,9,none⟩=some (.slice m.A m.n m.c)∧w'.cell? ⟨w0.heap.size,10,none⟩=some (.string m.snap)∧w'.cell? ⟨w0.heap.size+1,0,none⟩=some (.func (.func 108) #[.pointer (some ⟨b,0,none⟩)] #[]):=by
 have c:=h.fcell;have hw:IntKind.u64.wrap v=v:=IntWalk.u64_in _ (by omega);have K:=zh (wm_number w0 B b m x r v 1 w h hr hv.1 (by omega));clear h
 go_enter Tryz.func130,Tryz.ntmps130
 go_wp2_with (go_at_call 108;(with_reducible refine K.out.mono ?_);rintro q w1 ⟨rfl,h1⟩)
 go_end0;exact ⟨rfl,h1⟩
theorem wm_write (w0:World) (B b:Nat) (m:Ms) (x s:ByteArray) (r:Nat) (w:World) (h:Wm w0 B b m x r w) (hr:s.size≤r) :
 Calls Tryz.prog 110 #[.pointer (some ⟨b,0,none⟩),.string s] w fun q w'=>q=.returned (.tuple #[.int .i64 s.size,.nilIface])∧Wm w0 B b m (x++s) (r-s.size) w'∧w'.cell? ⟨w0.heap.size,0,none⟩=some (.int .i64 m.kind)∧w'.cell? ⟨w0.heap.size,1,none⟩=some (.int .i64 m.frm)∧w'.cell? ⟨w0.heap.size,2,none⟩=some (.int .i64 m.dst)∧w'.cell? ⟨w0.heap.size,3,none⟩=some (.int .u64 m.term)∧w'.cell? ⟨w0.heap.size,4,none⟩=some (.int .u64 m.index)∧w'.cell? ⟨w0.heap.size,5,none⟩=some (.int .u64 m.prev)∧w'.cell? ⟨w0.heap.size,6,none⟩=some (.int .u64 m.commit)∧w'.cell? ⟨w0.heap.size,7,none⟩=some (.int .u64 m.mark)∧w'.cell? ⟨w0.heap.size,8,none⟩=some (.bool m.ok)∧w'.cell? ⟨w0.heap.size,9,none⟩=some (.slice m.A m.n m.c)∧w'.cell? ⟨w0.heap.size,10,none⟩=some (.string m.snap)∧w'.cell? ⟨w0.heap.size+1,0,none⟩=some (.func (.func 108) #[.pointer (some ⟨b,0,none⟩)] #[]):=by
 have h1:=h.sz;exact (wwrite B b x s w h.s.t (by omega) h.s.sz).mono fun q w' ⟨h2,h3,h4,h5⟩=>⟨h2,(h.on (w1:=w') (y:=s) ⟨h3,h4,h5,Nat.le_trans h.s.sz h4.size,h4.size⟩ (by omega)).all⟩
theorem wm_entry (w0:World) (B b:Nat) (m:Ms) (x:ByteArray) (r:Nat) (e:En) (w:World) (h:Wm w0 B b m x r w) (hr:110≤r) (hx:x.size≤140737487000000) (ok:e.Ok) (fw:Few e) :
 Calls Tryz.prog 60 #[.pointer (some ⟨b,0,none⟩),ev e] w fun q w'=>q=.returned (.tuple #[])∧Wm w0 B b m (x++pb e) (r-110) w'∧w'.cell? ⟨w0.heap.size,0,none⟩=some (.int .i64 m.kind)∧w'.cell? ⟨w0.heap.size,1,none⟩=some (.int .i64 m.frm)∧w'.cell? ⟨w0.heap.size,2,none⟩=some (.int .i64 m.dst)∧w'.cell? ⟨w0.heap.size,3,none⟩=some (.int .u64 m.term)∧w'.cell? ⟨w0.heap.size,4,none⟩=some (.int .u64 m.index)∧w'.cell? ⟨w0.heap.size,5,none⟩=some (.int .u64 m.prev)∧w'.cell? ⟨w0.heap.size,6,none⟩=some (.int .u64 m.commit)∧w'.cell? ⟨w0.heap.size,7,none⟩=some (.int .u64 m.mark)∧w'.cell? ⟨w0.heap.size,8,none⟩=some (.bool m.ok)∧w'.cell? ⟨w0.heap.size,9,none⟩=some (.slice m.A m.n m.c)∧w'.cell? ⟨w0.heap.size,10,none⟩=some (.string m.snap)∧w'.cell? ⟨w0.heap.size+1,0,none⟩=some (.func (.func 108) #[.pointer (some ⟨b,0,none⟩)] #[]) :=
 (entry_any B b e x w h.s.t hx h.s.sz ok fw).mono fun q w' ⟨h2,h3⟩=>⟨h2,(h.on (y:=pb e) h3 (by rw [pb_size fw];omega)).all⟩
theorem bit63b (b:Bool) (w:World):Calls Tryz.prog 131 #[.bool b] w fun q w'=>q=.returned (.int .i64 (bitI b))∧w'=w:=by
 cases b
 all_goals
  go_enter Tryz.func131,Tryz.ntmps131
  go_wp2;go_ret;exact ⟨rfl,rfl⟩
theorem msg_any (B b:Nat) (m:Ms) (x:ByteArray) (w:World) (h:Wt B b x w) (hx:x.size≤1000) (hB:B≤w.heap.size) (hE:Ents B m.A m.n m.es w) (wd:m.Wide) (fw:MFew m) :
 Calls Tryz.prog 74 #[.pointer (some ⟨b,0,none⟩),mv m] w fun q w'=>q=.returned (.tuple #[])∧Ws w B b (x++pbm m) w':=by
 have hmf:=zmL;obtain ⟨W0,hW0⟩:∃ W0,W0=(w.alloc (Obj.cells (mc m) 29)).alloc (Obj.cells #[.func (.func 108) #[.pointer (some ⟨b,0,none⟩)] #[]] 135):=⟨_,rfl⟩;have hb0:Below w.heap.size w W0:=by rw [hW0];exact zba.alloc (by simp) _
 have hlt:b<w.heap.size:=by rcases h with h|h<;>exact h.lt
 have S0:Wm w B b m x 100000 W0:=by
  have k0:W0.heap[w.heap.size]?=some (.cells (mc m) 29 (0,0)):=by
   rw [hW0];exact (Lib.alloc_old _ _ _ (by simp)).trans (heap_alloc_new w _)
  have k1:W0.heap[w.heap.size+1]?=some (.cells #[.func (.func 108) #[.pointer (some ⟨b,0,none⟩)] #[]] 135 (0,0)):=by
   have h:=heap_alloc_new (w.alloc (Obj.cells (mc m) 29)) (Obj.cells #[.func (.func 108) #[.pointer (some ⟨b,0,none⟩)] #[]] 135);rw [show (w.alloc (Obj.cells (mc m) 29)).heap.size=w.heap.size+1 by simp] at h;rw [hW0];exact h
  exact ⟨(Ws.start h hB).below hb0,hlt,k0,k1,hE.below (hb0.mono hB),by omega⟩
 have S1:=S0.all;have K53:=zh (wm_number w B b m);have K62:=zh (wm_small w B b m);have K55:=zh (wm_write w B b m);have K29:=zh (wm_entry w B b m);have K63:=zh (fun (W:World)=>bit63b m.ok W);have g1:=wd.t0;have g2:=wd.i0;have g3:=wd.p0;have g4:=wd.c0;have g5:=wd.m0;have q1:0≤m.kind∧m.kind≤255:=⟨fw.k0,by have:=fw.k1;omega⟩;have q2:0≤m.frm∧m.frm≤255:=⟨fw.f0,by have:=fw.f1;omega⟩;have q3:0≤m.dst∧m.dst≤255:=⟨fw.o0,by have:=fw.o1;omega⟩;have hn64:m.n≤64:=fw.n1;have q4:0≤(m.n:Int)∧(m.n:Int)≤255:=by omega
 have q5:0≤bitI m.ok∧bitI m.ok≤255:=by cases m.ok<;>decide
 have hs1:m.snap.size≤16384:=fw.s1;have q6:0≤(m.snap.size:Int):=by omega
 have hw6:IntKind.u64.wrap (m.snap.size:Int)=(m.snap.size:Int):=IntWalk.u64_in _ (by omega);have HEN:=zh (fun (k:Nat) (e:En) (he:m.es[k]?=some e)=>And.intro (wd.eo e (List.mem_of_getElem? he)) (fw.es e (List.mem_of_getElem? he)));have HLEN:=zh hE.len;obtain ⟨S,c0,c1,c2,c3,c4,c5,c6,c7,c8,c9,c10,cf⟩:=S1;have HW0:=zh hW0;have HX:=zh hx;clear hW0 hb0 hlt S0 h hx hB hE wd fw
 go_enter Tryz.func74,Tryz.ntmps74
 go_upto_region 3 with fail
 rw [←HW0.out];clear HW0
 go_upto_region 14 with (first
  | (go_at_call 130;(with_reducible refine (K62.out _ _ _ _ S (by omega) (by assumption)).mono ?_);clear S c0 c1 c2 c3 c4 c5 c6 c7 c8 c9 c10 cf;rintro q w1 ⟨rfl,S,c0,c1,c2,c3,c4,c5,c6,c7,c8,c9,c10,cf⟩)
  | (go_at_call 131;(with_reducible refine (K63.out _).mono ?_);rintro q w1 ⟨rfl,rfl⟩)
  | (go_at_call 108;(with_reducible refine (K53.out _ _ _ _ _ S (by omega) (by assumption) (by omega)).mono ?_);clear S c0 c1 c2 c3 c4 c5 c6 c7 c8 c9 c10 cf;rintro q w1 ⟨rfl,S,c0,c1,c2,c3,c4,c5,c6,c7,c8,c9,c10,cf⟩))
 obtain ⟨y,hy⟩:∃ y,y=x++fN m.kind 1++fN m.frm 1++fN m.dst 1++fN m.term 8++fN m.index 8++fN m.prev 8++fN m.commit 8++fN m.mark 8++fN (bitI m.ok) 1++fN m.n 1:=⟨_,rfl⟩;rw [←hy] at S
 have hys:y.size≤2000:=by
  rw [hy];simp only [ByteArray.size_append,fN_size _ 1 (by omega) (by omega),fN_size _ 8 (by omega) (by omega)]
  have:=HX.out
  omega
 have HY:=zh hy;have HYS:=zh hys;have HS:=zh S;clear hy hys S c0 c1 c2 c3 c4 c5 c6 c7 c8
 go_loopw [56] (fun i wr=>∃ k:Nat,k≤m.n∧i=.int .i64 k∧Wm w B b m (y++pbs (m.es.take k)) (90000-110*k) wr) (fun i _=>m.n-(intOf i).toNat)
 case atStart =>
  refine ⟨0,Nat.zero_le _,rfl,?_⟩;have e0:y++pbs (m.es.take 0)=y:=by rw [List.take_zero];show y++⟨#[]⟩=y;apply ByteArray.ext;simp
  rw [e0];have h:=HS.out;exact ⟨h.s,h.lb,h.box,h.fn,h.en,by have:=h.sz;omega⟩
 case round =>
  obtain ⟨k,hk,rfl,hr⟩:=hrel
  by_cases hlt:k<m.n
  ·obtain ⟨e,he⟩:∃ e,m.es[k]?=some e:=⟨_,List.getElem?_eq_getElem (by rw [HLEN.out];exact hlt)⟩;obtain ⟨a,hA,hBl,hc⟩:=hr.en.at_ k e he;have hef:=HEN.out k e he
   have hst:Hid (y++pbs (m.es.take k)++pb e=y++pbs (m.es.take (k+1))):=by
    show _=_
    rw [take_snoc he,pbs_snoc,Vi.append_assoc3]
   have hps:(y++pbs (m.es.take k)).size≤20000:=by
    rw [ByteArray.size_append,pbs_size _ (fun e' he'=>by
     obtain ⟨j,hj,hje⟩:=List.getElem_of_mem (List.mem_of_mem_take he');exact (HEN.out j e' (by rw [←hje];exact List.getElem?_eq_getElem hj)).2),List.length_take]
    have:=HYS.out
    omega
   have KE:=zh (fun (W:World) (h:Wm w B b m (y++pbs (m.es.take k)) (90000-110*k) W)=>wm_entry w B b m _ _ e W h (by omega) (by omega) hef.1 hef.2);have d0:wr.cell? (a.add (k*11))=some (.int .u64 e.term):=hc 0 (by omega);have d1:wr.cell? ⟨(a.add (k*11)).block,(a.add (k*11)).off+1,none⟩=some (.int .u64 e.index):=hc 1 (by omega);have d2:wr.cell? ⟨(a.add (k*11)).block,(a.add (k*11)).off+2,none⟩=some (.int .i64 e.kind):=hc 2 (by omega);have d3:wr.cell? ⟨(a.add (k*11)).block,(a.add (k*11)).off+3,none⟩=some (.int .u64 e.client):=hc 3 (by omega);have d4:wr.cell? ⟨(a.add (k*11)).block,(a.add (k*11)).off+4,none⟩=some (.int .u64 e.seq):=hc 4 (by omega);have d5:wr.cell? ⟨(a.add (k*11)).block,(a.add (k*11)).off+5,none⟩=some (.int .u64 e.block):=hc 5 (by omega);have d6:wr.cell? ⟨(a.add (k*11)).block,(a.add (k*11)).off+6,none⟩=some (.int .u64 e.many):=hc 6 (by omega);have d7:wr.cell? ⟨(a.add (k*11)).block,(a.add (k*11)).off+7,none⟩=some (.int .i64 e.node):=hc 7 (by omega);have d8:wr.cell? ⟨(a.add (k*11)).block,(a.add (k*11)).off+8,none⟩=some (.int .i64 e.level):=hc 8 (by omega);have d9:wr.cell? ⟨(a.add (k*11)).block,(a.add (k*11)).off+9,none⟩=some (.string e.data):=hc 9 (by omega);have d10:wr.cell? ⟨(a.add (k*11)).block,(a.add (k*11)).off+10,none⟩=some (.string e.old):=hc 10 (by omega);have HR:=zh hr;rw [hA];clear hr hc hA hBl hef hps
   go_wp2_with (go_at_call 60;(with_reducible refine (KE.out _ (HR.out.below zba)).mono ?_);rintro q w2 ⟨rfl,S2,_⟩)
   go_roundw
   case rel =>
    rw [hst.out] at S2;refine ⟨k+1,by omega,by go_num,?_⟩;rw [show 90000-110*(k+1)=90000-110*k-110 by omega];exact S2
   case measure=>simp [intOf];omega
  ·have hkn:k=m.n:=by omega
   have htk:m.es.take k=m.es:=List.take_of_length_le (by rw [HLEN.out];omega);rw [htk] at hr;obtain ⟨S,c0,c1,c2,c3,c4,c5,c6,c7,c8,c9,c10,cf⟩:=hr.all;have K53:=zh (wm_number w B b m);clear hr
   go_upto_region 19 with (go_at_call 108;(with_reducible refine (K53.out _ _ _ _ _ S (by omega) (by assumption) (by omega)).mono ?_);clear S c0 c1 c2 c3 c4 c5 c6 c7 c8 c9 c10 cf;rintro q w1 ⟨rfl,S,c0,c1,c2,c3,c4,c5,c6,c7,c8,c9,c10,cf⟩)
   have Sd:=S.drew
   go_region_held3 (fun w'=>w'.cell? ⟨w.heap.size,10,none⟩=some (.string m.snap)) (first|exact c10|assumption) (first
    | (go_at_call 110;(with_reducible refine (K55.out _ _ _ _ Sd (by omega)).mono ?_);rintro q w13 ⟨rfl,T,d0,d1,d2,d3,d4,d5,d6,d7,d8,d9,d10,df⟩))
   go_wp2_with fail
   go_end0;refine ⟨rfl,?_⟩;have h:=T.s;rw [HY.out] at h;unfold pbm;simp only [Vi.append_assoc3] at h ⊢;exact h
structure Pm (w0:World) (m:Ms) (w:World):Prop where
 k:w.heap[w0.heap.size]?=some (.cells (mc m) 29 (0,0))
 en:Ents w0.heap.size m.A m.n m.es w
 be:Below w0.heap.size w0 w
 sz:w0.heap.size≤w.heap.size
theorem Pm.on {w0 w w1:World} {m:Ms} (h:Pm w0 m w) (hb:Below w.heap.size w w1):Pm w0 m w1 :=
 ⟨(hb.block _ (zgx h.k)).trans h.k,h.en.below (hb.mono h.sz),h.be.trans (hb.mono h.sz),Nat.le_trans h.sz hb.size⟩
theorem Pm.all {w0 w:World} {m:Ms} (h:Pm w0 m w):Pm w0 m w∧w.cell? ⟨w0.heap.size,0,none⟩=some (.int .i64 m.kind)∧w.cell? ⟨w0.heap.size,1,none⟩=some (.int .i64 m.frm)∧w.cell? ⟨w0.heap.size,2,none⟩=some (.int .i64 m.dst)∧w.cell? ⟨w0.heap.size,3,none⟩=some (.int .u64 m.term)∧w.cell? ⟨w0.heap.size,4,none⟩=some (.int .u64 m.index)∧w.cell? ⟨w0.heap.size,5,none⟩=some (.int .u64 m.prev)∧w.cell? ⟨w0.heap.size,6,none⟩=some (.int .u64 m.commit)∧w.cell? ⟨w0.heap.size,7,none⟩=some (.int .u64 m.mark)∧w.cell? ⟨w0.heap.size,8,none⟩=some (.bool m.ok)∧w.cell? ⟨w0.heap.size,9,none⟩=some (.slice m.A m.n m.c)∧w.cell? ⟨w0.heap.size,10,none⟩=some (.string m.snap):=⟨h,zcr w _ 0 _ 29 (0,0) h.k,zcr w _ 1 _ 29 (0,0) h.k,zcr w _ 2 _ 29 (0,0) h.k,zcr w _ 3 _ 29 (0,0) h.k,zcr w _ 4 _ 29 (0,0) h.k,zcr w _ 5 _ 29 (0,0) h.k,zcr w _ 6 _ 29 (0,0) h.k,zcr w _ 7 _ 29 (0,0) h.k,zcr w _ 8 _ 29 (0,0) h.k,zcr w _ 9 _ 29 (0,0) h.k,zcr w _ 10 _ 29 (0,0) h.k⟩
theorem Pm.start {w:World} {m:Ms} (hE:Ents w.heap.size m.A m.n m.es w):Pm w m (w.alloc (Obj.cells (mc m) 29)) :=
 ⟨heap_alloc_new w _,hE.below zba,zba,by simp⟩
theorem wide_n5 {m:Ms} (wd:m.Wide):(m.n:Int)≤9223372036854775807:=by have:=wd.n1;omega
theorem mmay_any (m:Ms) (w:World) (hE:Ents w.heap.size m.A m.n m.es w) (wd:m.Wide) :
 Calls Tryz.prog 73 #[mv m] w fun q w'=>q=.returned (.bool (mmayB m))∧Below w.heap.size w w':=by
 obtain ⟨W0,hW0⟩:∃ W0,W0=w.alloc (Obj.cells (mc m) 29):=⟨_,rfl⟩;have P0:Pm w m W0:=hW0▸Pm.start hE;obtain ⟨rb,hrb⟩:∃ rb,rb=mrightB m:=⟨_,rfl⟩;obtain ⟨lv,hlv⟩:∃ lv,lv=mlvl m:=⟨_,rfl⟩;have KR:=zh (fun (W:World) (h:Pm w m W)=>(mright_any5 m W (h.en.mr h.sz) (wide_n5 wd) wd.eo).mono fun q w' ⟨h1,h2⟩=>And.intro (show q=Ending.returned (.bool rb) by rw [h1,hrb]) (h.on h2).all);have KL:=zh (fun (W:World) (h:Pm w m W)=>(mlevel_any m W (h.en.mr h.sz) (wide_n5 wd)).mono fun q w' ⟨h1,h2⟩=>And.intro (show q=Ending.returned (.int .i64 lv) by rw [h1,hlv]) (h.on h2).all);have HM:Hid (mmayB m=(rb&&(lv==1))):=by show _=_;unfold mmayB;rw [←hrb,←hlv]
 have P1:=P0.all;have HW0:=zh hW0;rw [hW0] at P1;obtain ⟨S,c0,c1,c2,c3,c4,c5,c6,c7,c8,c9,c10⟩:=P1;rw [←hW0] at S;clear hW0 P0 hrb hlv hE wd
 cases rb with
 | true =>
   go_enter Tryz.func73,Tryz.ntmps73
   go_wp2_with (first
    | (go_at_call 50;rw [←HW0.out];(with_reducible refine (KR.out _ S).mono ?_);rintro q w1 ⟨rfl,T,d0,d1,d2,d3,d4,d5,d6,d7,d8,d9,d10⟩)
    | (go_at_call 20;(with_reducible refine (KL.out _ T).mono ?_);rintro q w2 ⟨rfl,U,e0,e1,e2,e3,e4,e5,e6,e7,e8,e9,e10⟩))
   all_goals
    go_ret;exact ⟨by rw [HM.out];rfl,U.be⟩
 | false =>
   go_enter Tryz.func73,Tryz.ntmps73
   go_wp2_with (first
    | (go_at_call 50;rw [←HW0.out];(with_reducible refine (KR.out _ S).mono ?_);rintro q w1 ⟨rfl,T,d0,d1,d2,d3,d4,d5,d6,d7,d8,d9,d10⟩))
   go_ret;exact ⟨by rw [HM.out];rfl,T.be⟩
theorem putM_any (m:Ms) (w:World) (hE:Ents w.heap.size m.A m.n m.es w) (wd:m.Wide) :
 Calls Tryz.prog 32 #[mv m] w fun q w'=>q=.returned (.tuple #[.string (putM m),.bool (mmayB m)])∧Below w.heap.size w w':=by
 obtain ⟨W0,hW0⟩:∃ W0,W0=w.alloc (Obj.cells (mc m) 29):=⟨_,rfl⟩;have P0:Pm w m W0:=hW0▸Pm.start hE;obtain ⟨mb,hmb⟩:∃ mb,mb=mmayB m:=⟨_,rfl⟩;have KM:=zh (fun (W:World) (h:Pm w m W)=>(mmay_any m W (h.en.mr h.sz) wd).mono fun q w' ⟨h1,h2⟩=>And.intro (show q=Ending.returned (.bool mb) by rw [h1,hmb]) (h.on h2));have P1:=P0.all;have HW0:=zh hW0;rw [hW0] at P1;obtain ⟨S,c0,c1,c2,c3,c4,c5,c6,c7,c8,c9,c10⟩:=P1;rw [←hW0] at S;have HE:=zh hE;have WD:=zh wd;clear hW0 P0 hE wd
 cases mb with
 | false =>
   have HP:Hid (putM m=⟨#[]⟩):=by show _=_;unfold putM;rw [←hmb];rfl
   have HB:Hid (mmayB m=false):=hmb.symm;clear hmb
   go_enter Tryz.func32,Tryz.ntmps32
   go_wp2_with (first
    | (go_at_call 73;rw [←HW0.out];(with_reducible refine (KM.out _ S).mono ?_);rintro q w1 ⟨rfl,T⟩))
   go_ret2;exact ⟨ret_pair HP.out.symm HB.out.symm,T.be⟩
 | true =>
   have HB:Hid (mmayB m=true):=hmb.symm
   have hmr:mrightB m=true:=by
    have h:=HB.out;unfold mmayB at h;simp only [Bool.and_eq_true] at h;exact h.1
   have fw:=mfew_of WD.out hmr;have hes:(⟨#[]⟩:ByteArray).size≤1000:=Nat.zero_le _;have HP:Hid (putM m=pbm m):=by show _=_;unfold putM;rw [←hmb];rfl
   have HS:=zh (pbm_size fw HE.out.len);have FW:=zh fw;clear hmb hmr fw
   go_enter Tryz.func32,Tryz.ntmps32
   go_wp2_with (first
    | (go_at_call 73;rw [←HW0.out];(with_reducible refine (KM.out _ S).mono ?_);rintro q w1 ⟨rfl,T⟩;have HT:Hid (Pm w m (w1.alloc (.cells #[.pointer none,.slice none 0 0] 95))):=T.on zba;have T1:=zh (fresh_wt w1 w.heap.size T.sz);obtain ⟨t0,t1,t2,t3,t4,t5,t6,t7,t8,t9,t10⟩:=zmcl (w:=(w1.alloc (.cells #[.pointer none,.slice none 0 0] 95))) (b:=w.heap.size) (e:=m) HT.out.k;clear T)
    | (go_at_call 74;(with_reducible refine (msg_any w.heap.size w1.heap.size m ⟨#[]⟩ _ T1.out hes HT.out.sz HT.out.en WD.out FW.out).mono ?_);rintro q w2 ⟨rfl,S2⟩;have HS2:=zh S2;clear S2)
    | (go_at_call 61;(with_reducible refine (wstring w.heap.size w1.heap.size _ _ HS2.out.t (by rw [ByteArray.size_append,HS.out];omega)).mono ?_);rintro q w3 ⟨rfl,hb3⟩))
   go_ret2;refine ⟨ret_pair ?_ HB.out.symm,(HT.out.be.trans HS2.out.be).trans hb3⟩;rw [HP.out]
   apply ByteArray.ext;simp
end Go.Proofs.YtpdbeijfchmlgaaGreat
