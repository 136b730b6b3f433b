/-
  FrameCodes: part G46.
  Conditions: named in each theorem.
-/
import Derived.Test.YtpdbeijfchmlgaaGreatZ0
import Derived.Test.YtpdbeijfchmlgaaGreatG16
import Derived.Test.YtpdbeijfchmlgaaGreatG18
import Derived.Test.YtpdbeijfchmlgaaGreatG19
import Derived.Test.YtpdbeijfchmlgaaGreatG20
import Derived.Test.YtpdbeijfchmlgaaGreatG28
import Derived.Test.YtpdbeijfchmlgaaGreatG29
import Derived.Test.YtpdbeijfchmlgaaGreatG39
import Derived.Test.YtpdbeijfchmlgaaGreatG40
import Derived.Test.YtpdbeijfchmlgaaGreatG45
set_option linter.unusedVariables false
set_option linter.unusedSimpArgs false
set_option maxHeartbeats 16000000
set_option maxRecDepth 100000
namespace Go.Proofs.YtpdbeijfchmlgaaGreat
open Go.RowKit
open Vi
theorem putB_s {n:Nat} (h:n<128):putB n=⟨#[UInt8.ofNat n]⟩:=by
 unfold putB;rw [put_small n h]
 apply ByteArray.ext
 apply Array.ext'
 rfl
abbrev hiB:ByteArray:=⟨#[104,105]⟩
abbrev e1B:ByteArray:=⟨#[161,0,0,0,2,80,155,55,241,104,105]⟩
abbrev e2B:ByteArray:=⟨#[162,2,57,22,73,239,104,105]⟩
theorem e1_eq:pack 1 hiB=e1B:=by decide +kernel
theorem e2_eq:pack 2 hiB=e2B:=by
 unfold pack
 have h:hdF 2 hiB.size=⟨#[162,2]⟩:=by
  show fxB 162 1++(if (2:Int)=1 then fxB 2 4 else putB 2)=_
  rw [if_neg (by decide),putB_s (by decide)]
  decide +kernel
 rw [h]
 decide +kernel
theorem hi_o (v:Int) (hv:v=1∨v=2):pkO v hiB=true:=pkO_short hv (by decide)
theorem e_nil:uO ⟨#[]⟩=false:=by
 have h:nOk ⟨#[]⟩=false:=by
  have h1:nV ⟨#[]⟩=-160:=by decide +kernel
  unfold nOk;rw [h1];rfl
 unfold uO;rw [h];rfl
abbrev pbM:Ms:=⟨9,1,2,3,0,0,0,4,false,none,0,0,[],⟨#[]⟩⟩
theorem pbM_wide:pbM.Wide:=by
 constructor<;>first|decide|(intro e he;cases he)
theorem pbM_right:mrightB pbM=true:=by decide +kernel
theorem examples_any (w:World):Calls Tryz.prog 5 #[] w fun q w'=>q=.returned (.bool true)∧Below w.heap.size w w':=by
 have K1:Hid (∀ W,Calls Tryz.prog 22 #[.int .i64 1,.string hiB] W fun q w'=>q=.returned (.tuple #[.string e1B,.bool true])∧Below W.heap.size W w'):=fun W=>by rw [←e1_eq];exact packK_any 1 hiB W (.inl rfl) (by decide)
 have K2:Hid (∀ W,Calls Tryz.prog 22 #[.int .i64 2,.string hiB] W fun q w'=>q=.returned (.tuple #[.string e2B,.bool true])∧Below W.heap.size W w'):=fun W=>by rw [←e2_eq];exact packK_any 2 hiB W (.inr rfl) (by decide)
 have U2:=u_pack (hi_o 2 (.inr rfl));rw [e2_eq] at U2;have K3:Hid (∀ W,Calls Tryz.prog 23 #[.string e2B] W fun q w'=>q=.returned (.tuple #[.int .i64 2,.string hiB,.bool true])∧Below W.heap.size W w'):=fun W=>(unpack_any e2B W (by decide)).mono fun q w' ⟨h1,h2⟩=>⟨by rw [h1,U2.1,U2.2.1,U2.2.2],h2⟩;have K4:Hid (∀ W,Calls Tryz.prog 23 #[.string ⟨#[]⟩] W fun q w'=>q=.returned (.tuple #[.int .i64 0,.string ⟨#[]⟩,.bool false])∧Below W.heap.size W w'):=fun W=>(unpack_any ⟨#[]⟩ W (by decide)).mono fun q w' ⟨h1,h2⟩=>⟨h1.trans (u_ret_no e_nil).symm,h2⟩;have K5:Hid (∀ W,Calls Tryz.prog 19 #[mv pbM] W (Shimd pbM W)):=fun W=>shim_9 pbM W (ents_nil _ _ _) pbM_wide pbM_right rfl
 have hy:Hid (shimO pbM=true∧shimM pbM=⟨5,1,2,3,0,0,0,4,false,none,0,0,[],⟨#[]⟩⟩):=by
  show _∧_
  have h:shimO pbM=true:=by unfold shimO;rw [pbM_right];rfl
  refine ⟨h,?_⟩;unfold shimM;rw [h,if_neg (by decide),if_pos rfl]
 clear U2
 go_enter Tryz.func5,Tryz.ntmps5
 go_wp2_with fail
 refine (K1.out _).mono ?_;rintro q w1 ⟨rfl,b1⟩;have B1:=zh b1;clear b1
 go_wp2_with fail
 refine (K2.out _).mono ?_;rintro q w2 ⟨rfl,b2⟩;have B2:Hid (Below w.heap.size w w2):=B1.out.trans (b2.mono B1.out.size);clear b2
 go_wp2_with fail
 refine (K3.out _).mono ?_;rintro q w3 ⟨rfl,b3⟩;have B3:Hid (Below w.heap.size w w3):=B2.out.trans (b3.mono B2.out.size);clear b3
 go_wp2_with fail
 refine (K4.out _).mono ?_;rintro q w4 ⟨rfl,b4⟩;have B4:Hid (Below w.heap.size w w4):=B3.out.trans (b4.mono B3.out.size);clear b4
 go_wp2_with fail
 refine (K5.out _).mono ?_;rintro q w5 ⟨M,rfl,_,⟨A,c,hM⟩,b5⟩;rw [hy.out.1];rw [hy.out.2] at hM;subst hM;have B5:Hid (Below w.heap.size w w5):=B4.out.trans (b5.mono B4.out.size);clear b5;go_wp2;go_ret;exact ⟨rfl,B5.out.alloc B5.out.size _⟩
end Go.Proofs.YtpdbeijfchmlgaaGreat
namespace Go.Proofs.YtpdbeijfchmlgaaGreat
open Go.RowKit
open Vi
theorem pkO_of {v:Int} {b:ByteArray} (hv:v=1∨v=2) (hb:b.size≤1048576):pkO v b=true:=by
 unfold pkO;rw [decide_eq_true hb]
 rcases hv with rfl|rfl<;>rfl
theorem sbE_le {e:En} (ok:e.Ok) (h:rightB e=true):(sbE e).size≤1000:=by
 have fw:=few_of_b ok h;have h1:=secU_le ok fw 11 (by omega);have h2:=putB_le 0 (by omega);unfold sbE secB;rw [ByteArray.size_append];omega
theorem gE_put {e:En} (ok:e.Ok) (hr:rightB e=true) (r:ByteArray):gE (sbE e++r) false=e∧gT (sbE e++r) false=r∧gO (sbE e++r) false=true:=by
 have h:=(eR_put ok (few_of_b ok hr) r).1;have ho:gO (sbE e++r) false=true:=by unfold gO;rw [h,hr];rfl
 obtain ⟨h1,h2⟩:=gO_yes ho;rw [h] at h1 h2;exact ⟨h1,h2,ho⟩
end Go.Proofs.YtpdbeijfchmlgaaGreat
namespace Go.Proofs.YtpdbeijfchmlgaaGreat
open Go.RowKit
open Vi
theorem fputE0_any (e:En) (v:Int) (h1:v≠1) (h2:v≠2) (g:Nat) (w:World) (hm:w.heap[g]?=some (.map (two (fv 25) (fv 26)) 2)) :
 Calls Tryz.prog 24 #[.map (some g),.int .i64 v,ev e] w fun q w'=>q=.returned (.tuple #[.string ⟨#[]⟩,.bool false])∧Below w.heap.size w w':=by
 have b0:Below w.heap.size w (w.alloc (Obj.cells (ec e) 24)):=zba;have m0:(w.alloc (Obj.cells (ec e) 24)).heap[g]?=some (.map (two (fv 25) (fv 26)) 2):=(Lib.alloc_old _ _ _ (zgx hm)).trans hm;have hl:=look_none (T:=57) v Tryz.underlying57 Tryz.zeroValue56 m0 (two_n _ _ v h1 h2);have HB:=zh b0;clear b0 m0 hm h1 h2
 go_enter Tryz.func24,Tryz.ntmps24
 go_wp2;go_ret2;exact ⟨rfl,HB.out⟩
theorem fPutE0_any (e:En) (v:Int) (hv1:v≠1) (hv2:v≠2) (w:World) :
 Calls Tryz.prog 6 #[.int .i64 v,ev e] w fun q w'=>q=.returned (.tuple #[.string ⟨#[]⟩,.bool false])∧Below w.heap.size w w':=by
 have hmm:=@run_makeMap Tryz.prog;have b0:Below w.heap.size w (w.alloc (Obj.cells (ec e) 24)):=zba;have k0:(w.alloc (Obj.cells (ec e) 24)).heap[w.heap.size]?=some (.cells (ec e) 24 (0,0)):=heap_alloc_new w _;have z0:(w.alloc (Obj.cells (ec e) 24)).heap.size=w.heap.size+1:=by simp
 have bm:=b0.alloc (by omega) (.map #[] 0);obtain ⟨w1,e1,h1,b1,o1,s1⟩:=ins_step (T:=57) 1 (fv 25) Tryz.underlying57 (heap_alloc_new (w.alloc (Obj.cells (ec e) 24)) (.map #[] 0)) rfl bm (by omega);obtain ⟨w2,e2,h2,b2,o2,s2⟩:=ins_step (T:=57) 2 (fv 26) Tryz.underlying57 h1 rfl b1 (by omega);have k2:w2.heap[w.heap.size]?=some (.cells (ec e) 24 (0,0)):=(o2 _ (by omega)).trans ((o1 _ (by omega)).trans ((Lib.alloc_old _ _ _ (by omega)).trans k0));rw [z0] at e1 e2;have H2:Hid (w2.heap[w.heap.size+1]?=some (.map (two (fv 25) (fv 26)) 2)):=by show _=_;rw [←z0];exact h2
 have B2:=zh b2;have K:=zh (fputE0_any e v hv1 hv2 (w.heap.size+1) w2 H2.out);obtain ⟨c0,c1,c2,c3,c4,c5,c6,c7,c8,c9,c10⟩:=zecl (w:=w2) (b:=w.heap.size) (e:=e) k2;clear h1 h2 b1 b2 o1 o2 s1 s2 k0 k2 bm b0 hv1 hv2
 go_enter Tryz.func6,Tryz.ntmps6
 go_wp2_with fail
 refine K.out.mono ?_;rintro q w3 ⟨rfl,b3⟩;go_wp2;go_ret2;exact ⟨rfl,B2.out.trans (b3.mono B2.out.size)⟩
theorem fputM0_any (m:Ms) (v:Int) (h1:v≠1) (h2:v≠2) (g:Nat) (w:World) (hm:w.heap[g]?=some (.map (two (fv 32) (fv 33)) 2)) :
 Calls Tryz.prog 31 #[.map (some g),.int .i64 v,mv m] w fun q w'=>q=.returned (.tuple #[.string ⟨#[]⟩,.bool false])∧Below w.heap.size w w':=by
 have b0:Below w.heap.size w (w.alloc (Obj.cells (mc m) 29)):=zba;have m0:(w.alloc (Obj.cells (mc m) 29)).heap[g]?=some (.map (two (fv 32) (fv 33)) 2):=(Lib.alloc_old _ _ _ (zgx hm)).trans hm;have hl:=look_none (T:=61) v Tryz.underlying61 Tryz.zeroValue60 m0 (two_n _ _ v h1 h2);have HB:=zh b0;clear b0 m0 hm h1 h2
 go_enter Tryz.func31,Tryz.ntmps31
 go_wp2;go_ret2;exact ⟨rfl,HB.out⟩
theorem fPutM0_any (m:Ms) (v:Int) (hv1:v≠1) (hv2:v≠2) (w:World) :
 Calls Tryz.prog 9 #[.int .i64 v,mv m] w fun q w'=>q=.returned (.tuple #[.string ⟨#[]⟩,.bool false])∧Below w.heap.size w w':=by
 have hmm:=@run_makeMap Tryz.prog;have b0:Below w.heap.size w (w.alloc (Obj.cells (mc m) 29)):=zba;have k0:(w.alloc (Obj.cells (mc m) 29)).heap[w.heap.size]?=some (.cells (mc m) 29 (0,0)):=heap_alloc_new w _;have z0:(w.alloc (Obj.cells (mc m) 29)).heap.size=w.heap.size+1:=by simp
 have bm:=b0.alloc (by omega) (.map #[] 0);obtain ⟨w1,e1,h1,b1,o1,s1⟩:=ins_step (T:=61) 1 (fv 32) Tryz.underlying61 (heap_alloc_new (w.alloc (Obj.cells (mc m) 29)) (.map #[] 0)) rfl bm (by omega);obtain ⟨w2,e2,h2,b2,o2,s2⟩:=ins_step (T:=61) 2 (fv 33) Tryz.underlying61 h1 rfl b1 (by omega);have k2:w2.heap[w.heap.size]?=some (.cells (mc m) 29 (0,0)):=(o2 _ (by omega)).trans ((o1 _ (by omega)).trans ((Lib.alloc_old _ _ _ (by omega)).trans k0));rw [z0] at e1 e2;have H2:Hid (w2.heap[w.heap.size+1]?=some (.map (two (fv 32) (fv 33)) 2)):=by show _=_;rw [←z0];exact h2
 have B2:=zh b2;have K:=zh (fputM0_any m v hv1 hv2 (w.heap.size+1) w2 H2.out);obtain ⟨c0,c1,c2,c3,c4,c5,c6,c7,c8,c9,c10⟩:=zmcl (w:=w2) (b:=w.heap.size) (e:=m) k2;clear h1 h2 b1 b2 o1 o2 s1 s2 k0 k2 bm b0 hv1 hv2
 go_enter Tryz.func9,Tryz.ntmps9
 go_wp2_with fail
 refine K.out.mono ?_;rintro q w3 ⟨rfl,b3⟩;go_wp2;go_ret2;exact ⟨rfl,B2.out.trans (b3.mono B2.out.size)⟩
end Go.Proofs.YtpdbeijfchmlgaaGreat
namespace Go.Proofs.YtpdbeijfchmlgaaGreat
open Go.RowKit
open Vi
def rfP (v:Int) (o:Bool) (P:ByteArray):ByteArray:=if o then pkS v P else ⟨#[]⟩
theorem ecl {w:World} {b:Nat} {e:En} (h:w.heap[b]?=some (.cells (ec e) 24 (0,0))):w.cell? ⟨b,0,none⟩=some (.int .u64 e.term)∧w.cell? ⟨b,1,none⟩=some (.int .u64 e.index)∧w.cell? ⟨b,2,none⟩=some (.int .i64 e.kind)∧w.cell? ⟨b,3,none⟩=some (.int .u64 e.client)∧w.cell? ⟨b,4,none⟩=some (.int .u64 e.seq)∧w.cell? ⟨b,5,none⟩=some (.int .u64 e.block)∧w.cell? ⟨b,6,none⟩=some (.int .u64 e.many)∧w.cell? ⟨b,7,none⟩=some (.int .i64 e.node)∧w.cell? ⟨b,8,none⟩=some (.int .i64 e.level)∧w.cell? ⟨b,9,none⟩=some (.string e.data)∧w.cell? ⟨b,10,none⟩=some (.string e.old):=⟨zcr w _ 0 _ 24 (0,0) h,zcr w _ 1 _ 24 (0,0) h,zcr w _ 2 _ 24 (0,0) h,zcr w _ 3 _ 24 (0,0) h,zcr w _ 4 _ 24 (0,0) h,zcr w _ 5 _ 24 (0,0) h,zcr w _ 6 _ 24 (0,0) h,zcr w _ 7 _ 24 (0,0) h,zcr w _ 8 _ 24 (0,0) h,zcr w _ 9 _ 24 (0,0) h,zcr w _ 10 _ 24 (0,0) h⟩
theorem mcl {w:World} {b:Nat} {m:Ms} (h:w.heap[b]?=some (.cells (mc m) 29 (0,0))):w.cell? ⟨b,0,none⟩=some (.int .i64 m.kind)∧w.cell? ⟨b,1,none⟩=some (.int .i64 m.frm)∧w.cell? ⟨b,2,none⟩=some (.int .i64 m.dst)∧w.cell? ⟨b,3,none⟩=some (.int .u64 m.term)∧w.cell? ⟨b,4,none⟩=some (.int .u64 m.index)∧w.cell? ⟨b,5,none⟩=some (.int .u64 m.prev)∧w.cell? ⟨b,6,none⟩=some (.int .u64 m.commit)∧w.cell? ⟨b,7,none⟩=some (.int .u64 m.mark)∧w.cell? ⟨b,8,none⟩=some (.bool m.ok)∧w.cell? ⟨b,9,none⟩=some (.slice m.A m.n m.c)∧w.cell? ⟨b,10,none⟩=some (.string m.snap):=⟨zcr w _ 0 _ 29 (0,0) h,zcr w _ 1 _ 29 (0,0) h,zcr w _ 2 _ 29 (0,0) h,zcr w _ 3 _ 29 (0,0) h,zcr w _ 4 _ 29 (0,0) h,zcr w _ 5 _ 29 (0,0) h,zcr w _ 6 _ 29 (0,0) h,zcr w _ 7 _ 29 (0,0) h,zcr w _ 8 _ 29 (0,0) h,zcr w _ 9 _ 29 (0,0) h,zcr w _ 10 _ 29 (0,0) h⟩
theorem rPutE1_any (e:En) (v:Int) (hv:v≠2) (P1:ByteArray) (o1:Bool) (w:World) (hK1:∀ W,Below w.heap.size w W→Calls Tryz.prog 28 #[ev e] W fun q w'=>q=.returned (.tuple #[.string P1,.bool o1])∧Below W.heap.size W w') :
 Calls Tryz.prog 8 #[.int .i64 v,ev e] w fun q w'=>q=.returned (.tuple #[.string (rfP v o1 P1),.bool (o1&&pkO v P1)])∧Below w.heap.size w w':=by
 obtain ⟨W0,hW0⟩:∃ W0,W0=w.alloc (Obj.cells (ec e) 24):=⟨_,rfl⟩;have b0:Below w.heap.size w W0:=by rw [hW0];exact zba
 have k0:W0.heap[w.heap.size]?=some (.cells (ec e) 24 (0,0)):=by rw [hW0];exact heap_alloc_new w _
 obtain ⟨c0,c1,c2,c3,c4,c5,c6,c7,c8,c9,c10⟩:=ecl k0;have K1:=zh hK1;have KP:=zh (fun (W:World)=>rpack_any v P1 W);obtain ⟨R,hR⟩:∃ R,R=pkS v P1:=⟨_,rfl⟩;obtain ⟨s,hs⟩:∃ s,s=pkO v P1:=⟨_,rfl⟩;rw [←hR,←hs] at KP;have HRS:Hid (rfP v true P1=R):=hR.symm;have HRF:Hid (rfP v false P1=⟨#[]⟩):=rfl;rw [←hs];clear hR hs;have HW0:=zh hW0;have HB0:=zh b0;have hv2:(v==2)=false:=by simpa using hv
 clear hW0 b0 k0 hK1
 go_enter Tryz.func8,Tryz.ntmps8
 go_wp2_with fail
 rw [←HW0.out];refine (K1.out W0 HB0.out).mono ?_;rintro q w1 ⟨rfl,b1⟩;have HB1:Hid (Below w.heap.size w w1):=HB0.out.trans (b1.mono HB0.out.size);clear b1 c0 c1 c2 c3 c4 c5 c6 c7 c8 c9 c10
 cases o1 with
 | false =>
   go_wp2;go_ret2;exact ⟨by rw [HRF.out];rfl,HB1.out⟩
 | true =>
   go_wp2_with fail
   refine (KP.out _).mono ?_;rintro q w3 ⟨rfl,b3⟩;go_wp2;go_ret2;exact ⟨by rw [HRS.out];rfl,HB1.out.trans (b3.mono HB1.out.size)⟩
theorem rPutE2_any (e:En) (P1 P2:ByteArray) (o1 o2:Bool) (w:World) (hK1:∀ W,Below w.heap.size w W→Calls Tryz.prog 28 #[ev e] W fun q w'=>q=.returned (.tuple #[.string P1,.bool o1])∧Below W.heap.size W w') (hK2:∀ W,Below w.heap.size w W→Calls Tryz.prog 29 #[ev e] W fun q w'=>q=.returned (.tuple #[.string P2,.bool o2])∧Below W.heap.size W w') :
 Calls Tryz.prog 8 #[.int .i64 2,ev e] w fun q w'=>q=.returned (.tuple #[.string (rfP 2 o2 P2),.bool (o2&&pkO 2 P2)])∧Below w.heap.size w w':=by
 obtain ⟨W0,hW0⟩:∃ W0,W0=w.alloc (Obj.cells (ec e) 24):=⟨_,rfl⟩;have b0:Below w.heap.size w W0:=by rw [hW0];exact zba
 have k0:W0.heap[w.heap.size]?=some (.cells (ec e) 24 (0,0)):=by rw [hW0];exact heap_alloc_new w _
 obtain ⟨c0,c1,c2,c3,c4,c5,c6,c7,c8,c9,c10⟩:=ecl k0;have K1:=zh hK1;have K2:=zh hK2;have KP:=zh (fun (W:World)=>rpack_any 2 P2 W);obtain ⟨R,hR⟩:∃ R,R=pkS 2 P2:=⟨_,rfl⟩;obtain ⟨s,hs⟩:∃ s,s=pkO 2 P2:=⟨_,rfl⟩;rw [←hR,←hs] at KP;have HRS:Hid (rfP 2 true P2=R):=hR.symm;have HRF:Hid (rfP 2 false P2=⟨#[]⟩):=rfl;rw [←hs];clear hR hs;have HW0:=zh hW0;have HB0:=zh b0;have HK0:=zh k0;clear hW0 b0 k0 hK1 hK2
 go_enter Tryz.func8,Tryz.ntmps8
 go_wp2_with fail
 rw [←HW0.out];refine (K1.out W0 HB0.out).mono ?_;rintro q w1 ⟨rfl,b1⟩;have HB1:Hid (Below w.heap.size w w1):=HB0.out.trans (b1.mono HB0.out.size);have k1:w1.heap[w.heap.size]?=some (.cells (ec e) 24 (0,0)):=(b1.block _ (zgx HK0.out)).trans HK0.out;clear b1 c0 c1 c2 c3 c4 c5 c6 c7 c8 c9 c10;obtain ⟨c0,c1,c2,c3,c4,c5,c6,c7,c8,c9,c10⟩:=ecl k1;clear k1
 go_wp2_with fail
 refine (K2.out w1 HB1.out).mono ?_;rintro q w2 ⟨rfl,b2⟩;have HB2:Hid (Below w.heap.size w w2):=HB1.out.trans (b2.mono HB1.out.size);clear b2 c0 c1 c2 c3 c4 c5 c6 c7 c8 c9 c10
 cases o2 with
 | false =>
   go_wp2;go_ret2;exact ⟨by rw [HRF.out];rfl,HB2.out⟩
 | true =>
   go_wp2_with fail
   refine (KP.out _).mono ?_;rintro q w3 ⟨rfl,b3⟩;go_wp2;go_ret2;exact ⟨by rw [HRS.out];rfl,HB2.out.trans (b3.mono HB2.out.size)⟩
theorem rPutM1_any (m:Ms) (v:Int) (hv:v≠2) (P1:ByteArray) (o1:Bool) (w:World) (hK1:∀ W,Below w.heap.size w W→Calls Tryz.prog 35 #[mv m] W fun q w'=>q=.returned (.tuple #[.string P1,.bool o1])∧Below W.heap.size W w') :
 Calls Tryz.prog 11 #[.int .i64 v,mv m] w fun q w'=>q=.returned (.tuple #[.string (rfP v o1 P1),.bool (o1&&pkO v P1)])∧Below w.heap.size w w':=by
 obtain ⟨W0,hW0⟩:∃ W0,W0=w.alloc (Obj.cells (mc m) 29):=⟨_,rfl⟩;have b0:Below w.heap.size w W0:=by rw [hW0];exact zba
 have k0:W0.heap[w.heap.size]?=some (.cells (mc m) 29 (0,0)):=by rw [hW0];exact heap_alloc_new w _
 obtain ⟨c0,c1,c2,c3,c4,c5,c6,c7,c8,c9,c10⟩:=mcl k0;have K1:=zh hK1;have KP:=zh (fun (W:World)=>rpack_any v P1 W);obtain ⟨R,hR⟩:∃ R,R=pkS v P1:=⟨_,rfl⟩;obtain ⟨s,hs⟩:∃ s,s=pkO v P1:=⟨_,rfl⟩;rw [←hR,←hs] at KP;have HRS:Hid (rfP v true P1=R):=hR.symm;have HRF:Hid (rfP v false P1=⟨#[]⟩):=rfl;rw [←hs];clear hR hs;have HW0:=zh hW0;have HB0:=zh b0;have hv2:(v==2)=false:=by simpa using hv
 clear hW0 b0 k0 hK1
 go_enter Tryz.func11,Tryz.ntmps11
 go_wp2_with fail
 rw [←HW0.out];refine (K1.out W0 HB0.out).mono ?_;rintro q w1 ⟨rfl,b1⟩;have HB1:Hid (Below w.heap.size w w1):=HB0.out.trans (b1.mono HB0.out.size);clear b1 c0 c1 c2 c3 c4 c5 c6 c7 c8 c9 c10
 cases o1 with
 | false =>
   go_wp2;go_ret2;exact ⟨by rw [HRF.out];rfl,HB1.out⟩
 | true =>
   go_wp2_with fail
   refine (KP.out _).mono ?_;rintro q w3 ⟨rfl,b3⟩;go_wp2;go_ret2;exact ⟨by rw [HRS.out];rfl,HB1.out.trans (b3.mono HB1.out.size)⟩
theorem rPutM2_any (m:Ms) (P1 P2:ByteArray) (o1 o2:Bool) (w:World) (hK1:∀ W,Below w.heap.size w W→Calls Tryz.prog 35 #[mv m] W fun q w'=>q=.returned (.tuple #[.string P1,.bool o1])∧Below W.heap.size W w') (hK2:∀ W,Below w.heap.size w W→Calls Tryz.prog 36 #[mv m] W fun q w'=>q=.returned (.tuple #[.string P2,.bool o2])∧Below W.heap.size W w') :
 Calls Tryz.prog 11 #[.int .i64 2,mv m] w fun q w'=>q=.returned (.tuple #[.string (rfP 2 o2 P2),.bool (o2&&pkO 2 P2)])∧Below w.heap.size w w':=by
 obtain ⟨W0,hW0⟩:∃ W0,W0=w.alloc (Obj.cells (mc m) 29):=⟨_,rfl⟩;have b0:Below w.heap.size w W0:=by rw [hW0];exact zba
 have k0:W0.heap[w.heap.size]?=some (.cells (mc m) 29 (0,0)):=by rw [hW0];exact heap_alloc_new w _
 obtain ⟨c0,c1,c2,c3,c4,c5,c6,c7,c8,c9,c10⟩:=mcl k0;have K1:=zh hK1;have K2:=zh hK2;have KP:=zh (fun (W:World)=>rpack_any 2 P2 W);obtain ⟨R,hR⟩:∃ R,R=pkS 2 P2:=⟨_,rfl⟩;obtain ⟨s,hs⟩:∃ s,s=pkO 2 P2:=⟨_,rfl⟩;rw [←hR,←hs] at KP;have HRS:Hid (rfP 2 true P2=R):=hR.symm;have HRF:Hid (rfP 2 false P2=⟨#[]⟩):=rfl;rw [←hs];clear hR hs;have HW0:=zh hW0;have HB0:=zh b0;have HK0:=zh k0;clear hW0 b0 k0 hK1 hK2
 go_enter Tryz.func11,Tryz.ntmps11
 go_wp2_with fail
 rw [←HW0.out];refine (K1.out W0 HB0.out).mono ?_;rintro q w1 ⟨rfl,b1⟩;have HB1:Hid (Below w.heap.size w w1):=HB0.out.trans (b1.mono HB0.out.size);have k1:w1.heap[w.heap.size]?=some (.cells (mc m) 29 (0,0)):=(b1.block _ (zgx HK0.out)).trans HK0.out;clear b1 c0 c1 c2 c3 c4 c5 c6 c7 c8 c9 c10;obtain ⟨c0,c1,c2,c3,c4,c5,c6,c7,c8,c9,c10⟩:=mcl k1;clear k1
 go_wp2_with fail
 refine (K2.out w1 HB1.out).mono ?_;rintro q w2 ⟨rfl,b2⟩;have HB2:Hid (Below w.heap.size w w2):=HB1.out.trans (b2.mono HB1.out.size);clear b2 c0 c1 c2 c3 c4 c5 c6 c7 c8 c9 c10
 cases o2 with
 | false =>
   go_wp2;go_ret2;exact ⟨by rw [HRF.out];rfl,HB2.out⟩
 | true =>
   go_wp2_with fail
   refine (KP.out _).mono ?_;rintro q w3 ⟨rfl,b3⟩;go_wp2;go_ret2;exact ⟨by rw [HRS.out];rfl,HB2.out.trans (b3.mono HB2.out.size)⟩
end Go.Proofs.YtpdbeijfchmlgaaGreat
namespace Go.Proofs.YtpdbeijfchmlgaaGreat.D
open Go.RowKit
open Vi
def ePv (v:Int) (e:En):ByteArray:=if v=2 then putS_b e else putS e
def eOv (v:Int) (e:En):Bool:=if v=2 then rightB e else mayB e
def mPv (v:Int) (m:Ms):ByteArray:=if v=2 then putX m else putM m
def mOv (v:Int) (m:Ms):Bool:=if v=2 then mrightB m else mmayB m
theorem rfP_12 {v:Int} {o:Bool} {P:ByteArray} (hv:v=1∨v=2) (h:P.size≤1048576):frP v o P=rfP v o P∧(o&&pkO v P)=o:=by
 have hk:=pkO_of hv h;unfold frP rfP pkS;rw [if_pos hk,hk];exact ⟨rfl,by cases o<;>rfl⟩
theorem rfP_0 {v:Int} {o:Bool} {P:ByteArray} (h1:v≠1) (h2:v≠2):rfP v o P=⟨#[]⟩∧(o&&pkO v P)=false:=by
 have hk:pkO v P=false:=by unfold pkO;rw [decide_eq_false h1,decide_eq_false h2];rfl
 unfold rfP pkS;rw [hk];exact ⟨by cases o<;>rfl,by cases o<;>rfl⟩
theorem putS_lf (e:En) (ok:e.Ok):(putS e).size≤1048576:=by
 unfold putS
 split
 ·rename_i h
  rw [pb_size (few_of ok (mayB_right h))];omega
 ·exact Nat.zero_le _
theorem putSb_le (e:En) (ok:e.Ok):(putS_b e).size≤1048576:=by
 unfold putS_b
 split
 ·rename_i h
  exact Nat.le_trans (Go.Proofs.YtpdbeijfchmlgaaGreat.sbE_le ok h) (by omega)
 ·exact Nat.zero_le _
theorem putX_le {m:Ms} (wd:m.Wide) (hl:m.es.length=m.n):(putX m).size≤1048576:=by
 unfold putX
 split
 ·rename_i h
  have fw:=mfew_of wd hl h;have h1:=secM_le (wide_pl wd) fw 11 (Nat.le_refl _);have h2:=putB_le 0 (by omega)
  show (secU mF m.pl 11++putB 0).size≤_
  rw [ByteArray.size_append];omega
 ·exact Nat.zero_le _
theorem putM_le {m:Ms} (wd:m.Wide) (hl:m.es.length=m.n):(putM m).size≤1048576:=by
 unfold putM
 split
 ·rename_i h
  have hr:mrightB m=true:=by
   unfold mmayB at h;rw [Bool.and_eq_true] at h;exact h.1
  have A:=mask_of wd hr;have hn:=A.n64;have hs:=A.s;rw [pbm_size (Go.Proofs.YtpdbeijfchmlgaaGreat.mfew_of wd hr) hl];omega
 ·exact Nat.zero_le _
theorem aPutE (v:Int) (e:En) (w:World) (ok:e.Ok) :
 Calls Tryz.prog 6 #[.int .i64 v,ev e] w fun q w'=>q=.returned (.tuple #[.string (rfP v (eOv v e) (ePv v e)),.bool (eOv v e&&pkO v (ePv v e))])∧Below w.heap.size w w':=by
 by_cases h2:v=2
 ·subst h2;have e1:ePv 2 e=putS_b e:=if_pos rfl;have e2:eOv 2 e=rightB e:=if_pos rfl;obtain ⟨r1,r2⟩:=rfP_12 (o:=rightB e) (.inr rfl) (putSb_le e ok);rw [e1,e2,←r1,r2];exact fPutE2_any e (putS_b e) (rightB e) w (fun W _=>putE_any e W ok) (putSb_le e ok)
 ·have e1:ePv v e=putS e:=if_neg h2;have e2:eOv v e=mayB e:=if_neg h2;rw [e1,e2]
  by_cases h1:v=1
  ·subst h1;obtain ⟨r1,r2⟩:=rfP_12 (o:=mayB e) (.inl rfl) (putS_lf e ok);rw [←r1,r2];exact fPutE1_any e (putS e) (mayB e) w (fun W _=>put_any5 e W ok) (putS_lf e ok)
  ·obtain ⟨r1,r2⟩:=rfP_0 (o:=mayB e) (P:=putS e) h1 h2;rw [r1,r2];exact fPutE0_any e v h1 h2 w
theorem aRPutE (v:Int) (e:En) (w:World) (ok:e.Ok) :
 Calls Tryz.prog 8 #[.int .i64 v,ev e] w fun q w'=>q=.returned (.tuple #[.string (rfP v (eOv v e) (ePv v e)),.bool (eOv v e&&pkO v (ePv v e))])∧Below w.heap.size w w':=by
 by_cases h2:v=2
 ·subst h2;have e1:ePv 2 e=putS_b e:=if_pos rfl;have e2:eOv 2 e=rightB e:=if_pos rfl;rw [e1,e2];exact rPutE2_any e (putS e) (putS_b e) (mayB e) (rightB e) w (fun W _=>rput_any5 e W ok) (fun W _=>rputE_any e W ok)
 ·have e1:ePv v e=putS e:=if_neg h2;have e2:eOv v e=mayB e:=if_neg h2;rw [e1,e2];exact rPutE1_any e v h2 (putS e) (mayB e) w (fun W _=>rput_any5 e W ok)
theorem aPutM (v:Int) (m:Ms) (w:World) (hE:Ents w.heap.size m.A m.n m.es w) (wd:m.Wide) :
 Calls Tryz.prog 9 #[.int .i64 v,mv m] w fun q w'=>q=.returned (.tuple #[.string (rfP v (mOv v m) (mPv v m)),.bool (mOv v m&&pkO v (mPv v m))])∧Below w.heap.size w w':=by
 have hon:∀ W,Below w.heap.size w W→Ents W.heap.size m.A m.n m.es W:=fun W hb=>(hE.below hb).mr hb.size
 by_cases h2:v=2
 ·subst h2;have e1:mPv 2 m=putX m:=if_pos rfl;have e2:mOv 2 m=mrightB m:=if_pos rfl;obtain ⟨r1,r2⟩:=rfP_12 (o:=mrightB m) (.inr rfl) (putX_le wd hE.len);rw [e1,e2,←r1,r2];exact fPutM2_any m (putX m) (mrightB m) w (fun W hb=>putM_any m W (hon W hb) wd) (putX_le wd hE.len)
 ·have e1:mPv v m=putM m:=if_neg h2;have e2:mOv v m=mmayB m:=if_neg h2;rw [e1,e2]
  by_cases h1:v=1
  ·subst h1;obtain ⟨r1,r2⟩:=rfP_12 (o:=mmayB m) (.inl rfl) (putM_le wd hE.len);rw [←r1,r2];exact fPutM1_any m (putM m) (mmayB m) w (fun W hb=>Go.Proofs.YtpdbeijfchmlgaaGreat.putM_any m W (hon W hb) wd) (putM_le wd hE.len)
  ·obtain ⟨r1,r2⟩:=rfP_0 (o:=mmayB m) (P:=putM m) h1 h2;rw [r1,r2];exact fPutM0_any m v h1 h2 w
theorem aRPutM (v:Int) (m:Ms) (w:World) (hE:Ents w.heap.size m.A m.n m.es w) (wd:m.Wide) :
 Calls Tryz.prog 11 #[.int .i64 v,mv m] w fun q w'=>q=.returned (.tuple #[.string (rfP v (mOv v m) (mPv v m)),.bool (mOv v m&&pkO v (mPv v m))])∧Below w.heap.size w w':=by
 have hon:∀ W,Below w.heap.size w W→Ents W.heap.size m.A m.n m.es W:=fun W hb=>(hE.below hb).mr hb.size
 by_cases h2:v=2
 ·subst h2;have e1:mPv 2 m=putX m:=if_pos rfl;have e2:mOv 2 m=mrightB m:=if_pos rfl;rw [e1,e2];exact rPutM2_any m (putM m) (putX m) (mmayB m) (mrightB m) w (fun W hb=>Go.Proofs.YtpdbeijfchmlgaaGreat.rputM_any m W (hon W hb) wd) (fun W hb=>rputM_any m W (hon W hb) wd)
 ·have e1:mPv v m=putM m:=if_neg h2;have e2:mOv v m=mmayB m:=if_neg h2;rw [e1,e2];exact rPutM1_any m v h2 (putM m) (mmayB m) w (fun W hb=>Go.Proofs.YtpdbeijfchmlgaaGreat.rputM_any m W (hon W hb) wd)
end Go.Proofs.YtpdbeijfchmlgaaGreat.D
