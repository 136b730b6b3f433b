/-
  WalPlays: FCh.
  Conditions: named in each theorem.
-/
import Derived.Test.YtnobeoppffoomaaGreatP16
import Derived.Test.YtnobeoppffoomaaGreatP0
set_option linter.unusedVariables false
set_option linter.unusedSimpArgs false
set_option maxHeartbeats 8000000
set_option maxRecDepth 100000
namespace Go.Proofs.YtnobeoppffoomaaGreat
open Go.RowKit
open Vi
theorem wholef1_any (w:World):Calls Tryz.prog 163 #[.func (.func 164) #[] #[]] w fun q w'=>q=.returned (whv w.heap.size)∧w'=w.alloc (Obj.cells #[.func (.func 164) #[] #[]] 214):=by
 have hmf:∀ (fn:Fn) (first cap:Array Value) (w:World),(Instr.makeFunc fn first cap).run Tryz.prog w=.ok (.func fn first cap) w:=fun _ _ _ _=>rfl
 go_enter Tryz.func163,Tryz.ntmps163
 go_wp2
 go_ret
 exact ⟨rfl,rfl⟩
theorem whole2_any (c:Nat) (u:ByteArray) (X:En) (T:ByteArray) (b:Bool) (w:World) (hc:w.heap[c]?=some (.cells #[.func (.func 165) #[] #[]] 214 (0,0)))
 (hK:∀ g W,Rd 225 g u false W→Calls Tryz.prog 165 #[.pointer (some ⟨g,0,none⟩)] W fun q w'=>q=.returned (ev X)∧Rd 225 g T b w'∧W.grownBy w' (some g)) :
 Calls Tryz.prog 190 #[.string u,.pointer (some ⟨c,0,none⟩)] w fun q w'=>q=.returned (.tuple #[ev (whE X b T),.bool (whO b T)])∧Below w.heap.size w w':=by
 obtain ⟨W0,hW0⟩:∃ W0,W0=w.alloc (Obj.cells (ec ezz) 28):=⟨_,rfl⟩
 have b0:Below w.heap.size w W0:=by rw [hW0];exact (Below.refl _ _).alloc (Nat.le_refl _) _
 have k0:W0.heap[w.heap.size]?=some (.cells (ec ezz) 28 (0,0)):=by rw [hW0];exact heap_alloc_new w _
 have s0:W0.heap.size=w.heap.size+1:=by rw [hW0];simp
 have hcl:=(zgx hc)
 have KN:=zh (new2 u W0)
 have K:=zh hK
 have HC:=zh hc
 have HCL:=zh hcl
 have HW0:=zh hW0
 have HK0:=zh k0
 have HB0:=zh b0
 have HS0:=zh s0
 have HD:Hid ((whO b T=false→whE X b T=ezz)∧(whO b T=true→whE X b T=X)):=⟨fun h=>by unfold whE;rw [h];rfl,fun h=>by unfold whE;rw [h];rfl⟩
 have HO:Hid (whO b T=(!b&&decide (T.size=0))):=rfl
 obtain ⟨Y,hY⟩:∃ Y,Y=whE X b T:=⟨_,rfl⟩
 obtain ⟨o,ho⟩:∃ o,o=whO b T:=⟨_,rfl⟩
 rw [←hY,←ho] at HD ⊢
 rw [←ho] at HO
 clear hW0 k0 b0 s0 hc hcl hK hY ho
 go_enter Tryz.func190,Tryz.ntmps190
 go_wp2_with fail
 rw [←HW0.out]
 refine KN.out.mono ?_
 rintro q w1 ⟨rfl,R1,b1,s1⟩
 have HR1:=zh R1
 have HK1:Hid (w1.heap[w.heap.size]?=some (.cells (ec ezz) 28 (0,0))):=(b1.block _ (by have:=HS0.out;omega)).trans HK0.out
 have HB1:Hid (Below w.heap.size w w1):=HB0.out.trans (b1.mono HB0.out.size)
 have hcc:w1.cell? ⟨c,0,none⟩=some (.func (.func 165) #[] #[]):=zcr w1 _ 0 _ 214 (0,0) ((HB1.out.block _ HCL.out).trans HC.out)
 clear R1 b1 s1
 go_wp2_with fail
 refine (K.out _ _ HR1.out).mono ?_
 rintro q w2 ⟨rfl,R2,g2⟩
 have HK2:Hid (w2.heap[w.heap.size]?=some (.cells (ec ezz) 28 (0,0))):=(g2.block _ (zgx HK1.out) (by have:=HS0.out;simp;omega)).trans HK1.out
 have HB2:Hid (Below w.heap.size w w2):=below_grownBy HB1.out g2 HB1.out.size (by have:=HS0.out;omega)
 obtain ⟨W3,hW3⟩:∃ W3,W3=w2.alloc (Obj.cells (ec X) 28):=⟨_,rfl⟩
 have b3:Below w2.heap.size w2 W3:=by rw [hW3];exact (Below.refl _ _).alloc (Nat.le_refl _) _
 have HR3:Hid (Rd 225 W0.heap.size T b W3):=R2.below b3 R2.lt
 have k3:W3.heap[w.heap.size]?=some (.cells (ec ezz) 28 (0,0)):=(b3.block _ (zgx HK2.out)).trans HK2.out
 have HX3:Hid (W3.heap[w2.heap.size]?=some (.cells (ec X) 28 (0,0))):=by show _=_;rw [hW3];exact heap_alloc_new w2 _
 have HB3:Hid (Below w.heap.size w W3):=HB2.out.trans (b3.mono HB2.out.size)
 have HW3:=zh hW3
 have HK3:=zh k3
 have KO:=zh (ok2 _ _ _ _ HR3.out)
 have KL:=zh (left2 _ _ _ _ HR3.out)
 clear R2 g2 hW3 b3 k3 hcc
 cases b with
 | true =>
   have HOF:Hid (o=false):=HO.out
   have hof:=HOF.out
   subst hof
   have HY:=zh (HD.out.1 rfl)
   clear HD HO HOF
   go_wp2_with fail
   rw [←HW3.out]
   refine KO.out.mono ?_
   rintro q w4 ⟨rfl,rfl⟩
   have z0:W3.cell? ⟨w.heap.size,0,none⟩=some (.int .u64 0):=zcr W3 _ 0 _ 28 (0,0) HK3.out
   have z1:W3.cell? ⟨w.heap.size,1,none⟩=some (.int .u64 0):=zcr W3 _ 1 _ 28 (0,0) HK3.out
   have z2:W3.cell? ⟨w.heap.size,2,none⟩=some (.int .i64 0):=zcr W3 _ 2 _ 28 (0,0) HK3.out
   have z3:W3.cell? ⟨w.heap.size,3,none⟩=some (.int .u64 0):=zcr W3 _ 3 _ 28 (0,0) HK3.out
   have z4:W3.cell? ⟨w.heap.size,4,none⟩=some (.int .u64 0):=zcr W3 _ 4 _ 28 (0,0) HK3.out
   have z5:W3.cell? ⟨w.heap.size,5,none⟩=some (.int .u64 0):=zcr W3 _ 5 _ 28 (0,0) HK3.out
   have z6:W3.cell? ⟨w.heap.size,6,none⟩=some (.int .u64 0):=zcr W3 _ 6 _ 28 (0,0) HK3.out
   have z7:W3.cell? ⟨w.heap.size,7,none⟩=some (.int .i64 0):=zcr W3 _ 7 _ 28 (0,0) HK3.out
   have z8:W3.cell? ⟨w.heap.size,8,none⟩=some (.int .i64 0):=zcr W3 _ 8 _ 28 (0,0) HK3.out
   have z9:W3.cell? ⟨w.heap.size,9,none⟩=some (.string ⟨#[]⟩):=zcr W3 _ 9 _ 28 (0,0) HK3.out
   have z10:W3.cell? ⟨w.heap.size,10,none⟩=some (.string ⟨#[]⟩):=zcr W3 _ 10 _ 28 (0,0) HK3.out
   have fz:∀ i,W3.frozen? ⟨w.heap.size,i,none⟩=false:=fun i=>Lib.frozen_of_heap HK3.out i
   obtain ⟨WF,hWF⟩:∃ WF,WF=wz W3 w.heap.size ezz:=⟨_,rfl⟩
   have hblk:WF.heap[w.heap.size]?=some (.cells (ec ezz) 28 (0,0)):=by rw [hWF];exact store_all ezz HK3.out
   have HBF:Hid (Below w.heap.size w WF):=by rw [hWF];exact below_all ezz HB3.out (Nat.le_refl _)
   have HBK:=zh hblk
   have HWF:=zh hWF
   clear hblk hWF
   go_wp2
   have hWF:=HWF.out
   unfold wz at hWF
   rw [←hWF]
   have f0:WF.cell? ⟨w.heap.size,0,none⟩=some (.int .u64 0):=zcr WF _ 0 _ 28 (0,0) HBK.out
   have f1:WF.cell? ⟨w.heap.size,1,none⟩=some (.int .u64 0):=zcr WF _ 1 _ 28 (0,0) HBK.out
   have f2:WF.cell? ⟨w.heap.size,2,none⟩=some (.int .i64 0):=zcr WF _ 2 _ 28 (0,0) HBK.out
   have f3:WF.cell? ⟨w.heap.size,3,none⟩=some (.int .u64 0):=zcr WF _ 3 _ 28 (0,0) HBK.out
   have f4:WF.cell? ⟨w.heap.size,4,none⟩=some (.int .u64 0):=zcr WF _ 4 _ 28 (0,0) HBK.out
   have f5:WF.cell? ⟨w.heap.size,5,none⟩=some (.int .u64 0):=zcr WF _ 5 _ 28 (0,0) HBK.out
   have f6:WF.cell? ⟨w.heap.size,6,none⟩=some (.int .u64 0):=zcr WF _ 6 _ 28 (0,0) HBK.out
   have f7:WF.cell? ⟨w.heap.size,7,none⟩=some (.int .i64 0):=zcr WF _ 7 _ 28 (0,0) HBK.out
   have f8:WF.cell? ⟨w.heap.size,8,none⟩=some (.int .i64 0):=zcr WF _ 8 _ 28 (0,0) HBK.out
   have f9:WF.cell? ⟨w.heap.size,9,none⟩=some (.string ⟨#[]⟩):=zcr WF _ 9 _ 28 (0,0) HBK.out
   have f10:WF.cell? ⟨w.heap.size,10,none⟩=some (.string ⟨#[]⟩):=zcr WF _ 10 _ 28 (0,0) HBK.out
   exact bodyPost_ret (v:=.tuple #[ev ezz,.bool false]) (by simp [results,Tryz.results190,go_sem,f0,f1,f2,f3,f4,f5,f6,f7,f8,f9,f10]) rfl ⟨by rw [HY.out],HBF.out⟩
 | false =>
   by_cases hz:T.size=0
   ·have HOF:Hid (o=true):=by have h:=HO.out;rw [decide_eq_true hz] at h;exact h
    have hof:=HOF.out
    subst hof
    have HY:=zh (HD.out.2 rfl)
    clear HD HO HOF
    have hd:decide (0<(T.size:Int))=false:=decide_eq_false (by omega)
    have hd2:¬ 0<T.size:=by omega
    go_wp2_with fail
    rw [←HW3.out]
    refine KO.out.mono ?_
    rintro q w4 ⟨rfl,rfl⟩
    go_wp2_with fail
    refine KL.out.mono ?_
    rintro q w4 ⟨rfl,rfl⟩
    have z0:W3.cell? ⟨w.heap.size,0,none⟩=some (.int .u64 0):=zcr W3 _ 0 _ 28 (0,0) HK3.out
    have z1:W3.cell? ⟨w.heap.size,1,none⟩=some (.int .u64 0):=zcr W3 _ 1 _ 28 (0,0) HK3.out
    have z2:W3.cell? ⟨w.heap.size,2,none⟩=some (.int .i64 0):=zcr W3 _ 2 _ 28 (0,0) HK3.out
    have z3:W3.cell? ⟨w.heap.size,3,none⟩=some (.int .u64 0):=zcr W3 _ 3 _ 28 (0,0) HK3.out
    have z4:W3.cell? ⟨w.heap.size,4,none⟩=some (.int .u64 0):=zcr W3 _ 4 _ 28 (0,0) HK3.out
    have z5:W3.cell? ⟨w.heap.size,5,none⟩=some (.int .u64 0):=zcr W3 _ 5 _ 28 (0,0) HK3.out
    have z6:W3.cell? ⟨w.heap.size,6,none⟩=some (.int .u64 0):=zcr W3 _ 6 _ 28 (0,0) HK3.out
    have z7:W3.cell? ⟨w.heap.size,7,none⟩=some (.int .i64 0):=zcr W3 _ 7 _ 28 (0,0) HK3.out
    have z8:W3.cell? ⟨w.heap.size,8,none⟩=some (.int .i64 0):=zcr W3 _ 8 _ 28 (0,0) HK3.out
    have z9:W3.cell? ⟨w.heap.size,9,none⟩=some (.string ⟨#[]⟩):=zcr W3 _ 9 _ 28 (0,0) HK3.out
    have z10:W3.cell? ⟨w.heap.size,10,none⟩=some (.string ⟨#[]⟩):=zcr W3 _ 10 _ 28 (0,0) HK3.out
    have x0:W3.cell? ⟨w2.heap.size,0,none⟩=some (.int .u64 X.term):=zcr W3 _ 0 _ 28 (0,0) HX3.out
    have x1:W3.cell? ⟨w2.heap.size,1,none⟩=some (.int .u64 X.index):=zcr W3 _ 1 _ 28 (0,0) HX3.out
    have x2:W3.cell? ⟨w2.heap.size,2,none⟩=some (.int .i64 X.kind):=zcr W3 _ 2 _ 28 (0,0) HX3.out
    have x3:W3.cell? ⟨w2.heap.size,3,none⟩=some (.int .u64 X.client):=zcr W3 _ 3 _ 28 (0,0) HX3.out
    have x4:W3.cell? ⟨w2.heap.size,4,none⟩=some (.int .u64 X.seq):=zcr W3 _ 4 _ 28 (0,0) HX3.out
    have x5:W3.cell? ⟨w2.heap.size,5,none⟩=some (.int .u64 X.block):=zcr W3 _ 5 _ 28 (0,0) HX3.out
    have x6:W3.cell? ⟨w2.heap.size,6,none⟩=some (.int .u64 X.many):=zcr W3 _ 6 _ 28 (0,0) HX3.out
    have x7:W3.cell? ⟨w2.heap.size,7,none⟩=some (.int .i64 X.node):=zcr W3 _ 7 _ 28 (0,0) HX3.out
    have x8:W3.cell? ⟨w2.heap.size,8,none⟩=some (.int .i64 X.level):=zcr W3 _ 8 _ 28 (0,0) HX3.out
    have x9:W3.cell? ⟨w2.heap.size,9,none⟩=some (.string X.data):=zcr W3 _ 9 _ 28 (0,0) HX3.out
    have x10:W3.cell? ⟨w2.heap.size,10,none⟩=some (.string X.old):=zcr W3 _ 10 _ 28 (0,0) HX3.out
    have fz:∀ i,W3.frozen? ⟨w.heap.size,i,none⟩=false:=fun i=>Lib.frozen_of_heap HK3.out i
    obtain ⟨WF,hWF⟩:∃ WF,WF=wz W3 w.heap.size X:=⟨_,rfl⟩
    have hblk:WF.heap[w.heap.size]?=some (.cells (ec X) 28 (0,0)):=by rw [hWF];exact store_all X HK3.out
    have HBF:Hid (Below w.heap.size w WF):=by rw [hWF];exact below_all X HB3.out (Nat.le_refl _)
    have HBK:=zh hblk
    have HWF:=zh hWF
    clear hblk hWF
    go_wp2
    have hWF:=HWF.out
    unfold wz at hWF
    rw [←hWF]
    have f0:WF.cell? ⟨w.heap.size,0,none⟩=some (.int .u64 X.term):=zcr WF _ 0 _ 28 (0,0) HBK.out
    have f1:WF.cell? ⟨w.heap.size,1,none⟩=some (.int .u64 X.index):=zcr WF _ 1 _ 28 (0,0) HBK.out
    have f2:WF.cell? ⟨w.heap.size,2,none⟩=some (.int .i64 X.kind):=zcr WF _ 2 _ 28 (0,0) HBK.out
    have f3:WF.cell? ⟨w.heap.size,3,none⟩=some (.int .u64 X.client):=zcr WF _ 3 _ 28 (0,0) HBK.out
    have f4:WF.cell? ⟨w.heap.size,4,none⟩=some (.int .u64 X.seq):=zcr WF _ 4 _ 28 (0,0) HBK.out
    have f5:WF.cell? ⟨w.heap.size,5,none⟩=some (.int .u64 X.block):=zcr WF _ 5 _ 28 (0,0) HBK.out
    have f6:WF.cell? ⟨w.heap.size,6,none⟩=some (.int .u64 X.many):=zcr WF _ 6 _ 28 (0,0) HBK.out
    have f7:WF.cell? ⟨w.heap.size,7,none⟩=some (.int .i64 X.node):=zcr WF _ 7 _ 28 (0,0) HBK.out
    have f8:WF.cell? ⟨w.heap.size,8,none⟩=some (.int .i64 X.level):=zcr WF _ 8 _ 28 (0,0) HBK.out
    have f9:WF.cell? ⟨w.heap.size,9,none⟩=some (.string X.data):=zcr WF _ 9 _ 28 (0,0) HBK.out
    have f10:WF.cell? ⟨w.heap.size,10,none⟩=some (.string X.old):=zcr WF _ 10 _ 28 (0,0) HBK.out
    exact bodyPost_ret (v:=.tuple #[ev X,.bool true]) (by simp [results,Tryz.results190,go_sem,f0,f1,f2,f3,f4,f5,f6,f7,f8,f9,f10]) rfl ⟨by rw [HY.out],HBF.out⟩
   ·have HOF:Hid (o=false):=by have h:=HO.out;rw [decide_eq_false hz] at h;exact h
    have hof:=HOF.out
    subst hof
    have HY:=zh (HD.out.1 rfl)
    clear HD HO HOF
    have hd:decide (0<(T.size:Int))=true:=decide_eq_true (by omega)
    have hd2:0<T.size:=by omega
    go_wp2_with fail
    rw [←HW3.out]
    refine KO.out.mono ?_
    rintro q w4 ⟨rfl,rfl⟩
    go_wp2_with fail
    refine KL.out.mono ?_
    rintro q w4 ⟨rfl,rfl⟩
    have z0:W3.cell? ⟨w.heap.size,0,none⟩=some (.int .u64 0):=zcr W3 _ 0 _ 28 (0,0) HK3.out
    have z1:W3.cell? ⟨w.heap.size,1,none⟩=some (.int .u64 0):=zcr W3 _ 1 _ 28 (0,0) HK3.out
    have z2:W3.cell? ⟨w.heap.size,2,none⟩=some (.int .i64 0):=zcr W3 _ 2 _ 28 (0,0) HK3.out
    have z3:W3.cell? ⟨w.heap.size,3,none⟩=some (.int .u64 0):=zcr W3 _ 3 _ 28 (0,0) HK3.out
    have z4:W3.cell? ⟨w.heap.size,4,none⟩=some (.int .u64 0):=zcr W3 _ 4 _ 28 (0,0) HK3.out
    have z5:W3.cell? ⟨w.heap.size,5,none⟩=some (.int .u64 0):=zcr W3 _ 5 _ 28 (0,0) HK3.out
    have z6:W3.cell? ⟨w.heap.size,6,none⟩=some (.int .u64 0):=zcr W3 _ 6 _ 28 (0,0) HK3.out
    have z7:W3.cell? ⟨w.heap.size,7,none⟩=some (.int .i64 0):=zcr W3 _ 7 _ 28 (0,0) HK3.out
    have z8:W3.cell? ⟨w.heap.size,8,none⟩=some (.int .i64 0):=zcr W3 _ 8 _ 28 (0,0) HK3.out
    have z9:W3.cell? ⟨w.heap.size,9,none⟩=some (.string ⟨#[]⟩):=zcr W3 _ 9 _ 28 (0,0) HK3.out
    have z10:W3.cell? ⟨w.heap.size,10,none⟩=some (.string ⟨#[]⟩):=zcr W3 _ 10 _ 28 (0,0) HK3.out
    have fz:∀ i,W3.frozen? ⟨w.heap.size,i,none⟩=false:=fun i=>Lib.frozen_of_heap HK3.out i
    obtain ⟨WF,hWF⟩:∃ WF,WF=wz W3 w.heap.size ezz:=⟨_,rfl⟩
    have hblk:WF.heap[w.heap.size]?=some (.cells (ec ezz) 28 (0,0)):=by rw [hWF];exact store_all ezz HK3.out
    have HBF:Hid (Below w.heap.size w WF):=by rw [hWF];exact below_all ezz HB3.out (Nat.le_refl _)
    have HBK:=zh hblk
    have HWF:=zh hWF
    clear hblk hWF
    go_wp2
    have hWF:=HWF.out
    unfold wz at hWF
    rw [←hWF]
    have f0:WF.cell? ⟨w.heap.size,0,none⟩=some (.int .u64 0):=zcr WF _ 0 _ 28 (0,0) HBK.out
    have f1:WF.cell? ⟨w.heap.size,1,none⟩=some (.int .u64 0):=zcr WF _ 1 _ 28 (0,0) HBK.out
    have f2:WF.cell? ⟨w.heap.size,2,none⟩=some (.int .i64 0):=zcr WF _ 2 _ 28 (0,0) HBK.out
    have f3:WF.cell? ⟨w.heap.size,3,none⟩=some (.int .u64 0):=zcr WF _ 3 _ 28 (0,0) HBK.out
    have f4:WF.cell? ⟨w.heap.size,4,none⟩=some (.int .u64 0):=zcr WF _ 4 _ 28 (0,0) HBK.out
    have f5:WF.cell? ⟨w.heap.size,5,none⟩=some (.int .u64 0):=zcr WF _ 5 _ 28 (0,0) HBK.out
    have f6:WF.cell? ⟨w.heap.size,6,none⟩=some (.int .u64 0):=zcr WF _ 6 _ 28 (0,0) HBK.out
    have f7:WF.cell? ⟨w.heap.size,7,none⟩=some (.int .i64 0):=zcr WF _ 7 _ 28 (0,0) HBK.out
    have f8:WF.cell? ⟨w.heap.size,8,none⟩=some (.int .i64 0):=zcr WF _ 8 _ 28 (0,0) HBK.out
    have f9:WF.cell? ⟨w.heap.size,9,none⟩=some (.string ⟨#[]⟩):=zcr WF _ 9 _ 28 (0,0) HBK.out
    have f10:WF.cell? ⟨w.heap.size,10,none⟩=some (.string ⟨#[]⟩):=zcr WF _ 10 _ 28 (0,0) HBK.out
    exact bodyPost_ret (v:=.tuple #[ev ezz,.bool false]) (by simp [results,Tryz.results190,go_sem,f0,f1,f2,f3,f4,f5,f6,f7,f8,f9,f10]) rfl ⟨by rw [HY.out],HBF.out⟩
theorem wholef2_any (w:World):Calls Tryz.prog 163 #[.func (.func 165) #[] #[]] w fun q w'=>q=.returned (whv w.heap.size)∧w'=w.alloc (Obj.cells #[.func (.func 165) #[] #[]] 214):=by
 have hmf:∀ (fn:Fn) (first cap:Array Value) (w:World),(Instr.makeFunc fn first cap).run Tryz.prog w=.ok (.func fn first cap) w:=fun _ _ _ _=>rfl
 go_enter Tryz.func163,Tryz.ntmps163
 go_wp2
 go_ret
 exact ⟨rfl,rfl⟩
theorem fill_again (E Z:En):((((((((((((ec Z).setIfInBounds 0 (.int .u64 E.term)).setIfInBounds 1 (.int .u64 E.index)).setIfInBounds 2 (.int .i64 E.kind)).setIfInBounds 3 (.int .u64 E.client)).setIfInBounds 4 (.int .u64 E.seq)).setIfInBounds 5 (.int .u64 E.block)).setIfInBounds 6 (.int .u64 E.many)).setIfInBounds 7 (.int .i64 E.node)).setIfInBounds 8 (.int .i64 E.level)).setIfInBounds 9 (.string E.data)).setIfInBounds 10 (.string E.old))=ec E:=by simp
theorem store_again {wr:World} {g:Nat} {Z:En} (E:En) (h:wr.heap[g]?=some (.cells (ec Z) 28 (0,0))):(wz wr g E).heap[g]?=some (.cells (ec E) 28 (0,0)):=by
 rw [←fill_again E Z]
 exact set_blk (set_blk (set_blk (set_blk (set_blk (set_blk (set_blk (set_blk (set_blk (set_blk (set_blk h 0 _) 1 _) 2 _) 3 _) 4 _) 5 _) 6 _) 7 _) 8 _) 9 _) 10 _
theorem fgetE1_any (s:ByteArray) (g a1 a2:Nat) (X:En) (T:ByteArray) (b:Bool) (w:World) (hm:w.heap[g]?=some (.map (two (whv a1) (whv a2)) 2)) (hc:w.heap[a1]?=some (.cells #[.func (.func 164) #[] #[]] 214 (0,0)))
 (hs:s.size≤140737488351232) (hU:uO s=true) (hV:uV s=1)
 (hK:∀ g W,Rd 225 g (uB s) false W→Calls Tryz.prog 164 #[.pointer (some ⟨g,0,none⟩)] W fun q w'=>q=.returned (ev X)∧Rd 225 g T b w'∧W.grownBy w' (some g)) :
 Calls Tryz.prog 162 #[.map (some g),.string s] w fun q w'=>q=.returned (.tuple #[ev (whE X b T),.int .i64 (if whO b T then 1 else 0),.bool (whO b T)])∧Below w.heap.size w w':=by
 obtain ⟨W0,hW0⟩:∃ W0,W0=w.alloc (Obj.cells (ec ezz) 28):=⟨_,rfl⟩
 have b0:Below w.heap.size w W0:=by rw [hW0];exact (Below.refl _ _).alloc (Nat.le_refl _) _
 have k0:W0.heap[w.heap.size]?=some (.cells (ec ezz) 28 (0,0)):=by rw [hW0];exact heap_alloc_new w _
 have KU:Hid (Calls Tryz.prog 189 #[.string s] W0 fun q w'=>q=.returned (.tuple #[.int .i64 1,.string (uB s),.bool true])∧Below W0.heap.size W0 w'):=by
  refine (unpack_any s W0 (by omega)).mono fun q w' ⟨h1,h2⟩=>⟨?_,h2⟩
  rw [h1,hU,hV]
 obtain ⟨u,hu⟩:∃ u,u=uB s:=⟨_,rfl⟩
 rw [←hu] at KU hK
 have KW:=zh (fun (W:World) (h:W.heap[a1]?=some (.cells #[.func (.func 164) #[] #[]] 214 (0,0)))=>whole1_any a1 u X T b W h hK)
 have hgl:=(zgx hm)
 have hal:=(zgx hc)
 have HM:=zh hm
 have HC:=zh hc
 have HGL:=zh hgl
 have HAL:=zh hal
 have HW0:=zh hW0
 have HK0:=zh k0
 have HB0:=zh b0
 have HD:Hid (whO b T=false→whE X b T=ezz):=fun h=>by unfold whE;rw [h];rfl
 obtain ⟨Y,hY⟩:∃ Y,Y=whE X b T:=⟨_,rfl⟩
 obtain ⟨o,ho⟩:∃ o,o=whO b T:=⟨_,rfl⟩
 rw [←hY,←ho] at HD KW ⊢
 clear hW0 k0 b0 hm hc hgl hal hK hY ho hU hV hu hs
 go_enter Tryz.func162,Tryz.ntmps162
 go_wp2_with fail
 rw [←HW0.out]
 refine KU.out.mono ?_
 rintro q w1 ⟨rfl,b1⟩
 have HK1:Hid (w1.heap[w.heap.size]?=some (.cells (ec ezz) 28 (0,0))):=(b1.block _ (zgx HK0.out)).trans HK0.out
 have HB1:Hid (Below w.heap.size w w1):=HB0.out.trans (b1.mono HB0.out.size)
 have hl:=look_one (T:=215) 1 (whv a1) Tryz.underlying215 ((HB1.out.block _ HGL.out).trans HM.out) (two_1 _ _)
 have KW1:=zh (KW.out w1 ((HB1.out.block _ HAL.out).trans HC.out))
 clear b1
 go_wp2_with fail
 refine KW1.out.mono ?_
 rintro q w2 ⟨rfl,b2⟩
 have HK2:Hid (w2.heap[w.heap.size]?=some (.cells (ec ezz) 28 (0,0))):=(b2.block _ (zgx HK1.out)).trans HK1.out
 have HB2:Hid (Below w.heap.size w w2):=HB1.out.trans (b2.mono HB1.out.size)
 clear b2 hl
 have z0:w2.cell? ⟨w.heap.size,0,none⟩=some (.int .u64 0):=zcr w2 _ 0 _ 28 (0,0) HK2.out
 have z1:w2.cell? ⟨w.heap.size,1,none⟩=some (.int .u64 0):=zcr w2 _ 1 _ 28 (0,0) HK2.out
 have z2:w2.cell? ⟨w.heap.size,2,none⟩=some (.int .i64 0):=zcr w2 _ 2 _ 28 (0,0) HK2.out
 have z3:w2.cell? ⟨w.heap.size,3,none⟩=some (.int .u64 0):=zcr w2 _ 3 _ 28 (0,0) HK2.out
 have z4:w2.cell? ⟨w.heap.size,4,none⟩=some (.int .u64 0):=zcr w2 _ 4 _ 28 (0,0) HK2.out
 have z5:w2.cell? ⟨w.heap.size,5,none⟩=some (.int .u64 0):=zcr w2 _ 5 _ 28 (0,0) HK2.out
 have z6:w2.cell? ⟨w.heap.size,6,none⟩=some (.int .u64 0):=zcr w2 _ 6 _ 28 (0,0) HK2.out
 have z7:w2.cell? ⟨w.heap.size,7,none⟩=some (.int .i64 0):=zcr w2 _ 7 _ 28 (0,0) HK2.out
 have z8:w2.cell? ⟨w.heap.size,8,none⟩=some (.int .i64 0):=zcr w2 _ 8 _ 28 (0,0) HK2.out
 have z9:w2.cell? ⟨w.heap.size,9,none⟩=some (.string ⟨#[]⟩):=zcr w2 _ 9 _ 28 (0,0) HK2.out
 have z10:w2.cell? ⟨w.heap.size,10,none⟩=some (.string ⟨#[]⟩):=zcr w2 _ 10 _ 28 (0,0) HK2.out
 have fz:∀ i,w2.frozen? ⟨w.heap.size,i,none⟩=false:=fun i=>Lib.frozen_of_heap HK2.out i
 go_upto_region 5 with fail
 obtain ⟨W3,hW3⟩:∃ W3,W3=wz w2 w.heap.size Y:=⟨_,rfl⟩
 have k3:W3.heap[w.heap.size]?=some (.cells (ec Y) 28 (0,0)):=by rw [hW3];exact store_all Y HK2.out
 have HB3:Hid (Below w.heap.size w W3):=by rw [hW3];exact below_all Y HB2.out (Nat.le_refl _)
 have HK3:=zh k3
 unfold wz at hW3
 rw [←hW3]
 clear hW3 k3 z0 z1 z2 z3 z4 z5 z6 z7 z8 z9 z10 fz
 have y0:W3.cell? ⟨w.heap.size,0,none⟩=some (.int .u64 Y.term):=zcr W3 _ 0 _ 28 (0,0) HK3.out
 have y1:W3.cell? ⟨w.heap.size,1,none⟩=some (.int .u64 Y.index):=zcr W3 _ 1 _ 28 (0,0) HK3.out
 have y2:W3.cell? ⟨w.heap.size,2,none⟩=some (.int .i64 Y.kind):=zcr W3 _ 2 _ 28 (0,0) HK3.out
 have y3:W3.cell? ⟨w.heap.size,3,none⟩=some (.int .u64 Y.client):=zcr W3 _ 3 _ 28 (0,0) HK3.out
 have y4:W3.cell? ⟨w.heap.size,4,none⟩=some (.int .u64 Y.seq):=zcr W3 _ 4 _ 28 (0,0) HK3.out
 have y5:W3.cell? ⟨w.heap.size,5,none⟩=some (.int .u64 Y.block):=zcr W3 _ 5 _ 28 (0,0) HK3.out
 have y6:W3.cell? ⟨w.heap.size,6,none⟩=some (.int .u64 Y.many):=zcr W3 _ 6 _ 28 (0,0) HK3.out
 have y7:W3.cell? ⟨w.heap.size,7,none⟩=some (.int .i64 Y.node):=zcr W3 _ 7 _ 28 (0,0) HK3.out
 have y8:W3.cell? ⟨w.heap.size,8,none⟩=some (.int .i64 Y.level):=zcr W3 _ 8 _ 28 (0,0) HK3.out
 have y9:W3.cell? ⟨w.heap.size,9,none⟩=some (.string Y.data):=zcr W3 _ 9 _ 28 (0,0) HK3.out
 have y10:W3.cell? ⟨w.heap.size,10,none⟩=some (.string Y.old):=zcr W3 _ 10 _ 28 (0,0) HK3.out
 have fz:∀ i,W3.frozen? ⟨w.heap.size,i,none⟩=false:=fun i=>Lib.frozen_of_heap HK3.out i
 cases o with
 | false =>
   have HY:=zh (HD.out rfl)
   go_wp2
   obtain ⟨WF,hWF⟩:∃ WF,WF=wz W3 w.heap.size Y:=⟨_,rfl⟩
   have HBK:Hid (WF.heap[w.heap.size]?=some (.cells (ec Y) 28 (0,0))):=by
    show _=_
    rw [hWF]
    exact store_again Y HK3.out
   have HBF:Hid (Below w.heap.size w WF):=by rw [hWF];exact below_all Y HB3.out (Nat.le_refl _)
   unfold wz at hWF
   rw [←hWF]
   have f0:WF.cell? ⟨w.heap.size,0,none⟩=some (.int .u64 Y.term):=zcr WF _ 0 _ 28 (0,0) HBK.out
   have f1:WF.cell? ⟨w.heap.size,1,none⟩=some (.int .u64 Y.index):=zcr WF _ 1 _ 28 (0,0) HBK.out
   have f2:WF.cell? ⟨w.heap.size,2,none⟩=some (.int .i64 Y.kind):=zcr WF _ 2 _ 28 (0,0) HBK.out
   have f3:WF.cell? ⟨w.heap.size,3,none⟩=some (.int .u64 Y.client):=zcr WF _ 3 _ 28 (0,0) HBK.out
   have f4:WF.cell? ⟨w.heap.size,4,none⟩=some (.int .u64 Y.seq):=zcr WF _ 4 _ 28 (0,0) HBK.out
   have f5:WF.cell? ⟨w.heap.size,5,none⟩=some (.int .u64 Y.block):=zcr WF _ 5 _ 28 (0,0) HBK.out
   have f6:WF.cell? ⟨w.heap.size,6,none⟩=some (.int .u64 Y.many):=zcr WF _ 6 _ 28 (0,0) HBK.out
   have f7:WF.cell? ⟨w.heap.size,7,none⟩=some (.int .i64 Y.node):=zcr WF _ 7 _ 28 (0,0) HBK.out
   have f8:WF.cell? ⟨w.heap.size,8,none⟩=some (.int .i64 Y.level):=zcr WF _ 8 _ 28 (0,0) HBK.out
   have f9:WF.cell? ⟨w.heap.size,9,none⟩=some (.string Y.data):=zcr WF _ 9 _ 28 (0,0) HBK.out
   have f10:WF.cell? ⟨w.heap.size,10,none⟩=some (.string Y.old):=zcr WF _ 10 _ 28 (0,0) HBK.out
   exact bodyPost_ret (v:=.tuple #[ev Y,.int .i64 0,.bool false]) (by simp [results,Tryz.results162,go_sem,f0,f1,f2,f3,f4,f5,f6,f7,f8,f9,f10]) rfl ⟨rfl,HBF.out⟩
 | true =>
   go_wp2
   obtain ⟨WF,hWF⟩:∃ WF,WF=wz W3 w.heap.size Y:=⟨_,rfl⟩
   have HBK:Hid (WF.heap[w.heap.size]?=some (.cells (ec Y) 28 (0,0))):=by
    show _=_
    rw [hWF]
    exact store_again Y HK3.out
   have HBF:Hid (Below w.heap.size w WF):=by rw [hWF];exact below_all Y HB3.out (Nat.le_refl _)
   unfold wz at hWF
   rw [←hWF]
   have f0:WF.cell? ⟨w.heap.size,0,none⟩=some (.int .u64 Y.term):=zcr WF _ 0 _ 28 (0,0) HBK.out
   have f1:WF.cell? ⟨w.heap.size,1,none⟩=some (.int .u64 Y.index):=zcr WF _ 1 _ 28 (0,0) HBK.out
   have f2:WF.cell? ⟨w.heap.size,2,none⟩=some (.int .i64 Y.kind):=zcr WF _ 2 _ 28 (0,0) HBK.out
   have f3:WF.cell? ⟨w.heap.size,3,none⟩=some (.int .u64 Y.client):=zcr WF _ 3 _ 28 (0,0) HBK.out
   have f4:WF.cell? ⟨w.heap.size,4,none⟩=some (.int .u64 Y.seq):=zcr WF _ 4 _ 28 (0,0) HBK.out
   have f5:WF.cell? ⟨w.heap.size,5,none⟩=some (.int .u64 Y.block):=zcr WF _ 5 _ 28 (0,0) HBK.out
   have f6:WF.cell? ⟨w.heap.size,6,none⟩=some (.int .u64 Y.many):=zcr WF _ 6 _ 28 (0,0) HBK.out
   have f7:WF.cell? ⟨w.heap.size,7,none⟩=some (.int .i64 Y.node):=zcr WF _ 7 _ 28 (0,0) HBK.out
   have f8:WF.cell? ⟨w.heap.size,8,none⟩=some (.int .i64 Y.level):=zcr WF _ 8 _ 28 (0,0) HBK.out
   have f9:WF.cell? ⟨w.heap.size,9,none⟩=some (.string Y.data):=zcr WF _ 9 _ 28 (0,0) HBK.out
   have f10:WF.cell? ⟨w.heap.size,10,none⟩=some (.string Y.old):=zcr WF _ 10 _ 28 (0,0) HBK.out
   exact bodyPost_ret (v:=.tuple #[ev Y,.int .i64 1,.bool true]) (by simp [results,Tryz.results162,go_sem,f0,f1,f2,f3,f4,f5,f6,f7,f8,f9,f10]) rfl ⟨rfl,HBF.out⟩
theorem fgetE2_any (s:ByteArray) (g a1 a2:Nat) (X:En) (T:ByteArray) (b:Bool) (w:World) (hm:w.heap[g]?=some (.map (two (whv a1) (whv a2)) 2)) (hc:w.heap[a2]?=some (.cells #[.func (.func 165) #[] #[]] 214 (0,0)))
 (hs:s.size≤140737488351232) (hU:uO s=true) (hV:uV s=2)
 (hK:∀ g W,Rd 225 g (uB s) false W→Calls Tryz.prog 165 #[.pointer (some ⟨g,0,none⟩)] W fun q w'=>q=.returned (ev X)∧Rd 225 g T b w'∧W.grownBy w' (some g)) :
 Calls Tryz.prog 162 #[.map (some g),.string s] w fun q w'=>q=.returned (.tuple #[ev (whE X b T),.int .i64 (if whO b T then 2 else 0),.bool (whO b T)])∧Below w.heap.size w w':=by
 obtain ⟨W0,hW0⟩:∃ W0,W0=w.alloc (Obj.cells (ec ezz) 28):=⟨_,rfl⟩
 have b0:Below w.heap.size w W0:=by rw [hW0];exact (Below.refl _ _).alloc (Nat.le_refl _) _
 have k0:W0.heap[w.heap.size]?=some (.cells (ec ezz) 28 (0,0)):=by rw [hW0];exact heap_alloc_new w _
 have KU:Hid (Calls Tryz.prog 189 #[.string s] W0 fun q w'=>q=.returned (.tuple #[.int .i64 2,.string (uB s),.bool true])∧Below W0.heap.size W0 w'):=by
  refine (unpack_any s W0 (by omega)).mono fun q w' ⟨h1,h2⟩=>⟨?_,h2⟩
  rw [h1,hU,hV]
 obtain ⟨u,hu⟩:∃ u,u=uB s:=⟨_,rfl⟩
 rw [←hu] at KU hK
 have KW:=zh (fun (W:World) (h:W.heap[a2]?=some (.cells #[.func (.func 165) #[] #[]] 214 (0,0)))=>whole2_any a2 u X T b W h hK)
 have hgl:=(zgx hm)
 have hal:=(zgx hc)
 have HM:=zh hm
 have HC:=zh hc
 have HGL:=zh hgl
 have HAL:=zh hal
 have HW0:=zh hW0
 have HK0:=zh k0
 have HB0:=zh b0
 have HD:Hid (whO b T=false→whE X b T=ezz):=fun h=>by unfold whE;rw [h];rfl
 obtain ⟨Y,hY⟩:∃ Y,Y=whE X b T:=⟨_,rfl⟩
 obtain ⟨o,ho⟩:∃ o,o=whO b T:=⟨_,rfl⟩
 rw [←hY,←ho] at HD KW ⊢
 clear hW0 k0 b0 hm hc hgl hal hK hY ho hU hV hu hs
 go_enter Tryz.func162,Tryz.ntmps162
 go_wp2_with fail
 rw [←HW0.out]
 refine KU.out.mono ?_
 rintro q w1 ⟨rfl,b1⟩
 have HK1:Hid (w1.heap[w.heap.size]?=some (.cells (ec ezz) 28 (0,0))):=(b1.block _ (zgx HK0.out)).trans HK0.out
 have HB1:Hid (Below w.heap.size w w1):=HB0.out.trans (b1.mono HB0.out.size)
 have hl:=look_one (T:=215) 2 (whv a2) Tryz.underlying215 ((HB1.out.block _ HGL.out).trans HM.out) (two_2 _ _)
 have KW1:=zh (KW.out w1 ((HB1.out.block _ HAL.out).trans HC.out))
 clear b1
 go_wp2_with fail
 refine KW1.out.mono ?_
 rintro q w2 ⟨rfl,b2⟩
 have HK2:Hid (w2.heap[w.heap.size]?=some (.cells (ec ezz) 28 (0,0))):=(b2.block _ (zgx HK1.out)).trans HK1.out
 have HB2:Hid (Below w.heap.size w w2):=HB1.out.trans (b2.mono HB1.out.size)
 clear b2 hl
 have z0:w2.cell? ⟨w.heap.size,0,none⟩=some (.int .u64 0):=zcr w2 _ 0 _ 28 (0,0) HK2.out
 have z1:w2.cell? ⟨w.heap.size,1,none⟩=some (.int .u64 0):=zcr w2 _ 1 _ 28 (0,0) HK2.out
 have z2:w2.cell? ⟨w.heap.size,2,none⟩=some (.int .i64 0):=zcr w2 _ 2 _ 28 (0,0) HK2.out
 have z3:w2.cell? ⟨w.heap.size,3,none⟩=some (.int .u64 0):=zcr w2 _ 3 _ 28 (0,0) HK2.out
 have z4:w2.cell? ⟨w.heap.size,4,none⟩=some (.int .u64 0):=zcr w2 _ 4 _ 28 (0,0) HK2.out
 have z5:w2.cell? ⟨w.heap.size,5,none⟩=some (.int .u64 0):=zcr w2 _ 5 _ 28 (0,0) HK2.out
 have z6:w2.cell? ⟨w.heap.size,6,none⟩=some (.int .u64 0):=zcr w2 _ 6 _ 28 (0,0) HK2.out
 have z7:w2.cell? ⟨w.heap.size,7,none⟩=some (.int .i64 0):=zcr w2 _ 7 _ 28 (0,0) HK2.out
 have z8:w2.cell? ⟨w.heap.size,8,none⟩=some (.int .i64 0):=zcr w2 _ 8 _ 28 (0,0) HK2.out
 have z9:w2.cell? ⟨w.heap.size,9,none⟩=some (.string ⟨#[]⟩):=zcr w2 _ 9 _ 28 (0,0) HK2.out
 have z10:w2.cell? ⟨w.heap.size,10,none⟩=some (.string ⟨#[]⟩):=zcr w2 _ 10 _ 28 (0,0) HK2.out
 have fz:∀ i,w2.frozen? ⟨w.heap.size,i,none⟩=false:=fun i=>Lib.frozen_of_heap HK2.out i
 go_upto_region 5 with fail
 obtain ⟨W3,hW3⟩:∃ W3,W3=wz w2 w.heap.size Y:=⟨_,rfl⟩
 have k3:W3.heap[w.heap.size]?=some (.cells (ec Y) 28 (0,0)):=by rw [hW3];exact store_all Y HK2.out
 have HB3:Hid (Below w.heap.size w W3):=by rw [hW3];exact below_all Y HB2.out (Nat.le_refl _)
 have HK3:=zh k3
 unfold wz at hW3
 rw [←hW3]
 clear hW3 k3 z0 z1 z2 z3 z4 z5 z6 z7 z8 z9 z10 fz
 have y0:W3.cell? ⟨w.heap.size,0,none⟩=some (.int .u64 Y.term):=zcr W3 _ 0 _ 28 (0,0) HK3.out
 have y1:W3.cell? ⟨w.heap.size,1,none⟩=some (.int .u64 Y.index):=zcr W3 _ 1 _ 28 (0,0) HK3.out
 have y2:W3.cell? ⟨w.heap.size,2,none⟩=some (.int .i64 Y.kind):=zcr W3 _ 2 _ 28 (0,0) HK3.out
 have y3:W3.cell? ⟨w.heap.size,3,none⟩=some (.int .u64 Y.client):=zcr W3 _ 3 _ 28 (0,0) HK3.out
 have y4:W3.cell? ⟨w.heap.size,4,none⟩=some (.int .u64 Y.seq):=zcr W3 _ 4 _ 28 (0,0) HK3.out
 have y5:W3.cell? ⟨w.heap.size,5,none⟩=some (.int .u64 Y.block):=zcr W3 _ 5 _ 28 (0,0) HK3.out
 have y6:W3.cell? ⟨w.heap.size,6,none⟩=some (.int .u64 Y.many):=zcr W3 _ 6 _ 28 (0,0) HK3.out
 have y7:W3.cell? ⟨w.heap.size,7,none⟩=some (.int .i64 Y.node):=zcr W3 _ 7 _ 28 (0,0) HK3.out
 have y8:W3.cell? ⟨w.heap.size,8,none⟩=some (.int .i64 Y.level):=zcr W3 _ 8 _ 28 (0,0) HK3.out
 have y9:W3.cell? ⟨w.heap.size,9,none⟩=some (.string Y.data):=zcr W3 _ 9 _ 28 (0,0) HK3.out
 have y10:W3.cell? ⟨w.heap.size,10,none⟩=some (.string Y.old):=zcr W3 _ 10 _ 28 (0,0) HK3.out
 have fz:∀ i,W3.frozen? ⟨w.heap.size,i,none⟩=false:=fun i=>Lib.frozen_of_heap HK3.out i
 cases o with
 | false =>
   have HY:=zh (HD.out rfl)
   go_wp2
   obtain ⟨WF,hWF⟩:∃ WF,WF=wz W3 w.heap.size Y:=⟨_,rfl⟩
   have HBK:Hid (WF.heap[w.heap.size]?=some (.cells (ec Y) 28 (0,0))):=by
    show _=_
    rw [hWF]
    exact store_again Y HK3.out
   have HBF:Hid (Below w.heap.size w WF):=by rw [hWF];exact below_all Y HB3.out (Nat.le_refl _)
   unfold wz at hWF
   rw [←hWF]
   have f0:WF.cell? ⟨w.heap.size,0,none⟩=some (.int .u64 Y.term):=zcr WF _ 0 _ 28 (0,0) HBK.out
   have f1:WF.cell? ⟨w.heap.size,1,none⟩=some (.int .u64 Y.index):=zcr WF _ 1 _ 28 (0,0) HBK.out
   have f2:WF.cell? ⟨w.heap.size,2,none⟩=some (.int .i64 Y.kind):=zcr WF _ 2 _ 28 (0,0) HBK.out
   have f3:WF.cell? ⟨w.heap.size,3,none⟩=some (.int .u64 Y.client):=zcr WF _ 3 _ 28 (0,0) HBK.out
   have f4:WF.cell? ⟨w.heap.size,4,none⟩=some (.int .u64 Y.seq):=zcr WF _ 4 _ 28 (0,0) HBK.out
   have f5:WF.cell? ⟨w.heap.size,5,none⟩=some (.int .u64 Y.block):=zcr WF _ 5 _ 28 (0,0) HBK.out
   have f6:WF.cell? ⟨w.heap.size,6,none⟩=some (.int .u64 Y.many):=zcr WF _ 6 _ 28 (0,0) HBK.out
   have f7:WF.cell? ⟨w.heap.size,7,none⟩=some (.int .i64 Y.node):=zcr WF _ 7 _ 28 (0,0) HBK.out
   have f8:WF.cell? ⟨w.heap.size,8,none⟩=some (.int .i64 Y.level):=zcr WF _ 8 _ 28 (0,0) HBK.out
   have f9:WF.cell? ⟨w.heap.size,9,none⟩=some (.string Y.data):=zcr WF _ 9 _ 28 (0,0) HBK.out
   have f10:WF.cell? ⟨w.heap.size,10,none⟩=some (.string Y.old):=zcr WF _ 10 _ 28 (0,0) HBK.out
   exact bodyPost_ret (v:=.tuple #[ev Y,.int .i64 0,.bool false]) (by simp [results,Tryz.results162,go_sem,f0,f1,f2,f3,f4,f5,f6,f7,f8,f9,f10]) rfl ⟨rfl,HBF.out⟩
 | true =>
   go_wp2
   obtain ⟨WF,hWF⟩:∃ WF,WF=wz W3 w.heap.size Y:=⟨_,rfl⟩
   have HBK:Hid (WF.heap[w.heap.size]?=some (.cells (ec Y) 28 (0,0))):=by
    show _=_
    rw [hWF]
    exact store_again Y HK3.out
   have HBF:Hid (Below w.heap.size w WF):=by rw [hWF];exact below_all Y HB3.out (Nat.le_refl _)
   unfold wz at hWF
   rw [←hWF]
   have f0:WF.cell? ⟨w.heap.size,0,none⟩=some (.int .u64 Y.term):=zcr WF _ 0 _ 28 (0,0) HBK.out
   have f1:WF.cell? ⟨w.heap.size,1,none⟩=some (.int .u64 Y.index):=zcr WF _ 1 _ 28 (0,0) HBK.out
   have f2:WF.cell? ⟨w.heap.size,2,none⟩=some (.int .i64 Y.kind):=zcr WF _ 2 _ 28 (0,0) HBK.out
   have f3:WF.cell? ⟨w.heap.size,3,none⟩=some (.int .u64 Y.client):=zcr WF _ 3 _ 28 (0,0) HBK.out
   have f4:WF.cell? ⟨w.heap.size,4,none⟩=some (.int .u64 Y.seq):=zcr WF _ 4 _ 28 (0,0) HBK.out
   have f5:WF.cell? ⟨w.heap.size,5,none⟩=some (.int .u64 Y.block):=zcr WF _ 5 _ 28 (0,0) HBK.out
   have f6:WF.cell? ⟨w.heap.size,6,none⟩=some (.int .u64 Y.many):=zcr WF _ 6 _ 28 (0,0) HBK.out
   have f7:WF.cell? ⟨w.heap.size,7,none⟩=some (.int .i64 Y.node):=zcr WF _ 7 _ 28 (0,0) HBK.out
   have f8:WF.cell? ⟨w.heap.size,8,none⟩=some (.int .i64 Y.level):=zcr WF _ 8 _ 28 (0,0) HBK.out
   have f9:WF.cell? ⟨w.heap.size,9,none⟩=some (.string Y.data):=zcr WF _ 9 _ 28 (0,0) HBK.out
   have f10:WF.cell? ⟨w.heap.size,10,none⟩=some (.string Y.old):=zcr WF _ 10 _ 28 (0,0) HBK.out
   exact bodyPost_ret (v:=.tuple #[ev Y,.int .i64 2,.bool true]) (by simp [results,Tryz.results162,go_sem,f0,f1,f2,f3,f4,f5,f6,f7,f8,f9,f10]) rfl ⟨rfl,HBF.out⟩
theorem fgetE0_any (s:ByteArray) (g:Nat) (w:World) (hs:s.size≤140737488351232) (hU:uO s=false) :
 Calls Tryz.prog 162 #[.map (some g),.string s] w fun q w'=>q=.returned (.tuple #[ev ezz,.int .i64 0,.bool false])∧Below w.heap.size w w':=by
 obtain ⟨W0,hW0⟩:∃ W0,W0=w.alloc (Obj.cells (ec ezz) 28):=⟨_,rfl⟩
 have b0:Below w.heap.size w W0:=by rw [hW0];exact (Below.refl _ _).alloc (Nat.le_refl _) _
 have k0:W0.heap[w.heap.size]?=some (.cells (ec ezz) 28 (0,0)):=by rw [hW0];exact heap_alloc_new w _
 have KU:Hid (Calls Tryz.prog 189 #[.string s] W0 fun q w'=>q=.returned (.tuple #[.int .i64 0,.string ⟨#[]⟩,.bool false])∧Below W0.heap.size W0 w'):=by
  refine (unpack_any s W0 (by omega)).mono fun q w' ⟨h1,h2⟩=>⟨?_,h2⟩
  rw [h1,←u_ret_no hU]
 have HW0:=zh hW0
 have HK0:=zh k0
 have HB0:=zh b0
 clear hW0 k0 b0 hU hs
 go_enter Tryz.func162,Tryz.ntmps162
 go_wp2_with fail
 rw [←HW0.out]
 refine KU.out.mono ?_
 rintro q w1 ⟨rfl,b1⟩
 have HK1:Hid (w1.heap[w.heap.size]?=some (.cells (ec ezz) 28 (0,0))):=(b1.block _ (zgx HK0.out)).trans HK0.out
 have HB1:Hid (Below w.heap.size w w1):=HB0.out.trans (b1.mono HB0.out.size)
 clear b1
 have z0:w1.cell? ⟨w.heap.size,0,none⟩=some (.int .u64 0):=zcr w1 _ 0 _ 28 (0,0) HK1.out
 have z1:w1.cell? ⟨w.heap.size,1,none⟩=some (.int .u64 0):=zcr w1 _ 1 _ 28 (0,0) HK1.out
 have z2:w1.cell? ⟨w.heap.size,2,none⟩=some (.int .i64 0):=zcr w1 _ 2 _ 28 (0,0) HK1.out
 have z3:w1.cell? ⟨w.heap.size,3,none⟩=some (.int .u64 0):=zcr w1 _ 3 _ 28 (0,0) HK1.out
 have z4:w1.cell? ⟨w.heap.size,4,none⟩=some (.int .u64 0):=zcr w1 _ 4 _ 28 (0,0) HK1.out
 have z5:w1.cell? ⟨w.heap.size,5,none⟩=some (.int .u64 0):=zcr w1 _ 5 _ 28 (0,0) HK1.out
 have z6:w1.cell? ⟨w.heap.size,6,none⟩=some (.int .u64 0):=zcr w1 _ 6 _ 28 (0,0) HK1.out
 have z7:w1.cell? ⟨w.heap.size,7,none⟩=some (.int .i64 0):=zcr w1 _ 7 _ 28 (0,0) HK1.out
 have z8:w1.cell? ⟨w.heap.size,8,none⟩=some (.int .i64 0):=zcr w1 _ 8 _ 28 (0,0) HK1.out
 have z9:w1.cell? ⟨w.heap.size,9,none⟩=some (.string ⟨#[]⟩):=zcr w1 _ 9 _ 28 (0,0) HK1.out
 have z10:w1.cell? ⟨w.heap.size,10,none⟩=some (.string ⟨#[]⟩):=zcr w1 _ 10 _ 28 (0,0) HK1.out
 have fz:∀ i,w1.frozen? ⟨w.heap.size,i,none⟩=false:=fun i=>Lib.frozen_of_heap HK1.out i
 obtain ⟨WF,hWF⟩:∃ WF,WF=wz w1 w.heap.size ezz:=⟨_,rfl⟩
 have hblk:WF.heap[w.heap.size]?=some (.cells (ec ezz) 28 (0,0)):=by rw [hWF];exact store_all ezz HK1.out
 have HBF:Hid (Below w.heap.size w WF):=by rw [hWF];exact below_all ezz HB1.out (Nat.le_refl _)
 have HBK:=zh hblk
 have HWF:=zh hWF
 clear hblk hWF
 go_wp2
 have hWF:=HWF.out
 unfold wz at hWF
 rw [←hWF]
 have f0:WF.cell? ⟨w.heap.size,0,none⟩=some (.int .u64 0):=zcr WF _ 0 _ 28 (0,0) HBK.out
 have f1:WF.cell? ⟨w.heap.size,1,none⟩=some (.int .u64 0):=zcr WF _ 1 _ 28 (0,0) HBK.out
 have f2:WF.cell? ⟨w.heap.size,2,none⟩=some (.int .i64 0):=zcr WF _ 2 _ 28 (0,0) HBK.out
 have f3:WF.cell? ⟨w.heap.size,3,none⟩=some (.int .u64 0):=zcr WF _ 3 _ 28 (0,0) HBK.out
 have f4:WF.cell? ⟨w.heap.size,4,none⟩=some (.int .u64 0):=zcr WF _ 4 _ 28 (0,0) HBK.out
 have f5:WF.cell? ⟨w.heap.size,5,none⟩=some (.int .u64 0):=zcr WF _ 5 _ 28 (0,0) HBK.out
 have f6:WF.cell? ⟨w.heap.size,6,none⟩=some (.int .u64 0):=zcr WF _ 6 _ 28 (0,0) HBK.out
 have f7:WF.cell? ⟨w.heap.size,7,none⟩=some (.int .i64 0):=zcr WF _ 7 _ 28 (0,0) HBK.out
 have f8:WF.cell? ⟨w.heap.size,8,none⟩=some (.int .i64 0):=zcr WF _ 8 _ 28 (0,0) HBK.out
 have f9:WF.cell? ⟨w.heap.size,9,none⟩=some (.string ⟨#[]⟩):=zcr WF _ 9 _ 28 (0,0) HBK.out
 have f10:WF.cell? ⟨w.heap.size,10,none⟩=some (.string ⟨#[]⟩):=zcr WF _ 10 _ 28 (0,0) HBK.out
 exact bodyPost_ret (v:=.tuple #[ev ezz,.int .i64 0,.bool false]) (by simp [results,Tryz.results162,go_sem,f0,f1,f2,f3,f4,f5,f6,f7,f8,f9,f10]) rfl ⟨rfl,HBF.out⟩
end Go.Proofs.YtnobeoppffoomaaGreat
