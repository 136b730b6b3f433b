/-
  WalPlays: RMA GetM FCg.
  Conditions: named in each theorem.
-/
import Derived.Test.YtnobeoppffoomaaGreatP14
import Derived.Test.YtnobeoppffoomaaGreatP13
import Derived.Test.YtnobeoppffoomaaGreatP12
import Derived.Test.YtnobeoppffoomaaGreatP06
import Derived.Test.YtnobeoppffoomaaGreatP05
import Derived.Test.YtnobeoppffoomaaGreatP15
import Derived.Deep.RegionLaw
import Derived.Deep.CutRange
import Derived.Test.YtnobeoppffoomaaGreatP10
import Derived.Test.YtnobeoppffoomaaGreatP0
set_option linter.unusedVariables false
set_option linter.unusedSimpArgs false
set_option maxHeartbeats 8000000
set_option maxRecDepth 100000
namespace Go.Proofs.YtnobeoppffoomaaGreat
open Go.RowKit
open Vi
def mX9 (s:ByteArray):ByteArray:=if mY s≤1 then u9 s else ⟨#[]⟩
def r10 (s:ByteArray):ByteArray:=fixT (mX9 s) 1
section
variable {w0 w w1:World} {g p:Nat} {T T':ByteArray} {b b':Bool} {E E':Ms}
end
section
variable (w0:World) (g p:Nat) (E:Ms) (T:ByteArray) (b:Bool) (k:Int) (w:World)
end
end Go.Proofs.YtnobeoppffoomaaGreat
namespace Go.Proofs.YtnobeoppffoomaaGreat
open Go.RowKit
open Vi
theorem new2 (u:ByteArray) (w:World):Calls Tryz.prog 156 #[.string u] w fun q w'=>q=.returned (.pointer (some ⟨w.heap.size,0,none⟩))∧Rd 225 w.heap.size u false w'∧Below w.heap.size w w'∧w'.heap.size=w.heap.size+1:=by
 refine (new_any u w).mono ?_
 rintro q w' ⟨h1,rfl⟩
 exact ⟨h1,Rd.new w 225 u false,(Below.refl _ _).alloc (Nat.le_refl _) _,by simp⟩
theorem rnew2 (u:ByteArray) (w:World):Calls Tryz.prog 88 #[.string u] w fun q w'=>q=.returned (.pointer (some ⟨w.heap.size,0,none⟩))∧Rd 145 w.heap.size u false w'∧Below w.heap.size w w'∧w'.heap.size=w.heap.size+1:=by
 refine (rnew_any u w).mono ?_
 rintro q w' ⟨h1,rfl⟩
 exact ⟨h1,Rd.new w 145 u false,(Below.refl _ _).alloc (Nat.le_refl _) _,by simp⟩
theorem ok2 (g:Nat) (T:ByteArray) (f:Bool) (w:World) (h:Rd 225 g T f w):Calls Tryz.prog 161 #[.pointer (some ⟨g,0,none⟩)] w fun q w'=>q=.returned (.bool (!f))∧w=w':=ok_any g T f w h
theorem left2 (g:Nat) (T:ByteArray) (f:Bool) (w:World) (h:Rd 225 g T f w):Calls Tryz.prog 159 #[.pointer (some ⟨g,0,none⟩)] w fun q w'=>q=.returned (.int .i64 T.size)∧w=w':=left_any g T f w h
end Go.Proofs.YtnobeoppffoomaaGreat
namespace Go.Proofs.YtnobeoppffoomaaGreat
open Go.RowKit
open Vi
theorem look_one {T E:TypeId} {g clock i:Nat} {es:Array MapEntry} (c:Int) (v:Value) {w:World} (hT:Tryz.prog.underlying T=some (.map 3 E)) (hb:w.heap[g]?=some (.map es clock))
 (hf:Instr.findNow (.int .i64) (.int .i64 c) es.toList 0=some (some (i,v))) :
 (Instr.lookup T (.map (some g)) (.int .i64 c) false).run Tryz.prog w=.ok v w:=by
 have hk:Tryz.prog.underlying 3=some (.int .i64):=Tryz.underlying3
 have hc:(Instr.checkKey es.isEmpty 10000 3 (.int .i64 c)).run Tryz.prog w=.ok () w:=MapKept.run_checkKey (k:=.int .i64 c) hk (by simp [MapKept.IsKey]) es.isEmpty 9999
 simp [Instr.lookup,run_underlying hT,MapKept.run_getObj_map hb,hc,MapKept.run_findKey hk hf,Result.andThen]
abbrev wz (w:World) (g:Nat) (E:En):World:=(((((((((((w.setCell ⟨g,0,none⟩ (.int .u64 E.term)).setCell ⟨g,1,none⟩ (.int .u64 E.index)).setCell ⟨g,2,none⟩ (.int .i64 E.kind)).setCell ⟨g,3,none⟩ (.int .u64 E.client)).setCell ⟨g,4,none⟩ (.int .u64 E.seq)).setCell ⟨g,5,none⟩ (.int .u64 E.block)).setCell ⟨g,6,none⟩ (.int .u64 E.many)).setCell ⟨g,7,none⟩ (.int .i64 E.node)).setCell ⟨g,8,none⟩ (.int .i64 E.level)).setCell ⟨g,9,none⟩ (.string E.data)).setCell ⟨g,10,none⟩ (.string E.old))
def whO (b:Bool) (T:ByteArray):Bool:=!b&&decide (T.size=0)
def whE (X:En) (b:Bool) (T:ByteArray):En:=if whO b T then X else ezz
abbrev whv (a:Nat):Value:=.func (.func 190) #[] #[.pointer (some ⟨a,0,none⟩)]
theorem whole1_any (c:Nat) (u:ByteArray) (X:En) (T:ByteArray) (b:Bool) (w:World) (hc:w.heap[c]?=some (.cells #[.func (.func 164) #[] #[]] 214 (0,0)))
 (hK:∀ g W,Rd 225 g u false W→Calls Tryz.prog 164 #[.pointer (some ⟨g,0,none⟩)] W fun q w'=>q=.returned (ev X)∧Rd 225 g T b w'∧W.grownBy w' (some g)) :
 Calls Tryz.prog 190 #[.string u,.pointer (some ⟨c,0,none⟩)] w fun q w'=>q=.returned (.tuple #[ev (whE X b T),.bool (whO b T)])∧Below w.heap.size w w':=by
 obtain ⟨W0,hW0⟩:∃ W0,W0=w.alloc (Obj.cells (ec ezz) 28):=⟨_,rfl⟩
 have b0:Below w.heap.size w W0:=by rw [hW0];exact (Below.refl _ _).alloc (Nat.le_refl _) _
 have k0:W0.heap[w.heap.size]?=some (.cells (ec ezz) 28 (0,0)):=by rw [hW0];exact heap_alloc_new w _
 have s0:W0.heap.size=w.heap.size+1:=by rw [hW0];simp
 have hcl:=(zgx hc)
 have KN:=zh (new2 u W0)
 have K:=zh hK
 have HC:=zh hc
 have HCL:=zh hcl
 have HW0:=zh hW0
 have HK0:=zh k0
 have HB0:=zh b0
 have HS0:=zh s0
 have HD:Hid ((whO b T=false→whE X b T=ezz)∧(whO b T=true→whE X b T=X)):=⟨fun h=>by unfold whE;rw [h];rfl,fun h=>by unfold whE;rw [h];rfl⟩
 have HO:Hid (whO b T=(!b&&decide (T.size=0))):=rfl
 obtain ⟨Y,hY⟩:∃ Y,Y=whE X b T:=⟨_,rfl⟩
 obtain ⟨o,ho⟩:∃ o,o=whO b T:=⟨_,rfl⟩
 rw [←hY,←ho] at HD ⊢
 rw [←ho] at HO
 clear hW0 k0 b0 s0 hc hcl hK hY ho
 go_enter Tryz.func190,Tryz.ntmps190
 go_wp2_with fail
 rw [←HW0.out]
 refine KN.out.mono ?_
 rintro q w1 ⟨rfl,R1,b1,s1⟩
 have HR1:=zh R1
 have HK1:Hid (w1.heap[w.heap.size]?=some (.cells (ec ezz) 28 (0,0))):=(b1.block _ (by have:=HS0.out;omega)).trans HK0.out
 have HB1:Hid (Below w.heap.size w w1):=HB0.out.trans (b1.mono HB0.out.size)
 have hcc:w1.cell? ⟨c,0,none⟩=some (.func (.func 164) #[] #[]):=zcr w1 _ 0 _ 214 (0,0) ((HB1.out.block _ HCL.out).trans HC.out)
 clear R1 b1 s1
 go_wp2_with fail
 refine (K.out _ _ HR1.out).mono ?_
 rintro q w2 ⟨rfl,R2,g2⟩
 have HK2:Hid (w2.heap[w.heap.size]?=some (.cells (ec ezz) 28 (0,0))):=(g2.block _ (zgx HK1.out) (by have:=HS0.out;simp;omega)).trans HK1.out
 have HB2:Hid (Below w.heap.size w w2):=below_grownBy HB1.out g2 HB1.out.size (by have:=HS0.out;omega)
 obtain ⟨W3,hW3⟩:∃ W3,W3=w2.alloc (Obj.cells (ec X) 28):=⟨_,rfl⟩
 have b3:Below w2.heap.size w2 W3:=by rw [hW3];exact (Below.refl _ _).alloc (Nat.le_refl _) _
 have HR3:Hid (Rd 225 W0.heap.size T b W3):=R2.below b3 R2.lt
 have k3:W3.heap[w.heap.size]?=some (.cells (ec ezz) 28 (0,0)):=(b3.block _ (zgx HK2.out)).trans HK2.out
 have HX3:Hid (W3.heap[w2.heap.size]?=some (.cells (ec X) 28 (0,0))):=by show _=_;rw [hW3];exact heap_alloc_new w2 _
 have HB3:Hid (Below w.heap.size w W3):=HB2.out.trans (b3.mono HB2.out.size)
 have HW3:=zh hW3
 have HK3:=zh k3
 have KO:=zh (ok2 _ _ _ _ HR3.out)
 have KL:=zh (left2 _ _ _ _ HR3.out)
 clear R2 g2 hW3 b3 k3 hcc
 cases b with
 | true =>
   have HOF:Hid (o=false):=HO.out
   have hof:=HOF.out
   subst hof
   have HY:=zh (HD.out.1 rfl)
   clear HD HO HOF
   go_wp2_with fail
   rw [←HW3.out]
   refine KO.out.mono ?_
   rintro q w4 ⟨rfl,rfl⟩
   have z0:W3.cell? ⟨w.heap.size,0,none⟩=some (.int .u64 0):=zcr W3 _ 0 _ 28 (0,0) HK3.out
   have z1:W3.cell? ⟨w.heap.size,1,none⟩=some (.int .u64 0):=zcr W3 _ 1 _ 28 (0,0) HK3.out
   have z2:W3.cell? ⟨w.heap.size,2,none⟩=some (.int .i64 0):=zcr W3 _ 2 _ 28 (0,0) HK3.out
   have z3:W3.cell? ⟨w.heap.size,3,none⟩=some (.int .u64 0):=zcr W3 _ 3 _ 28 (0,0) HK3.out
   have z4:W3.cell? ⟨w.heap.size,4,none⟩=some (.int .u64 0):=zcr W3 _ 4 _ 28 (0,0) HK3.out
   have z5:W3.cell? ⟨w.heap.size,5,none⟩=some (.int .u64 0):=zcr W3 _ 5 _ 28 (0,0) HK3.out
   have z6:W3.cell? ⟨w.heap.size,6,none⟩=some (.int .u64 0):=zcr W3 _ 6 _ 28 (0,0) HK3.out
   have z7:W3.cell? ⟨w.heap.size,7,none⟩=some (.int .i64 0):=zcr W3 _ 7 _ 28 (0,0) HK3.out
   have z8:W3.cell? ⟨w.heap.size,8,none⟩=some (.int .i64 0):=zcr W3 _ 8 _ 28 (0,0) HK3.out
   have z9:W3.cell? ⟨w.heap.size,9,none⟩=some (.string ⟨#[]⟩):=zcr W3 _ 9 _ 28 (0,0) HK3.out
   have z10:W3.cell? ⟨w.heap.size,10,none⟩=some (.string ⟨#[]⟩):=zcr W3 _ 10 _ 28 (0,0) HK3.out
   have fz:∀ i,W3.frozen? ⟨w.heap.size,i,none⟩=false:=fun i=>Lib.frozen_of_heap HK3.out i
   obtain ⟨WF,hWF⟩:∃ WF,WF=wz W3 w.heap.size ezz:=⟨_,rfl⟩
   have hblk:WF.heap[w.heap.size]?=some (.cells (ec ezz) 28 (0,0)):=by rw [hWF];exact store_all ezz HK3.out
   have HBF:Hid (Below w.heap.size w WF):=by rw [hWF];exact below_all ezz HB3.out (Nat.le_refl _)
   have HBK:=zh hblk
   have HWF:=zh hWF
   clear hblk hWF
   go_wp2
   have hWF:=HWF.out
   unfold wz at hWF
   rw [←hWF]
   have f0:WF.cell? ⟨w.heap.size,0,none⟩=some (.int .u64 0):=zcr WF _ 0 _ 28 (0,0) HBK.out
   have f1:WF.cell? ⟨w.heap.size,1,none⟩=some (.int .u64 0):=zcr WF _ 1 _ 28 (0,0) HBK.out
   have f2:WF.cell? ⟨w.heap.size,2,none⟩=some (.int .i64 0):=zcr WF _ 2 _ 28 (0,0) HBK.out
   have f3:WF.cell? ⟨w.heap.size,3,none⟩=some (.int .u64 0):=zcr WF _ 3 _ 28 (0,0) HBK.out
   have f4:WF.cell? ⟨w.heap.size,4,none⟩=some (.int .u64 0):=zcr WF _ 4 _ 28 (0,0) HBK.out
   have f5:WF.cell? ⟨w.heap.size,5,none⟩=some (.int .u64 0):=zcr WF _ 5 _ 28 (0,0) HBK.out
   have f6:WF.cell? ⟨w.heap.size,6,none⟩=some (.int .u64 0):=zcr WF _ 6 _ 28 (0,0) HBK.out
   have f7:WF.cell? ⟨w.heap.size,7,none⟩=some (.int .i64 0):=zcr WF _ 7 _ 28 (0,0) HBK.out
   have f8:WF.cell? ⟨w.heap.size,8,none⟩=some (.int .i64 0):=zcr WF _ 8 _ 28 (0,0) HBK.out
   have f9:WF.cell? ⟨w.heap.size,9,none⟩=some (.string ⟨#[]⟩):=zcr WF _ 9 _ 28 (0,0) HBK.out
   have f10:WF.cell? ⟨w.heap.size,10,none⟩=some (.string ⟨#[]⟩):=zcr WF _ 10 _ 28 (0,0) HBK.out
   exact bodyPost_ret (v:=.tuple #[ev ezz,.bool false]) (by simp [results,Tryz.results190,go_sem,f0,f1,f2,f3,f4,f5,f6,f7,f8,f9,f10]) rfl ⟨by rw [HY.out],HBF.out⟩
 | false =>
   by_cases hz:T.size=0
   ·have HOF:Hid (o=true):=by have h:=HO.out;rw [decide_eq_true hz] at h;exact h
    have hof:=HOF.out
    subst hof
    have HY:=zh (HD.out.2 rfl)
    clear HD HO HOF
    have hd:decide (0<(T.size:Int))=false:=decide_eq_false (by omega)
    have hd2:¬ 0<T.size:=by omega
    go_wp2_with fail
    rw [←HW3.out]
    refine KO.out.mono ?_
    rintro q w4 ⟨rfl,rfl⟩
    go_wp2_with fail
    refine KL.out.mono ?_
    rintro q w4 ⟨rfl,rfl⟩
    have z0:W3.cell? ⟨w.heap.size,0,none⟩=some (.int .u64 0):=zcr W3 _ 0 _ 28 (0,0) HK3.out
    have z1:W3.cell? ⟨w.heap.size,1,none⟩=some (.int .u64 0):=zcr W3 _ 1 _ 28 (0,0) HK3.out
    have z2:W3.cell? ⟨w.heap.size,2,none⟩=some (.int .i64 0):=zcr W3 _ 2 _ 28 (0,0) HK3.out
    have z3:W3.cell? ⟨w.heap.size,3,none⟩=some (.int .u64 0):=zcr W3 _ 3 _ 28 (0,0) HK3.out
    have z4:W3.cell? ⟨w.heap.size,4,none⟩=some (.int .u64 0):=zcr W3 _ 4 _ 28 (0,0) HK3.out
    have z5:W3.cell? ⟨w.heap.size,5,none⟩=some (.int .u64 0):=zcr W3 _ 5 _ 28 (0,0) HK3.out
    have z6:W3.cell? ⟨w.heap.size,6,none⟩=some (.int .u64 0):=zcr W3 _ 6 _ 28 (0,0) HK3.out
    have z7:W3.cell? ⟨w.heap.size,7,none⟩=some (.int .i64 0):=zcr W3 _ 7 _ 28 (0,0) HK3.out
    have z8:W3.cell? ⟨w.heap.size,8,none⟩=some (.int .i64 0):=zcr W3 _ 8 _ 28 (0,0) HK3.out
    have z9:W3.cell? ⟨w.heap.size,9,none⟩=some (.string ⟨#[]⟩):=zcr W3 _ 9 _ 28 (0,0) HK3.out
    have z10:W3.cell? ⟨w.heap.size,10,none⟩=some (.string ⟨#[]⟩):=zcr W3 _ 10 _ 28 (0,0) HK3.out
    have x0:W3.cell? ⟨w2.heap.size,0,none⟩=some (.int .u64 X.term):=zcr W3 _ 0 _ 28 (0,0) HX3.out
    have x1:W3.cell? ⟨w2.heap.size,1,none⟩=some (.int .u64 X.index):=zcr W3 _ 1 _ 28 (0,0) HX3.out
    have x2:W3.cell? ⟨w2.heap.size,2,none⟩=some (.int .i64 X.kind):=zcr W3 _ 2 _ 28 (0,0) HX3.out
    have x3:W3.cell? ⟨w2.heap.size,3,none⟩=some (.int .u64 X.client):=zcr W3 _ 3 _ 28 (0,0) HX3.out
    have x4:W3.cell? ⟨w2.heap.size,4,none⟩=some (.int .u64 X.seq):=zcr W3 _ 4 _ 28 (0,0) HX3.out
    have x5:W3.cell? ⟨w2.heap.size,5,none⟩=some (.int .u64 X.block):=zcr W3 _ 5 _ 28 (0,0) HX3.out
    have x6:W3.cell? ⟨w2.heap.size,6,none⟩=some (.int .u64 X.many):=zcr W3 _ 6 _ 28 (0,0) HX3.out
    have x7:W3.cell? ⟨w2.heap.size,7,none⟩=some (.int .i64 X.node):=zcr W3 _ 7 _ 28 (0,0) HX3.out
    have x8:W3.cell? ⟨w2.heap.size,8,none⟩=some (.int .i64 X.level):=zcr W3 _ 8 _ 28 (0,0) HX3.out
    have x9:W3.cell? ⟨w2.heap.size,9,none⟩=some (.string X.data):=zcr W3 _ 9 _ 28 (0,0) HX3.out
    have x10:W3.cell? ⟨w2.heap.size,10,none⟩=some (.string X.old):=zcr W3 _ 10 _ 28 (0,0) HX3.out
    have fz:∀ i,W3.frozen? ⟨w.heap.size,i,none⟩=false:=fun i=>Lib.frozen_of_heap HK3.out i
    obtain ⟨WF,hWF⟩:∃ WF,WF=wz W3 w.heap.size X:=⟨_,rfl⟩
    have hblk:WF.heap[w.heap.size]?=some (.cells (ec X) 28 (0,0)):=by rw [hWF];exact store_all X HK3.out
    have HBF:Hid (Below w.heap.size w WF):=by rw [hWF];exact below_all X HB3.out (Nat.le_refl _)
    have HBK:=zh hblk
    have HWF:=zh hWF
    clear hblk hWF
    go_wp2
    have hWF:=HWF.out
    unfold wz at hWF
    rw [←hWF]
    have f0:WF.cell? ⟨w.heap.size,0,none⟩=some (.int .u64 X.term):=zcr WF _ 0 _ 28 (0,0) HBK.out
    have f1:WF.cell? ⟨w.heap.size,1,none⟩=some (.int .u64 X.index):=zcr WF _ 1 _ 28 (0,0) HBK.out
    have f2:WF.cell? ⟨w.heap.size,2,none⟩=some (.int .i64 X.kind):=zcr WF _ 2 _ 28 (0,0) HBK.out
    have f3:WF.cell? ⟨w.heap.size,3,none⟩=some (.int .u64 X.client):=zcr WF _ 3 _ 28 (0,0) HBK.out
    have f4:WF.cell? ⟨w.heap.size,4,none⟩=some (.int .u64 X.seq):=zcr WF _ 4 _ 28 (0,0) HBK.out
    have f5:WF.cell? ⟨w.heap.size,5,none⟩=some (.int .u64 X.block):=zcr WF _ 5 _ 28 (0,0) HBK.out
    have f6:WF.cell? ⟨w.heap.size,6,none⟩=some (.int .u64 X.many):=zcr WF _ 6 _ 28 (0,0) HBK.out
    have f7:WF.cell? ⟨w.heap.size,7,none⟩=some (.int .i64 X.node):=zcr WF _ 7 _ 28 (0,0) HBK.out
    have f8:WF.cell? ⟨w.heap.size,8,none⟩=some (.int .i64 X.level):=zcr WF _ 8 _ 28 (0,0) HBK.out
    have f9:WF.cell? ⟨w.heap.size,9,none⟩=some (.string X.data):=zcr WF _ 9 _ 28 (0,0) HBK.out
    have f10:WF.cell? ⟨w.heap.size,10,none⟩=some (.string X.old):=zcr WF _ 10 _ 28 (0,0) HBK.out
    exact bodyPost_ret (v:=.tuple #[ev X,.bool true]) (by simp [results,Tryz.results190,go_sem,f0,f1,f2,f3,f4,f5,f6,f7,f8,f9,f10]) rfl ⟨by rw [HY.out],HBF.out⟩
   ·have HOF:Hid (o=false):=by have h:=HO.out;rw [decide_eq_false hz] at h;exact h
    have hof:=HOF.out
    subst hof
    have HY:=zh (HD.out.1 rfl)
    clear HD HO HOF
    have hd:decide (0<(T.size:Int))=true:=decide_eq_true (by omega)
    have hd2:0<T.size:=by omega
    go_wp2_with fail
    rw [←HW3.out]
    refine KO.out.mono ?_
    rintro q w4 ⟨rfl,rfl⟩
    go_wp2_with fail
    refine KL.out.mono ?_
    rintro q w4 ⟨rfl,rfl⟩
    have z0:W3.cell? ⟨w.heap.size,0,none⟩=some (.int .u64 0):=zcr W3 _ 0 _ 28 (0,0) HK3.out
    have z1:W3.cell? ⟨w.heap.size,1,none⟩=some (.int .u64 0):=zcr W3 _ 1 _ 28 (0,0) HK3.out
    have z2:W3.cell? ⟨w.heap.size,2,none⟩=some (.int .i64 0):=zcr W3 _ 2 _ 28 (0,0) HK3.out
    have z3:W3.cell? ⟨w.heap.size,3,none⟩=some (.int .u64 0):=zcr W3 _ 3 _ 28 (0,0) HK3.out
    have z4:W3.cell? ⟨w.heap.size,4,none⟩=some (.int .u64 0):=zcr W3 _ 4 _ 28 (0,0) HK3.out
    have z5:W3.cell? ⟨w.heap.size,5,none⟩=some (.int .u64 0):=zcr W3 _ 5 _ 28 (0,0) HK3.out
    have z6:W3.cell? ⟨w.heap.size,6,none⟩=some (.int .u64 0):=zcr W3 _ 6 _ 28 (0,0) HK3.out
    have z7:W3.cell? ⟨w.heap.size,7,none⟩=some (.int .i64 0):=zcr W3 _ 7 _ 28 (0,0) HK3.out
    have z8:W3.cell? ⟨w.heap.size,8,none⟩=some (.int .i64 0):=zcr W3 _ 8 _ 28 (0,0) HK3.out
    have z9:W3.cell? ⟨w.heap.size,9,none⟩=some (.string ⟨#[]⟩):=zcr W3 _ 9 _ 28 (0,0) HK3.out
    have z10:W3.cell? ⟨w.heap.size,10,none⟩=some (.string ⟨#[]⟩):=zcr W3 _ 10 _ 28 (0,0) HK3.out
    have fz:∀ i,W3.frozen? ⟨w.heap.size,i,none⟩=false:=fun i=>Lib.frozen_of_heap HK3.out i
    obtain ⟨WF,hWF⟩:∃ WF,WF=wz W3 w.heap.size ezz:=⟨_,rfl⟩
    have hblk:WF.heap[w.heap.size]?=some (.cells (ec ezz) 28 (0,0)):=by rw [hWF];exact store_all ezz HK3.out
    have HBF:Hid (Below w.heap.size w WF):=by rw [hWF];exact below_all ezz HB3.out (Nat.le_refl _)
    have HBK:=zh hblk
    have HWF:=zh hWF
    clear hblk hWF
    go_wp2
    have hWF:=HWF.out
    unfold wz at hWF
    rw [←hWF]
    have f0:WF.cell? ⟨w.heap.size,0,none⟩=some (.int .u64 0):=zcr WF _ 0 _ 28 (0,0) HBK.out
    have f1:WF.cell? ⟨w.heap.size,1,none⟩=some (.int .u64 0):=zcr WF _ 1 _ 28 (0,0) HBK.out
    have f2:WF.cell? ⟨w.heap.size,2,none⟩=some (.int .i64 0):=zcr WF _ 2 _ 28 (0,0) HBK.out
    have f3:WF.cell? ⟨w.heap.size,3,none⟩=some (.int .u64 0):=zcr WF _ 3 _ 28 (0,0) HBK.out
    have f4:WF.cell? ⟨w.heap.size,4,none⟩=some (.int .u64 0):=zcr WF _ 4 _ 28 (0,0) HBK.out
    have f5:WF.cell? ⟨w.heap.size,5,none⟩=some (.int .u64 0):=zcr WF _ 5 _ 28 (0,0) HBK.out
    have f6:WF.cell? ⟨w.heap.size,6,none⟩=some (.int .u64 0):=zcr WF _ 6 _ 28 (0,0) HBK.out
    have f7:WF.cell? ⟨w.heap.size,7,none⟩=some (.int .i64 0):=zcr WF _ 7 _ 28 (0,0) HBK.out
    have f8:WF.cell? ⟨w.heap.size,8,none⟩=some (.int .i64 0):=zcr WF _ 8 _ 28 (0,0) HBK.out
    have f9:WF.cell? ⟨w.heap.size,9,none⟩=some (.string ⟨#[]⟩):=zcr WF _ 9 _ 28 (0,0) HBK.out
    have f10:WF.cell? ⟨w.heap.size,10,none⟩=some (.string ⟨#[]⟩):=zcr WF _ 10 _ 28 (0,0) HBK.out
    exact bodyPost_ret (v:=.tuple #[ev ezz,.bool false]) (by simp [results,Tryz.results190,go_sem,f0,f1,f2,f3,f4,f5,f6,f7,f8,f9,f10]) rfl ⟨by rw [HY.out],HBF.out⟩
end Go.Proofs.YtnobeoppffoomaaGreat
