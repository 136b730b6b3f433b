/-
  FrameCodes: part G40.
  Conditions: named in each theorem.
-/
import Derived.Test.YtpdbeijfchmlgaaGreatZ0
import Derived.Test.YtpdbeijfchmlgaaGreatG05
import Derived.Test.YtpdbeijfchmlgaaGreatG15
import Derived.Test.YtpdbeijfchmlgaaGreatG48
set_option linter.unusedVariables false
set_option linter.unusedSimpArgs false
set_option maxHeartbeats 16000000
set_option maxRecDepth 100000
namespace Go.Proofs.YtpdbeijfchmlgaaGreat
open Go.RowKit
open Vi
theorem app_nil (s:ByteArray):s++(⟨#[]⟩:ByteArray)=s:=by apply ByteArray.ext;simp
theorem nx_pack {v:Int} {b:ByteArray} (h:pkO v b=true) (t:ByteArray):nOk (pack v b++t)=true∧nxV (pack v b++t)=v∧nxB (pack v b++t)=b∧nxN (pack v b++t)=(pack v b).size:=by
 obtain ⟨h1,h2,h3,h4⟩:=nOk_pack h t;obtain ⟨e1,e2,e3⟩:=nx_yes h1;refine ⟨h1,e1.trans h2,e2.trans h3,e3.trans ?_⟩;rw [h4,ByteArray.size_append];omega
theorem u_pack {v:Int} {b:ByteArray} (h:pkO v b=true):uO (pack v b)=true∧uV (pack v b)=v∧uB (pack v b)=b:=by
 have k:=nx_pack h ⟨#[]⟩;rw [app_nil] at k;obtain ⟨h1,h2,h3,h4⟩:=k;have ho:uO (pack v b)=true:=by unfold uO;rw [h1,h4,decide_eq_true rfl];rfl
 unfold uV uB;rw [ho];exact ⟨rfl,h2,h3⟩
theorem pkO_short {v:Int} (hv:v=1∨v=2) {b:ByteArray} (hb:b.size≤1048576):pkO v b=true:=by
 rcases pk_cases v b with ⟨_,_,h,_⟩|⟨_,h,_⟩|⟨h1,h2,_⟩
 ·exact h
 ·omega
 ·rcases hv with hv|hv
  ·exact absurd hv h1
  ·exact absurd hv h2
end Go.Proofs.YtpdbeijfchmlgaaGreat
namespace Go.Proofs.YtpdbeijfchmlgaaGreat
open Go.RowKit
open Vi
theorem look_one {T E:TypeId} {g clock i:Nat} {es:Array MapEntry} (c:Int) (v:Value) {w:World} (hT:Tryz.prog.underlying T=some (.map 3 E)) (hb:w.heap[g]?=some (.map es clock))
 (hf:Instr.findNow (.int .i64) (.int .i64 c) es.toList 0=some (some (i,v))) :
 (Instr.lookup T (.map (some g)) (.int .i64 c) false).run Tryz.prog w=.ok v w:=by
 have hk:Tryz.prog.underlying 3=some (.int .i64):=Tryz.underlying3;have hc:(Instr.checkKey es.isEmpty 10000 3 (.int .i64 c)).run Tryz.prog w=.ok () w:=MapKept.run_checkKey (k:=.int .i64 c) hk (by simp [MapKept.IsKey]) es.isEmpty 9999
 simp [Instr.lookup,run_underlying hT,MapKept.run_getObj_map hb,hc,MapKept.run_findKey hk hf,Result.andThen]
abbrev wz (w:World) (g:Nat) (E:En):World:=(((((((((((w.setCell ⟨g,0,none⟩ (.int .u64 E.term)).setCell ⟨g,1,none⟩ (.int .u64 E.index)).setCell ⟨g,2,none⟩ (.int .i64 E.kind)).setCell ⟨g,3,none⟩ (.int .u64 E.client)).setCell ⟨g,4,none⟩ (.int .u64 E.seq)).setCell ⟨g,5,none⟩ (.int .u64 E.block)).setCell ⟨g,6,none⟩ (.int .u64 E.many)).setCell ⟨g,7,none⟩ (.int .i64 E.node)).setCell ⟨g,8,none⟩ (.int .i64 E.level)).setCell ⟨g,9,none⟩ (.string E.data)).setCell ⟨g,10,none⟩ (.string E.old))
def whO (b:Bool) (T:ByteArray):Bool:=!b&&decide (T.size=0)
def whE (X:En) (b:Bool) (T:ByteArray):En:=if whO b T then X else ezz
abbrev whv (a:Nat):Value:=.func (.func 79) #[] #[.pointer (some ⟨a,0,none⟩)]
theorem whole1_any (c:Nat) (u:ByteArray) (X:En) (T:ByteArray) (b:Bool) (w:World) (hc:w.heap[c]?=some (.cells #[.func (.func 39) #[] #[]] 66 (0,0)))
 (hK:∀ g W,Rd 178 g u false W→Calls Tryz.prog 39 #[.pointer (some ⟨g,0,none⟩)] W fun q w'=>q=.returned (ev X)∧Rd 178 g T b w'∧W.grownBy w' (some g)) :
 Calls Tryz.prog 79 #[.string u,.pointer (some ⟨c,0,none⟩)] w fun q w'=>q=.returned (.tuple #[ev (whE X b T),.bool (whO b T)])∧Below w.heap.size w w':=by
 obtain ⟨W0,hW0⟩:∃ W0,W0=w.alloc (Obj.cells (ec ezz) 24):=⟨_,rfl⟩;have b0:Below w.heap.size w W0:=by rw [hW0];exact zba
 have k0:W0.heap[w.heap.size]?=some (.cells (ec ezz) 24 (0,0)):=by rw [hW0];exact heap_alloc_new w _
 have s0:W0.heap.size=w.heap.size+1:=by rw [hW0];simp
 have hcl:=(zgx hc);have KN:=zh (new2 u W0);have K:=zh hK;have HC:=zh hc;have HCL:=zh hcl;have HW0:=zh hW0;have HK0:=zh k0;have HB0:=zh b0;have HS0:=zh s0;have HD:Hid ((whO b T=false→whE X b T=ezz)∧(whO b T=true→whE X b T=X)):=⟨fun h=>by unfold whE;rw [h];rfl,fun h=>by unfold whE;rw [h];rfl⟩;have HO:Hid (whO b T=(!b&&decide (T.size=0))):=rfl;obtain ⟨Y,hY⟩:∃ Y,Y=whE X b T:=⟨_,rfl⟩;obtain ⟨o,ho⟩:∃ o,o=whO b T:=⟨_,rfl⟩;rw [←hY,←ho] at HD ⊢;rw [←ho] at HO;clear hW0 k0 b0 s0 hc hcl hK hY ho
 go_enter Tryz.func79,Tryz.ntmps79
 go_wp2_with fail
 rw [←HW0.out];refine KN.out.mono ?_;rintro q w1 ⟨rfl,R1,b1,s1⟩;have HR1:=zh R1;have HK1:Hid (w1.heap[w.heap.size]?=some (.cells (ec ezz) 24 (0,0))):=(b1.block _ (by have:=HS0.out;omega)).trans HK0.out;have HB1:Hid (Below w.heap.size w w1):=HB0.out.trans (b1.mono HB0.out.size);have hcc:w1.cell? ⟨c,0,none⟩=some (.func (.func 39) #[] #[]):=zcr w1 _ 0 _ 66 (0,0) ((HB1.out.block _ HCL.out).trans HC.out);clear R1 b1 s1
 go_wp2_with fail
 refine (K.out _ _ HR1.out).mono ?_;rintro q w2 ⟨rfl,R2,g2⟩;have HK2:Hid (w2.heap[w.heap.size]?=some (.cells (ec ezz) 24 (0,0))):=(g2.block _ (zgx HK1.out) (by have:=HS0.out;simp;omega)).trans HK1.out;have HB2:Hid (Below w.heap.size w w2):=below_grownBy HB1.out g2 HB1.out.size (by have:=HS0.out;omega);obtain ⟨W3,hW3⟩:∃ W3,W3=w2.alloc (Obj.cells (ec X) 24):=⟨_,rfl⟩;have b3:Below w2.heap.size w2 W3:=by rw [hW3];exact zba
 have HR3:Hid (Rd 178 W0.heap.size T b W3):=R2.below b3 R2.lt;have k3:W3.heap[w.heap.size]?=some (.cells (ec ezz) 24 (0,0)):=(b3.block _ (zgx HK2.out)).trans HK2.out;have HX3:Hid (W3.heap[w2.heap.size]?=some (.cells (ec X) 24 (0,0))):=by show _=_;rw [hW3];exact heap_alloc_new w2 _
 have HB3:Hid (Below w.heap.size w W3):=HB2.out.trans (b3.mono HB2.out.size);have HW3:=zh hW3;have HK3:=zh k3;have KO:=zh (ok2 _ _ _ _ HR3.out);have KL:=zh (left2 _ _ _ _ HR3.out);clear R2 g2 hW3 b3 k3 hcc
 cases b with
 | true =>
   have HOF:Hid (o=false):=HO.out;have hof:=HOF.out;subst hof;have HY:=zh (HD.out.1 rfl);clear HD HO HOF
   go_wp2_with fail
   rw [←HW3.out];refine KO.out.mono ?_;rintro q w4 ⟨rfl,rfl⟩;obtain ⟨z0,z1,z2,z3,z4,z5,z6,z7,z8,z9,z10⟩:=zezl (w:=W3) (b:=w.heap.size) HK3.out;have fz:∀ i,W3.frozen? ⟨w.heap.size,i,none⟩=false:=fun i=>Lib.frozen_of_heap HK3.out i;obtain ⟨WF,hWF⟩:∃ WF,WF=wz W3 w.heap.size ezz:=⟨_,rfl⟩;have hblk:WF.heap[w.heap.size]?=some (.cells (ec ezz) 24 (0,0)):=by rw [hWF];exact store_all ezz HK3.out
   have HBF:Hid (Below w.heap.size w WF):=by rw [hWF];exact below_all ezz HB3.out (Nat.le_refl _)
   have HBK:=zh hblk;have HWF:=zh hWF;clear hblk hWF;go_wp2;have hWF:=HWF.out;unfold wz at hWF;rw [←hWF];obtain ⟨f0,f1,f2,f3,f4,f5,f6,f7,f8,f9,f10⟩:=zezl (w:=WF) (b:=w.heap.size) HBK.out;exact bodyPost_ret (v:=.tuple #[ev ezz,.bool false]) (by simp [results,Tryz.results79,go_sem,f0,f1,f2,f3,f4,f5,f6,f7,f8,f9,f10]) rfl ⟨by rw [HY.out],HBF.out⟩
 | false =>
   by_cases hz:T.size=0
   ·have HOF:Hid (o=true):=by have h:=HO.out;rw [decide_eq_true hz] at h;exact h
    have hof:=HOF.out;subst hof;have HY:=zh (HD.out.2 rfl);clear HD HO HOF;have hd:decide (0<(T.size:Int))=false:=decide_eq_false (by omega);have hd2:¬ 0<T.size:=by omega
    go_wp2_with fail
    rw [←HW3.out];refine KO.out.mono ?_;rintro q w4 ⟨rfl,rfl⟩
    go_wp2_with fail
    refine KL.out.mono ?_;rintro q w4 ⟨rfl,rfl⟩;obtain ⟨z0,z1,z2,z3,z4,z5,z6,z7,z8,z9,z10⟩:=zezl (w:=W3) (b:=w.heap.size) HK3.out;obtain ⟨x0,x1,x2,x3,x4,x5,x6,x7,x8,x9,x10⟩:=zecl (w:=W3) (b:=w2.heap.size) (e:=X) HX3.out;have fz:∀ i,W3.frozen? ⟨w.heap.size,i,none⟩=false:=fun i=>Lib.frozen_of_heap HK3.out i;obtain ⟨WF,hWF⟩:∃ WF,WF=wz W3 w.heap.size X:=⟨_,rfl⟩;have hblk:WF.heap[w.heap.size]?=some (.cells (ec X) 24 (0,0)):=by rw [hWF];exact store_all X HK3.out
    have HBF:Hid (Below w.heap.size w WF):=by rw [hWF];exact below_all X HB3.out (Nat.le_refl _)
    have HBK:=zh hblk;have HWF:=zh hWF;clear hblk hWF;go_wp2;have hWF:=HWF.out;unfold wz at hWF;rw [←hWF];obtain ⟨f0,f1,f2,f3,f4,f5,f6,f7,f8,f9,f10⟩:=zecl (w:=WF) (b:=w.heap.size) (e:=X) HBK.out;exact bodyPost_ret (v:=.tuple #[ev X,.bool true]) (by simp [results,Tryz.results79,go_sem,f0,f1,f2,f3,f4,f5,f6,f7,f8,f9,f10]) rfl ⟨by rw [HY.out],HBF.out⟩
   ·have HOF:Hid (o=false):=by have h:=HO.out;rw [decide_eq_false hz] at h;exact h
    have hof:=HOF.out;subst hof;have HY:=zh (HD.out.1 rfl);clear HD HO HOF;have hd:decide (0<(T.size:Int))=true:=decide_eq_true (by omega);have hd2:0<T.size:=by omega
    go_wp2_with fail
    rw [←HW3.out];refine KO.out.mono ?_;rintro q w4 ⟨rfl,rfl⟩
    go_wp2_with fail
    refine KL.out.mono ?_;rintro q w4 ⟨rfl,rfl⟩;obtain ⟨z0,z1,z2,z3,z4,z5,z6,z7,z8,z9,z10⟩:=zezl (w:=W3) (b:=w.heap.size) HK3.out;have fz:∀ i,W3.frozen? ⟨w.heap.size,i,none⟩=false:=fun i=>Lib.frozen_of_heap HK3.out i;obtain ⟨WF,hWF⟩:∃ WF,WF=wz W3 w.heap.size ezz:=⟨_,rfl⟩;have hblk:WF.heap[w.heap.size]?=some (.cells (ec ezz) 24 (0,0)):=by rw [hWF];exact store_all ezz HK3.out
    have HBF:Hid (Below w.heap.size w WF):=by rw [hWF];exact below_all ezz HB3.out (Nat.le_refl _)
    have HBK:=zh hblk;have HWF:=zh hWF;clear hblk hWF;go_wp2;have hWF:=HWF.out;unfold wz at hWF;rw [←hWF];obtain ⟨f0,f1,f2,f3,f4,f5,f6,f7,f8,f9,f10⟩:=zezl (w:=WF) (b:=w.heap.size) HBK.out;exact bodyPost_ret (v:=.tuple #[ev ezz,.bool false]) (by simp [results,Tryz.results79,go_sem,f0,f1,f2,f3,f4,f5,f6,f7,f8,f9,f10]) rfl ⟨by rw [HY.out],HBF.out⟩
end Go.Proofs.YtpdbeijfchmlgaaGreat
namespace Go.Proofs.YtpdbeijfchmlgaaGreat
open Go.RowKit
open Vi
theorem wholef1_any (w:World):Calls Tryz.prog 38 #[.func (.func 39) #[] #[]] w fun q w'=>q=.returned (whv w.heap.size)∧w'=w.alloc (Obj.cells #[.func (.func 39) #[] #[]] 66):=by
 have hmf:=zmL
 go_enter Tryz.func38,Tryz.ntmps38
 go_wp2;go_ret;exact ⟨rfl,rfl⟩
theorem whole2_any (c:Nat) (u:ByteArray) (X:En) (T:ByteArray) (b:Bool) (w:World) (hc:w.heap[c]?=some (.cells #[.func (.func 40) #[] #[]] 66 (0,0)))
 (hK:∀ g W,Rd 178 g u false W→Calls Tryz.prog 40 #[.pointer (some ⟨g,0,none⟩)] W fun q w'=>q=.returned (ev X)∧Rd 178 g T b w'∧W.grownBy w' (some g)) :
 Calls Tryz.prog 79 #[.string u,.pointer (some ⟨c,0,none⟩)] w fun q w'=>q=.returned (.tuple #[ev (whE X b T),.bool (whO b T)])∧Below w.heap.size w w':=by
 obtain ⟨W0,hW0⟩:∃ W0,W0=w.alloc (Obj.cells (ec ezz) 24):=⟨_,rfl⟩;have b0:Below w.heap.size w W0:=by rw [hW0];exact zba
 have k0:W0.heap[w.heap.size]?=some (.cells (ec ezz) 24 (0,0)):=by rw [hW0];exact heap_alloc_new w _
 have s0:W0.heap.size=w.heap.size+1:=by rw [hW0];simp
 have hcl:=(zgx hc);have KN:=zh (new2 u W0);have K:=zh hK;have HC:=zh hc;have HCL:=zh hcl;have HW0:=zh hW0;have HK0:=zh k0;have HB0:=zh b0;have HS0:=zh s0;have HD:Hid ((whO b T=false→whE X b T=ezz)∧(whO b T=true→whE X b T=X)):=⟨fun h=>by unfold whE;rw [h];rfl,fun h=>by unfold whE;rw [h];rfl⟩;have HO:Hid (whO b T=(!b&&decide (T.size=0))):=rfl;obtain ⟨Y,hY⟩:∃ Y,Y=whE X b T:=⟨_,rfl⟩;obtain ⟨o,ho⟩:∃ o,o=whO b T:=⟨_,rfl⟩;rw [←hY,←ho] at HD ⊢;rw [←ho] at HO;clear hW0 k0 b0 s0 hc hcl hK hY ho
 go_enter Tryz.func79,Tryz.ntmps79
 go_wp2_with fail
 rw [←HW0.out];refine KN.out.mono ?_;rintro q w1 ⟨rfl,R1,b1,s1⟩;have HR1:=zh R1;have HK1:Hid (w1.heap[w.heap.size]?=some (.cells (ec ezz) 24 (0,0))):=(b1.block _ (by have:=HS0.out;omega)).trans HK0.out;have HB1:Hid (Below w.heap.size w w1):=HB0.out.trans (b1.mono HB0.out.size);have hcc:w1.cell? ⟨c,0,none⟩=some (.func (.func 40) #[] #[]):=zcr w1 _ 0 _ 66 (0,0) ((HB1.out.block _ HCL.out).trans HC.out);clear R1 b1 s1
 go_wp2_with fail
 refine (K.out _ _ HR1.out).mono ?_;rintro q w2 ⟨rfl,R2,g2⟩;have HK2:Hid (w2.heap[w.heap.size]?=some (.cells (ec ezz) 24 (0,0))):=(g2.block _ (zgx HK1.out) (by have:=HS0.out;simp;omega)).trans HK1.out;have HB2:Hid (Below w.heap.size w w2):=below_grownBy HB1.out g2 HB1.out.size (by have:=HS0.out;omega);obtain ⟨W3,hW3⟩:∃ W3,W3=w2.alloc (Obj.cells (ec X) 24):=⟨_,rfl⟩;have b3:Below w2.heap.size w2 W3:=by rw [hW3];exact zba
 have HR3:Hid (Rd 178 W0.heap.size T b W3):=R2.below b3 R2.lt;have k3:W3.heap[w.heap.size]?=some (.cells (ec ezz) 24 (0,0)):=(b3.block _ (zgx HK2.out)).trans HK2.out;have HX3:Hid (W3.heap[w2.heap.size]?=some (.cells (ec X) 24 (0,0))):=by show _=_;rw [hW3];exact heap_alloc_new w2 _
 have HB3:Hid (Below w.heap.size w W3):=HB2.out.trans (b3.mono HB2.out.size);have HW3:=zh hW3;have HK3:=zh k3;have KO:=zh (ok2 _ _ _ _ HR3.out);have KL:=zh (left2 _ _ _ _ HR3.out);clear R2 g2 hW3 b3 k3 hcc
 cases b with
 | true =>
   have HOF:Hid (o=false):=HO.out;have hof:=HOF.out;subst hof;have HY:=zh (HD.out.1 rfl);clear HD HO HOF
   go_wp2_with fail
   rw [←HW3.out];refine KO.out.mono ?_;rintro q w4 ⟨rfl,rfl⟩;obtain ⟨z0,z1,z2,z3,z4,z5,z6,z7,z8,z9,z10⟩:=zezl (w:=W3) (b:=w.heap.size) HK3.out;have fz:∀ i,W3.frozen? ⟨w.heap.size,i,none⟩=false:=fun i=>Lib.frozen_of_heap HK3.out i;obtain ⟨WF,hWF⟩:∃ WF,WF=wz W3 w.heap.size ezz:=⟨_,rfl⟩;have hblk:WF.heap[w.heap.size]?=some (.cells (ec ezz) 24 (0,0)):=by rw [hWF];exact store_all ezz HK3.out
   have HBF:Hid (Below w.heap.size w WF):=by rw [hWF];exact below_all ezz HB3.out (Nat.le_refl _)
   have HBK:=zh hblk;have HWF:=zh hWF;clear hblk hWF;go_wp2;have hWF:=HWF.out;unfold wz at hWF;rw [←hWF];obtain ⟨f0,f1,f2,f3,f4,f5,f6,f7,f8,f9,f10⟩:=zezl (w:=WF) (b:=w.heap.size) HBK.out;exact bodyPost_ret (v:=.tuple #[ev ezz,.bool false]) (by simp [results,Tryz.results79,go_sem,f0,f1,f2,f3,f4,f5,f6,f7,f8,f9,f10]) rfl ⟨by rw [HY.out],HBF.out⟩
 | false =>
   by_cases hz:T.size=0
   ·have HOF:Hid (o=true):=by have h:=HO.out;rw [decide_eq_true hz] at h;exact h
    have hof:=HOF.out;subst hof;have HY:=zh (HD.out.2 rfl);clear HD HO HOF;have hd:decide (0<(T.size:Int))=false:=decide_eq_false (by omega);have hd2:¬ 0<T.size:=by omega
    go_wp2_with fail
    rw [←HW3.out];refine KO.out.mono ?_;rintro q w4 ⟨rfl,rfl⟩
    go_wp2_with fail
    refine KL.out.mono ?_;rintro q w4 ⟨rfl,rfl⟩;obtain ⟨z0,z1,z2,z3,z4,z5,z6,z7,z8,z9,z10⟩:=zezl (w:=W3) (b:=w.heap.size) HK3.out;obtain ⟨x0,x1,x2,x3,x4,x5,x6,x7,x8,x9,x10⟩:=zecl (w:=W3) (b:=w2.heap.size) (e:=X) HX3.out;have fz:∀ i,W3.frozen? ⟨w.heap.size,i,none⟩=false:=fun i=>Lib.frozen_of_heap HK3.out i;obtain ⟨WF,hWF⟩:∃ WF,WF=wz W3 w.heap.size X:=⟨_,rfl⟩;have hblk:WF.heap[w.heap.size]?=some (.cells (ec X) 24 (0,0)):=by rw [hWF];exact store_all X HK3.out
    have HBF:Hid (Below w.heap.size w WF):=by rw [hWF];exact below_all X HB3.out (Nat.le_refl _)
    have HBK:=zh hblk;have HWF:=zh hWF;clear hblk hWF;go_wp2;have hWF:=HWF.out;unfold wz at hWF;rw [←hWF];obtain ⟨f0,f1,f2,f3,f4,f5,f6,f7,f8,f9,f10⟩:=zecl (w:=WF) (b:=w.heap.size) (e:=X) HBK.out;exact bodyPost_ret (v:=.tuple #[ev X,.bool true]) (by simp [results,Tryz.results79,go_sem,f0,f1,f2,f3,f4,f5,f6,f7,f8,f9,f10]) rfl ⟨by rw [HY.out],HBF.out⟩
   ·have HOF:Hid (o=false):=by have h:=HO.out;rw [decide_eq_false hz] at h;exact h
    have hof:=HOF.out;subst hof;have HY:=zh (HD.out.1 rfl);clear HD HO HOF;have hd:decide (0<(T.size:Int))=true:=decide_eq_true (by omega);have hd2:0<T.size:=by omega
    go_wp2_with fail
    rw [←HW3.out];refine KO.out.mono ?_;rintro q w4 ⟨rfl,rfl⟩
    go_wp2_with fail
    refine KL.out.mono ?_;rintro q w4 ⟨rfl,rfl⟩;obtain ⟨z0,z1,z2,z3,z4,z5,z6,z7,z8,z9,z10⟩:=zezl (w:=W3) (b:=w.heap.size) HK3.out;have fz:∀ i,W3.frozen? ⟨w.heap.size,i,none⟩=false:=fun i=>Lib.frozen_of_heap HK3.out i;obtain ⟨WF,hWF⟩:∃ WF,WF=wz W3 w.heap.size ezz:=⟨_,rfl⟩;have hblk:WF.heap[w.heap.size]?=some (.cells (ec ezz) 24 (0,0)):=by rw [hWF];exact store_all ezz HK3.out
    have HBF:Hid (Below w.heap.size w WF):=by rw [hWF];exact below_all ezz HB3.out (Nat.le_refl _)
    have HBK:=zh hblk;have HWF:=zh hWF;clear hblk hWF;go_wp2;have hWF:=HWF.out;unfold wz at hWF;rw [←hWF];obtain ⟨f0,f1,f2,f3,f4,f5,f6,f7,f8,f9,f10⟩:=zezl (w:=WF) (b:=w.heap.size) HBK.out;exact bodyPost_ret (v:=.tuple #[ev ezz,.bool false]) (by simp [results,Tryz.results79,go_sem,f0,f1,f2,f3,f4,f5,f6,f7,f8,f9,f10]) rfl ⟨by rw [HY.out],HBF.out⟩
theorem wholef2_any (w:World):Calls Tryz.prog 38 #[.func (.func 40) #[] #[]] w fun q w'=>q=.returned (whv w.heap.size)∧w'=w.alloc (Obj.cells #[.func (.func 40) #[] #[]] 66):=by
 have hmf:=zmL
 go_enter Tryz.func38,Tryz.ntmps38
 go_wp2;go_ret;exact ⟨rfl,rfl⟩
theorem fill_again (E Z:En):((((((((((((ec Z).setIfInBounds 0 (.int .u64 E.term)).setIfInBounds 1 (.int .u64 E.index)).setIfInBounds 2 (.int .i64 E.kind)).setIfInBounds 3 (.int .u64 E.client)).setIfInBounds 4 (.int .u64 E.seq)).setIfInBounds 5 (.int .u64 E.block)).setIfInBounds 6 (.int .u64 E.many)).setIfInBounds 7 (.int .i64 E.node)).setIfInBounds 8 (.int .i64 E.level)).setIfInBounds 9 (.string E.data)).setIfInBounds 10 (.string E.old))=ec E:=by simp
theorem store_again {wr:World} {g:Nat} {Z:En} (E:En) (h:wr.heap[g]?=some (.cells (ec Z) 24 (0,0))):(wz wr g E).heap[g]?=some (.cells (ec E) 24 (0,0)):=by
 rw [←fill_again E Z];exact set_blk (set_blk (set_blk (set_blk (set_blk (set_blk (set_blk (set_blk (set_blk (set_blk (set_blk h 0 _) 1 _) 2 _) 3 _) 4 _) 5 _) 6 _) 7 _) 8 _) 9 _) 10 _
theorem fgetE1_any (s:ByteArray) (g a1 a2:Nat) (X:En) (T:ByteArray) (b:Bool) (w:World) (hm:w.heap[g]?=some (.map (two (whv a1) (whv a2)) 2)) (hc:w.heap[a1]?=some (.cells #[.func (.func 39) #[] #[]] 66 (0,0)))
 (hs:s.size≤140737488351232) (hU:uO s=true) (hV:uV s=1)
 (hK:∀ g W,Rd 178 g (uB s) false W→Calls Tryz.prog 39 #[.pointer (some ⟨g,0,none⟩)] W fun q w'=>q=.returned (ev X)∧Rd 178 g T b w'∧W.grownBy w' (some g)) :
 Calls Tryz.prog 37 #[.map (some g),.string s] w fun q w'=>q=.returned (.tuple #[ev (whE X b T),.int .i64 (if whO b T then 1 else 0),.bool (whO b T)])∧Below w.heap.size w w':=by
 obtain ⟨W0,hW0⟩:∃ W0,W0=w.alloc (Obj.cells (ec ezz) 24):=⟨_,rfl⟩;have b0:Below w.heap.size w W0:=by rw [hW0];exact zba
 have k0:W0.heap[w.heap.size]?=some (.cells (ec ezz) 24 (0,0)):=by rw [hW0];exact heap_alloc_new w _
 have KU:Hid (Calls Tryz.prog 23 #[.string s] W0 fun q w'=>q=.returned (.tuple #[.int .i64 1,.string (uB s),.bool true])∧Below W0.heap.size W0 w'):=by
  refine (unpack_any s W0 (by omega)).mono fun q w' ⟨h1,h2⟩=>⟨?_,h2⟩;rw [h1,hU,hV]
 obtain ⟨u,hu⟩:∃ u,u=uB s:=⟨_,rfl⟩;rw [←hu] at KU hK;have KW:=zh (fun (W:World) (h:W.heap[a1]?=some (.cells #[.func (.func 39) #[] #[]] 66 (0,0)))=>whole1_any a1 u X T b W h hK);have hgl:=(zgx hm);have hal:=(zgx hc);have HM:=zh hm;have HC:=zh hc;have HGL:=zh hgl;have HAL:=zh hal;have HW0:=zh hW0;have HK0:=zh k0;have HB0:=zh b0;have HD:Hid (whO b T=false→whE X b T=ezz):=fun h=>by unfold whE;rw [h];rfl
 obtain ⟨Y,hY⟩:∃ Y,Y=whE X b T:=⟨_,rfl⟩;obtain ⟨o,ho⟩:∃ o,o=whO b T:=⟨_,rfl⟩;rw [←hY,←ho] at HD KW ⊢;clear hW0 k0 b0 hm hc hgl hal hK hY ho hU hV hu hs
 go_enter Tryz.func37,Tryz.ntmps37
 go_wp2_with fail
 rw [←HW0.out];refine KU.out.mono ?_;rintro q w1 ⟨rfl,b1⟩;have HK1:Hid (w1.heap[w.heap.size]?=some (.cells (ec ezz) 24 (0,0))):=(b1.block _ (zgx HK0.out)).trans HK0.out;have HB1:Hid (Below w.heap.size w w1):=HB0.out.trans (b1.mono HB0.out.size);have hl:=look_one (T:=67) 1 (whv a1) Tryz.underlying67 ((HB1.out.block _ HGL.out).trans HM.out) (two_1 _ _);have KW1:=zh (KW.out w1 ((HB1.out.block _ HAL.out).trans HC.out));clear b1
 go_wp2_with fail
 refine KW1.out.mono ?_;rintro q w2 ⟨rfl,b2⟩;have HK2:Hid (w2.heap[w.heap.size]?=some (.cells (ec ezz) 24 (0,0))):=(b2.block _ (zgx HK1.out)).trans HK1.out;have HB2:Hid (Below w.heap.size w w2):=HB1.out.trans (b2.mono HB1.out.size);clear b2 hl;obtain ⟨z0,z1,z2,z3,z4,z5,z6,z7,z8,z9,z10⟩:=zezl (w:=w2) (b:=w.heap.size) HK2.out;have fz:∀ i,w2.frozen? ⟨w.heap.size,i,none⟩=false:=fun i=>Lib.frozen_of_heap HK2.out i
 go_upto_region 5 with fail
 obtain ⟨W3,hW3⟩:∃ W3,W3=wz w2 w.heap.size Y:=⟨_,rfl⟩;have k3:W3.heap[w.heap.size]?=some (.cells (ec Y) 24 (0,0)):=by rw [hW3];exact store_all Y HK2.out
 have HB3:Hid (Below w.heap.size w W3):=by rw [hW3];exact below_all Y HB2.out (Nat.le_refl _)
 have HK3:=zh k3;unfold wz at hW3;rw [←hW3];clear hW3 k3 z0 z1 z2 z3 z4 z5 z6 z7 z8 z9 z10 fz;obtain ⟨y0,y1,y2,y3,y4,y5,y6,y7,y8,y9,y10⟩:=zecl (w:=W3) (b:=w.heap.size) (e:=Y) HK3.out;have fz:∀ i,W3.frozen? ⟨w.heap.size,i,none⟩=false:=fun i=>Lib.frozen_of_heap HK3.out i
 cases o with
 | false =>
   have HY:=zh (HD.out rfl);go_wp2;obtain ⟨WF,hWF⟩:∃ WF,WF=wz W3 w.heap.size Y:=⟨_,rfl⟩
   have HBK:Hid (WF.heap[w.heap.size]?=some (.cells (ec Y) 24 (0,0))):=by
    show _=_
    rw [hWF];exact store_again Y HK3.out
   have HBF:Hid (Below w.heap.size w WF):=by rw [hWF];exact below_all Y HB3.out (Nat.le_refl _)
   unfold wz at hWF;rw [←hWF];obtain ⟨f0,f1,f2,f3,f4,f5,f6,f7,f8,f9,f10⟩:=zecl (w:=WF) (b:=w.heap.size) (e:=Y) HBK.out;exact bodyPost_ret (v:=.tuple #[ev Y,.int .i64 0,.bool false]) (by simp [results,Tryz.results37,go_sem,f0,f1,f2,f3,f4,f5,f6,f7,f8,f9,f10]) rfl ⟨rfl,HBF.out⟩
 | true =>
   go_wp2;obtain ⟨WF,hWF⟩:∃ WF,WF=wz W3 w.heap.size Y:=⟨_,rfl⟩
   have HBK:Hid (WF.heap[w.heap.size]?=some (.cells (ec Y) 24 (0,0))):=by
    show _=_
    rw [hWF];exact store_again Y HK3.out
   have HBF:Hid (Below w.heap.size w WF):=by rw [hWF];exact below_all Y HB3.out (Nat.le_refl _)
   unfold wz at hWF;rw [←hWF];obtain ⟨f0,f1,f2,f3,f4,f5,f6,f7,f8,f9,f10⟩:=zecl (w:=WF) (b:=w.heap.size) (e:=Y) HBK.out;exact bodyPost_ret (v:=.tuple #[ev Y,.int .i64 1,.bool true]) (by simp [results,Tryz.results37,go_sem,f0,f1,f2,f3,f4,f5,f6,f7,f8,f9,f10]) rfl ⟨rfl,HBF.out⟩
theorem fgetE2_any (s:ByteArray) (g a1 a2:Nat) (X:En) (T:ByteArray) (b:Bool) (w:World) (hm:w.heap[g]?=some (.map (two (whv a1) (whv a2)) 2)) (hc:w.heap[a2]?=some (.cells #[.func (.func 40) #[] #[]] 66 (0,0)))
 (hs:s.size≤140737488351232) (hU:uO s=true) (hV:uV s=2)
 (hK:∀ g W,Rd 178 g (uB s) false W→Calls Tryz.prog 40 #[.pointer (some ⟨g,0,none⟩)] W fun q w'=>q=.returned (ev X)∧Rd 178 g T b w'∧W.grownBy w' (some g)) :
 Calls Tryz.prog 37 #[.map (some g),.string s] w fun q w'=>q=.returned (.tuple #[ev (whE X b T),.int .i64 (if whO b T then 2 else 0),.bool (whO b T)])∧Below w.heap.size w w':=by
 obtain ⟨W0,hW0⟩:∃ W0,W0=w.alloc (Obj.cells (ec ezz) 24):=⟨_,rfl⟩;have b0:Below w.heap.size w W0:=by rw [hW0];exact zba
 have k0:W0.heap[w.heap.size]?=some (.cells (ec ezz) 24 (0,0)):=by rw [hW0];exact heap_alloc_new w _
 have KU:Hid (Calls Tryz.prog 23 #[.string s] W0 fun q w'=>q=.returned (.tuple #[.int .i64 2,.string (uB s),.bool true])∧Below W0.heap.size W0 w'):=by
  refine (unpack_any s W0 (by omega)).mono fun q w' ⟨h1,h2⟩=>⟨?_,h2⟩;rw [h1,hU,hV]
 obtain ⟨u,hu⟩:∃ u,u=uB s:=⟨_,rfl⟩;rw [←hu] at KU hK;have KW:=zh (fun (W:World) (h:W.heap[a2]?=some (.cells #[.func (.func 40) #[] #[]] 66 (0,0)))=>whole2_any a2 u X T b W h hK);have hgl:=(zgx hm);have hal:=(zgx hc);have HM:=zh hm;have HC:=zh hc;have HGL:=zh hgl;have HAL:=zh hal;have HW0:=zh hW0;have HK0:=zh k0;have HB0:=zh b0;have HD:Hid (whO b T=false→whE X b T=ezz):=fun h=>by unfold whE;rw [h];rfl
 obtain ⟨Y,hY⟩:∃ Y,Y=whE X b T:=⟨_,rfl⟩;obtain ⟨o,ho⟩:∃ o,o=whO b T:=⟨_,rfl⟩;rw [←hY,←ho] at HD KW ⊢;clear hW0 k0 b0 hm hc hgl hal hK hY ho hU hV hu hs
 go_enter Tryz.func37,Tryz.ntmps37
 go_wp2_with fail
 rw [←HW0.out];refine KU.out.mono ?_;rintro q w1 ⟨rfl,b1⟩;have HK1:Hid (w1.heap[w.heap.size]?=some (.cells (ec ezz) 24 (0,0))):=(b1.block _ (zgx HK0.out)).trans HK0.out;have HB1:Hid (Below w.heap.size w w1):=HB0.out.trans (b1.mono HB0.out.size);have hl:=look_one (T:=67) 2 (whv a2) Tryz.underlying67 ((HB1.out.block _ HGL.out).trans HM.out) (two_2 _ _);have KW1:=zh (KW.out w1 ((HB1.out.block _ HAL.out).trans HC.out));clear b1
 go_wp2_with fail
 refine KW1.out.mono ?_;rintro q w2 ⟨rfl,b2⟩;have HK2:Hid (w2.heap[w.heap.size]?=some (.cells (ec ezz) 24 (0,0))):=(b2.block _ (zgx HK1.out)).trans HK1.out;have HB2:Hid (Below w.heap.size w w2):=HB1.out.trans (b2.mono HB1.out.size);clear b2 hl;obtain ⟨z0,z1,z2,z3,z4,z5,z6,z7,z8,z9,z10⟩:=zezl (w:=w2) (b:=w.heap.size) HK2.out;have fz:∀ i,w2.frozen? ⟨w.heap.size,i,none⟩=false:=fun i=>Lib.frozen_of_heap HK2.out i
 go_upto_region 5 with fail
 obtain ⟨W3,hW3⟩:∃ W3,W3=wz w2 w.heap.size Y:=⟨_,rfl⟩;have k3:W3.heap[w.heap.size]?=some (.cells (ec Y) 24 (0,0)):=by rw [hW3];exact store_all Y HK2.out
 have HB3:Hid (Below w.heap.size w W3):=by rw [hW3];exact below_all Y HB2.out (Nat.le_refl _)
 have HK3:=zh k3;unfold wz at hW3;rw [←hW3];clear hW3 k3 z0 z1 z2 z3 z4 z5 z6 z7 z8 z9 z10 fz;obtain ⟨y0,y1,y2,y3,y4,y5,y6,y7,y8,y9,y10⟩:=zecl (w:=W3) (b:=w.heap.size) (e:=Y) HK3.out;have fz:∀ i,W3.frozen? ⟨w.heap.size,i,none⟩=false:=fun i=>Lib.frozen_of_heap HK3.out i
 cases o with
 | false =>
   have HY:=zh (HD.out rfl);go_wp2;obtain ⟨WF,hWF⟩:∃ WF,WF=wz W3 w.heap.size Y:=⟨_,rfl⟩
   have HBK:Hid (WF.heap[w.heap.size]?=some (.cells (ec Y) 24 (0,0))):=by
    show _=_
    rw [hWF];exact store_again Y HK3.out
   have HBF:Hid (Below w.heap.size w WF):=by rw [hWF];exact below_all Y HB3.out (Nat.le_refl _)
   unfold wz at hWF;rw [←hWF];obtain ⟨f0,f1,f2,f3,f4,f5,f6,f7,f8,f9,f10⟩:=zecl (w:=WF) (b:=w.heap.size) (e:=Y) HBK.out;exact bodyPost_ret (v:=.tuple #[ev Y,.int .i64 0,.bool false]) (by simp [results,Tryz.results37,go_sem,f0,f1,f2,f3,f4,f5,f6,f7,f8,f9,f10]) rfl ⟨rfl,HBF.out⟩
 | true =>
   go_wp2;obtain ⟨WF,hWF⟩:∃ WF,WF=wz W3 w.heap.size Y:=⟨_,rfl⟩
   have HBK:Hid (WF.heap[w.heap.size]?=some (.cells (ec Y) 24 (0,0))):=by
    show _=_
    rw [hWF];exact store_again Y HK3.out
   have HBF:Hid (Below w.heap.size w WF):=by rw [hWF];exact below_all Y HB3.out (Nat.le_refl _)
   unfold wz at hWF;rw [←hWF];obtain ⟨f0,f1,f2,f3,f4,f5,f6,f7,f8,f9,f10⟩:=zecl (w:=WF) (b:=w.heap.size) (e:=Y) HBK.out;exact bodyPost_ret (v:=.tuple #[ev Y,.int .i64 2,.bool true]) (by simp [results,Tryz.results37,go_sem,f0,f1,f2,f3,f4,f5,f6,f7,f8,f9,f10]) rfl ⟨rfl,HBF.out⟩
theorem fgetE0_any (s:ByteArray) (g:Nat) (w:World) (hs:s.size≤140737488351232) (hU:uO s=false) :
 Calls Tryz.prog 37 #[.map (some g),.string s] w fun q w'=>q=.returned (.tuple #[ev ezz,.int .i64 0,.bool false])∧Below w.heap.size w w':=by
 obtain ⟨W0,hW0⟩:∃ W0,W0=w.alloc (Obj.cells (ec ezz) 24):=⟨_,rfl⟩;have b0:Below w.heap.size w W0:=by rw [hW0];exact zba
 have k0:W0.heap[w.heap.size]?=some (.cells (ec ezz) 24 (0,0)):=by rw [hW0];exact heap_alloc_new w _
 have KU:Hid (Calls Tryz.prog 23 #[.string s] W0 fun q w'=>q=.returned (.tuple #[.int .i64 0,.string ⟨#[]⟩,.bool false])∧Below W0.heap.size W0 w'):=by
  refine (unpack_any s W0 (by omega)).mono fun q w' ⟨h1,h2⟩=>⟨?_,h2⟩;rw [h1,←u_ret_no hU]
 have HW0:=zh hW0;have HK0:=zh k0;have HB0:=zh b0;clear hW0 k0 b0 hU hs
 go_enter Tryz.func37,Tryz.ntmps37
 go_wp2_with fail
 rw [←HW0.out];refine KU.out.mono ?_;rintro q w1 ⟨rfl,b1⟩;have HK1:Hid (w1.heap[w.heap.size]?=some (.cells (ec ezz) 24 (0,0))):=(b1.block _ (zgx HK0.out)).trans HK0.out;have HB1:Hid (Below w.heap.size w w1):=HB0.out.trans (b1.mono HB0.out.size);clear b1;obtain ⟨z0,z1,z2,z3,z4,z5,z6,z7,z8,z9,z10⟩:=zezl (w:=w1) (b:=w.heap.size) HK1.out;have fz:∀ i,w1.frozen? ⟨w.heap.size,i,none⟩=false:=fun i=>Lib.frozen_of_heap HK1.out i;obtain ⟨WF,hWF⟩:∃ WF,WF=wz w1 w.heap.size ezz:=⟨_,rfl⟩;have hblk:WF.heap[w.heap.size]?=some (.cells (ec ezz) 24 (0,0)):=by rw [hWF];exact store_all ezz HK1.out
 have HBF:Hid (Below w.heap.size w WF):=by rw [hWF];exact below_all ezz HB1.out (Nat.le_refl _)
 have HBK:=zh hblk;have HWF:=zh hWF;clear hblk hWF;go_wp2;have hWF:=HWF.out;unfold wz at hWF;rw [←hWF];obtain ⟨f0,f1,f2,f3,f4,f5,f6,f7,f8,f9,f10⟩:=zezl (w:=WF) (b:=w.heap.size) HBK.out;exact bodyPost_ret (v:=.tuple #[ev ezz,.int .i64 0,.bool false]) (by simp [results,Tryz.results37,go_sem,f0,f1,f2,f3,f4,f5,f6,f7,f8,f9,f10]) rfl ⟨rfl,HBF.out⟩
end Go.Proofs.YtpdbeijfchmlgaaGreat
namespace Go.Proofs.YtpdbeijfchmlgaaGreat
open Go.RowKit
open Vi
def frP (v:Int) (o:Bool) (P:ByteArray):ByteArray:=if o then pack v P else ⟨#[]⟩
theorem fputE1_any (e:En) (g:Nat) (P:ByteArray) (o:Bool) (w:World) (hm:w.heap[g]?=some (.map (two (fv 25) (fv 26)) 2)) (hK:∀ W,Below w.heap.size w W→Calls Tryz.prog 25 #[ev e] W fun q w'=>q=.returned (.tuple #[.string P,.bool o])∧Below W.heap.size W w') (hP:P.size≤1048576) :
 Calls Tryz.prog 24 #[.map (some g),.int .i64 1,ev e] w fun q w'=>q=.returned (.tuple #[.string (frP 1 o P),.bool o])∧Below w.heap.size w w':=by
 have b0:Below w.heap.size w (w.alloc (Obj.cells (ec e) 24)):=zba;have m0:(w.alloc (Obj.cells (ec e) 24)).heap[g]?=some (.map (two (fv 25) (fv 26)) 2):=(Lib.alloc_old _ _ _ (zgx hm)).trans hm;have hl:=look_step (T:=57) 1 (fv 25) Tryz.underlying57 m0 (two_1 _ _);have K:=zh (hK _ b0);have KP:=zh (fun (W:World)=>packK_any 1 P W (.inl rfl) hP);have HB:=zh b0;clear hK hP b0 m0 hm
 cases o with
 | false =>
   go_enter Tryz.func24,Tryz.ntmps24
   go_wp2_with fail
   refine K.out.mono ?_;rintro q w1 ⟨rfl,b1⟩;go_wp2;go_ret2;exact ⟨rfl,HB.out.trans (b1.mono HB.out.size)⟩
 | true =>
   go_enter Tryz.func24,Tryz.ntmps24
   go_wp2_with fail
   refine K.out.mono ?_;rintro q w1 ⟨rfl,b1⟩;have HB1:=zh (HB.out.trans (b1.mono HB.out.size));clear b1 hl
   go_wp2_with fail
   refine (KP.out _).mono ?_;rintro q w2 ⟨rfl,b2⟩;go_wp2;go_ret2;exact ⟨rfl,HB1.out.trans (b2.mono HB1.out.size)⟩
theorem fPutE1_any (e:En) (P:ByteArray) (o:Bool) (w:World) (hK:∀ W,Below w.heap.size w W→Calls Tryz.prog 25 #[ev e] W fun q w'=>q=.returned (.tuple #[.string P,.bool o])∧Below W.heap.size W w') (hP:P.size≤1048576) :
 Calls Tryz.prog 6 #[.int .i64 1,ev e] w fun q w'=>q=.returned (.tuple #[.string (frP 1 o P),.bool o])∧Below w.heap.size w w':=by
 have hmm:=@run_makeMap Tryz.prog;have b0:Below w.heap.size w (w.alloc (Obj.cells (ec e) 24)):=zba;have k0:(w.alloc (Obj.cells (ec e) 24)).heap[w.heap.size]?=some (.cells (ec e) 24 (0,0)):=heap_alloc_new w _;have z0:(w.alloc (Obj.cells (ec e) 24)).heap.size=w.heap.size+1:=by simp
 have bm:=b0.alloc (by omega) (.map #[] 0);obtain ⟨w1,e1,h1,b1,o1,s1⟩:=ins_step (T:=57) 1 (fv 25) Tryz.underlying57 (heap_alloc_new (w.alloc (Obj.cells (ec e) 24)) (.map #[] 0)) rfl bm (by omega);obtain ⟨w2,e2,h2,b2,o2,s2⟩:=ins_step (T:=57) 2 (fv 26) Tryz.underlying57 h1 rfl b1 (by omega);have k2:w2.heap[w.heap.size]?=some (.cells (ec e) 24 (0,0)):=(o2 _ (by omega)).trans ((o1 _ (by omega)).trans ((Lib.alloc_old _ _ _ (by omega)).trans k0));rw [z0] at e1 e2;have H2:Hid (w2.heap[w.heap.size+1]?=some (.map (two (fv 25) (fv 26)) 2)):=by show _=_;rw [←z0];exact h2
 have B2:=zh b2;have hsz:w2.heap.size=w.heap.size+2:=by rw [s2,s1];simp
 have K:=zh (fputE1_any e (w.heap.size+1) P o w2 H2.out (fun W hW=>hK W (b2.trans (hW.mono (by omega)))) hP);obtain ⟨c0,c1,c2,c3,c4,c5,c6,c7,c8,c9,c10⟩:=zecl (w:=w2) (b:=w.heap.size) (e:=e) k2;have HS:=zh hsz;clear h1 h2 b1 b2 o1 o2 s1 s2 k0 k2 bm hK hP hsz b0
 go_enter Tryz.func6,Tryz.ntmps6
 go_wp2_with fail
 refine K.out.mono ?_;rintro q w3 ⟨rfl,b3⟩;go_wp2;go_ret2;exact ⟨rfl,B2.out.trans (b3.mono B2.out.size)⟩
theorem fputE2_any (e:En) (g:Nat) (P:ByteArray) (o:Bool) (w:World) (hm:w.heap[g]?=some (.map (two (fv 25) (fv 26)) 2)) (hK:∀ W,Below w.heap.size w W→Calls Tryz.prog 26 #[ev e] W fun q w'=>q=.returned (.tuple #[.string P,.bool o])∧Below W.heap.size W w') (hP:P.size≤1048576) :
 Calls Tryz.prog 24 #[.map (some g),.int .i64 2,ev e] w fun q w'=>q=.returned (.tuple #[.string (frP 2 o P),.bool o])∧Below w.heap.size w w':=by
 have b0:Below w.heap.size w (w.alloc (Obj.cells (ec e) 24)):=zba;have m0:(w.alloc (Obj.cells (ec e) 24)).heap[g]?=some (.map (two (fv 25) (fv 26)) 2):=(Lib.alloc_old _ _ _ (zgx hm)).trans hm;have hl:=look_step (T:=57) 2 (fv 26) Tryz.underlying57 m0 (two_2 _ _);have K:=zh (hK _ b0);have KP:=zh (fun (W:World)=>packK_any 2 P W (.inr rfl) hP);have HB:=zh b0;clear hK hP b0 m0 hm
 cases o with
 | false =>
   go_enter Tryz.func24,Tryz.ntmps24
   go_wp2_with fail
   refine K.out.mono ?_;rintro q w1 ⟨rfl,b1⟩;go_wp2;go_ret2;exact ⟨rfl,HB.out.trans (b1.mono HB.out.size)⟩
 | true =>
   go_enter Tryz.func24,Tryz.ntmps24
   go_wp2_with fail
   refine K.out.mono ?_;rintro q w1 ⟨rfl,b1⟩;have HB1:=zh (HB.out.trans (b1.mono HB.out.size));clear b1 hl
   go_wp2_with fail
   refine (KP.out _).mono ?_;rintro q w2 ⟨rfl,b2⟩;go_wp2;go_ret2;exact ⟨rfl,HB1.out.trans (b2.mono HB1.out.size)⟩
theorem fPutE2_any (e:En) (P:ByteArray) (o:Bool) (w:World) (hK:∀ W,Below w.heap.size w W→Calls Tryz.prog 26 #[ev e] W fun q w'=>q=.returned (.tuple #[.string P,.bool o])∧Below W.heap.size W w') (hP:P.size≤1048576) :
 Calls Tryz.prog 6 #[.int .i64 2,ev e] w fun q w'=>q=.returned (.tuple #[.string (frP 2 o P),.bool o])∧Below w.heap.size w w':=by
 have hmm:=@run_makeMap Tryz.prog;have b0:Below w.heap.size w (w.alloc (Obj.cells (ec e) 24)):=zba;have k0:(w.alloc (Obj.cells (ec e) 24)).heap[w.heap.size]?=some (.cells (ec e) 24 (0,0)):=heap_alloc_new w _;have z0:(w.alloc (Obj.cells (ec e) 24)).heap.size=w.heap.size+1:=by simp
 have bm:=b0.alloc (by omega) (.map #[] 0);obtain ⟨w1,e1,h1,b1,o1,s1⟩:=ins_step (T:=57) 1 (fv 25) Tryz.underlying57 (heap_alloc_new (w.alloc (Obj.cells (ec e) 24)) (.map #[] 0)) rfl bm (by omega);obtain ⟨w2,e2,h2,b2,o2,s2⟩:=ins_step (T:=57) 2 (fv 26) Tryz.underlying57 h1 rfl b1 (by omega);have k2:w2.heap[w.heap.size]?=some (.cells (ec e) 24 (0,0)):=(o2 _ (by omega)).trans ((o1 _ (by omega)).trans ((Lib.alloc_old _ _ _ (by omega)).trans k0));rw [z0] at e1 e2;have H2:Hid (w2.heap[w.heap.size+1]?=some (.map (two (fv 25) (fv 26)) 2)):=by show _=_;rw [←z0];exact h2
 have B2:=zh b2;have hsz:w2.heap.size=w.heap.size+2:=by rw [s2,s1];simp
 have K:=zh (fputE2_any e (w.heap.size+1) P o w2 H2.out (fun W hW=>hK W (b2.trans (hW.mono (by omega)))) hP);obtain ⟨c0,c1,c2,c3,c4,c5,c6,c7,c8,c9,c10⟩:=zecl (w:=w2) (b:=w.heap.size) (e:=e) k2;have HS:=zh hsz;clear h1 h2 b1 b2 o1 o2 s1 s2 k0 k2 bm hK hP hsz b0
 go_enter Tryz.func6,Tryz.ntmps6
 go_wp2_with fail
 refine K.out.mono ?_;rintro q w3 ⟨rfl,b3⟩;go_wp2;go_ret2;exact ⟨rfl,B2.out.trans (b3.mono B2.out.size)⟩
theorem fputM1_any (m:Ms) (g:Nat) (P:ByteArray) (o:Bool) (w:World) (hm:w.heap[g]?=some (.map (two (fv 32) (fv 33)) 2)) (hK:∀ W,Below w.heap.size w W→Calls Tryz.prog 32 #[mv m] W fun q w'=>q=.returned (.tuple #[.string P,.bool o])∧Below W.heap.size W w') (hP:P.size≤1048576) :
 Calls Tryz.prog 31 #[.map (some g),.int .i64 1,mv m] w fun q w'=>q=.returned (.tuple #[.string (frP 1 o P),.bool o])∧Below w.heap.size w w':=by
 have b0:Below w.heap.size w (w.alloc (Obj.cells (mc m) 29)):=zba;have m0:(w.alloc (Obj.cells (mc m) 29)).heap[g]?=some (.map (two (fv 32) (fv 33)) 2):=(Lib.alloc_old _ _ _ (zgx hm)).trans hm;have hl:=look_step (T:=61) 1 (fv 32) Tryz.underlying61 m0 (two_1 _ _);have K:=zh (hK _ b0);have KP:=zh (fun (W:World)=>packK_any 1 P W (.inl rfl) hP);have HB:=zh b0;clear hK hP b0 m0 hm
 cases o with
 | false =>
   go_enter Tryz.func31,Tryz.ntmps31
   go_wp2_with fail
   refine K.out.mono ?_;rintro q w1 ⟨rfl,b1⟩;go_wp2;go_ret2;exact ⟨rfl,HB.out.trans (b1.mono HB.out.size)⟩
 | true =>
   go_enter Tryz.func31,Tryz.ntmps31
   go_wp2_with fail
   refine K.out.mono ?_;rintro q w1 ⟨rfl,b1⟩;have HB1:=zh (HB.out.trans (b1.mono HB.out.size));clear b1 hl
   go_wp2_with fail
   refine (KP.out _).mono ?_;rintro q w2 ⟨rfl,b2⟩;go_wp2;go_ret2;exact ⟨rfl,HB1.out.trans (b2.mono HB1.out.size)⟩
theorem fPutM1_any (m:Ms) (P:ByteArray) (o:Bool) (w:World) (hK:∀ W,Below w.heap.size w W→Calls Tryz.prog 32 #[mv m] W fun q w'=>q=.returned (.tuple #[.string P,.bool o])∧Below W.heap.size W w') (hP:P.size≤1048576) :
 Calls Tryz.prog 9 #[.int .i64 1,mv m] w fun q w'=>q=.returned (.tuple #[.string (frP 1 o P),.bool o])∧Below w.heap.size w w':=by
 have hmm:=@run_makeMap Tryz.prog;have b0:Below w.heap.size w (w.alloc (Obj.cells (mc m) 29)):=zba;have k0:(w.alloc (Obj.cells (mc m) 29)).heap[w.heap.size]?=some (.cells (mc m) 29 (0,0)):=heap_alloc_new w _;have z0:(w.alloc (Obj.cells (mc m) 29)).heap.size=w.heap.size+1:=by simp
 have bm:=b0.alloc (by omega) (.map #[] 0);obtain ⟨w1,e1,h1,b1,o1,s1⟩:=ins_step (T:=61) 1 (fv 32) Tryz.underlying61 (heap_alloc_new (w.alloc (Obj.cells (mc m) 29)) (.map #[] 0)) rfl bm (by omega);obtain ⟨w2,e2,h2,b2,o2,s2⟩:=ins_step (T:=61) 2 (fv 33) Tryz.underlying61 h1 rfl b1 (by omega);have k2:w2.heap[w.heap.size]?=some (.cells (mc m) 29 (0,0)):=(o2 _ (by omega)).trans ((o1 _ (by omega)).trans ((Lib.alloc_old _ _ _ (by omega)).trans k0));rw [z0] at e1 e2;have H2:Hid (w2.heap[w.heap.size+1]?=some (.map (two (fv 32) (fv 33)) 2)):=by show _=_;rw [←z0];exact h2
 have B2:=zh b2;have hsz:w2.heap.size=w.heap.size+2:=by rw [s2,s1];simp
 have K:=zh (fputM1_any m (w.heap.size+1) P o w2 H2.out (fun W hW=>hK W (b2.trans (hW.mono (by omega)))) hP);obtain ⟨c0,c1,c2,c3,c4,c5,c6,c7,c8,c9,c10⟩:=zmcl (w:=w2) (b:=w.heap.size) (e:=m) k2;have HS:=zh hsz;clear h1 h2 b1 b2 o1 o2 s1 s2 k0 k2 bm hK hP hsz b0
 go_enter Tryz.func9,Tryz.ntmps9
 go_wp2_with fail
 refine K.out.mono ?_;rintro q w3 ⟨rfl,b3⟩;go_wp2;go_ret2;exact ⟨rfl,B2.out.trans (b3.mono B2.out.size)⟩
theorem fputM2_any (m:Ms) (g:Nat) (P:ByteArray) (o:Bool) (w:World) (hm:w.heap[g]?=some (.map (two (fv 32) (fv 33)) 2)) (hK:∀ W,Below w.heap.size w W→Calls Tryz.prog 33 #[mv m] W fun q w'=>q=.returned (.tuple #[.string P,.bool o])∧Below W.heap.size W w') (hP:P.size≤1048576) :
 Calls Tryz.prog 31 #[.map (some g),.int .i64 2,mv m] w fun q w'=>q=.returned (.tuple #[.string (frP 2 o P),.bool o])∧Below w.heap.size w w':=by
 have b0:Below w.heap.size w (w.alloc (Obj.cells (mc m) 29)):=zba;have m0:(w.alloc (Obj.cells (mc m) 29)).heap[g]?=some (.map (two (fv 32) (fv 33)) 2):=(Lib.alloc_old _ _ _ (zgx hm)).trans hm;have hl:=look_step (T:=61) 2 (fv 33) Tryz.underlying61 m0 (two_2 _ _);have K:=zh (hK _ b0);have KP:=zh (fun (W:World)=>packK_any 2 P W (.inr rfl) hP);have HB:=zh b0;clear hK hP b0 m0 hm
 cases o with
 | false =>
   go_enter Tryz.func31,Tryz.ntmps31
   go_wp2_with fail
   refine K.out.mono ?_;rintro q w1 ⟨rfl,b1⟩;go_wp2;go_ret2;exact ⟨rfl,HB.out.trans (b1.mono HB.out.size)⟩
 | true =>
   go_enter Tryz.func31,Tryz.ntmps31
   go_wp2_with fail
   refine K.out.mono ?_;rintro q w1 ⟨rfl,b1⟩;have HB1:=zh (HB.out.trans (b1.mono HB.out.size));clear b1 hl
   go_wp2_with fail
   refine (KP.out _).mono ?_;rintro q w2 ⟨rfl,b2⟩;go_wp2;go_ret2;exact ⟨rfl,HB1.out.trans (b2.mono HB1.out.size)⟩
theorem fPutM2_any (m:Ms) (P:ByteArray) (o:Bool) (w:World) (hK:∀ W,Below w.heap.size w W→Calls Tryz.prog 33 #[mv m] W fun q w'=>q=.returned (.tuple #[.string P,.bool o])∧Below W.heap.size W w') (hP:P.size≤1048576) :
 Calls Tryz.prog 9 #[.int .i64 2,mv m] w fun q w'=>q=.returned (.tuple #[.string (frP 2 o P),.bool o])∧Below w.heap.size w w':=by
 have hmm:=@run_makeMap Tryz.prog;have b0:Below w.heap.size w (w.alloc (Obj.cells (mc m) 29)):=zba;have k0:(w.alloc (Obj.cells (mc m) 29)).heap[w.heap.size]?=some (.cells (mc m) 29 (0,0)):=heap_alloc_new w _;have z0:(w.alloc (Obj.cells (mc m) 29)).heap.size=w.heap.size+1:=by simp
 have bm:=b0.alloc (by omega) (.map #[] 0);obtain ⟨w1,e1,h1,b1,o1,s1⟩:=ins_step (T:=61) 1 (fv 32) Tryz.underlying61 (heap_alloc_new (w.alloc (Obj.cells (mc m) 29)) (.map #[] 0)) rfl bm (by omega);obtain ⟨w2,e2,h2,b2,o2,s2⟩:=ins_step (T:=61) 2 (fv 33) Tryz.underlying61 h1 rfl b1 (by omega);have k2:w2.heap[w.heap.size]?=some (.cells (mc m) 29 (0,0)):=(o2 _ (by omega)).trans ((o1 _ (by omega)).trans ((Lib.alloc_old _ _ _ (by omega)).trans k0));rw [z0] at e1 e2;have H2:Hid (w2.heap[w.heap.size+1]?=some (.map (two (fv 32) (fv 33)) 2)):=by show _=_;rw [←z0];exact h2
 have B2:=zh b2;have hsz:w2.heap.size=w.heap.size+2:=by rw [s2,s1];simp
 have K:=zh (fputM2_any m (w.heap.size+1) P o w2 H2.out (fun W hW=>hK W (b2.trans (hW.mono (by omega)))) hP);obtain ⟨c0,c1,c2,c3,c4,c5,c6,c7,c8,c9,c10⟩:=zmcl (w:=w2) (b:=w.heap.size) (e:=m) k2;have HS:=zh hsz;clear h1 h2 b1 b2 o1 o2 s1 s2 k0 k2 bm hK hP hsz b0
 go_enter Tryz.func9,Tryz.ntmps9
 go_wp2_with fail
 refine K.out.mono ?_;rintro q w3 ⟨rfl,b3⟩;go_wp2;go_ret2;exact ⟨rfl,B2.out.trans (b3.mono B2.out.size)⟩
end Go.Proofs.YtpdbeijfchmlgaaGreat
