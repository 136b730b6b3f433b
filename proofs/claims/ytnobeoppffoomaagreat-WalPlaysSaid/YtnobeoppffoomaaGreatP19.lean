/-
  WalPlays: FCq FLm.
  Conditions: named in each theorem.
-/
import Derived.Test.YtnobeoppffoomaaGreatP17
import Derived.Test.YtnobeoppffoomaaGreatP11
import Derived.Test.YtnobeoppffoomaaGreatP13
import Derived.Test.YtnobeoppffoomaaGreatP06
import Derived.Test.YtnobeoppffoomaaGreatP05
import Derived.Test.YtnobeoppffoomaaGreatP14
import Derived.Test.YtnobeoppffoomaaGreatP12
import Derived.Test.YtnobeoppffoomaaGreatP16
import Derived.Test.YtnobeoppffoomaaGreatP0
set_option linter.unusedVariables false
set_option linter.unusedSimpArgs false
set_option maxHeartbeats 8000000
set_option maxRecDepth 100000
namespace Go.Proofs.YtnobeoppffoomaaGreat
open Go.RowKit
open Vi
theorem ba_nil {T:ByteArray} (h:T.size=0):T=⟨#[]⟩:=by
 apply ByteArray.ext
 exact Array.eq_empty_of_size_eq_zero h
theorem ba_some {T:ByteArray} (h:¬ T.size=0):(!T.toList.isEmpty)=true:=by
 have h2:¬ T.toList=[]:=fun e=>h (by have:=(toList_nil T).1 e;omega)
 cases hl:T.toList with
 | nil=>exact absurd hl h2
 | cons a l=>rfl
def rgO (s:ByteArray) (b:Bool) (T:ByteArray):Bool:=uO s&&whO b T
theorem rGetE2_any (s:ByteArray) (X:En) (T:ByteArray) (b:Bool) (w:World) (hs:s.size≤140737488351232) (hv:uV s=2)
 (hK:∀ g W,Rd 145 g (uB s) false W→Calls Tryz.prog 93 #[.pointer (some ⟨g,0,none⟩)] W fun q w'=>q=.returned (ev X)∧Rd 145 g T b w'∧W.grownBy w' (some g)) :
 Calls Tryz.prog 46 #[.string s] w fun q w'=>q=.returned (.tuple #[ev (if rgO s b T then X else ezz),.int .i64 (if rgO s b T then uV s else 0),.bool (rgO s b T)])∧Below w.heap.size w w':=by
 obtain ⟨W0,hW0⟩:∃ W0,W0=w.alloc (Obj.cells (ec ezz) 28):=⟨_,rfl⟩
 have b0:Below w.heap.size w W0:=by rw [hW0];exact (Below.refl _ _).alloc (Nat.le_refl _) _
 have k0:W0.heap[w.heap.size]?=some (.cells (ec ezz) 28 (0,0)):=by rw [hW0];exact heap_alloc_new w _
 have s0:W0.heap.size=w.heap.size+1:=by rw [hW0];simp
 have KU0:=runpack_any s W0 (by omega)
 have hr:rgO s b T=(uO s&&whO b T):=rfl
 rw [hr]
 clear hr
 obtain ⟨ou,hou⟩:∃ ou,ou=uO s:=⟨_,rfl⟩
 obtain ⟨u,hu⟩:∃ u,u=uB s:=⟨_,rfl⟩
 obtain ⟨v,hvv⟩:∃ v,v=uV s:=⟨_,rfl⟩
 rw [←hou] at KU0 ⊢
 rw [←hu] at KU0 hK
 rw [←hvv] at KU0 hv ⊢
 have hv2:(v==2)=true:=by simpa using hv
 obtain ⟨o,ho⟩:∃ o,o=(ou&&whO b T):=⟨_,rfl⟩
 rw [←ho]
 obtain ⟨Y,hY⟩:∃ Y,Y=if o=true then X else ezz:=⟨_,rfl⟩
 obtain ⟨vv,hw⟩:∃ vv:Int,vv=if o=true then v else 0:=⟨_,rfl⟩
 rw [←hY,←hw]
 have HO:=zh ho
 have HD:Hid ((o=true→Y=X∧vv=v)∧(o=false→Y=ezz∧vv=0)):=⟨fun h=>⟨by rw [hY,if_pos h],by rw [hw,if_pos h]⟩,fun h=>⟨by rw [hY,h];rfl,by rw [hw,h];rfl⟩⟩
 clear ho hY hw
 have KU:=zh KU0
 have KN:=zh (fun (W:World)=>rnew2 u W)
 have K:=zh hK
 have HW0:=zh hW0
 have HK0:=zh k0
 have HB0:=zh b0
 have HS0:=zh s0
 clear hW0 k0 b0 s0 hK hou hu hvv hs hv KU0
 go_enter Tryz.func46,Tryz.ntmps46
 go_wp2_with fail
 rw [←HW0.out]
 refine KU.out.mono ?_
 rintro q w1 ⟨rfl,b1⟩
 have HK1:Hid (w1.heap[w.heap.size]?=some (.cells (ec ezz) 28 (0,0))):=(b1.block _ (zgx HK0.out)).trans HK0.out
 have HB1:Hid (Below w.heap.size w w1):=HB0.out.trans (b1.mono HB0.out.size)
 have HS1:Hid (w.heap.size<w1.heap.size):=(zgx HK1.out)
 clear b1
 go_wp2_with fail
 refine (KN.out _).mono ?_
 rintro q w2 ⟨rfl,R2,b2,z2⟩
 obtain ⟨W3,hW3⟩:∃ W3,W3=w2.alloc (Obj.cells (ec ezz) 28):=⟨_,rfl⟩
 have bb:Below w2.heap.size w2 W3:=by rw [hW3];exact (Below.refl _ _).alloc (Nat.le_refl _) _
 have HR3:Hid (Rd 145 w1.heap.size u false W3):=R2.below bb R2.lt
 have b3:Below w1.heap.size w1 W3:=b2.trans (bb.mono b2.size)
 have HK3:Hid (W3.heap[w.heap.size]?=some (.cells (ec ezz) 28 (0,0))):=(b3.block _ HS1.out).trans HK1.out
 have HE3:Hid (W3.heap[w2.heap.size]?=some (.cells (ec ezz) 28 (0,0))):=by show _=_;rw [hW3];exact heap_alloc_new w2 _
 have HB3:Hid (Below w.heap.size w W3):=HB1.out.trans (b3.mono HB1.out.size)
 have HZ:Hid (w2.heap.size=w1.heap.size+1):=z2
 have HZ3:Hid (W3.heap.size=w2.heap.size+1):=by show _=_;rw [hW3];simp
 have HW3:=zh hW3
 clear R2 bb b3 b2 z2 hW3
 go_wp2_with fail
 rw [←HW3.out]
 refine (K.out _ _ HR3.out).mono ?_
 rintro q w4 ⟨rfl,R4,g4⟩
 have HR4:=zh R4
 have HK4:Hid (w4.heap[w.heap.size]?=some (.cells (ec ezz) 28 (0,0))):=(g4.block _ (zgx HK3.out) (by have:=HS1.out;simp;omega)).trans HK3.out
 have HE4:Hid (w4.heap[w2.heap.size]?=some (.cells (ec ezz) 28 (0,0))):=(g4.block _ (zgx HE3.out) (by have:=HZ.out;simp;omega)).trans HE3.out
 have HB4:Hid (Below w.heap.size w w4):=below_grownBy HB3.out g4 HB3.out.size (by have:=HS1.out;omega)
 clear R4 g4
 have z0:w4.cell? ⟨w2.heap.size,0,none⟩=some (.int .u64 0):=zcr w4 _ 0 _ 28 (0,0) HE4.out
 have z1:w4.cell? ⟨w2.heap.size,1,none⟩=some (.int .u64 0):=zcr w4 _ 1 _ 28 (0,0) HE4.out
 have z2:w4.cell? ⟨w2.heap.size,2,none⟩=some (.int .i64 0):=zcr w4 _ 2 _ 28 (0,0) HE4.out
 have z3:w4.cell? ⟨w2.heap.size,3,none⟩=some (.int .u64 0):=zcr w4 _ 3 _ 28 (0,0) HE4.out
 have z4:w4.cell? ⟨w2.heap.size,4,none⟩=some (.int .u64 0):=zcr w4 _ 4 _ 28 (0,0) HE4.out
 have z5:w4.cell? ⟨w2.heap.size,5,none⟩=some (.int .u64 0):=zcr w4 _ 5 _ 28 (0,0) HE4.out
 have z6:w4.cell? ⟨w2.heap.size,6,none⟩=some (.int .u64 0):=zcr w4 _ 6 _ 28 (0,0) HE4.out
 have z7:w4.cell? ⟨w2.heap.size,7,none⟩=some (.int .i64 0):=zcr w4 _ 7 _ 28 (0,0) HE4.out
 have z8:w4.cell? ⟨w2.heap.size,8,none⟩=some (.int .i64 0):=zcr w4 _ 8 _ 28 (0,0) HE4.out
 have z9:w4.cell? ⟨w2.heap.size,9,none⟩=some (.string ⟨#[]⟩):=zcr w4 _ 9 _ 28 (0,0) HE4.out
 have z10:w4.cell? ⟨w2.heap.size,10,none⟩=some (.string ⟨#[]⟩):=zcr w4 _ 10 _ 28 (0,0) HE4.out
 have fz:∀ i,w4.frozen? ⟨w2.heap.size,i,none⟩=false:=fun i=>Lib.frozen_of_heap HE4.out i
 go_upto_region 7 with fail
 obtain ⟨W5,hW5⟩:∃ W5,W5=wz w4 w2.heap.size X:=⟨_,rfl⟩
 have k5:W5.heap[w2.heap.size]?=some (.cells (ec X) 28 (0,0)):=by rw [hW5];exact store_all X HE4.out
 have HB5:Hid (Below w.heap.size w W5):=by rw [hW5];exact below_all X HB4.out (by have:=HS1.out;have:=HZ.out;omega)
 have key:∀ k,k≠w2.heap.size→W5.heap[k]?=w4.heap[k]?:=fun k hk=>by
  have hst:∀ (w:World) (i:Nat) (u:Value),(w.setCell ⟨w2.heap.size,i,none⟩ u).heap[k]?=w.heap[k]?:=fun w i u=>Below.heap_setCell w _ _ k (by simp;omega)
  rw [hW5]
  unfold wz
  rw [hst,hst,hst,hst,hst,hst,hst,hst,hst,hst,hst]
 have HK5:Hid (W5.heap[w.heap.size]?=some (.cells (ec ezz) 28 (0,0))):=(key _ (by have:=HS1.out;have:=HZ.out;omega)).trans HK4.out
 have HR5:Hid (W5.heap[w1.heap.size]?=w4.heap[w1.heap.size]?):=key _ (by have:=HZ.out;omega)
 have r0:W5.cell? ⟨w1.heap.size,0,none⟩=some (.string T):=(World.cell?_of_block HR5.out).trans HR4.out.cell0
 have r1:W5.cell? ⟨w1.heap.size,1,none⟩=some (.bool b):=(World.cell?_of_block HR5.out).trans HR4.out.cell1
 have HX5:=zh k5
 unfold wz at hW5
 rw [←hW5]
 clear hW5 k5 key z0 z1 z2 z3 z4 z5 z6 z7 z8 z9 z10 fz HK0 HK1 HK3 HK4 HE3 HE4 HR3 HR4 HR5 HB0 HB1 HB3 HB4
 have z0:W5.cell? ⟨w.heap.size,0,none⟩=some (.int .u64 0):=zcr W5 _ 0 _ 28 (0,0) HK5.out
 have z1:W5.cell? ⟨w.heap.size,1,none⟩=some (.int .u64 0):=zcr W5 _ 1 _ 28 (0,0) HK5.out
 have z2:W5.cell? ⟨w.heap.size,2,none⟩=some (.int .i64 0):=zcr W5 _ 2 _ 28 (0,0) HK5.out
 have z3:W5.cell? ⟨w.heap.size,3,none⟩=some (.int .u64 0):=zcr W5 _ 3 _ 28 (0,0) HK5.out
 have z4:W5.cell? ⟨w.heap.size,4,none⟩=some (.int .u64 0):=zcr W5 _ 4 _ 28 (0,0) HK5.out
 have z5:W5.cell? ⟨w.heap.size,5,none⟩=some (.int .u64 0):=zcr W5 _ 5 _ 28 (0,0) HK5.out
 have z6:W5.cell? ⟨w.heap.size,6,none⟩=some (.int .u64 0):=zcr W5 _ 6 _ 28 (0,0) HK5.out
 have z7:W5.cell? ⟨w.heap.size,7,none⟩=some (.int .i64 0):=zcr W5 _ 7 _ 28 (0,0) HK5.out
 have z8:W5.cell? ⟨w.heap.size,8,none⟩=some (.int .i64 0):=zcr W5 _ 8 _ 28 (0,0) HK5.out
 have z9:W5.cell? ⟨w.heap.size,9,none⟩=some (.string ⟨#[]⟩):=zcr W5 _ 9 _ 28 (0,0) HK5.out
 have z10:W5.cell? ⟨w.heap.size,10,none⟩=some (.string ⟨#[]⟩):=zcr W5 _ 10 _ 28 (0,0) HK5.out
 have x0:W5.cell? ⟨w2.heap.size,0,none⟩=some (.int .u64 X.term):=zcr W5 _ 0 _ 28 (0,0) HX5.out
 have x1:W5.cell? ⟨w2.heap.size,1,none⟩=some (.int .u64 X.index):=zcr W5 _ 1 _ 28 (0,0) HX5.out
 have x2:W5.cell? ⟨w2.heap.size,2,none⟩=some (.int .i64 X.kind):=zcr W5 _ 2 _ 28 (0,0) HX5.out
 have x3:W5.cell? ⟨w2.heap.size,3,none⟩=some (.int .u64 X.client):=zcr W5 _ 3 _ 28 (0,0) HX5.out
 have x4:W5.cell? ⟨w2.heap.size,4,none⟩=some (.int .u64 X.seq):=zcr W5 _ 4 _ 28 (0,0) HX5.out
 have x5:W5.cell? ⟨w2.heap.size,5,none⟩=some (.int .u64 X.block):=zcr W5 _ 5 _ 28 (0,0) HX5.out
 have x6:W5.cell? ⟨w2.heap.size,6,none⟩=some (.int .u64 X.many):=zcr W5 _ 6 _ 28 (0,0) HX5.out
 have x7:W5.cell? ⟨w2.heap.size,7,none⟩=some (.int .i64 X.node):=zcr W5 _ 7 _ 28 (0,0) HX5.out
 have x8:W5.cell? ⟨w2.heap.size,8,none⟩=some (.int .i64 X.level):=zcr W5 _ 8 _ 28 (0,0) HX5.out
 have x9:W5.cell? ⟨w2.heap.size,9,none⟩=some (.string X.data):=zcr W5 _ 9 _ 28 (0,0) HX5.out
 have x10:W5.cell? ⟨w2.heap.size,10,none⟩=some (.string X.old):=zcr W5 _ 10 _ 28 (0,0) HX5.out
 have fz:∀ i,W5.frozen? ⟨w.heap.size,i,none⟩=false:=fun i=>Lib.frozen_of_heap HK5.out i
 cases ou with
 | false =>
   have ha:=True.intro
   go_wp2
   obtain ⟨WF,hWF⟩:∃ WF,WF=wz W5 w.heap.size ezz:=⟨_,rfl⟩
   have HBK:Hid (WF.heap[w.heap.size]?=some (.cells (ec ezz) 28 (0,0))):=by
    show _=_
    rw [hWF]
    exact store_all ezz HK5.out
   have HBF:Hid (Below w.heap.size w WF):=by rw [hWF];exact below_all ezz HB5.out (Nat.le_refl _)
   unfold wz at hWF
   rw [←hWF]
   have f0:WF.cell? ⟨w.heap.size,0,none⟩=some (.int .u64 0):=zcr WF _ 0 _ 28 (0,0) HBK.out
   have f1:WF.cell? ⟨w.heap.size,1,none⟩=some (.int .u64 0):=zcr WF _ 1 _ 28 (0,0) HBK.out
   have f2:WF.cell? ⟨w.heap.size,2,none⟩=some (.int .i64 0):=zcr WF _ 2 _ 28 (0,0) HBK.out
   have f3:WF.cell? ⟨w.heap.size,3,none⟩=some (.int .u64 0):=zcr WF _ 3 _ 28 (0,0) HBK.out
   have f4:WF.cell? ⟨w.heap.size,4,none⟩=some (.int .u64 0):=zcr WF _ 4 _ 28 (0,0) HBK.out
   have f5:WF.cell? ⟨w.heap.size,5,none⟩=some (.int .u64 0):=zcr WF _ 5 _ 28 (0,0) HBK.out
   have f6:WF.cell? ⟨w.heap.size,6,none⟩=some (.int .u64 0):=zcr WF _ 6 _ 28 (0,0) HBK.out
   have f7:WF.cell? ⟨w.heap.size,7,none⟩=some (.int .i64 0):=zcr WF _ 7 _ 28 (0,0) HBK.out
   have f8:WF.cell? ⟨w.heap.size,8,none⟩=some (.int .i64 0):=zcr WF _ 8 _ 28 (0,0) HBK.out
   have f9:WF.cell? ⟨w.heap.size,9,none⟩=some (.string ⟨#[]⟩):=zcr WF _ 9 _ 28 (0,0) HBK.out
   have f10:WF.cell? ⟨w.heap.size,10,none⟩=some (.string ⟨#[]⟩):=zcr WF _ 10 _ 28 (0,0) HBK.out
   exact bodyPost_ret (v:=.tuple #[ev ezz,.int .i64 0,.bool false]) (by simp [results,Tryz.results46,go_sem,f0,f1,f2,f3,f4,f5,f6,f7,f8,f9,f10]) rfl ⟨by have ho:o=false:=HO.out.trans (by simp [whO,ha]);obtain ⟨hY,hw⟩:=HD.out.2 ho;rw [ho,hY,hw],HBF.out⟩
 | true =>
   cases b with
   | true =>
     have ha:=True.intro
     go_wp2
     obtain ⟨WF,hWF⟩:∃ WF,WF=wz W5 w.heap.size ezz:=⟨_,rfl⟩
     have HBK:Hid (WF.heap[w.heap.size]?=some (.cells (ec ezz) 28 (0,0))):=by
      show _=_
      rw [hWF]
      exact store_all ezz HK5.out
     have HBF:Hid (Below w.heap.size w WF):=by rw [hWF];exact below_all ezz HB5.out (Nat.le_refl _)
     unfold wz at hWF
     rw [←hWF]
     have f0:WF.cell? ⟨w.heap.size,0,none⟩=some (.int .u64 0):=zcr WF _ 0 _ 28 (0,0) HBK.out
     have f1:WF.cell? ⟨w.heap.size,1,none⟩=some (.int .u64 0):=zcr WF _ 1 _ 28 (0,0) HBK.out
     have f2:WF.cell? ⟨w.heap.size,2,none⟩=some (.int .i64 0):=zcr WF _ 2 _ 28 (0,0) HBK.out
     have f3:WF.cell? ⟨w.heap.size,3,none⟩=some (.int .u64 0):=zcr WF _ 3 _ 28 (0,0) HBK.out
     have f4:WF.cell? ⟨w.heap.size,4,none⟩=some (.int .u64 0):=zcr WF _ 4 _ 28 (0,0) HBK.out
     have f5:WF.cell? ⟨w.heap.size,5,none⟩=some (.int .u64 0):=zcr WF _ 5 _ 28 (0,0) HBK.out
     have f6:WF.cell? ⟨w.heap.size,6,none⟩=some (.int .u64 0):=zcr WF _ 6 _ 28 (0,0) HBK.out
     have f7:WF.cell? ⟨w.heap.size,7,none⟩=some (.int .i64 0):=zcr WF _ 7 _ 28 (0,0) HBK.out
     have f8:WF.cell? ⟨w.heap.size,8,none⟩=some (.int .i64 0):=zcr WF _ 8 _ 28 (0,0) HBK.out
     have f9:WF.cell? ⟨w.heap.size,9,none⟩=some (.string ⟨#[]⟩):=zcr WF _ 9 _ 28 (0,0) HBK.out
     have f10:WF.cell? ⟨w.heap.size,10,none⟩=some (.string ⟨#[]⟩):=zcr WF _ 10 _ 28 (0,0) HBK.out
     exact bodyPost_ret (v:=.tuple #[ev ezz,.int .i64 0,.bool false]) (by simp [results,Tryz.results46,go_sem,f0,f1,f2,f3,f4,f5,f6,f7,f8,f9,f10]) rfl ⟨by have ho:o=false:=HO.out.trans (by simp [whO,ha]);obtain ⟨hY,hw⟩:=HD.out.2 ho;rw [ho,hY,hw],HBF.out⟩
   | false =>
     by_cases ha:T.size=0
     ·have hT:=ba_nil ha
      subst hT
      go_wp2
      obtain ⟨WF,hWF⟩:∃ WF,WF=wz W5 w.heap.size X:=⟨_,rfl⟩
      have HBK:Hid (WF.heap[w.heap.size]?=some (.cells (ec X) 28 (0,0))):=by
       show _=_
       rw [hWF]
       exact store_all X HK5.out
      have HBF:Hid (Below w.heap.size w WF):=by rw [hWF];exact below_all X HB5.out (Nat.le_refl _)
      unfold wz at hWF
      rw [←hWF]
      have f0:WF.cell? ⟨w.heap.size,0,none⟩=some (.int .u64 X.term):=zcr WF _ 0 _ 28 (0,0) HBK.out
      have f1:WF.cell? ⟨w.heap.size,1,none⟩=some (.int .u64 X.index):=zcr WF _ 1 _ 28 (0,0) HBK.out
      have f2:WF.cell? ⟨w.heap.size,2,none⟩=some (.int .i64 X.kind):=zcr WF _ 2 _ 28 (0,0) HBK.out
      have f3:WF.cell? ⟨w.heap.size,3,none⟩=some (.int .u64 X.client):=zcr WF _ 3 _ 28 (0,0) HBK.out
      have f4:WF.cell? ⟨w.heap.size,4,none⟩=some (.int .u64 X.seq):=zcr WF _ 4 _ 28 (0,0) HBK.out
      have f5:WF.cell? ⟨w.heap.size,5,none⟩=some (.int .u64 X.block):=zcr WF _ 5 _ 28 (0,0) HBK.out
      have f6:WF.cell? ⟨w.heap.size,6,none⟩=some (.int .u64 X.many):=zcr WF _ 6 _ 28 (0,0) HBK.out
      have f7:WF.cell? ⟨w.heap.size,7,none⟩=some (.int .i64 X.node):=zcr WF _ 7 _ 28 (0,0) HBK.out
      have f8:WF.cell? ⟨w.heap.size,8,none⟩=some (.int .i64 X.level):=zcr WF _ 8 _ 28 (0,0) HBK.out
      have f9:WF.cell? ⟨w.heap.size,9,none⟩=some (.string X.data):=zcr WF _ 9 _ 28 (0,0) HBK.out
      have f10:WF.cell? ⟨w.heap.size,10,none⟩=some (.string X.old):=zcr WF _ 10 _ 28 (0,0) HBK.out
      exact bodyPost_ret (v:=.tuple #[ev X,.int .i64 v,.bool true]) (by simp [results,Tryz.results46,go_sem,f0,f1,f2,f3,f4,f5,f6,f7,f8,f9,f10]) rfl ⟨by have ho:o=true:=HO.out.trans (by simp [whO,ha]);obtain ⟨hY,hw⟩:=HD.out.1 ho;rw [ho,hY,hw],HBF.out⟩
     ·have hne:=ba_some ha
      go_wp2
      obtain ⟨WF,hWF⟩:∃ WF,WF=wz W5 w.heap.size ezz:=⟨_,rfl⟩
      have HBK:Hid (WF.heap[w.heap.size]?=some (.cells (ec ezz) 28 (0,0))):=by
       show _=_
       rw [hWF]
       exact store_all ezz HK5.out
      have HBF:Hid (Below w.heap.size w WF):=by rw [hWF];exact below_all ezz HB5.out (Nat.le_refl _)
      unfold wz at hWF
      rw [←hWF]
      have f0:WF.cell? ⟨w.heap.size,0,none⟩=some (.int .u64 0):=zcr WF _ 0 _ 28 (0,0) HBK.out
      have f1:WF.cell? ⟨w.heap.size,1,none⟩=some (.int .u64 0):=zcr WF _ 1 _ 28 (0,0) HBK.out
      have f2:WF.cell? ⟨w.heap.size,2,none⟩=some (.int .i64 0):=zcr WF _ 2 _ 28 (0,0) HBK.out
      have f3:WF.cell? ⟨w.heap.size,3,none⟩=some (.int .u64 0):=zcr WF _ 3 _ 28 (0,0) HBK.out
      have f4:WF.cell? ⟨w.heap.size,4,none⟩=some (.int .u64 0):=zcr WF _ 4 _ 28 (0,0) HBK.out
      have f5:WF.cell? ⟨w.heap.size,5,none⟩=some (.int .u64 0):=zcr WF _ 5 _ 28 (0,0) HBK.out
      have f6:WF.cell? ⟨w.heap.size,6,none⟩=some (.int .u64 0):=zcr WF _ 6 _ 28 (0,0) HBK.out
      have f7:WF.cell? ⟨w.heap.size,7,none⟩=some (.int .i64 0):=zcr WF _ 7 _ 28 (0,0) HBK.out
      have f8:WF.cell? ⟨w.heap.size,8,none⟩=some (.int .i64 0):=zcr WF _ 8 _ 28 (0,0) HBK.out
      have f9:WF.cell? ⟨w.heap.size,9,none⟩=some (.string ⟨#[]⟩):=zcr WF _ 9 _ 28 (0,0) HBK.out
      have f10:WF.cell? ⟨w.heap.size,10,none⟩=some (.string ⟨#[]⟩):=zcr WF _ 10 _ 28 (0,0) HBK.out
      exact bodyPost_ret (v:=.tuple #[ev ezz,.int .i64 0,.bool false]) (by simp [results,Tryz.results46,go_sem,f0,f1,f2,f3,f4,f5,f6,f7,f8,f9,f10]) rfl ⟨by have ho:o=false:=HO.out.trans (by simp [whO,ha]);obtain ⟨hY,hw⟩:=HD.out.2 ho;rw [ho,hY,hw],HBF.out⟩
theorem rGetE1_any (s:ByteArray) (X:En) (T:ByteArray) (b:Bool) (w:World) (hs:s.size≤140737488351232) (hv:uV s≠2)
 (hK:∀ g W,Rd 145 g (uB s) false W→Calls Tryz.prog 94 #[.pointer (some ⟨g,0,none⟩)] W fun q w'=>q=.returned (ev X)∧Rd 145 g T b w'∧W.grownBy w' (some g)) :
 Calls Tryz.prog 46 #[.string s] w fun q w'=>q=.returned (.tuple #[ev (if rgO s b T then X else ezz),.int .i64 (if rgO s b T then uV s else 0),.bool (rgO s b T)])∧Below w.heap.size w w':=by
 obtain ⟨W0,hW0⟩:∃ W0,W0=w.alloc (Obj.cells (ec ezz) 28):=⟨_,rfl⟩
 have b0:Below w.heap.size w W0:=by rw [hW0];exact (Below.refl _ _).alloc (Nat.le_refl _) _
 have k0:W0.heap[w.heap.size]?=some (.cells (ec ezz) 28 (0,0)):=by rw [hW0];exact heap_alloc_new w _
 have s0:W0.heap.size=w.heap.size+1:=by rw [hW0];simp
 have KU0:=runpack_any s W0 (by omega)
 have hr:rgO s b T=(uO s&&whO b T):=rfl
 rw [hr]
 clear hr
 obtain ⟨ou,hou⟩:∃ ou,ou=uO s:=⟨_,rfl⟩
 obtain ⟨u,hu⟩:∃ u,u=uB s:=⟨_,rfl⟩
 obtain ⟨v,hvv⟩:∃ v,v=uV s:=⟨_,rfl⟩
 rw [←hou] at KU0 ⊢
 rw [←hu] at KU0 hK
 rw [←hvv] at KU0 hv ⊢
 have hv2:(v==2)=false:=by simpa using hv
 obtain ⟨o,ho⟩:∃ o,o=(ou&&whO b T):=⟨_,rfl⟩
 rw [←ho]
 obtain ⟨Y,hY⟩:∃ Y,Y=if o=true then X else ezz:=⟨_,rfl⟩
 obtain ⟨vv,hw⟩:∃ vv:Int,vv=if o=true then v else 0:=⟨_,rfl⟩
 rw [←hY,←hw]
 have HO:=zh ho
 have HD:Hid ((o=true→Y=X∧vv=v)∧(o=false→Y=ezz∧vv=0)):=⟨fun h=>⟨by rw [hY,if_pos h],by rw [hw,if_pos h]⟩,fun h=>⟨by rw [hY,h];rfl,by rw [hw,h];rfl⟩⟩
 clear ho hY hw
 have KU:=zh KU0
 have KN:=zh (fun (W:World)=>rnew2 u W)
 have K:=zh hK
 have HW0:=zh hW0
 have HK0:=zh k0
 have HB0:=zh b0
 have HS0:=zh s0
 clear hW0 k0 b0 s0 hK hou hu hvv hs hv KU0
 go_enter Tryz.func46,Tryz.ntmps46
 go_wp2_with fail
 rw [←HW0.out]
 refine KU.out.mono ?_
 rintro q w1 ⟨rfl,b1⟩
 have HK1:Hid (w1.heap[w.heap.size]?=some (.cells (ec ezz) 28 (0,0))):=(b1.block _ (zgx HK0.out)).trans HK0.out
 have HB1:Hid (Below w.heap.size w w1):=HB0.out.trans (b1.mono HB0.out.size)
 have HS1:Hid (w.heap.size<w1.heap.size):=(zgx HK1.out)
 clear b1
 go_wp2_with fail
 refine (KN.out _).mono ?_
 rintro q w2 ⟨rfl,R2,b2,z2⟩
 obtain ⟨W3,hW3⟩:∃ W3,W3=w2.alloc (Obj.cells (ec ezz) 28):=⟨_,rfl⟩
 have bb:Below w2.heap.size w2 W3:=by rw [hW3];exact (Below.refl _ _).alloc (Nat.le_refl _) _
 have HR3:Hid (Rd 145 w1.heap.size u false W3):=R2.below bb R2.lt
 have b3:Below w1.heap.size w1 W3:=b2.trans (bb.mono b2.size)
 have HK3:Hid (W3.heap[w.heap.size]?=some (.cells (ec ezz) 28 (0,0))):=(b3.block _ HS1.out).trans HK1.out
 have HE3:Hid (W3.heap[w2.heap.size]?=some (.cells (ec ezz) 28 (0,0))):=by show _=_;rw [hW3];exact heap_alloc_new w2 _
 have HB3:Hid (Below w.heap.size w W3):=HB1.out.trans (b3.mono HB1.out.size)
 have HZ:Hid (w2.heap.size=w1.heap.size+1):=z2
 have HZ3:Hid (W3.heap.size=w2.heap.size+1):=by show _=_;rw [hW3];simp
 have HW3:=zh hW3
 clear R2 bb b3 b2 z2 hW3
 go_wp2_with fail
 rw [←HW3.out]
 refine (K.out _ _ HR3.out).mono ?_
 rintro q w4 ⟨rfl,R4,g4⟩
 have HR4:=zh R4
 have HK4:Hid (w4.heap[w.heap.size]?=some (.cells (ec ezz) 28 (0,0))):=(g4.block _ (zgx HK3.out) (by have:=HS1.out;simp;omega)).trans HK3.out
 have HE4:Hid (w4.heap[w2.heap.size]?=some (.cells (ec ezz) 28 (0,0))):=(g4.block _ (zgx HE3.out) (by have:=HZ.out;simp;omega)).trans HE3.out
 have HB4:Hid (Below w.heap.size w w4):=below_grownBy HB3.out g4 HB3.out.size (by have:=HS1.out;omega)
 clear R4 g4
 have z0:w4.cell? ⟨w2.heap.size,0,none⟩=some (.int .u64 0):=zcr w4 _ 0 _ 28 (0,0) HE4.out
 have z1:w4.cell? ⟨w2.heap.size,1,none⟩=some (.int .u64 0):=zcr w4 _ 1 _ 28 (0,0) HE4.out
 have z2:w4.cell? ⟨w2.heap.size,2,none⟩=some (.int .i64 0):=zcr w4 _ 2 _ 28 (0,0) HE4.out
 have z3:w4.cell? ⟨w2.heap.size,3,none⟩=some (.int .u64 0):=zcr w4 _ 3 _ 28 (0,0) HE4.out
 have z4:w4.cell? ⟨w2.heap.size,4,none⟩=some (.int .u64 0):=zcr w4 _ 4 _ 28 (0,0) HE4.out
 have z5:w4.cell? ⟨w2.heap.size,5,none⟩=some (.int .u64 0):=zcr w4 _ 5 _ 28 (0,0) HE4.out
 have z6:w4.cell? ⟨w2.heap.size,6,none⟩=some (.int .u64 0):=zcr w4 _ 6 _ 28 (0,0) HE4.out
 have z7:w4.cell? ⟨w2.heap.size,7,none⟩=some (.int .i64 0):=zcr w4 _ 7 _ 28 (0,0) HE4.out
 have z8:w4.cell? ⟨w2.heap.size,8,none⟩=some (.int .i64 0):=zcr w4 _ 8 _ 28 (0,0) HE4.out
 have z9:w4.cell? ⟨w2.heap.size,9,none⟩=some (.string ⟨#[]⟩):=zcr w4 _ 9 _ 28 (0,0) HE4.out
 have z10:w4.cell? ⟨w2.heap.size,10,none⟩=some (.string ⟨#[]⟩):=zcr w4 _ 10 _ 28 (0,0) HE4.out
 have fz:∀ i,w4.frozen? ⟨w2.heap.size,i,none⟩=false:=fun i=>Lib.frozen_of_heap HE4.out i
 go_upto_region 7 with fail
 obtain ⟨W5,hW5⟩:∃ W5,W5=wz w4 w2.heap.size X:=⟨_,rfl⟩
 have k5:W5.heap[w2.heap.size]?=some (.cells (ec X) 28 (0,0)):=by rw [hW5];exact store_all X HE4.out
 have HB5:Hid (Below w.heap.size w W5):=by rw [hW5];exact below_all X HB4.out (by have:=HS1.out;have:=HZ.out;omega)
 have key:∀ k,k≠w2.heap.size→W5.heap[k]?=w4.heap[k]?:=fun k hk=>by
  have hst:∀ (w:World) (i:Nat) (u:Value),(w.setCell ⟨w2.heap.size,i,none⟩ u).heap[k]?=w.heap[k]?:=fun w i u=>Below.heap_setCell w _ _ k (by simp;omega)
  rw [hW5]
  unfold wz
  rw [hst,hst,hst,hst,hst,hst,hst,hst,hst,hst,hst]
 have HK5:Hid (W5.heap[w.heap.size]?=some (.cells (ec ezz) 28 (0,0))):=(key _ (by have:=HS1.out;have:=HZ.out;omega)).trans HK4.out
 have HR5:Hid (W5.heap[w1.heap.size]?=w4.heap[w1.heap.size]?):=key _ (by have:=HZ.out;omega)
 have r0:W5.cell? ⟨w1.heap.size,0,none⟩=some (.string T):=(World.cell?_of_block HR5.out).trans HR4.out.cell0
 have r1:W5.cell? ⟨w1.heap.size,1,none⟩=some (.bool b):=(World.cell?_of_block HR5.out).trans HR4.out.cell1
 have HX5:=zh k5
 unfold wz at hW5
 rw [←hW5]
 clear hW5 k5 key z0 z1 z2 z3 z4 z5 z6 z7 z8 z9 z10 fz HK0 HK1 HK3 HK4 HE3 HE4 HR3 HR4 HR5 HB0 HB1 HB3 HB4
 have z0:W5.cell? ⟨w.heap.size,0,none⟩=some (.int .u64 0):=zcr W5 _ 0 _ 28 (0,0) HK5.out
 have z1:W5.cell? ⟨w.heap.size,1,none⟩=some (.int .u64 0):=zcr W5 _ 1 _ 28 (0,0) HK5.out
 have z2:W5.cell? ⟨w.heap.size,2,none⟩=some (.int .i64 0):=zcr W5 _ 2 _ 28 (0,0) HK5.out
 have z3:W5.cell? ⟨w.heap.size,3,none⟩=some (.int .u64 0):=zcr W5 _ 3 _ 28 (0,0) HK5.out
 have z4:W5.cell? ⟨w.heap.size,4,none⟩=some (.int .u64 0):=zcr W5 _ 4 _ 28 (0,0) HK5.out
 have z5:W5.cell? ⟨w.heap.size,5,none⟩=some (.int .u64 0):=zcr W5 _ 5 _ 28 (0,0) HK5.out
 have z6:W5.cell? ⟨w.heap.size,6,none⟩=some (.int .u64 0):=zcr W5 _ 6 _ 28 (0,0) HK5.out
 have z7:W5.cell? ⟨w.heap.size,7,none⟩=some (.int .i64 0):=zcr W5 _ 7 _ 28 (0,0) HK5.out
 have z8:W5.cell? ⟨w.heap.size,8,none⟩=some (.int .i64 0):=zcr W5 _ 8 _ 28 (0,0) HK5.out
 have z9:W5.cell? ⟨w.heap.size,9,none⟩=some (.string ⟨#[]⟩):=zcr W5 _ 9 _ 28 (0,0) HK5.out
 have z10:W5.cell? ⟨w.heap.size,10,none⟩=some (.string ⟨#[]⟩):=zcr W5 _ 10 _ 28 (0,0) HK5.out
 have x0:W5.cell? ⟨w2.heap.size,0,none⟩=some (.int .u64 X.term):=zcr W5 _ 0 _ 28 (0,0) HX5.out
 have x1:W5.cell? ⟨w2.heap.size,1,none⟩=some (.int .u64 X.index):=zcr W5 _ 1 _ 28 (0,0) HX5.out
 have x2:W5.cell? ⟨w2.heap.size,2,none⟩=some (.int .i64 X.kind):=zcr W5 _ 2 _ 28 (0,0) HX5.out
 have x3:W5.cell? ⟨w2.heap.size,3,none⟩=some (.int .u64 X.client):=zcr W5 _ 3 _ 28 (0,0) HX5.out
 have x4:W5.cell? ⟨w2.heap.size,4,none⟩=some (.int .u64 X.seq):=zcr W5 _ 4 _ 28 (0,0) HX5.out
 have x5:W5.cell? ⟨w2.heap.size,5,none⟩=some (.int .u64 X.block):=zcr W5 _ 5 _ 28 (0,0) HX5.out
 have x6:W5.cell? ⟨w2.heap.size,6,none⟩=some (.int .u64 X.many):=zcr W5 _ 6 _ 28 (0,0) HX5.out
 have x7:W5.cell? ⟨w2.heap.size,7,none⟩=some (.int .i64 X.node):=zcr W5 _ 7 _ 28 (0,0) HX5.out
 have x8:W5.cell? ⟨w2.heap.size,8,none⟩=some (.int .i64 X.level):=zcr W5 _ 8 _ 28 (0,0) HX5.out
 have x9:W5.cell? ⟨w2.heap.size,9,none⟩=some (.string X.data):=zcr W5 _ 9 _ 28 (0,0) HX5.out
 have x10:W5.cell? ⟨w2.heap.size,10,none⟩=some (.string X.old):=zcr W5 _ 10 _ 28 (0,0) HX5.out
 have fz:∀ i,W5.frozen? ⟨w.heap.size,i,none⟩=false:=fun i=>Lib.frozen_of_heap HK5.out i
 cases ou with
 | false =>
   have ha:=True.intro
   go_wp2
   obtain ⟨WF,hWF⟩:∃ WF,WF=wz W5 w.heap.size ezz:=⟨_,rfl⟩
   have HBK:Hid (WF.heap[w.heap.size]?=some (.cells (ec ezz) 28 (0,0))):=by
    show _=_
    rw [hWF]
    exact store_all ezz HK5.out
   have HBF:Hid (Below w.heap.size w WF):=by rw [hWF];exact below_all ezz HB5.out (Nat.le_refl _)
   unfold wz at hWF
   rw [←hWF]
   have f0:WF.cell? ⟨w.heap.size,0,none⟩=some (.int .u64 0):=zcr WF _ 0 _ 28 (0,0) HBK.out
   have f1:WF.cell? ⟨w.heap.size,1,none⟩=some (.int .u64 0):=zcr WF _ 1 _ 28 (0,0) HBK.out
   have f2:WF.cell? ⟨w.heap.size,2,none⟩=some (.int .i64 0):=zcr WF _ 2 _ 28 (0,0) HBK.out
   have f3:WF.cell? ⟨w.heap.size,3,none⟩=some (.int .u64 0):=zcr WF _ 3 _ 28 (0,0) HBK.out
   have f4:WF.cell? ⟨w.heap.size,4,none⟩=some (.int .u64 0):=zcr WF _ 4 _ 28 (0,0) HBK.out
   have f5:WF.cell? ⟨w.heap.size,5,none⟩=some (.int .u64 0):=zcr WF _ 5 _ 28 (0,0) HBK.out
   have f6:WF.cell? ⟨w.heap.size,6,none⟩=some (.int .u64 0):=zcr WF _ 6 _ 28 (0,0) HBK.out
   have f7:WF.cell? ⟨w.heap.size,7,none⟩=some (.int .i64 0):=zcr WF _ 7 _ 28 (0,0) HBK.out
   have f8:WF.cell? ⟨w.heap.size,8,none⟩=some (.int .i64 0):=zcr WF _ 8 _ 28 (0,0) HBK.out
   have f9:WF.cell? ⟨w.heap.size,9,none⟩=some (.string ⟨#[]⟩):=zcr WF _ 9 _ 28 (0,0) HBK.out
   have f10:WF.cell? ⟨w.heap.size,10,none⟩=some (.string ⟨#[]⟩):=zcr WF _ 10 _ 28 (0,0) HBK.out
   exact bodyPost_ret (v:=.tuple #[ev ezz,.int .i64 0,.bool false]) (by simp [results,Tryz.results46,go_sem,f0,f1,f2,f3,f4,f5,f6,f7,f8,f9,f10]) rfl ⟨by have ho:o=false:=HO.out.trans (by simp [whO,ha]);obtain ⟨hY,hw⟩:=HD.out.2 ho;rw [ho,hY,hw],HBF.out⟩
 | true =>
   cases b with
   | true =>
     have ha:=True.intro
     go_wp2
     obtain ⟨WF,hWF⟩:∃ WF,WF=wz W5 w.heap.size ezz:=⟨_,rfl⟩
     have HBK:Hid (WF.heap[w.heap.size]?=some (.cells (ec ezz) 28 (0,0))):=by
      show _=_
      rw [hWF]
      exact store_all ezz HK5.out
     have HBF:Hid (Below w.heap.size w WF):=by rw [hWF];exact below_all ezz HB5.out (Nat.le_refl _)
     unfold wz at hWF
     rw [←hWF]
     have f0:WF.cell? ⟨w.heap.size,0,none⟩=some (.int .u64 0):=zcr WF _ 0 _ 28 (0,0) HBK.out
     have f1:WF.cell? ⟨w.heap.size,1,none⟩=some (.int .u64 0):=zcr WF _ 1 _ 28 (0,0) HBK.out
     have f2:WF.cell? ⟨w.heap.size,2,none⟩=some (.int .i64 0):=zcr WF _ 2 _ 28 (0,0) HBK.out
     have f3:WF.cell? ⟨w.heap.size,3,none⟩=some (.int .u64 0):=zcr WF _ 3 _ 28 (0,0) HBK.out
     have f4:WF.cell? ⟨w.heap.size,4,none⟩=some (.int .u64 0):=zcr WF _ 4 _ 28 (0,0) HBK.out
     have f5:WF.cell? ⟨w.heap.size,5,none⟩=some (.int .u64 0):=zcr WF _ 5 _ 28 (0,0) HBK.out
     have f6:WF.cell? ⟨w.heap.size,6,none⟩=some (.int .u64 0):=zcr WF _ 6 _ 28 (0,0) HBK.out
     have f7:WF.cell? ⟨w.heap.size,7,none⟩=some (.int .i64 0):=zcr WF _ 7 _ 28 (0,0) HBK.out
     have f8:WF.cell? ⟨w.heap.size,8,none⟩=some (.int .i64 0):=zcr WF _ 8 _ 28 (0,0) HBK.out
     have f9:WF.cell? ⟨w.heap.size,9,none⟩=some (.string ⟨#[]⟩):=zcr WF _ 9 _ 28 (0,0) HBK.out
     have f10:WF.cell? ⟨w.heap.size,10,none⟩=some (.string ⟨#[]⟩):=zcr WF _ 10 _ 28 (0,0) HBK.out
     exact bodyPost_ret (v:=.tuple #[ev ezz,.int .i64 0,.bool false]) (by simp [results,Tryz.results46,go_sem,f0,f1,f2,f3,f4,f5,f6,f7,f8,f9,f10]) rfl ⟨by have ho:o=false:=HO.out.trans (by simp [whO,ha]);obtain ⟨hY,hw⟩:=HD.out.2 ho;rw [ho,hY,hw],HBF.out⟩
   | false =>
     by_cases ha:T.size=0
     ·have hT:=ba_nil ha
      subst hT
      go_wp2
      obtain ⟨WF,hWF⟩:∃ WF,WF=wz W5 w.heap.size X:=⟨_,rfl⟩
      have HBK:Hid (WF.heap[w.heap.size]?=some (.cells (ec X) 28 (0,0))):=by
       show _=_
       rw [hWF]
       exact store_all X HK5.out
      have HBF:Hid (Below w.heap.size w WF):=by rw [hWF];exact below_all X HB5.out (Nat.le_refl _)
      unfold wz at hWF
      rw [←hWF]
      have f0:WF.cell? ⟨w.heap.size,0,none⟩=some (.int .u64 X.term):=zcr WF _ 0 _ 28 (0,0) HBK.out
      have f1:WF.cell? ⟨w.heap.size,1,none⟩=some (.int .u64 X.index):=zcr WF _ 1 _ 28 (0,0) HBK.out
      have f2:WF.cell? ⟨w.heap.size,2,none⟩=some (.int .i64 X.kind):=zcr WF _ 2 _ 28 (0,0) HBK.out
      have f3:WF.cell? ⟨w.heap.size,3,none⟩=some (.int .u64 X.client):=zcr WF _ 3 _ 28 (0,0) HBK.out
      have f4:WF.cell? ⟨w.heap.size,4,none⟩=some (.int .u64 X.seq):=zcr WF _ 4 _ 28 (0,0) HBK.out
      have f5:WF.cell? ⟨w.heap.size,5,none⟩=some (.int .u64 X.block):=zcr WF _ 5 _ 28 (0,0) HBK.out
      have f6:WF.cell? ⟨w.heap.size,6,none⟩=some (.int .u64 X.many):=zcr WF _ 6 _ 28 (0,0) HBK.out
      have f7:WF.cell? ⟨w.heap.size,7,none⟩=some (.int .i64 X.node):=zcr WF _ 7 _ 28 (0,0) HBK.out
      have f8:WF.cell? ⟨w.heap.size,8,none⟩=some (.int .i64 X.level):=zcr WF _ 8 _ 28 (0,0) HBK.out
      have f9:WF.cell? ⟨w.heap.size,9,none⟩=some (.string X.data):=zcr WF _ 9 _ 28 (0,0) HBK.out
      have f10:WF.cell? ⟨w.heap.size,10,none⟩=some (.string X.old):=zcr WF _ 10 _ 28 (0,0) HBK.out
      exact bodyPost_ret (v:=.tuple #[ev X,.int .i64 v,.bool true]) (by simp [results,Tryz.results46,go_sem,f0,f1,f2,f3,f4,f5,f6,f7,f8,f9,f10]) rfl ⟨by have ho:o=true:=HO.out.trans (by simp [whO,ha]);obtain ⟨hY,hw⟩:=HD.out.1 ho;rw [ho,hY,hw],HBF.out⟩
     ·have hne:=ba_some ha
      go_wp2
      obtain ⟨WF,hWF⟩:∃ WF,WF=wz W5 w.heap.size ezz:=⟨_,rfl⟩
      have HBK:Hid (WF.heap[w.heap.size]?=some (.cells (ec ezz) 28 (0,0))):=by
       show _=_
       rw [hWF]
       exact store_all ezz HK5.out
      have HBF:Hid (Below w.heap.size w WF):=by rw [hWF];exact below_all ezz HB5.out (Nat.le_refl _)
      unfold wz at hWF
      rw [←hWF]
      have f0:WF.cell? ⟨w.heap.size,0,none⟩=some (.int .u64 0):=zcr WF _ 0 _ 28 (0,0) HBK.out
      have f1:WF.cell? ⟨w.heap.size,1,none⟩=some (.int .u64 0):=zcr WF _ 1 _ 28 (0,0) HBK.out
      have f2:WF.cell? ⟨w.heap.size,2,none⟩=some (.int .i64 0):=zcr WF _ 2 _ 28 (0,0) HBK.out
      have f3:WF.cell? ⟨w.heap.size,3,none⟩=some (.int .u64 0):=zcr WF _ 3 _ 28 (0,0) HBK.out
      have f4:WF.cell? ⟨w.heap.size,4,none⟩=some (.int .u64 0):=zcr WF _ 4 _ 28 (0,0) HBK.out
      have f5:WF.cell? ⟨w.heap.size,5,none⟩=some (.int .u64 0):=zcr WF _ 5 _ 28 (0,0) HBK.out
      have f6:WF.cell? ⟨w.heap.size,6,none⟩=some (.int .u64 0):=zcr WF _ 6 _ 28 (0,0) HBK.out
      have f7:WF.cell? ⟨w.heap.size,7,none⟩=some (.int .i64 0):=zcr WF _ 7 _ 28 (0,0) HBK.out
      have f8:WF.cell? ⟨w.heap.size,8,none⟩=some (.int .i64 0):=zcr WF _ 8 _ 28 (0,0) HBK.out
      have f9:WF.cell? ⟨w.heap.size,9,none⟩=some (.string ⟨#[]⟩):=zcr WF _ 9 _ 28 (0,0) HBK.out
      have f10:WF.cell? ⟨w.heap.size,10,none⟩=some (.string ⟨#[]⟩):=zcr WF _ 10 _ 28 (0,0) HBK.out
      exact bodyPost_ret (v:=.tuple #[ev ezz,.int .i64 0,.bool false]) (by simp [results,Tryz.results46,go_sem,f0,f1,f2,f3,f4,f5,f6,f7,f8,f9,f10]) rfl ⟨by have ho:o=false:=HO.out.trans (by simp [whO,ha]);obtain ⟨hY,hw⟩:=HD.out.2 ho;rw [ho,hY,hw],HBF.out⟩
end Go.Proofs.YtnobeoppffoomaaGreat
namespace Go.Proofs.YtnobeoppffoomaaGreat
open Go.RowKit
open Vi
theorem l5:hasL (mfl 5) 107=true:=by decide +kernel
theorem l6:hasL (mfl 6) 107=true:=by decide +kernel
end Go.Proofs.YtnobeoppffoomaaGreat
