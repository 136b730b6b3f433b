/-
  WalPlays: SGet6.
  Conditions: named in each theorem.
-/
import Derived.Test.YtnobeoppffoomaaGreatP25
import Derived.Test.YtnobeoppffoomaaGreatP26
import Derived.Test.YtnobeoppffoomaaGreatP0
set_option linter.unusedVariables false
set_option linter.unusedSimpArgs false
set_option maxHeartbeats 8000000
set_option maxRecDepth 100000
namespace Go.Proofs.YtnobeoppffoomaaGreat
open Go.RowKit
open Vi
theorem rightL_any (e:En) (w:World) (ok:e.OkL) :
 Calls Tryz.prog 106 #[ev e] w fun r w'=>r=.returned (.bool (rightB e))∧Below w.heap.size w w':=by
 have HO:=zh ok
 clear ok
 go_enter Tryz.func106,Tryz.ntmps106
 go_wp2_with (first
  | (go_at_call 131;refine (fields_any e.kind _).mono ?_;rintro r w' ⟨rfl,rfl⟩)
  | (go_at_call 132;refine (limits_any (fl e.kind) _).mono ?_;rintro r w' ⟨rfl,rfl⟩))
 obtain ⟨wr,hW⟩:∃ wr,wr=(w.alloc (Obj.cells (ec e) 28)).alloc (Obj.cells #[Value.string (fl e.kind)] 9):=⟨_,rfl⟩
 have hb:Below w.heap.size w wr:=by rw [hW];exact ((Below.refl _ _).alloc (Nat.le_refl _) _).alloc (by simp) _
 have hrow:∀ i,i<11→wr.cell? ⟨w.heap.size,i,none⟩=(ec e)[i]?:=fun i hi=>by
  rw [hW,World.cell?_alloc_lt _ _ _ (by simp),World.cell?_alloc_new]
 have c0:=hrow 0 (by omega)
 have c1:=hrow 1 (by omega)
 have c3:=hrow 3 (by omega)
 have c4:=hrow 4 (by omega)
 have c5:=hrow 5 (by omega)
 have c6:=hrow 6 (by omega)
 have c7:=hrow 7 (by omega)
 have c8:=hrow 8 (by omega)
 have c9:=hrow 9 (by omega)
 have c10:=hrow 10 (by omega)
 simp only [ec,List.getElem?_toArray,List.getElem?_cons_succ,List.getElem?_cons_zero] at c0 c1 c3 c4 c5 c6 c7 c8 c9 c10
 have cL:wr.cell? ⟨w.heap.size+1,0,none⟩=some (.string (fl e.kind)):=by
  have h:=World.cell?_alloc_new (w.alloc (Obj.cells (ec e) 28)) #[Value.string (fl e.kind)] 9 0
  rw [show (w.alloc (Obj.cells (ec e) 28)).heap.size=w.heap.size+1 by simp] at h
  rw [hW,h]
  rfl
 rw [←hW]
 have HW:=zh hW
 clear hW hrow
 have cLd:wr.drew.cell? ⟨w.heap.size+1,0,none⟩=some (.string (fl e.kind)):=cL
 go_region_held3 (fun w'=>w'.cell? ⟨w.heap.size,0,none⟩=some (.int .u64 e.term)∧w'.cell? ⟨w.heap.size,1,none⟩=some (.int .u64 e.index)∧w'.cell? ⟨w.heap.size,3,none⟩=some (.int .u64 e.client)∧w'.cell? ⟨w.heap.size,4,none⟩=some (.int .u64 e.seq)∧w'.cell? ⟨w.heap.size,5,none⟩=some (.int .u64 e.block)∧w'.cell? ⟨w.heap.size,6,none⟩=some (.int .u64 e.many)∧w'.cell? ⟨w.heap.size,7,none⟩=some (.int .i64 e.node)∧w'.cell? ⟨w.heap.size,8,none⟩=some (.int .i64 e.level)∧w'.cell? ⟨w.heap.size,9,none⟩=some (.string e.data)∧w'.cell? ⟨w.heap.size,10,none⟩=some (.string e.old)∧w'.cell? ⟨w.heap.size+1,0,none⟩=some (.string (fl e.kind)))
  (first|exact ⟨c0,c1,c3,c4,c5,c6,c7,c8,c9,c10,cL⟩|go_keep)
  (first
    | (go_at_call 170;(with_reducible refine (limit_rw (fl e.kind) _ _ _ _ _ _ (by omega) (by omega) cLd).mono ?_);rintro r w' ⟨rfl,rfl⟩)
    | (go_at_call 133;(with_reducible refine (all11 _ _ _ _ _ _ _ _ _ _ _ _).mono ?_);rintro r w' ⟨rfl,rfl⟩))
 all_goals
  have hR:Hid (rightB e=(fb e.kind&&(decide (1≤e.term)&&(decide (1≤e.index)&&(lim (fl e.kind) 99 e.client 1 18446744073709551615&&(lim (fl e.kind) 99 e.seq 0 18446744073709551615&&(lim (fl e.kind) 98 e.block 0 4294967295&&(lim (fl e.kind) 109 e.many 0 4294967295&&(lim (fl e.kind) 110 (IntKind.u64.wrap e.node) 1 7&&(lim (fl e.kind) 108 (IntKind.u64.wrap e.level) 1 2&&(lim (fl e.kind) 100 (IntKind.u64.wrap e.data.size) 0 64&&lim (fl e.kind) 111 (IntKind.u64.wrap e.old.size) 0 64))))))))))):=by
   show _=_
   unfold rightB asks
   simp only [List.all_cons,List.all_nil,id,Bool.and_true]
  have hbD:Below w.heap.size w (wr.alloc (Obj.cells #[Value.bool true] 4)):=hb.alloc hb.size _
  go_wp2
  go_ret
  refine ⟨ret_bool hR.out.symm,?_⟩
  exact ⟨hb.os,hb.tape,hb.output,by have:=hb.size;simp;omega,fun k hk=>(Below.heap_alloc wr _ k (Nat.lt_of_lt_of_le hk hb.size)).trans (hb.block k hk)⟩
theorem ret_pair_b {a b:ByteArray} {x y:Bool} (h:a=b) (k:x=y):Ending.returned (.tuple #[.string a,.bool x])=.returned (.tuple #[.string b,.bool y]):=by rw [h,k]
def putS_b (e:En):ByteArray:=if rightB e then sbE e else ⟨#[]⟩
def gO (s:ByteArray) (b:Bool):Bool:=!(eR s b).2.2&&rightB (eR s b).1
def gE (s:ByteArray) (b:Bool):En:=if gO s b then (eR s b).1 else ezz
def gT (s:ByteArray) (b:Bool):ByteArray:=if gO s b then (eR s b).2.1 else ⟨#[]⟩
theorem gO_no {s:ByteArray} {b:Bool} (h:gO s b=false):gE s b=ezz∧gT s b=⟨#[]⟩:=by
 unfold gE gT
 rw [h]
 exact ⟨rfl,rfl⟩
theorem gO_yes {s:ByteArray} {b:Bool} (h:gO s b=true):gE s b=(eR s b).1∧gT s b=(eR s b).2.1:=by
 unfold gE gT
 rw [h]
 exact ⟨rfl,rfl⟩
theorem putE_any (e:En) (w:World) (ok:e.Ok) :
 Calls Tryz.prog 79 #[ev e] w fun q w'=>q=.returned (.tuple #[.string (putS_b e),.bool (rightB e)])∧Below w.heap.size w w':=by
 obtain ⟨W0,hW0⟩:∃ W0,W0=w.alloc (Obj.cells (ec e) 28):=⟨_,rfl⟩
 have b0:Below w.heap.size w W0:=by rw [hW0];exact (Below.refl _ _).alloc (Nat.le_refl _) _
 have k0:W0.heap[w.heap.size]?=some (.cells (ec e) 28 (0,0)):=by rw [hW0];exact heap_alloc_new w _
 have HW:=zh hW0
 have HB:=zh b0
 have HK:=zh k0
 have KR:=zh (right_any e W0 ok)
 have HP:Hid (putS_b e=if rightB e then sbE e else ⟨#[]⟩):=rfl
 have HF:Hid (rightB e=true→Few_b e):=fun h=>few_of_b ok h
 have HOK:=zh ok
 obtain ⟨rb,hrb⟩:∃ rb,rb=rightB e:=⟨_,rfl⟩
 rw [←hrb] at KR HP HF ⊢
 clear hW0 b0 k0 ok hrb
 cases rb with
 | false =>
   have HE:Hid (putS_b e=⟨#[]⟩):=HP.out
   go_enter Tryz.func79,Tryz.ntmps79
   go_wp2_with fail
   rw [←HW.out]
   refine KR.out.mono ?_
   rintro q w1 ⟨rfl,b1⟩
   go_wp2
   go_ret2
   exact ⟨ret_pair_b HE.out.symm rfl,HB.out.trans (b1.mono HB.out.size)⟩
 | true =>
   have HE:Hid (putS_b e=sbE e):=HP.out
   have HFW:=zh (HF.out rfl)
   clear HP HF
   go_enter Tryz.func79,Tryz.ntmps79
   go_wp2_with fail
   rw [←HW.out]
   refine KR.out.mono ?_
   rintro q w1 ⟨rfl,b1⟩
   have HB1:Hid (Below w.heap.size w w1):=HB.out.trans (b1.mono HB.out.size)
   have HK1:Hid (w1.heap[w.heap.size]?=some (.cells (ec e) 28 (0,0))):=(b1.block _ (zgx HK.out)).trans HK.out
   clear b1 KR
   have c0:w1.cell? ⟨w.heap.size,0,none⟩=some (.int .u64 e.term):=zcr w1 _ 0 _ 28 (0,0) HK1.out
   have c1:w1.cell? ⟨w.heap.size,1,none⟩=some (.int .u64 e.index):=zcr w1 _ 1 _ 28 (0,0) HK1.out
   have c2:w1.cell? ⟨w.heap.size,2,none⟩=some (.int .i64 e.kind):=zcr w1 _ 2 _ 28 (0,0) HK1.out
   have c3:w1.cell? ⟨w.heap.size,3,none⟩=some (.int .u64 e.client):=zcr w1 _ 3 _ 28 (0,0) HK1.out
   have c4:w1.cell? ⟨w.heap.size,4,none⟩=some (.int .u64 e.seq):=zcr w1 _ 4 _ 28 (0,0) HK1.out
   have c5:w1.cell? ⟨w.heap.size,5,none⟩=some (.int .u64 e.block):=zcr w1 _ 5 _ 28 (0,0) HK1.out
   have c6:w1.cell? ⟨w.heap.size,6,none⟩=some (.int .u64 e.many):=zcr w1 _ 6 _ 28 (0,0) HK1.out
   have c7:w1.cell? ⟨w.heap.size,7,none⟩=some (.int .i64 e.node):=zcr w1 _ 7 _ 28 (0,0) HK1.out
   have c8:w1.cell? ⟨w.heap.size,8,none⟩=some (.int .i64 e.level):=zcr w1 _ 8 _ 28 (0,0) HK1.out
   have c9:w1.cell? ⟨w.heap.size,9,none⟩=some (.string e.data):=zcr w1 _ 9 _ 28 (0,0) HK1.out
   have c10:w1.cell? ⟨w.heap.size,10,none⟩=some (.string e.old):=zcr w1 _ 10 _ 28 (0,0) HK1.out
   have K32:Hid (∀ W,Below w1.heap.size w1 W→Calls Tryz.prog 108 #[] W fun q w'=>∃ b,q=.returned (.slice (some ⟨b,0,none⟩) 12 12)∧Flds b w'∧Below w.heap.size w w'∧w'.heap[w.heap.size]?=some (.cells (ec e) 28 (0,0))∧w'.cell? ⟨w.heap.size,0,none⟩=some (.int .u64 e.term)∧w'.cell? ⟨w.heap.size,1,none⟩=some (.int .u64 e.index)∧w'.cell? ⟨w.heap.size,2,none⟩=some (.int .i64 e.kind)∧w'.cell? ⟨w.heap.size,3,none⟩=some (.int .u64 e.client)∧w'.cell? ⟨w.heap.size,4,none⟩=some (.int .u64 e.seq)∧w'.cell? ⟨w.heap.size,5,none⟩=some (.int .u64 e.block)∧w'.cell? ⟨w.heap.size,6,none⟩=some (.int .u64 e.many)∧w'.cell? ⟨w.heap.size,7,none⟩=some (.int .i64 e.node)∧w'.cell? ⟨w.heap.size,8,none⟩=some (.int .i64 e.level)∧w'.cell? ⟨w.heap.size,9,none⟩=some (.string e.data)∧w'.cell? ⟨w.heap.size,10,none⟩=some (.string e.old)):=by
    intro W hW
    refine (fields_any2 W).mono ?_
    rintro q w' ⟨b,h1,h2,h3⟩
    have hb:Below w1.heap.size w1 w':=hW.trans (h3.mono hW.size)
    have hk:w'.heap[w.heap.size]?=some (.cells (ec e) 28 (0,0)):=(hb.block _ (zgx HK1.out)).trans HK1.out
    exact ⟨b,h1,h2,HB1.out.trans (hb.mono HB1.out.size),hk,zcr w' _ 0 _ 28 (0,0) hk,zcr w' _ 1 _ 28 (0,0) hk,zcr w' _ 2 _ 28 (0,0) hk,zcr w' _ 3 _ 28 (0,0) hk,zcr w' _ 4 _ 28 (0,0) hk,zcr w' _ 5 _ 28 (0,0) hk,zcr w' _ 6 _ 28 (0,0) hk,zcr w' _ 7 _ 28 (0,0) hk,zcr w' _ 8 _ 28 (0,0) hk,zcr w' _ 9 _ 28 (0,0) hk,zcr w' _ 10 _ 28 (0,0) hk⟩
   have K31:Hid (∀ (b:Nat) (W:World),Flds b W→Below w.heap.size w W→W.heap[w.heap.size]?=some (.cells (ec e) 28 (0,0))→Calls Tryz.prog 107 #[.slice (some ⟨b,0,none⟩) 12 12,ev e] W fun q w'=>q=.returned (.string (sbE e))∧Below w.heap.size w w'∧w'.cell? ⟨w.heap.size,0,none⟩=some (.int .u64 e.term)∧w'.cell? ⟨w.heap.size,1,none⟩=some (.int .u64 e.index)∧w'.cell? ⟨w.heap.size,2,none⟩=some (.int .i64 e.kind)∧w'.cell? ⟨w.heap.size,3,none⟩=some (.int .u64 e.client)∧w'.cell? ⟨w.heap.size,4,none⟩=some (.int .u64 e.seq)∧w'.cell? ⟨w.heap.size,5,none⟩=some (.int .u64 e.block)∧w'.cell? ⟨w.heap.size,6,none⟩=some (.int .u64 e.many)∧w'.cell? ⟨w.heap.size,7,none⟩=some (.int .i64 e.node)∧w'.cell? ⟨w.heap.size,8,none⟩=some (.int .i64 e.level)∧w'.cell? ⟨w.heap.size,9,none⟩=some (.string e.data)∧w'.cell? ⟨w.heap.size,10,none⟩=some (.string e.old)):=by
    intro b W h1 h2 hk
    refine (putFields_any b e W HOK.out HFW.out h1).mono fun q w' ⟨h3,h4⟩=>?_
    have hk2:w'.heap[w.heap.size]?=some (.cells (ec e) 28 (0,0)):=(h4.block _ (zgx hk)).trans hk
    exact ⟨h3,h2.trans (h4.mono h2.size),zcr w' _ 0 _ 28 (0,0) hk2,zcr w' _ 1 _ 28 (0,0) hk2,zcr w' _ 2 _ 28 (0,0) hk2,zcr w' _ 3 _ 28 (0,0) hk2,zcr w' _ 4 _ 28 (0,0) hk2,zcr w' _ 5 _ 28 (0,0) hk2,zcr w' _ 6 _ 28 (0,0) hk2,zcr w' _ 7 _ 28 (0,0) hk2,zcr w' _ 8 _ 28 (0,0) hk2,zcr w' _ 9 _ 28 (0,0) hk2,zcr w' _ 10 _ 28 (0,0) hk2⟩
   have bd:Below w1.heap.size w1 w1.drew:=(Below.refl _ w1).drew
   go_wp2_with fail
   go_region_held3 (fun w'=>w'.cell? ⟨w.heap.size,0,none⟩=some (.int .u64 e.term)∧w'.cell? ⟨w.heap.size,1,none⟩=some (.int .u64 e.index)∧w'.cell? ⟨w.heap.size,2,none⟩=some (.int .i64 e.kind)∧w'.cell? ⟨w.heap.size,3,none⟩=some (.int .u64 e.client)∧w'.cell? ⟨w.heap.size,4,none⟩=some (.int .u64 e.seq)∧w'.cell? ⟨w.heap.size,5,none⟩=some (.int .u64 e.block)∧w'.cell? ⟨w.heap.size,6,none⟩=some (.int .u64 e.many)∧w'.cell? ⟨w.heap.size,7,none⟩=some (.int .i64 e.node)∧w'.cell? ⟨w.heap.size,8,none⟩=some (.int .i64 e.level)∧w'.cell? ⟨w.heap.size,9,none⟩=some (.string e.data)∧w'.cell? ⟨w.heap.size,10,none⟩=some (.string e.old)) (first|exact ⟨c0,c1,c2,c3,c4,c5,c6,c7,c8,c9,c10⟩|(refine ⟨?_,?_,?_,?_,?_,?_,?_,?_,?_,?_,?_⟩<;>assumption)) (first
    | (go_at_call 108;(with_reducible refine (K32.out _ bd).mono ?_);rintro q w2 ⟨fb,rfl,hf,hb2,hk2,d0,d1,d2,d3,d4,d5,d6,d7,d8,d9,d10⟩)
    | (go_at_call 107;(with_reducible refine (K31.out _ _ hf hb2 hk2).mono ?_);rintro q w3 ⟨rfl,hb3,g0,g1,g2,g3,g4,g5,g6,g7,g8,g9,g10⟩))
   go_wp2_with fail
   go_ret2
   exact ⟨ret_pair_b HE.out.symm rfl,hb3⟩
theorem getEntry_any (fb g:Nat) (s:ByteArray) (bad:Bool) (w:World) (hF:Flds fb w) (h:Rd 225 g s bad w) (hm:s.size≤281474976710656) :
 Calls Tryz.prog 192 #[.slice (some ⟨fb,0,none⟩) 12 12,.pointer (some ⟨g,0,none⟩)] w fun e w'=>e=.returned (ev (gE s bad))∧Rd 225 g (gT s bad) (!gO s bad) w'∧w.grownBy w' (some g)∧Stab w w'∧(gT s bad).size≤281474976710656∧(gE s bad).OkL:=by
 have hlt:=h.lt
 obtain ⟨W0,hW0⟩:∃ W0,W0=w.alloc (Obj.cells (ec ezz) 28):=⟨_,rfl⟩
 have b0:Below w.heap.size w W0:=by rw [hW0];exact (Below.refl _ _).alloc (Nat.le_refl _) _
 have k0:W0.heap[w.heap.size]?=some (.cells (ec ezz) 28 (0,0)):=by rw [hW0];exact heap_alloc_new w _
 have KT:=zh (takeFields_any fb g s bad W0 (hF.on (Stab.below b0)) (h.below b0 hlt) hm)
 have HW:=zh hW0
 have HB:=zh b0
 have HK:=zh k0
 have HLT:=zh hlt
 have HG:Hid ((gO s bad=false→gE s bad=ezz∧gT s bad=⟨#[]⟩)∧(gO s bad=true→gE s bad=(eR s bad).1∧gT s bad=(eR s bad).2.1)):=⟨gO_no,gO_yes⟩
 have HO:Hid (gO s bad=(!(eR s bad).2.2&&rightB (eR s bad).1)):=rfl
 obtain ⟨E,hE⟩:∃ E,E=(eR s bad).1:=⟨_,rfl⟩
 obtain ⟨T,hT⟩:∃ T,T=(eR s bad).2.1:=⟨_,rfl⟩
 obtain ⟨bf,hbf⟩:∃ bf,bf=(eR s bad).2.2:=⟨_,rfl⟩
 rw [←hE,←hT] at HG
 rw [←hE,←hbf] at HO
 rw [←hE,←hT,←hbf] at KT
 obtain ⟨go,hgo⟩:∃ go,go=gO s bad:=⟨_,rfl⟩
 rw [←hgo] at HG HO ⊢
 obtain ⟨GE,hGE⟩:∃ GE,GE=gE s bad:=⟨_,rfl⟩
 obtain ⟨GT,hGT⟩:∃ GT,GT=gT s bad:=⟨_,rfl⟩
 rw [←hGE,←hGT] at HG ⊢
 clear hW0 b0 k0 hlt hF h hm hE hT hbf hgo hGE hGT
 go_enter Tryz.func192,Tryz.ntmps192
 go_wp2_with fail
 rw [←HW.out]
 refine KT.out.mono ?_
 rintro q w1 ⟨rfl,R1,g1,s1,z1,ok1⟩
 have hlt2:w.heap.size<W0.heap.size:=(zgx HK.out)
 have HK1:Hid (w1.heap[w.heap.size]?=some (.cells (ec ezz) 28 (0,0))):=(g1.block _ hlt2 (by have:=HLT.out;simp;omega)).trans HK.out
 have HG1:Hid (w.grownBy w1 (some g)):=⟨g1.os.trans HB.out.os,g1.tape.trans HB.out.tape,g1.output.trans HB.out.output,Nat.le_trans HB.out.size g1.size,fun i hi hne=>(g1.block i (by omega) hne).trans (HB.out.block i hi)⟩
 have HS1:Hid (Stab w w1):=(Stab.below HB.out).trans s1
 obtain ⟨W2,hW2⟩:∃ W2,W2=w1.alloc (Obj.cells (ec E) 28):=⟨_,rfl⟩
 have b2:Below w1.heap.size w1 W2:=by rw [hW2];exact (Below.refl _ _).alloc (Nat.le_refl _) _
 have HR2:Hid (Rd 225 g T bf W2):=R1.below b2 R1.lt
 have HK2:Hid (W2.heap[w.heap.size]?=some (.cells (ec ezz) 28 (0,0))):=(b2.block _ (zgx HK1.out)).trans HK1.out
 have HE2:Hid (W2.heap[w1.heap.size]?=some (.cells (ec E) 28 (0,0))):=by show _=_;rw [hW2];exact heap_alloc_new w1 _
 have HG2:Hid (w.grownBy W2 (some g)):=gb_below_b HG1.out b2
 have HS2:Hid (Stab w W2):=HS1.out.trans (Stab.below b2)
 have HW2:=zh hW2
 have HZ1:=zh z1
 have HOK1:=zh ok1
 have KO:=zh (ok_any g T bf W2 HR2.out)
 have KR:=zh (rightL_any E W2 ok1)
 clear R1 g1 s1 z1 ok1 hlt2 hW2 b2 KT HK1 HG1 HS1
 cases bf with
 | true =>
   have hgo:go=false:=HO.out
   subst hgo
   have HGF:=zh (HG.out.1 rfl)
   clear HG HO
   go_wp2_with fail
   rw [←HW2.out]
   refine KO.out.mono ?_
   rintro q w3 ⟨rfl,rfl⟩
   go_wp2_with fail
   refine (fail_any g T _ W2 HR2.out).mono ?_
   rintro q w5 ⟨rfl,R5,g5⟩
   have HR5:=zh R5
   have HK5:Hid (w5.heap[w.heap.size]?=some (.cells (ec ezz) 28 (0,0))):=(g5.block _ (zgx HK2.out) (by have:=HLT.out;simp;omega)).trans HK2.out
   have HG5:Hid (w.grownBy w5 (some g)):=HG2.out.trans g5
   have HS5:Hid (Stab w w5):=HS2.out.trans (Stab.grown g5 HR2.out (.inr (.inl rfl)))
   clear R5 g5
   have z0:w5.cell? ⟨w.heap.size,0,none⟩=some (.int .u64 0):=zcr w5 _ 0 _ 28 (0,0) HK5.out
   have z1:w5.cell? ⟨w.heap.size,1,none⟩=some (.int .u64 0):=zcr w5 _ 1 _ 28 (0,0) HK5.out
   have z2:w5.cell? ⟨w.heap.size,2,none⟩=some (.int .i64 0):=zcr w5 _ 2 _ 28 (0,0) HK5.out
   have z3:w5.cell? ⟨w.heap.size,3,none⟩=some (.int .u64 0):=zcr w5 _ 3 _ 28 (0,0) HK5.out
   have z4:w5.cell? ⟨w.heap.size,4,none⟩=some (.int .u64 0):=zcr w5 _ 4 _ 28 (0,0) HK5.out
   have z5:w5.cell? ⟨w.heap.size,5,none⟩=some (.int .u64 0):=zcr w5 _ 5 _ 28 (0,0) HK5.out
   have z6:w5.cell? ⟨w.heap.size,6,none⟩=some (.int .u64 0):=zcr w5 _ 6 _ 28 (0,0) HK5.out
   have z7:w5.cell? ⟨w.heap.size,7,none⟩=some (.int .i64 0):=zcr w5 _ 7 _ 28 (0,0) HK5.out
   have z8:w5.cell? ⟨w.heap.size,8,none⟩=some (.int .i64 0):=zcr w5 _ 8 _ 28 (0,0) HK5.out
   have z9:w5.cell? ⟨w.heap.size,9,none⟩=some (.string ⟨#[]⟩):=zcr w5 _ 9 _ 28 (0,0) HK5.out
   have z10:w5.cell? ⟨w.heap.size,10,none⟩=some (.string ⟨#[]⟩):=zcr w5 _ 10 _ 28 (0,0) HK5.out
   have fz:∀ i,w5.frozen? ⟨w.heap.size,i,none⟩=false:=fun i=>Lib.frozen_of_heap HK5.out i
   have hblk:=store_wre ezz HK5.out
   obtain ⟨WF,hWF⟩:∃ WF,WF=wre w5 w.heap.size ezz:=⟨_,rfl⟩
   rw [←hWF] at hblk
   have HWF:=zh hWF
   have HBK:=zh hblk
   clear hWF hblk
   go_wp2
   have hWF2:=HWF.out
   unfold wre at hWF2
   rw [←hWF2]
   clear hWF2
   have f0:WF.cell? ⟨w.heap.size,0,none⟩=some (.int .u64 0):=zcr WF _ 0 _ 28 (0,0) HBK.out
   have f1:WF.cell? ⟨w.heap.size,1,none⟩=some (.int .u64 0):=zcr WF _ 1 _ 28 (0,0) HBK.out
   have f2:WF.cell? ⟨w.heap.size,2,none⟩=some (.int .i64 0):=zcr WF _ 2 _ 28 (0,0) HBK.out
   have f3:WF.cell? ⟨w.heap.size,3,none⟩=some (.int .u64 0):=zcr WF _ 3 _ 28 (0,0) HBK.out
   have f4:WF.cell? ⟨w.heap.size,4,none⟩=some (.int .u64 0):=zcr WF _ 4 _ 28 (0,0) HBK.out
   have f5:WF.cell? ⟨w.heap.size,5,none⟩=some (.int .u64 0):=zcr WF _ 5 _ 28 (0,0) HBK.out
   have f6:WF.cell? ⟨w.heap.size,6,none⟩=some (.int .u64 0):=zcr WF _ 6 _ 28 (0,0) HBK.out
   have f7:WF.cell? ⟨w.heap.size,7,none⟩=some (.int .i64 0):=zcr WF _ 7 _ 28 (0,0) HBK.out
   have f8:WF.cell? ⟨w.heap.size,8,none⟩=some (.int .i64 0):=zcr WF _ 8 _ 28 (0,0) HBK.out
   have f9:WF.cell? ⟨w.heap.size,9,none⟩=some (.string ⟨#[]⟩):=zcr WF _ 9 _ 28 (0,0) HBK.out
   have f10:WF.cell? ⟨w.heap.size,10,none⟩=some (.string ⟨#[]⟩):=zcr WF _ 10 _ 28 (0,0) HBK.out
   exact bodyPost_ret (v:=ev ezz) (by simp [results,Tryz.results192,go_sem,f0,f1,f2,f3,f4,f5,f6,f7,f8,f9,f10]) rfl ⟨by rw [(HGF.out).1],by rw [(HGF.out).2,HWF.out];exact (heap_wre w5 w.heap.size g ezz (by have:=HLT.out;omega)).trans HR5.out,by rw [HWF.out];exact gb_wre ezz HG5.out (Nat.le_refl _),by rw [HWF.out];exact stab_wre ezz HS5.out ⟨_,HK5.out⟩,by rw [(HGF.out).2];exact Nat.zero_le _,by rw [(HGF.out).1];exact ezz_ok⟩
 | false =>
   obtain ⟨rb,hrb⟩:∃ rb,rb=rightB E:=⟨_,rfl⟩
   rw [←hrb] at HO KR
   have hgo:go=rb:=HO.out
   subst hgo
   clear hrb HO
   have e0:W2.cell? ⟨w1.heap.size,0,none⟩=some (.int .u64 E.term):=zcr W2 _ 0 _ 28 (0,0) HE2.out
   have e1:W2.cell? ⟨w1.heap.size,1,none⟩=some (.int .u64 E.index):=zcr W2 _ 1 _ 28 (0,0) HE2.out
   have e2:W2.cell? ⟨w1.heap.size,2,none⟩=some (.int .i64 E.kind):=zcr W2 _ 2 _ 28 (0,0) HE2.out
   have e3:W2.cell? ⟨w1.heap.size,3,none⟩=some (.int .u64 E.client):=zcr W2 _ 3 _ 28 (0,0) HE2.out
   have e4:W2.cell? ⟨w1.heap.size,4,none⟩=some (.int .u64 E.seq):=zcr W2 _ 4 _ 28 (0,0) HE2.out
   have e5:W2.cell? ⟨w1.heap.size,5,none⟩=some (.int .u64 E.block):=zcr W2 _ 5 _ 28 (0,0) HE2.out
   have e6:W2.cell? ⟨w1.heap.size,6,none⟩=some (.int .u64 E.many):=zcr W2 _ 6 _ 28 (0,0) HE2.out
   have e7:W2.cell? ⟨w1.heap.size,7,none⟩=some (.int .i64 E.node):=zcr W2 _ 7 _ 28 (0,0) HE2.out
   have e8:W2.cell? ⟨w1.heap.size,8,none⟩=some (.int .i64 E.level):=zcr W2 _ 8 _ 28 (0,0) HE2.out
   have e9:W2.cell? ⟨w1.heap.size,9,none⟩=some (.string E.data):=zcr W2 _ 9 _ 28 (0,0) HE2.out
   have e10:W2.cell? ⟨w1.heap.size,10,none⟩=some (.string E.old):=zcr W2 _ 10 _ 28 (0,0) HE2.out
   go_wp2_with fail
   rw [←HW2.out]
   refine KO.out.mono ?_
   rintro q w3 ⟨rfl,rfl⟩
   go_wp2_with fail
   refine KR.out.mono ?_
   rintro q w4 ⟨rfl,b4⟩
   have HR4:Hid (Rd 225 g T false w4):=HR2.out.below b4 HR2.out.lt
   have HK4:Hid (w4.heap[w.heap.size]?=some (.cells (ec ezz) 28 (0,0))):=(b4.block _ (zgx HK2.out)).trans HK2.out
   have HE4:Hid (w4.heap[w1.heap.size]?=some (.cells (ec E) 28 (0,0))):=(b4.block _ (zgx HE2.out)).trans HE2.out
   have HG4:Hid (w.grownBy w4 (some g)):=gb_below_b HG2.out b4
   have HS4:Hid (Stab w w4):=HS2.out.trans (Stab.below b4)
   clear b4 e0 e1 e2 e3 e4 e5 e6 e7 e8 e9 e10
   cases go with
   | false =>
     have HGF:=zh (HG.out.1 rfl)
     clear HG
     go_wp2_with fail
     refine (fail_any g T _ w4 HR4.out).mono ?_
     rintro q w5 ⟨rfl,R5,g5⟩
     have HR5:=zh R5
     have HK5:Hid (w5.heap[w.heap.size]?=some (.cells (ec ezz) 28 (0,0))):=(g5.block _ (zgx HK4.out) (by have:=HLT.out;simp;omega)).trans HK4.out
     have HG5:Hid (w.grownBy w5 (some g)):=HG4.out.trans g5
     have HS5:Hid (Stab w w5):=HS4.out.trans (Stab.grown g5 HR4.out (.inr (.inl rfl)))
     clear R5 g5
     have z0:w5.cell? ⟨w.heap.size,0,none⟩=some (.int .u64 0):=zcr w5 _ 0 _ 28 (0,0) HK5.out
     have z1:w5.cell? ⟨w.heap.size,1,none⟩=some (.int .u64 0):=zcr w5 _ 1 _ 28 (0,0) HK5.out
     have z2:w5.cell? ⟨w.heap.size,2,none⟩=some (.int .i64 0):=zcr w5 _ 2 _ 28 (0,0) HK5.out
     have z3:w5.cell? ⟨w.heap.size,3,none⟩=some (.int .u64 0):=zcr w5 _ 3 _ 28 (0,0) HK5.out
     have z4:w5.cell? ⟨w.heap.size,4,none⟩=some (.int .u64 0):=zcr w5 _ 4 _ 28 (0,0) HK5.out
     have z5:w5.cell? ⟨w.heap.size,5,none⟩=some (.int .u64 0):=zcr w5 _ 5 _ 28 (0,0) HK5.out
     have z6:w5.cell? ⟨w.heap.size,6,none⟩=some (.int .u64 0):=zcr w5 _ 6 _ 28 (0,0) HK5.out
     have z7:w5.cell? ⟨w.heap.size,7,none⟩=some (.int .i64 0):=zcr w5 _ 7 _ 28 (0,0) HK5.out
     have z8:w5.cell? ⟨w.heap.size,8,none⟩=some (.int .i64 0):=zcr w5 _ 8 _ 28 (0,0) HK5.out
     have z9:w5.cell? ⟨w.heap.size,9,none⟩=some (.string ⟨#[]⟩):=zcr w5 _ 9 _ 28 (0,0) HK5.out
     have z10:w5.cell? ⟨w.heap.size,10,none⟩=some (.string ⟨#[]⟩):=zcr w5 _ 10 _ 28 (0,0) HK5.out
     have fz:∀ i,w5.frozen? ⟨w.heap.size,i,none⟩=false:=fun i=>Lib.frozen_of_heap HK5.out i
     have hblk:=store_wre ezz HK5.out
     obtain ⟨WF,hWF⟩:∃ WF,WF=wre w5 w.heap.size ezz:=⟨_,rfl⟩
     rw [←hWF] at hblk
     have HWF:=zh hWF
     have HBK:=zh hblk
     clear hWF hblk
     go_wp2
     have hWF2:=HWF.out
     unfold wre at hWF2
     rw [←hWF2]
     clear hWF2
     have f0:WF.cell? ⟨w.heap.size,0,none⟩=some (.int .u64 0):=zcr WF _ 0 _ 28 (0,0) HBK.out
     have f1:WF.cell? ⟨w.heap.size,1,none⟩=some (.int .u64 0):=zcr WF _ 1 _ 28 (0,0) HBK.out
     have f2:WF.cell? ⟨w.heap.size,2,none⟩=some (.int .i64 0):=zcr WF _ 2 _ 28 (0,0) HBK.out
     have f3:WF.cell? ⟨w.heap.size,3,none⟩=some (.int .u64 0):=zcr WF _ 3 _ 28 (0,0) HBK.out
     have f4:WF.cell? ⟨w.heap.size,4,none⟩=some (.int .u64 0):=zcr WF _ 4 _ 28 (0,0) HBK.out
     have f5:WF.cell? ⟨w.heap.size,5,none⟩=some (.int .u64 0):=zcr WF _ 5 _ 28 (0,0) HBK.out
     have f6:WF.cell? ⟨w.heap.size,6,none⟩=some (.int .u64 0):=zcr WF _ 6 _ 28 (0,0) HBK.out
     have f7:WF.cell? ⟨w.heap.size,7,none⟩=some (.int .i64 0):=zcr WF _ 7 _ 28 (0,0) HBK.out
     have f8:WF.cell? ⟨w.heap.size,8,none⟩=some (.int .i64 0):=zcr WF _ 8 _ 28 (0,0) HBK.out
     have f9:WF.cell? ⟨w.heap.size,9,none⟩=some (.string ⟨#[]⟩):=zcr WF _ 9 _ 28 (0,0) HBK.out
     have f10:WF.cell? ⟨w.heap.size,10,none⟩=some (.string ⟨#[]⟩):=zcr WF _ 10 _ 28 (0,0) HBK.out
     exact bodyPost_ret (v:=ev ezz) (by simp [results,Tryz.results192,go_sem,f0,f1,f2,f3,f4,f5,f6,f7,f8,f9,f10]) rfl ⟨by rw [(HGF.out).1],by rw [(HGF.out).2,HWF.out];exact (heap_wre w5 w.heap.size g ezz (by have:=HLT.out;omega)).trans HR5.out,by rw [HWF.out];exact gb_wre ezz HG5.out (Nat.le_refl _),by rw [HWF.out];exact stab_wre ezz HS5.out ⟨_,HK5.out⟩,by rw [(HGF.out).2];exact Nat.zero_le _,by rw [(HGF.out).1];exact ezz_ok⟩
   | true =>
     have HGF:=zh (HG.out.2 rfl)
     clear HG
     have e0:w4.cell? ⟨w1.heap.size,0,none⟩=some (.int .u64 E.term):=zcr w4 _ 0 _ 28 (0,0) HE4.out
     have e1:w4.cell? ⟨w1.heap.size,1,none⟩=some (.int .u64 E.index):=zcr w4 _ 1 _ 28 (0,0) HE4.out
     have e2:w4.cell? ⟨w1.heap.size,2,none⟩=some (.int .i64 E.kind):=zcr w4 _ 2 _ 28 (0,0) HE4.out
     have e3:w4.cell? ⟨w1.heap.size,3,none⟩=some (.int .u64 E.client):=zcr w4 _ 3 _ 28 (0,0) HE4.out
     have e4:w4.cell? ⟨w1.heap.size,4,none⟩=some (.int .u64 E.seq):=zcr w4 _ 4 _ 28 (0,0) HE4.out
     have e5:w4.cell? ⟨w1.heap.size,5,none⟩=some (.int .u64 E.block):=zcr w4 _ 5 _ 28 (0,0) HE4.out
     have e6:w4.cell? ⟨w1.heap.size,6,none⟩=some (.int .u64 E.many):=zcr w4 _ 6 _ 28 (0,0) HE4.out
     have e7:w4.cell? ⟨w1.heap.size,7,none⟩=some (.int .i64 E.node):=zcr w4 _ 7 _ 28 (0,0) HE4.out
     have e8:w4.cell? ⟨w1.heap.size,8,none⟩=some (.int .i64 E.level):=zcr w4 _ 8 _ 28 (0,0) HE4.out
     have e9:w4.cell? ⟨w1.heap.size,9,none⟩=some (.string E.data):=zcr w4 _ 9 _ 28 (0,0) HE4.out
     have e10:w4.cell? ⟨w1.heap.size,10,none⟩=some (.string E.old):=zcr w4 _ 10 _ 28 (0,0) HE4.out
     have z0:w4.cell? ⟨w.heap.size,0,none⟩=some (.int .u64 0):=zcr w4 _ 0 _ 28 (0,0) HK4.out
     have z1:w4.cell? ⟨w.heap.size,1,none⟩=some (.int .u64 0):=zcr w4 _ 1 _ 28 (0,0) HK4.out
     have z2:w4.cell? ⟨w.heap.size,2,none⟩=some (.int .i64 0):=zcr w4 _ 2 _ 28 (0,0) HK4.out
     have z3:w4.cell? ⟨w.heap.size,3,none⟩=some (.int .u64 0):=zcr w4 _ 3 _ 28 (0,0) HK4.out
     have z4:w4.cell? ⟨w.heap.size,4,none⟩=some (.int .u64 0):=zcr w4 _ 4 _ 28 (0,0) HK4.out
     have z5:w4.cell? ⟨w.heap.size,5,none⟩=some (.int .u64 0):=zcr w4 _ 5 _ 28 (0,0) HK4.out
     have z6:w4.cell? ⟨w.heap.size,6,none⟩=some (.int .u64 0):=zcr w4 _ 6 _ 28 (0,0) HK4.out
     have z7:w4.cell? ⟨w.heap.size,7,none⟩=some (.int .i64 0):=zcr w4 _ 7 _ 28 (0,0) HK4.out
     have z8:w4.cell? ⟨w.heap.size,8,none⟩=some (.int .i64 0):=zcr w4 _ 8 _ 28 (0,0) HK4.out
     have z9:w4.cell? ⟨w.heap.size,9,none⟩=some (.string ⟨#[]⟩):=zcr w4 _ 9 _ 28 (0,0) HK4.out
     have z10:w4.cell? ⟨w.heap.size,10,none⟩=some (.string ⟨#[]⟩):=zcr w4 _ 10 _ 28 (0,0) HK4.out
     have fz:∀ i,w4.frozen? ⟨w.heap.size,i,none⟩=false:=fun i=>Lib.frozen_of_heap HK4.out i
     have hblk:=store_wre E HK4.out
     obtain ⟨WF,hWF⟩:∃ WF,WF=wre w4 w.heap.size E:=⟨_,rfl⟩
     rw [←hWF] at hblk
     have HWF:=zh hWF
     have HBK:=zh hblk
     clear hWF hblk
     go_wp2
     have hWF2:=HWF.out
     unfold wre at hWF2
     rw [←hWF2]
     clear hWF2
     have f0:WF.cell? ⟨w.heap.size,0,none⟩=some (.int .u64 E.term):=zcr WF _ 0 _ 28 (0,0) HBK.out
     have f1:WF.cell? ⟨w.heap.size,1,none⟩=some (.int .u64 E.index):=zcr WF _ 1 _ 28 (0,0) HBK.out
     have f2:WF.cell? ⟨w.heap.size,2,none⟩=some (.int .i64 E.kind):=zcr WF _ 2 _ 28 (0,0) HBK.out
     have f3:WF.cell? ⟨w.heap.size,3,none⟩=some (.int .u64 E.client):=zcr WF _ 3 _ 28 (0,0) HBK.out
     have f4:WF.cell? ⟨w.heap.size,4,none⟩=some (.int .u64 E.seq):=zcr WF _ 4 _ 28 (0,0) HBK.out
     have f5:WF.cell? ⟨w.heap.size,5,none⟩=some (.int .u64 E.block):=zcr WF _ 5 _ 28 (0,0) HBK.out
     have f6:WF.cell? ⟨w.heap.size,6,none⟩=some (.int .u64 E.many):=zcr WF _ 6 _ 28 (0,0) HBK.out
     have f7:WF.cell? ⟨w.heap.size,7,none⟩=some (.int .i64 E.node):=zcr WF _ 7 _ 28 (0,0) HBK.out
     have f8:WF.cell? ⟨w.heap.size,8,none⟩=some (.int .i64 E.level):=zcr WF _ 8 _ 28 (0,0) HBK.out
     have f9:WF.cell? ⟨w.heap.size,9,none⟩=some (.string E.data):=zcr WF _ 9 _ 28 (0,0) HBK.out
     have f10:WF.cell? ⟨w.heap.size,10,none⟩=some (.string E.old):=zcr WF _ 10 _ 28 (0,0) HBK.out
     exact bodyPost_ret (v:=ev E) (by simp [results,Tryz.results192,go_sem,f0,f1,f2,f3,f4,f5,f6,f7,f8,f9,f10]) rfl ⟨by rw [HGF.out.1],by rw [HGF.out.2,HWF.out];exact (heap_wre w4 w.heap.size g E (by have:=HLT.out;omega)).trans HR4.out,by rw [HWF.out];exact gb_wre E HG4.out (Nat.le_refl _),by rw [HWF.out];exact stab_wre E HS4.out ⟨_,HK4.out⟩,by rw [HGF.out.2];exact HZ1.out,by rw [HGF.out.1];exact HOK1.out⟩
theorem getE_any (g:Nat) (s:ByteArray) (bad:Bool) (w:World) (h:Rd 225 g s bad w) (hm:s.size≤281474976710656) :
 Calls Tryz.prog 165 #[.pointer (some ⟨g,0,none⟩)] w fun e w'=>e=.returned (ev (gE s bad))∧Rd 225 g (gT s bad) (!gO s bad) w'∧w.grownBy w' (some g):=by
 have hlt:=h.lt
 obtain ⟨W0,hW0⟩:∃ W0,W0=w.alloc (Obj.cells (ec ezz) 28):=⟨_,rfl⟩
 have b0:Below w.heap.size w W0:=by rw [hW0];exact (Below.refl _ _).alloc (Nat.le_refl _) _
 have k0:W0.heap[w.heap.size]?=some (.cells (ec ezz) 28 (0,0)):=by rw [hW0];exact heap_alloc_new w _
 have hr0:Rd 225 g s bad W0:=h.below b0 hlt
 have KF:=zh (fields_any2 W0)
 have KG:=zh (fun (fb:Nat) (W:World) (h1:Flds fb W) (h2:Rd 225 g s bad W)=>getEntry_any fb g s bad W h1 h2 hm)
 have HW:=zh hW0
 have HB:=zh b0
 have HK:=zh k0
 have HR:=zh hr0
 have HLT:=zh hlt
 obtain ⟨E,hE⟩:∃ E,E=gE s bad:=⟨_,rfl⟩
 rw [←hE] at KG ⊢
 clear hW0 b0 k0 hr0 hlt h hm hE
 go_enter Tryz.func165,Tryz.ntmps165
 go_wp2_with fail
 rw [←HW.out]
 refine KF.out.mono ?_
 rintro q w1 ⟨fb,rfl,f1,b1⟩
 have HR1:Hid (Rd 225 g s bad w1):=HR.out.below b1 HR.out.lt
 have HK1:Hid (w1.heap[w.heap.size]?=some (.cells (ec ezz) 28 (0,0))):=(b1.block _ (zgx HK.out)).trans HK.out
 have HB1:Hid (Below w.heap.size w w1):=HB.out.trans (b1.mono HB.out.size)
 go_wp2_with fail
 refine (KG.out _ _ f1 HR1.out).mono ?_
 rintro q w2 ⟨rfl,R2,g2,_⟩
 have HR2:=zh R2
 have HK2:Hid (w2.heap[w.heap.size]?=some (.cells (ec ezz) 28 (0,0))):=(g2.block _ (zgx HK1.out) (by have:=HLT.out;simp;omega)).trans HK1.out
 have HG2:Hid (w.grownBy w2 (some g)):=⟨g2.os.trans HB1.out.os,g2.tape.trans HB1.out.tape,g2.output.trans HB1.out.output,Nat.le_trans HB1.out.size g2.size,fun i hi hne=>(g2.block i (Nat.lt_of_lt_of_le hi HB1.out.size) hne).trans (HB1.out.block i hi)⟩
 clear R2 g2 f1 b1
 have z0:w2.cell? ⟨w.heap.size,0,none⟩=some (.int .u64 0):=zcr w2 _ 0 _ 28 (0,0) HK2.out
 have z1:w2.cell? ⟨w.heap.size,1,none⟩=some (.int .u64 0):=zcr w2 _ 1 _ 28 (0,0) HK2.out
 have z2:w2.cell? ⟨w.heap.size,2,none⟩=some (.int .i64 0):=zcr w2 _ 2 _ 28 (0,0) HK2.out
 have z3:w2.cell? ⟨w.heap.size,3,none⟩=some (.int .u64 0):=zcr w2 _ 3 _ 28 (0,0) HK2.out
 have z4:w2.cell? ⟨w.heap.size,4,none⟩=some (.int .u64 0):=zcr w2 _ 4 _ 28 (0,0) HK2.out
 have z5:w2.cell? ⟨w.heap.size,5,none⟩=some (.int .u64 0):=zcr w2 _ 5 _ 28 (0,0) HK2.out
 have z6:w2.cell? ⟨w.heap.size,6,none⟩=some (.int .u64 0):=zcr w2 _ 6 _ 28 (0,0) HK2.out
 have z7:w2.cell? ⟨w.heap.size,7,none⟩=some (.int .i64 0):=zcr w2 _ 7 _ 28 (0,0) HK2.out
 have z8:w2.cell? ⟨w.heap.size,8,none⟩=some (.int .i64 0):=zcr w2 _ 8 _ 28 (0,0) HK2.out
 have z9:w2.cell? ⟨w.heap.size,9,none⟩=some (.string ⟨#[]⟩):=zcr w2 _ 9 _ 28 (0,0) HK2.out
 have z10:w2.cell? ⟨w.heap.size,10,none⟩=some (.string ⟨#[]⟩):=zcr w2 _ 10 _ 28 (0,0) HK2.out
 have fz:∀ i,w2.frozen? ⟨w.heap.size,i,none⟩=false:=fun i=>Lib.frozen_of_heap HK2.out i
 have hblk:=store_wre E HK2.out
 obtain ⟨WF,hWF⟩:∃ WF,WF=wre w2 w.heap.size E:=⟨_,rfl⟩
 rw [←hWF] at hblk
 have HWF:=zh hWF
 have HBK:=zh hblk
 clear hWF hblk
 go_wp2
 have hWF2:=HWF.out
 unfold wre at hWF2
 rw [←hWF2]
 clear hWF2
 have f0:WF.cell? ⟨w.heap.size,0,none⟩=some (.int .u64 E.term):=zcr WF _ 0 _ 28 (0,0) HBK.out
 have f1:WF.cell? ⟨w.heap.size,1,none⟩=some (.int .u64 E.index):=zcr WF _ 1 _ 28 (0,0) HBK.out
 have f2:WF.cell? ⟨w.heap.size,2,none⟩=some (.int .i64 E.kind):=zcr WF _ 2 _ 28 (0,0) HBK.out
 have f3:WF.cell? ⟨w.heap.size,3,none⟩=some (.int .u64 E.client):=zcr WF _ 3 _ 28 (0,0) HBK.out
 have f4:WF.cell? ⟨w.heap.size,4,none⟩=some (.int .u64 E.seq):=zcr WF _ 4 _ 28 (0,0) HBK.out
 have f5:WF.cell? ⟨w.heap.size,5,none⟩=some (.int .u64 E.block):=zcr WF _ 5 _ 28 (0,0) HBK.out
 have f6:WF.cell? ⟨w.heap.size,6,none⟩=some (.int .u64 E.many):=zcr WF _ 6 _ 28 (0,0) HBK.out
 have f7:WF.cell? ⟨w.heap.size,7,none⟩=some (.int .i64 E.node):=zcr WF _ 7 _ 28 (0,0) HBK.out
 have f8:WF.cell? ⟨w.heap.size,8,none⟩=some (.int .i64 E.level):=zcr WF _ 8 _ 28 (0,0) HBK.out
 have f9:WF.cell? ⟨w.heap.size,9,none⟩=some (.string E.data):=zcr WF _ 9 _ 28 (0,0) HBK.out
 have f10:WF.cell? ⟨w.heap.size,10,none⟩=some (.string E.old):=zcr WF _ 10 _ 28 (0,0) HBK.out
 exact bodyPost_ret (v:=ev E) (by simp [results,Tryz.results165,go_sem,f0,f1,f2,f3,f4,f5,f6,f7,f8,f9,f10]) rfl ⟨rfl,by rw [HWF.out];exact (heap_wre w2 w.heap.size g E (by have:=HLT.out;omega)).trans HR2.out,by rw [HWF.out];exact gb_wre E HG2.out (Nat.le_refl _)⟩
end Go.Proofs.YtnobeoppffoomaaGreat
