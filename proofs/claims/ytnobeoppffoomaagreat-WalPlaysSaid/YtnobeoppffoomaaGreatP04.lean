/-
  WalPlays: ZShelf ZEx ZIm.
  Conditions: named in each theorem.
-/
import Derived.Shelf.Strings.Builder1
import Derived.Shelf.Strings.Builder2
import Derived.Shelf.SlicesE.Clone
import Derived.Test.YtnobeoppffoomaaGreatProg
import Derived.Test.YtnobeoppffoomaaGreatP02
import Derived.Test.YtnobeoppffoomaaGreatP03
import Derived.Test.YtnobeoppffoomaaGreatP0
set_option linter.unusedVariables false
set_option linter.unusedSimpArgs false
set_option maxHeartbeats 8000000
set_option maxRecDepth 100000
namespace Go.Proofs
open Go.Shelf
def Tryz.lays169_ren : Go.Shelf.Ren := ⟨fun | 169 => 41 | n => n, fun | 70 => 79 | 9 => 9 | 0 => 0 | 72 => 81 | 37 => 68 | 127 => 136 | 3 => 3 | 5 => 5 | n => n, fun | n => n⟩
theorem Tryz.lays169 : Go.Proofs.Lays.n169 Tryz.prog Tryz.lays169_ren := {
  mixed := by kernel_rfl
  f169 := Tryz.func41.trans (congrArg some (by kernel_rfl))
  t0 := Tryz.underlying0
  a0 := Tryz.isAgg0
  z0 := Tryz.sizeOf0
  v0 := Tryz.zeroValue0
  t3 := Tryz.underlying3
  a3 := Tryz.isAgg3
  z3 := Tryz.sizeOf3
  v3 := Tryz.zeroValue3
  t9 := Tryz.underlying9
  a9 := Tryz.isAgg9
  z9 := Tryz.sizeOf9
  v9 := Tryz.zeroValue9
  t37 := Tryz.underlying68
  a37 := Tryz.isAgg68
  z37 := Tryz.sizeOf68
  v37 := Tryz.zeroValue68
  t70 := Tryz.underlying79
  a70 := Tryz.isAgg79
  z70 := Tryz.sizeOf79
  v70 := Tryz.zeroValue79
  t72 := Tryz.underlying81
  a72 := Tryz.isAgg81
  z72 := Tryz.sizeOf81
  v72 := Tryz.zeroValue81
  t127 := Tryz.underlying136
  a127 := Tryz.isAgg136
  z127 := Tryz.sizeOf136
  v127 := Tryz.zeroValue136 }
theorem Tryz.Builder_Extra_169 : Builder.Extra Tryz.prog Tryz.lays169_ren := {
  sizeBuilder := by kernel_rfl
  liesBuilder := by kernel_rfl
  t5 := Tryz.underlying5
  a5 := Tryz.isAgg5
  z5 := Tryz.sizeOf5
  v5 := Tryz.zeroValue5
  infoByte := by kernel_rfl
  cellsByte := by kernel_rfl
  sizeByte := by kernel_rfl
  neB5 := by decide }
open Go.RowKit in
theorem Tryz.Builder_String_any (B b : Nat) (l : List UInt8) (w : World) (h : Lib.IsBuilder 81 5 B b (Lib.byteCells l) w) (hBw : B ≤ w.heap.size) :
    Calls Tryz.prog 41 #[.pointer (some ⟨b, 0, none⟩)] w fun e w' => e = .returned (.string ⟨l.toArray⟩) ∧ Below B w w' := Any.Builder_String_any Tryz.lays169 Tryz.Builder_Extra_169 B b l w h hBw
def Tryz.lays165_ren : Go.Shelf.Ren := ⟨fun | 165 => 60 | 240 => 80 | 241 => 100 | 276 => 109 | 277 => 123 | n => n, fun | 70 => 79 | 3 => 3 | 0 => 0 | 4 => 4 | 9 => 9 | 20 => 20 | 72 => 81 | 37 => 68 | 164 => 163 | 5 => 5 | n => n, fun | n => n⟩
theorem Tryz.lays165 : Go.Proofs.Lays.n165 Tryz.prog Tryz.lays165_ren := {
  mixed := by kernel_rfl
  f165 := Tryz.func60.trans (congrArg some (by kernel_rfl))
  f240 := Tryz.func80.trans (congrArg some (by kernel_rfl))
  f241 := Tryz.func100.trans (congrArg some (by kernel_rfl))
  f276 := Tryz.func109.trans (congrArg some (by kernel_rfl))
  f277 := Tryz.func123.trans (congrArg some (by kernel_rfl))
  t0 := Tryz.underlying0
  a0 := Tryz.isAgg0
  z0 := Tryz.sizeOf0
  v0 := Tryz.zeroValue0
  t3 := Tryz.underlying3
  a3 := Tryz.isAgg3
  z3 := Tryz.sizeOf3
  v3 := Tryz.zeroValue3
  t4 := Tryz.underlying4
  a4 := Tryz.isAgg4
  z4 := Tryz.sizeOf4
  v4 := Tryz.zeroValue4
  t9 := Tryz.underlying9
  a9 := Tryz.isAgg9
  z9 := Tryz.sizeOf9
  v9 := Tryz.zeroValue9
  t20 := Tryz.underlying20
  a20 := Tryz.isAgg20
  z20 := Tryz.sizeOf20
  v20 := Tryz.zeroValue20
  t37 := Tryz.underlying68
  a37 := Tryz.isAgg68
  z37 := Tryz.sizeOf68
  v37 := Tryz.zeroValue68
  t70 := Tryz.underlying79
  a70 := Tryz.isAgg79
  z70 := Tryz.sizeOf79
  v70 := Tryz.zeroValue79
  t72 := Tryz.underlying81
  a72 := Tryz.isAgg81
  z72 := Tryz.sizeOf81
  v72 := Tryz.zeroValue81
  t164 := Tryz.underlying163
  a164 := Tryz.isAgg163
  z164 := Tryz.sizeOf163
  v164 := Tryz.zeroValue163 }
theorem Tryz.Builder_Extra_165 : Builder.Extra Tryz.prog Tryz.lays165_ren := {
  sizeBuilder := by kernel_rfl
  liesBuilder := by kernel_rfl
  t5 := Tryz.underlying5
  a5 := Tryz.isAgg5
  z5 := Tryz.sizeOf5
  v5 := Tryz.zeroValue5
  infoByte := by kernel_rfl
  cellsByte := by kernel_rfl
  sizeByte := by kernel_rfl
  neB5 := by decide }
open Go.RowKit in
theorem Tryz.Builder_Grow_fresh (B b n : Nat) (w : World) (hB : B ≤ b) (hbk : w.heap[b]? = some (.cells #[.pointer none, .slice none 0 0] 81 (0, 0))) (hBw : B ≤ w.heap.size) (hn : n ≤ 281474976710656) :
    Calls Tryz.prog 60 #[.pointer (some ⟨b, 0, none⟩), .int .i64 n] w fun e w' => e = .returned (.tuple #[]) ∧ (Lib.BuilderAt 81 5 B b (.pointer (some ⟨b, 0, none⟩)) [] w' ∧ Below B w w') := Any.Builder_Grow_fresh Tryz.lays165 Tryz.Builder_Extra_165 B b n w hB hbk hBw hn
def Tryz.cloneA_ren : Go.Shelf.Ren := ⟨fun | 41 => 48 | n => n, fun | 22 => 99 | 23 => 106 | 4 => 4 | n => n, fun | n => n⟩
theorem Tryz.cloneA : Go.Proofs.SlLaysE0.n41 Tryz.prog Tryz.cloneA_ren := {
  mixed := by kernel_rfl
  f41 := ⟨Tryz.f48.name, by decide, Tryz.func48.trans (congrArg some (by kernel_rfl))⟩
  t4 := Tryz.underlying4
  a4 := Tryz.isAgg4
  z4 := Tryz.sizeOf4
  v4 := Tryz.zeroValue4
  t22 := Tryz.underlying99
  a22 := Tryz.isAgg99
  z22 := Tryz.sizeOf99
  v22 := Tryz.zeroValue99 }
end Go.Proofs
namespace Go.Proofs.YtnobeoppffoomaaGreat
open Go.RowKit Dk
def Dk.zeros (n:Nat):List UInt8:=List.replicate n 0
theorem txt_append (a b:List UInt8):txt a++txt b=txt (a++b):=by
 apply ByteArray.ext;simp [txt,ByteArray.data_append]
theorem refuses_yes_eq {d:St} {i:Int} (hd:d.dead=false) (h0:0≤i) (h1:i<d.n):d.refuses i=0:=by
 unfold St.refuses
 rw [hd,if_neg (by decide),if_neg (by omega)]
theorem refuses_no_eq {d:St} {i:Int} (hd:d.dead=false) (h0:i<0∨(d.n:Int)≤i):d.refuses i=5:=by
 unfold St.refuses
 rw [hd,if_neg (by decide),if_pos h0]
theorem readS_eq {d:St} {i:Nat} (hd:d.dead=false) (hi:i<d.n):d.readS i=d.now i:=by
 unfold St.readS
 rw [if_pos (refuses_yes_eq hd (by omega) (by omega))];rfl
end Go.Proofs.YtnobeoppffoomaaGreat
namespace Go.Proofs.YtnobeoppffoomaaGreat
open Go.RowKit Go.Shelf Dk
theorem copyCheck_any (B b:Nat) (bs:List Value) (w:World) (h:Lib.IsBuilder 81 5 B b bs w) :
 Calls Tryz.prog 80 #[.pointer (some ⟨b,0,none⟩)] w fun e w'=>e=.returned (.tuple #[])∧Lib.BuilderAt 81 5 B b (.pointer (some ⟨b,0,none⟩)) bs w'∧Below B w w'∧∀ k,k≠b→w'.heap[k]?=w.heap[k]?:=by
 rcases h with h|h
 ·refine (Any.Builder_copyCheck_fresh { Tryz.lays165 with } Tryz.Builder_Extra_165.toX72 b w h.cell0 h.shape h.frozen0).mono ?_
  rintro e w' ⟨rfl,rfl⟩
  exact ⟨rfl,h.used _,(Below.refl B w).setCell (p:=⟨b,0,none⟩) h.1 _,fun k hk=>heap_setCell_other w ⟨b,0,none⟩ k _ hk⟩
 ·refine (Any.Builder_copyCheck_used { Tryz.lays165 with } Tryz.Builder_Extra_165.toX72 b w h.cell0).mono ?_
  rintro e w' ⟨rfl,rfl⟩
  exact ⟨rfl,h,Below.refl B _,fun _ _=>rfl⟩
theorem bwrite_any (B b sb:Nat) (bs:List Value) (l:Sec) (w:World) (h:Lib.IsBuilder 81 5 B b bs w) (hlen:bs.length+64≤140737488355328) (hBw:B≤w.heap.size) (hl:l.length=64)
 (hs:w.heap[sb]?=some (.cells (Lib.byteCells l).toArray 106 (0,0))) (hsb:b≠sb) :
 Calls Tryz.prog 62 #[.pointer (some ⟨b,0,none⟩),.slice (some ⟨sb,0,none⟩) 64 64] w fun e w'=>e=.returned (.tuple #[.int .i64 64,.nilIface])∧(Lib.BuilderAt 81 5 B b (.pointer (some ⟨b,0,none⟩)) (bs++Lib.byteCells l) w'∧Below B w w'):=by
 obtain ⟨i0,hi,hz0,hz1,hz2⟩:=info_parts Tryz.info5
 have HCC:=zh (copyCheck_any B b bs w h)
 have hbl:(Lib.byteCells l).length=64:=by rw [Lib.byteCells_length,hl]
 clear h
 go_enter Tryz.func62,Tryz.ntmps62
 go_wp2_with fail
 refine HCC.out.mono ?_
 rintro e w1 ⟨rfl,h1,hb1,hk1⟩
 obtain ⟨hB,v,hbk,hown,hne⟩:=h1
 have c1:w1.cell? ⟨b,1,none⟩=some v:=by rw [Lib.cell_of_heap hbk];rfl
 have hs1:w1.heap[sb]?=some (.cells (Lib.byteCells l).toArray 106 (0,0)):=(hk1 sb (fun e=>hsb e.symm)).trans hs
 have hlt:=lt_of_heap hbk
 have HK1:=zh hk1
 clear hk1
 have hcc:∀ j u,(Lib.byteCells l)[j]?=some u→w1.cell? ((⟨sb,0,none⟩:Addr).add j)=some u:=fun j u hu=>by
  rw [Addr.add_mid,Nat.zero_add,zcr w1 sb j _ 106 (0,0) hs1]
  simpa using hu
 have HS1:=zh hs1
 clear hs1
 go_wp2_with (at_builtin;refine wpList_append_own _ rfl _ _ 68 rfl B 5 i0 (.int .u8 0) 1 1 Tryz.underlying68 hi hz0 hz1 hz2 rfl (by decide) _ _ _ rfl hown ⟨sb,0,none⟩ 64 64 (Lib.byteCells l) rfl (by rw [hbl]) hcc (Lib.byteCells_one l) ?c3 ?c4 ?c5 ?_)
 case c3=>unfold maxLen;omega
 case c4=>omega
 case c5=>have:=hb1.size;omega
 intro v' w2 hown' hgrow _
 have hb2:w2.heap[b]?=some (.cells #[.pointer (some ⟨b,0,none⟩),v] 81 (0,0)):=by
  rw [hgrow.block b hlt (fun e=>hne e.symm)]
  exact hbk
 have d0:w2.cell? ⟨b,0,none⟩=some (.pointer (some ⟨b,0,none⟩)):=by rw [Lib.cell_of_heap hb2];rfl
 have d1:w2.cell? ⟨b,1,none⟩=some v:=by rw [Lib.cell_of_heap hb2];rfl
 have f1:w2.frozen? ⟨b,1,none⟩=false:=Lib.frozen_of_heap hb2 1
 obtain ⟨g,cap,rfl⟩:∃ g cap,v'=.slice (some ⟨g,0,none⟩) (bs.length+64) cap:=by
  rcases hown'.2 with ⟨_,h0⟩|⟨g,cap,cur,hv,_⟩
  ·omega
  ·exact ⟨g,cap,hv⟩
 go_wp2
 go_ret2
 refine ⟨rfl,?_,?_⟩
 ·exact Lib.BuilderAt.put (T:=81) (e:=5) hB hb2 (bs':=bs++Lib.byteCells l) (by rw [List.length_append,hbl];exact hown') (by decide)
 ·exact (hb1.grown hgrow (by have:=hb1.size;omega) (fun k hk=>(hown.lt k hk).1)).setCell (p:=⟨b,1,none⟩) hB _
theorem isBuilder_below {B b:Nat} {bs:List Value} {w w':World} (h:Lib.IsBuilder 81 5 B b bs w) (hb:Below w.heap.size w w'):Lib.IsBuilder 81 5 B b bs w':=by
 have hg:w.grownBy w' none:=⟨hb.os,hb.tape,hb.output,hb.size,fun k hk _=>hb.block k hk⟩
 have key:∀ p,Lib.BuilderAt 81 5 B b p bs w→Lib.BuilderAt 81 5 B b p bs w':=fun p h=>by
  have hlt:=h.lt
  obtain ⟨hB,v,hbk,hown,hne⟩:=h
  refine ⟨hB,v,(hb.block b hlt).trans hbk,hown.kept hg ?_,hne⟩
  cases e:v.ownBlock with
  | none=>exact .inl rfl
  | some k=>exact .inr (by simp)
 exact h.elim (fun h=>.inl (key _ h)) (fun h=>.inr (key _ h))
theorem image_any (g:Nat) (L:List Nat) (d:St) (w:World) (h:Dv w g L d) :
 Calls Tryz.prog 23 #[ptr g] w fun e w'=>e=.returned (.string (txt d.image))∧Below w.heap.size w w':=by
 have h0:=h
 obtain ⟨ho,fb,mb,cap,rfl,hA⟩:=h
 have n1:=ho.n1
 have n2:=ho.n2
 have hnow:=ho.now
 have HN:=zh hnow
 obtain ⟨w1,hw1⟩:∃ w1,w1=w.alloc (.cells #[.pointer none,.slice none 0 0] 81):=⟨_,rfl⟩
 have hb1:Below w.heap.size w w1:=by rw [hw1];exact (Below.refl _ _).alloc (Nat.le_refl _) _
 have hbk1:w1.heap[w.heap.size]?=some (.cells #[.pointer none,.slice none 0 0] 81 (0,0)):=by rw [hw1];exact heap_alloc_new w _
 have hA1:=hA.below hb1
 have c0:(w.alloc (.cells #[.pointer none,.slice none 0 0] 81)).cell? ⟨g,0,none⟩=some (.slice (some ⟨fb,0,none⟩) d.n cap):=by rw [←hw1];exact hA1.c0
 obtain ⟨m,hm⟩:∃ m,m=d.n*64:=⟨_,rfl⟩
 have HG:=zh (Tryz.Builder_Grow_fresh w.heap.size w.heap.size m w1 (Nat.le_refl _) hbk1 hb1.size (by omega))
 rw [hw1] at HG
 have hgl:=lt_of_heap hA.blk
 have HA:=zh hA
 have H0:=zh h0
 have HW1:=zh hw1
 have hmul:(d.n:Int)*64=(m:Int):=by rw [hm];push_cast;rfl
 have hmb:(m:Int)≤262144:=by omega
 have HM:=zh hm
 clear hm
 clear hA hA1 h0 hbk1 hw1 hnow ho
 unfold ptr at *
 go_enter Tryz.func23,Tryz.ntmps23
 go_wp2_with fail
 refine HG.out.mono ?_
 rintro e w2 ⟨rfl,hB2,hb2⟩
 rw [←HW1.out] at hb2
 have hA2:=HA.out.below (w':=w2) (hb1.trans hb2)
 have c0:=hA2.c0
 have hbb2:Below w.heap.size w w2:=hb1.trans hb2
 clear hA2 HG hmul
 go_wp2_with fail
 go_loopw [18] (fun i wr=>∃ k:Nat,k≤d.n∧i=.int .i64 k∧Lib.IsBuilder 81 5 w.heap.size w.heap.size (Lib.byteCells (catS d.now k)) wr∧Below w.heap.size w wr∧w.heap.size<wr.heap.size) (fun i _=>d.n-(RowKit.intOf i).toNat)
 case atStart=>exact ⟨0,by omega,rfl,.inr hB2,hbb2,hB2.lt⟩
 case round =>
  obtain ⟨k,hk,rfl,hBr,hbr,hsr⟩:=hrel
  have hlen:(Lib.byteCells (catS d.now k)).length=k*64:=by rw [Lib.byteCells_length];exact catS_length _ HN.out k
  by_cases hlt:k<d.n
  ·have HNO:=zh (now_any g _ d k wr (H0.out.below hbr) hlt)
   have hl:=HN.out k
   have HC:Hid (Lib.byteCells (catS d.now k)++Lib.byteCells (d.now k)=Lib.byteCells (catS d.now (k+1))):=by
    show _=_;rw [←Lib.byteCells_append];rfl
   generalize d.now k=l at *
   generalize Lib.byteCells (catS d.now k)=bs at *
   unfold ptr at *
   go_wp2_with fail
   refine HNO.out.mono ?_
   rintro e w3 ⟨rfl,hb3⟩
   have hBr3:Lib.IsBuilder 81 5 w.heap.size w.heap.size bs w3:=isBuilder_below hBr hb3
   have hs3:w.heap.size<w3.heap.size:=Nat.lt_of_lt_of_le hsr hb3.size
   have hal:Below w3.heap.size w3 (w3.alloc (.cells (Lib.byteCells l).toArray 106)):=(Below.refl _ _).alloc (Nat.le_refl _) _
   have hbb3:Below w.heap.size w (w3.alloc (.cells (Lib.byteCells l).toArray 106)):=(hbr.trans (hb3.mono (by omega))).trans (hal.mono (by omega))
   have HWB:=zh (bwrite_any w.heap.size w.heap.size w3.heap.size bs l _ (isBuilder_below hBr3 hal) (by rw [hlen];omega) (by simp;omega) hl (heap_alloc_new w3 _) (by omega))
   go_wp2_with (refine wpList_store_newsec rfl _ _ rfl _ _ l hl rfl rfl rfl ?_)
   refine HWB.out.mono ?_
   rintro e w4 ⟨rfl,hB4,hb4⟩
   have hs4:=hB4.lt
   go_wp2
   go_roundw
   case rel=>exact ⟨k+1,by omega,by go_num,by rw [←HC.out];exact .inr hB4,hbb3.trans hb4,hs4⟩
   case measure=>simp [RowKit.intOf];omega
  ·have hk':k=d.n:=by omega
   subst hk'
   have HST:=zh (Tryz.Builder_String_any w.heap.size w.heap.size (catS d.now d.n) wr hBr (by omega))
   have HI:Hid (txt (catS d.now d.n)=txt d.image):=rfl
   clear hlen
   go_wp2_with fail
   refine HST.out.mono ?_
   rintro e w3 ⟨rfl,hb3⟩
   go_wp2
   go_ret
   exact ⟨rfl,hbr.trans hb3⟩
end Go.Proofs.YtnobeoppffoomaaGreat
