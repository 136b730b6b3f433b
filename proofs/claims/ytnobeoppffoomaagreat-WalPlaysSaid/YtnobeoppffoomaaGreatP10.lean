/-
  WalPlays: FW FN.
  Conditions: named in each theorem.
-/
import Derived.Test.YtnobeoppffoomaaGreatP09
import Derived.MapKept
import Derived.Laws.EntriesVeiled
import Derived.Deep.CutRange
import Derived.Test.YtnobeoppffoomaaGreatP0
set_option linter.unusedVariables false
set_option linter.unusedSimpArgs false
set_option maxHeartbeats 8000000
set_option maxRecDepth 100000
namespace Go.Proofs.YtnobeoppffoomaaGreat
open Go.RowKit
open Vi
theorem ins_step {T E:TypeId} {g clock:Nat} {es:Array MapEntry} (c:Int) (v:Value) {B:Nat} {a w:World} (hT:Tryz.prog.underlying T=some (.map 3 E)) (hb:w.heap[g]?=some (.map es clock))
 (hf:Instr.findNow (.int .i64) (.int .i64 c) es.toList 0=some none) (hbw:Below B a w) (hg:B≤g) :
 ∃ w',(Instr.mapUpdate T (.map (some g)) (.int .i64 c) v).run Tryz.prog w=.ok () w'∧w'.heap[g]?=some (.map (es.push { key:=.int .i64 c,val:=v,born:=clock }) (clock+1))∧Below B a w'∧(∀ k,k≠g→w'.heap[k]?=w.heap[k]?)∧w'.heap.size=w.heap.size:=by
 have hk:Tryz.prog.underlying 3=some (.int .i64):=Tryz.underlying3
 have hc:(Instr.checkKey false 10000 3 (.int .i64 c)).run Tryz.prog w=.ok () w:=MapKept.run_checkKey (k:=.int .i64 c) hk (by simp [MapKept.IsKey]) false 9999
 refine ⟨{ w with heap:=w.heap.setIfInBounds g (.map (es.push { key:=.int .i64 c,val:=v,born:=clock }) (clock+1)) },?_,?_,?_,?_,by simp⟩
 ·simp [Instr.mapUpdate,run_underlying hT,MapKept.run_getObj_map hb,hc,MapKept.run_findKey hk hf,MapKept.run_setObj_map _ hb,Result.andThen]
 ·exact (MapKept.heap_set hb).1
 ·refine ⟨hbw.os,hbw.tape,hbw.output,by simpa using hbw.size,fun k hk=>?_⟩
  exact ((MapKept.heap_set hb).2 k (by omega)).trans (hbw.block k hk)
 ·exact fun k hk=>(MapKept.heap_set hb).2 k hk
theorem look_step {T E:TypeId} {g clock i:Nat} {es:Array MapEntry} (c:Int) (v:Value) {w:World} (hT:Tryz.prog.underlying T=some (.map 3 E)) (hb:w.heap[g]?=some (.map es clock))
 (hf:Instr.findNow (.int .i64) (.int .i64 c) es.toList 0=some (some (i,v))) :
 (Instr.lookup T (.map (some g)) (.int .i64 c) true).run Tryz.prog w=.ok (.tuple #[v,.bool true]) w:=by
 have hk:Tryz.prog.underlying 3=some (.int .i64):=Tryz.underlying3
 have hc:(Instr.checkKey es.isEmpty 10000 3 (.int .i64 c)).run Tryz.prog w=.ok () w:=MapKept.run_checkKey (k:=.int .i64 c) hk (by simp [MapKept.IsKey]) es.isEmpty 9999
 simp [Instr.lookup,run_underlying hT,MapKept.run_getObj_map hb,hc,MapKept.run_findKey hk hf,Result.andThen]
theorem look_none {T E:TypeId} {g clock:Nat} {es:Array MapEntry} (c:Int) {w:World} (hT:Tryz.prog.underlying T=some (.map 3 E)) (hE:∀ w,(zeroValue E).run Tryz.prog w=.ok .nilFunc w) (hb:w.heap[g]?=some (.map es clock))
 (hf:Instr.findNow (.int .i64) (.int .i64 c) es.toList 0=some none) :
 (Instr.lookup T (.map (some g)) (.int .i64 c) true).run Tryz.prog w=.ok (.tuple #[.nilFunc,.bool false]) w:=by
 have hk:Tryz.prog.underlying 3=some (.int .i64):=Tryz.underlying3
 have hc:(Instr.checkKey es.isEmpty 10000 3 (.int .i64 c)).run Tryz.prog w=.ok () w:=MapKept.run_checkKey (k:=.int .i64 c) hk (by simp [MapKept.IsKey]) es.isEmpty 9999
 simp [Instr.lookup,run_underlying hT,MapKept.run_getObj_map hb,hc,MapKept.run_findKey hk hf,hE,Result.andThen]
abbrev two (a b:Value):Array MapEntry:=#[{ key:=.int .i64 1,val:=a,born:=0 },{ key:=.int .i64 2,val:=b,born:=1 }]
theorem two_1 (a b:Value):Instr.findNow (.int .i64) (.int .i64 1) (two a b).toList 0=some (some (0,a)):=rfl
theorem two_2 (a b:Value):Instr.findNow (.int .i64) (.int .i64 2) (two a b).toList 0=some (some (1,b)):=rfl
theorem two_n (a b:Value) (c:Int) (h1:c≠1) (h2:c≠2):Instr.findNow (.int .i64) (.int .i64 c) (two a b).toList 0=some none:=by
 have e1:(c==1)=false:=by simpa using h1
 have e2:(c==2)=false:=by simpa using h2
 simp [Instr.findNow,Instr.sameNow,e1,e2]
abbrev fv (n:Nat):Value:=.func (.func n) #[] #[]
theorem puts_any (w:World) :
 Calls Tryz.prog 124 #[] w fun r w'=>r=.returned (.map (some w.heap.size))∧w'.heap[w.heap.size]?=some (.map (two (fv 167) (fv 135)) 2)∧Below w.heap.size w w':=by
 have hmm:=@run_makeMap Tryz.prog
 obtain ⟨w1,e1,h1,b1,_,_⟩:=ins_step (T:=178) 1 (fv 167) Tryz.underlying178 (heap_alloc_new w (.map #[] 0)) rfl ((Below.refl _ _).alloc (Nat.le_refl _) _) (Nat.le_refl _)
 obtain ⟨w2,e2,h2,b2,_,_⟩:=ins_step (T:=178) 2 (fv 135) Tryz.underlying178 h1 rfl b1 (Nat.le_refl _)
 have H2:Hid (w2.heap[w.heap.size]?=some (.map (two (fv 167) (fv 135)) 2)):=h2
 have B2:=zh b2
 clear h1 h2 b1 b2
 go_enter Tryz.func124,Tryz.ntmps124
 go_wp2
 go_ret
 exact ⟨rfl,H2.out,B2.out⟩
theorem len1_any (n:Nat) (w:World) (hn:n<18446744073709551616):Calls Tryz.prog 167 #[.int .u64 n] w fun e w'=>e=.returned (.string (fxB n 4))∧Below w.heap.size w w':=by
 go_enter Tryz.func167,Tryz.ntmps167
 go_wp2_with fail
 refine (fixed_any n 4 _).mono ?_
 rintro e w1 ⟨rfl,b1⟩
 go_wp2
 go_ret
 exact ⟨rfl,b1⟩
theorem seal_any (h b:ByteArray) (w:World) (hh:h.size≤281474976710656) (hb:b.size≤281474976710656):Calls Tryz.prog 126 #[.string h,.string b] w fun e w'=>e=.returned (.string (sealB h b))∧Below w.heap.size w w':=by
 have m1:=Crc.moreB_lt 0 h
 have m2:=Crc.moreB_lt (Crc.moreB 0 h) b
 go_enter Tryz.func126,Tryz.ntmps126
 go_wp2_with fail
 refine (sum_any h _ (by unfold maxLen;omega)).mono ?_
 rintro e w1 ⟨rfl,b1⟩
 go_wp2_with fail
 refine (more_any _ b _ (by unfold maxLen;omega) m1).mono ?_
 rintro e w2 ⟨rfl,b2⟩
 have hw:IntKind.u64.wrap ((Crc.moreB (Crc.moreB 0 h) b:Nat):Int)=((Crc.moreB (Crc.moreB 0 h) b:Nat):Int):=by rw [IntKind.wrap_u64];omega
 go_wp2_with fail
 refine (fixed_any _ 4 _).mono ?_
 rintro e w3 ⟨rfl,b3⟩
 go_wp2
 go_ret
 exact ⟨rfl,(b1.trans (b2.mono b1.size)).trans (b3.mono (Nat.le_trans b1.size b2.size))⟩
theorem fx_small (h b:ByteArray) (n:Nat) (hh:h.size≤11) (hb:b.size≤1048576):(h++sealB h b).size+b.size≤9223372036854775807:=by
 rw [ByteArray.size_append,seal_size];omega
theorem packK_any (v:Int) (b:ByteArray) (w:World) (hv:v=1∨v=2) (hb:b.size≤1048576) :
 Calls Tryz.prog 103 #[.int .i64 v,.string b] w fun e w'=>e=.returned (.tuple #[.string (pack v b),.bool true])∧Below w.heap.size w w':=by
 have hgt:¬ ((1048576:Int)<b.size):=by omega
 have hw:IntKind.u64.wrap (b.size:Int)=b.size:=by rw [IntKind.wrap_u64];omega
 have hz:=hdF_size v b.size (by omega)
 have hfx:=fx_small (hdF v b.size) b 0 hz hb
 have hs:=seal_size (hdF v b.size) b
 have KS:=zh (fun (W:World)=>seal_any (hdF v b.size) b W (by omega) (by omega))
 have KP:=zh (fun (W:World)=>puts_any W)
 rcases hv with rfl|rfl
 ·have h1:(fxB 161 1).size=1:=fxB_size 161 1 (by omega)
  have h2:(fxB b.size 4).size=4:=fxB_size b.size 4 (by omega)
  obtain ⟨H,hH⟩:∃ H,H=hdF 1 b.size:=⟨_,rfl⟩
  have hcat:Hid (fxB 161 1++fxB b.size 4=H):=hH.symm
  have hfin:Hid (H++sealB H b++b=pack 1 b):=by show _=_;rw [hH];rfl
  rw [←hH] at KS hfx hz hs
  have HZ:=zh hz
  clear hH hz
  go_enter Tryz.func103,Tryz.ntmps103
  go_wp2_with fail
  refine (KP.out _).mono ?_
  rintro e w1 ⟨rfl,m1,b1⟩
  have hl:=look_step (T:=178) 1 (fv 167) Tryz.underlying178 m1 (two_1 _ _)
  have HB1:=zh b1
  clear m1 b1
  go_wp2_with fail
  refine (fixed_any 161 1 _).mono ?_
  rintro e w2 ⟨rfl,b2⟩
  have HB2:Hid (Below w.heap.size w w2):=HB1.out.trans (b2.mono HB1.out.size)
  clear b2 hl
  go_wp2_with fail
  refine (len1_any b.size _ (by omega)).mono ?_
  rintro e w3 ⟨rfl,b3⟩
  have HB3:Hid (Below w.heap.size w w3):=HB2.out.trans (b3.mono HB2.out.size)
  clear b3
  go_wp2_with fail
  rw [hcat.out]
  refine (KS.out _).mono ?_
  rintro e w4 ⟨rfl,b4⟩
  have HB4:Hid (Below w.heap.size w w4):=HB3.out.trans (b4.mono HB3.out.size)
  clear b4
  have hz2:=HZ.out
  go_wp2
  go_ret2
  rw [hfin.out]
  exact ⟨rfl,HB4.out⟩
 ·have h1:(fxB 162 1).size=1:=fxB_size 162 1 (by omega)
  have h2:=_root_.Go.Proofs.YtnobeoppffoomaaGreat.putB_size b.size (by omega)
  obtain ⟨H,hH⟩:∃ H,H=hdF 2 b.size:=⟨_,rfl⟩
  have hcat:Hid (fxB 162 1++putB b.size=H):=hH.symm
  have hfin:Hid (H++sealB H b++b=pack 2 b):=by show _=_;rw [hH];rfl
  rw [←hH] at KS hfx hz hs
  have HZ:=zh hz
  clear hH hz
  go_enter Tryz.func103,Tryz.ntmps103
  go_wp2_with fail
  refine (KP.out _).mono ?_
  rintro e w1 ⟨rfl,m1,b1⟩
  have hl:=look_step (T:=178) 2 (fv 135) Tryz.underlying178 m1 (two_2 _ _)
  have HB1:=zh b1
  clear m1 b1
  go_wp2_with fail
  refine (fixed_any 162 1 _).mono ?_
  rintro e w2 ⟨rfl,b2⟩
  have HB2:Hid (Below w.heap.size w w2):=HB1.out.trans (b2.mono HB1.out.size)
  clear b2 hl
  go_wp2_with fail
  refine (put_any b.size _ (by omega)).mono ?_
  rintro e w3 ⟨rfl,b3⟩
  have HB3:Hid (Below w.heap.size w w3):=HB2.out.trans (b3.mono HB2.out.size)
  clear b3
  go_wp2_with fail
  rw [hcat.out]
  refine (KS.out _).mono ?_
  rintro e w4 ⟨rfl,b4⟩
  have HB4:Hid (Below w.heap.size w w4):=HB3.out.trans (b4.mono HB3.out.size)
  clear b4
  have hz2:=HZ.out
  go_wp2
  go_ret2
  rw [hfin.out]
  exact ⟨rfl,HB4.out⟩
theorem pk_cases (v:Int) (b:ByteArray):((v=1∨v=2)∧b.size≤1048576∧pkO v b=true∧pkS v b=pack v b)∨((v=1∨v=2)∧1048576<b.size∧pkO v b=false∧pkS v b=⟨#[]⟩)∨(v≠1∧v≠2∧pkO v b=false∧pkS v b=⟨#[]⟩):=by
 have hs:pkS v b=if pkO v b then pack v b else ⟨#[]⟩:=rfl
 by_cases hv:v=1∨v=2
 ·have e:(decide (v=1)||decide (v=2))=true:=by rcases hv with rfl|rfl<;>rfl
  by_cases hb:b.size≤1048576
  ·have ho:pkO v b=true:=by unfold pkO;rw [e,decide_eq_true hb];rfl
   exact .inl ⟨hv,hb,ho,by rw [hs,if_pos ho]⟩
  ·have ho:pkO v b=false:=by unfold pkO;rw [decide_eq_false hb];cases (decide (v=1)||decide (v=2))<;>rfl
   exact .inr (.inl ⟨hv,by omega,ho,by rw [hs,ho];rfl⟩)
 ·have h1:v≠1:=fun h=>hv (.inl h)
  have h2:v≠2:=fun h=>hv (.inr h)
  have ho:pkO v b=false:=by unfold pkO;rw [decide_eq_false h1,decide_eq_false h2];rfl
  exact .inr (.inr ⟨h1,h2,ho,by rw [hs,ho];rfl⟩)
theorem one_cell (a:Int) (w:World):∀ i,i<1→(w.alloc (.cells #[.int .u8 a] 5)).cell? ⟨w.heap.size,0+i,none⟩=some (.int .u8 ([a].getD i 0))
 | 0,_=>by simp
 | k+1,h=>by omega
theorem mark_eq (v:Nat) (h:v<256):strOfNums [(v:Int)]=fxB v 1:=by
 have e:fxB v 1=str (fx v 1):=fxB_eq v 1 (by omega)
 rw [e]
 show strOfNums [(v:Int)]=strOfNums [((v / 256 ^ 0 % 256:Nat):Int)]
 have e2:v / 256 ^ 0 % 256=v:=by rw [Nat.pow_zero,Nat.div_one];omega
 rw [e2]
theorem mark161:strOfNums [(161:Int)]=fxB 161 1:=mark_eq 161 (by omega)
theorem mark162:strOfNums [(162:Int)]=fxB 162 1:=mark_eq 162 (by omega)
theorem moreB_app (h b:ByteArray):Crc.moreB 0 (h++b)=Crc.moreB (Crc.moreB 0 h) b:=by
 unfold Crc.moreB
 rw [Crc.more_append]
 congr 1
theorem rpackK_any (v:Int) (b:ByteArray) (w:World) (hv:v=1∨v=2) (hb:b.size≤1048576) :
 Calls Tryz.prog 85 #[.int .i64 v,.string b] w fun e w'=>e=.returned (.tuple #[.string (pack v b),.bool true])∧Below w.heap.size w w':=by
 have hgt:¬ ((1048576:Int)<b.size):=by omega
 have hw:IntKind.u64.wrap (b.size:Int)=b.size:=by rw [IntKind.wrap_u64];omega
 have hz:=hdF_size v b.size (by omega)
 have hfx:=fx_small (hdF v b.size) b 0 hz hb
 have hs:=seal_size (hdF v b.size) b
 have KX:=zh (fun (W:World)=>rfixed_any b.size 4 W (by omega))
 have KY:=zh (fun (W:World)=>rput_any b.size W (by omega))
 rcases hv with rfl|rfl
 ·have h1:(fxB 161 1).size=1:=fxB_size 161 1 (by omega)
  have h2:(fxB b.size 4).size=4:=fxB_size b.size 4 (by omega)
  obtain ⟨H,hH⟩:∃ H,H=hdF 1 b.size:=⟨_,rfl⟩
  have hcat:Hid (fxB 161 1++fxB b.size 4=H):=hH.symm
  have hfin:Hid (H++sealB H b++b=pack 1 b):=by show _=_;rw [hH];rfl
  rw [←hH] at hfx hz hs
  have hsum:=Crc.moreB_lt 0 (H++b)
  have hw2:IntKind.u64.wrap ((Crc.moreB 0 (H++b):Nat):Int)=((Crc.moreB 0 (H++b):Nat):Int):=by rw [IntKind.wrap_u64];omega
  have hsl:Hid (fxB (Crc.moreB 0 (H++b)) 4=sealB H b):=by show _=_;rw [moreB_app];rfl
  have KS:=zh (fun (W:World)=>rsum_any (H++b) W (by unfold maxLen;rw [ByteArray.size_append];omega))
  have hhb:H.size+b.size≤9223372036854775807:=by omega
  have HZ:=zh hz
  have hcv:∀ W:World,(convert 68 9 (.slice (some ⟨W.heap.size,0,none⟩) 1 1)).run Tryz.prog (W.alloc (.cells #[.int .u8 161] 5))=.ok (.string (fxB 161 1)) (W.alloc (.cells #[.int .u8 161] 5)):=fun W=>by
   have h:=run_convert_bytes_arg (P:=Tryz.prog) (W.alloc (.cells #[.int .u8 161] 5)) 68 5 Tryz.underlying68 Tryz.underlying5 W.heap.size 0 1 1 [161] rfl (one_cell 161 W) 9 Tryz.underlying9
   rw [mark161] at h
   exact h
  clear hH hz
  go_enter Tryz.func85,Tryz.ntmps85
  go_wp2_with fail
  refine (KX.out _).mono ?_
  rintro e w1 ⟨rfl,b1⟩
  have HB1:=zh b1
  clear b1
  have hcv1:=hcv w1
  go_wp2_with fail
  rw [hcat.out]
  refine (KS.out _).mono ?_
  rintro e w2 ⟨rfl,rfl⟩
  have KF:=zh (fun (W:World)=>rfixed_any (Crc.moreB 0 (H++b)) 4 W (by omega))
  have hz2:=HZ.out
  go_wp2_with fail
  refine (KF.out _).mono ?_
  rintro e w3 ⟨rfl,b3⟩
  rw [hsl.out]
  have HB3:Hid (Below w.heap.size w w3):=(HB1.out.alloc HB1.out.size _).trans (b3.mono (by have:=HB1.out.size;simp;omega))
  clear b3
  go_wp2
  go_ret2
  rw [hfin.out]
  exact ⟨rfl,HB3.out⟩
 ·have h1:(fxB 162 1).size=1:=fxB_size 162 1 (by omega)
  have h2:=_root_.Go.Proofs.YtnobeoppffoomaaGreat.putB_size b.size (by omega)
  obtain ⟨H,hH⟩:∃ H,H=hdF 2 b.size:=⟨_,rfl⟩
  have hcat:Hid (fxB 162 1++putB b.size=H):=hH.symm
  have hfin:Hid (H++sealB H b++b=pack 2 b):=by show _=_;rw [hH];rfl
  rw [←hH] at hfx hz hs
  have hsum:=Crc.moreB_lt 0 (H++b)
  have hw2:IntKind.u64.wrap ((Crc.moreB 0 (H++b):Nat):Int)=((Crc.moreB 0 (H++b):Nat):Int):=by rw [IntKind.wrap_u64];omega
  have hsl:Hid (fxB (Crc.moreB 0 (H++b)) 4=sealB H b):=by show _=_;rw [moreB_app];rfl
  have KS:=zh (fun (W:World)=>rsum_any (H++b) W (by unfold maxLen;rw [ByteArray.size_append];omega))
  have hhb:H.size+b.size≤9223372036854775807:=by omega
  have HZ:=zh hz
  have hcv:∀ W:World,(convert 68 9 (.slice (some ⟨W.heap.size,0,none⟩) 1 1)).run Tryz.prog (W.alloc (.cells #[.int .u8 162] 5))=.ok (.string (fxB 162 1)) (W.alloc (.cells #[.int .u8 162] 5)):=fun W=>by
   have h:=run_convert_bytes_arg (P:=Tryz.prog) (W.alloc (.cells #[.int .u8 162] 5)) 68 5 Tryz.underlying68 Tryz.underlying5 W.heap.size 0 1 1 [162] rfl (one_cell 162 W) 9 Tryz.underlying9
   rw [mark162] at h
   exact h
  clear hH hz
  go_enter Tryz.func85,Tryz.ntmps85
  go_wp2_with fail
  refine (KX.out _).mono ?_
  rintro e w1 ⟨rfl,b1⟩
  have HB1:=zh b1
  clear b1
  go_wp2_with fail
  refine (KY.out _).mono ?_
  rintro e w2 ⟨rfl,b2⟩
  have HB2:Hid (Below w.heap.size w w2):=HB1.out.trans (b2.mono HB1.out.size)
  clear b2
  have hcv1:=hcv w2
  go_wp2_with fail
  rw [hcat.out]
  refine (KS.out _).mono ?_
  rintro e w4 ⟨rfl,rfl⟩
  have KF:=zh (fun (W:World)=>rfixed_any (Crc.moreB 0 (H++b)) 4 W (by omega))
  have hz2:=HZ.out
  go_wp2_with fail
  refine (KF.out _).mono ?_
  rintro e w3 ⟨rfl,b3⟩
  rw [hsl.out]
  have HB3:Hid (Below w.heap.size w w3):=(HB2.out.alloc HB2.out.size _).trans (b3.mono (by have:=HB2.out.size;simp;omega))
  clear b3
  go_wp2
  go_ret2
  rw [hfin.out]
  exact ⟨rfl,HB3.out⟩
theorem rpackN_any (v:Int) (b:ByteArray) (w:World) (h:(v=1∨v=2)∧1048576<b.size∨v≠1∧v≠2) :
 Calls Tryz.prog 85 #[.int .i64 v,.string b] w fun e w'=>e=.returned (.tuple #[.string ⟨#[]⟩,.bool false])∧Below w.heap.size w w':=by
 rcases h with ⟨rfl|rfl,hb⟩|⟨h1,h2⟩
 ·have hgt:(1048576:Int)<b.size:=by omega
  go_enter Tryz.func85,Tryz.ntmps85
  go_wp2
  go_ret2
  exact ⟨rfl,Below.refl _ _⟩
 ·have hgt:(1048576:Int)<b.size:=by omega
  go_enter Tryz.func85,Tryz.ntmps85
  go_wp2
  go_ret2
  exact ⟨rfl,Below.refl _ _⟩
 ·go_enter Tryz.func85,Tryz.ntmps85
  go_wp2
  go_ret2
  exact ⟨rfl,Below.refl _ _⟩
theorem rpack_any (v:Int) (b:ByteArray) (w:World) :
 Calls Tryz.prog 85 #[.int .i64 v,.string b] w fun e w'=>e=.returned (.tuple #[.string (pkS v b),.bool (pkO v b)])∧Below w.heap.size w w':=by
 rcases pk_cases v b with ⟨hv,hb,h1,h2⟩|⟨hv,hb,h1,h2⟩|⟨hv,hb,h1,h2⟩
 ·rw [h1,h2];exact rpackK_any v b w hv hb
 ·rw [h1,h2];exact rpackN_any v b w (.inl ⟨hv,hb⟩)
 ·rw [h1,h2];exact rpackN_any v b w (.inr ⟨hv,hb⟩)
end Go.Proofs.YtnobeoppffoomaaGreat
namespace Go.Proofs.YtnobeoppffoomaaGreat
open Go.RowKit
open Vi
theorem nx_no {s:ByteArray} (h:nOk s=false):nxV s=0∧nxB s=⟨#[]⟩∧nxN s=0:=by
 unfold nxV nxB nxN
 rw [h]
 exact ⟨rfl,rfl,rfl⟩
theorem nx_yes {s:ByteArray} (h:nOk s=true):nxV s=nV s∧nxB s=nBd s∧nxN s=(s.size:Int)-(nW s).size:=by
 unfold nxV nxB nxN
 rw [h]
 exact ⟨rfl,rfl,rfl⟩
theorem fixV_lt4 (s:ByteArray):fixV s 4<18446744073709551616:=by
 unfold fixV
 split
 ·have h:=be_take_lt (nums s) (nums_getD_lt s) 4
  have h2:be (List.take 4 (nums s))<256 ^ 4:=h
  have h3:(256:Nat) ^ 4=4294967296:=by decide
  rw [h3] at h2
  show be (List.take 4 (nums s))<_
  omega
 ·omega
theorem nM_lt (s:ByteArray):nM s<18446744073709551616:=by
 unfold nM
 split
 ·exact fixV_lt4 _
 ·exact varV_lt _
theorem nx_ret_no {s:ByteArray} (h:nOk s=false):Ending.returned (.tuple #[.int .i64 0,.string ⟨#[]⟩,.int .i64 0,.bool false])=Ending.returned (.tuple #[.int .i64 (nxV s),.string (nxB s),.int .i64 (nxN s),.bool (nOk s)]):=by
 obtain ⟨e1,e2,e3⟩:=nx_no h
 rw [e1,e2,e3,h]
theorem nx_ret_yes {s b:ByteArray} {v n:Int} (h:nOk s=true) (hv:nV s=v) (hb:nBd s=b) (hn:(s.size:Int)-(nW s).size=n):Ending.returned (.tuple #[.int .i64 v,.string b,.int .i64 n,.bool true])=Ending.returned (.tuple #[.int .i64 (nxV s),.string (nxB s),.int .i64 (nxN s),.bool (nOk s)]):=by
 obtain ⟨e1,e2,e3⟩:=nx_yes h
 rw [e1,e2,e3,h,hv,hb,hn]
theorem bytV_size (s:ByteArray) (k:Int):(bytV s k).size≤s.size:=by
 unfold bytV
 split
 ·rw [ByteArray.size_extract];omega
 ·exact Nat.zero_le _
theorem nHd_size (s:ByteArray):(nHd s).size≤s.size:=by unfold nHd;rw [ByteArray.size_extract];omega
theorem reads_any (g:Nat) (w:World) :
 Calls Tryz.prog 158 #[rdp g] w fun r w'=>r=.returned (.map (some (w.heap.size+1)))∧w'.heap[w.heap.size]?=some (.cells #[.func (.func 157) #[rdp g] #[]] 142 (0,0))∧w'.heap[w.heap.size+1]?=some (.map (two (.func (.func 186) #[] #[.pointer (some ⟨w.heap.size,0,none⟩)]) (.func (.func 187) #[rdp g] #[])) 2)∧Below w.heap.size w w':=by
 have hmm:=@run_makeMap Tryz.prog
 have hmf:∀ (fn:Fn) (first cap:Array Value) (w:World),(Instr.makeFunc fn first cap).run Tryz.prog w=.ok (.func fn first cap) w:=fun _ _ _ _=>rfl
 obtain ⟨W,hW⟩:∃ W,W=w.alloc (Obj.cells #[.func (.func 157) #[rdp g] #[]] 142):=⟨_,rfl⟩
 have hz:W.heap.size=w.heap.size+1:=by rw [hW];simp
 have hB:Below w.heap.size w W:=by rw [hW];exact (Below.refl _ _).alloc (Nat.le_refl _) _
 have hK:W.heap[w.heap.size]?=some (.cells #[.func (.func 157) #[rdp g] #[]] 142 (0,0)):=by rw [hW];exact heap_alloc_new w _
 obtain ⟨w1,e1,h1,b1,o1,s1⟩:=ins_step (T:=209) 1 (.func (.func 186) #[] #[.pointer (some ⟨w.heap.size,0,none⟩)]) Tryz.underlying209 (heap_alloc_new W (.map #[] 0)) rfl ((Below.refl _ _).alloc (Nat.le_refl _) _) (Nat.le_refl _)
 obtain ⟨w2,e2,h2,b2,o2,s2⟩:=ins_step (T:=209) 2 (.func (.func 187) #[rdp g] #[]) Tryz.underlying209 h1 rfl b1 (Nat.le_refl _)
 have H2:Hid (w2.heap[w.heap.size+1]?=some (.map (two (.func (.func 186) #[] #[.pointer (some ⟨w.heap.size,0,none⟩)]) (.func (.func 187) #[rdp g] #[])) 2)):=by rw [←hz];exact h2
 have B2:Hid (Below w.heap.size w w2):=hB.trans (b2.mono hB.size)
 have K2:Hid (w2.heap[w.heap.size]?=some (.cells #[.func (.func 157) #[rdp g] #[]] 142 (0,0))):=(b2.block _ (by omega)).trans hK
 have HW:=zh hW
 have HZ:=zh hz
 clear h1 h2 b1 b2 o1 o2 s1 s2 hB hK hW hz
 unfold rdp at *
 go_enter Tryz.func158,Tryz.ntmps158
 go_upto_region 2 with fail
 rw [←HW.out]
 go_wp2
 go_ret
 rw [HZ.out]
 exact ⟨rfl,K2.out,H2.out,B2.out⟩
theorem rd1_any (A g:Nat) (s:ByteArray) (bad:Bool) (w:World) (hA:w.heap[A]?=some (.cells #[.func (.func 157) #[rdp g] #[]] 142 (0,0))) (h:Rd 225 g s bad w) (hm:s.size≤281474976710656) :
 Calls Tryz.prog 186 #[.pointer (some ⟨A,0,none⟩)] w fun e w'=>e=.returned (.int .u64 (fixV s 4))∧Rd 225 g (fixT s 4) (bad||!hasF s 4) w'∧w.grownBy w' (some g):=by
 have c0:w.cell? ⟨A,0,none⟩=some (.func (.func 157) #[rdp g] #[]):=zcr w A 0 _ 142 (0,0) hA
 have K:=zh (fixedr_any g s bad 4 w h hm)
 unfold rdp at *
 clear h hA
 go_enter Tryz.func186,Tryz.ntmps186
 go_wp2_with fail
 refine K.out.mono ?_
 rintro e w1 ⟨rfl,R1,g1⟩
 go_wp2
 go_ret
 exact ⟨rfl,R1,g1⟩
theorem next1_any (s:ByteArray) (w:World) (hs:s.size≤281474976710656) (hF:fixV s 1=161) :
 Calls Tryz.prog 119 #[.string s] w fun e w'=>e=.returned (.tuple #[.int .i64 (nxV s),.string (nxB s),.int .i64 (nxN s),.bool (nOk s)])∧Below w.heap.size w w':=by
 have hv:nV s=1:=by unfold nV;rw [hF];rfl
 have KN:=zh (fun (W:World)=>new_any s W)
 have KR:=zh (fun (g:Nat) (W:World)=>reads_any g W)
 have HF:Hid (fixV s 1=161):=hF
 have HS:=zh hs
 have HS1:Hid ((fixT s 1).size≤281474976710656):=Nat.le_trans (fixT_size s 1) hs
 have HM:Hid ((fixV (fixT s 1) 4:Nat)=nM s):=by show _=_;unfold nM;rw [hv];rfl
 have HT:Hid (fixT (fixT s 1) 4=nT s):=by show _=_;unfold nT;rw [hv];rfl
 have HO2:Hid ((false||!hasF s ((1:Nat):Int)||!hasF (fixT s 1) 4)=!nO2 s):=by show _=_;unfold nO2;rw [hv];show _=!(hasF s 1&&hasF (fixT s 1) 4);show (false||!hasF s 1||!hasF (fixT s 1) 4)=_;cases hasF s 1<;>cases hasF (fixT s 1) 4<;>rfl
 have HTS:Hid ((nT s).size≤s.size):=by show _≤_;rw [←HT.out];exact Nat.le_trans (fixT_size _ 4) (fixT_size s 1)
 have HU:Hid ((nU s).size≤(nT s).size):=bytT_size _ _
 have HW:Hid ((nW s).size≤(nU s).size):=bytT_size _ _
 have HR:Hid ((!nO2 s||!hasB (nT s) 4||!hasB (nU s) (nM s))=!nR s):=by show _=_;unfold nR;cases nO2 s<;>cases hasB (nT s) 4<;>cases hasB (nU s) (nM s)<;>rfl
 have HHD:Hid (s.extract 0 (s.size-(nT s).size)=nHd s):=rfl
 have HQ:Hid (nOk s=(decide (nM s≤1048576)&&(nR s&&((nS s).toList==(sealB (nHd s) (nBd s)).toList)))):=by show _=_;unfold nOk;rw [hv];rfl
 have HVV:Hid (nV s=1):=hv
 obtain ⟨M,hM⟩:∃ M,M=nM s:=⟨_,rfl⟩
 obtain ⟨T,hT⟩:∃ T,T=nT s:=⟨_,rfl⟩
 obtain ⟨r,hr⟩:∃ r,r=nR s:=⟨_,rfl⟩
 have HNM:=zh hM
 have HNT:=zh hT
 have HNR:=zh hr
 rw [←hM] at HM HQ HR
 rw [←hT] at HT HTS HU HR HHD
 rw [←hr] at HQ HR
 have HML:Hid (M<18446744073709551616):=by show _<_;rw [hM];exact nM_lt s
 have HS4:Hid (bytV T 4=nS s):=by show _=_;rw [hT];rfl
 have HU4:Hid (bytT T 4=nU s):=by show _=_;rw [hT];rfl
 have HB4:Hid (bytV (nU s) M=nBd s):=by show _=_;rw [hM];rfl
 have HW4:Hid (bytT (nU s) M=nW s):=by show _=_;rw [hM];rfl
 have HUS:Hid ((nU s).size≤281474976710656):=Nat.le_trans HU.out (Nat.le_trans HTS.out hs)
 clear hF hs hv hM hT hr
 go_enter Tryz.func119,Tryz.ntmps119
 go_wp2_with fail
 refine (KN.out _).mono ?_
 rintro e w1 ⟨rfl,hw1⟩
 have R1:Hid (Rd 225 w.heap.size s false w1):=by show Rd _ _ _ _ _;rw [hw1];exact Rd.new w 225 s false
 have B1:Hid (Below w.heap.size w w1):=by show Below _ _ _;rw [hw1];exact (Below.refl _ _).alloc (Nat.le_refl _) _
 have Z1:Hid (w1.heap.size=w.heap.size+1):=by show _=_;rw [hw1];simp
 clear hw1
 go_wp2_with fail
 refine (fixedr_any _ _ _ 1 _ R1.out HS.out).mono ?_
 rintro e w2 ⟨rfl,r2,g2⟩
 rw [HF.out]
 have R2:=zh r2
 have B2:Hid (Below w.heap.size w w2):=below_grownBy B1.out g2 B1.out.size (Nat.le_refl _)
 have Z2:Hid (w.heap.size<w2.heap.size):=r2.lt
 clear r2 g2
 go_wp2_with fail
 refine (KR.out _ _).mono ?_
 rintro e w3 ⟨rfl,a3,m3,b3⟩
 have hl:=look_step (T:=209) 1 (.func (.func 186) #[] #[.pointer (some ⟨w2.heap.size,0,none⟩)]) Tryz.underlying209 m3 (two_1 _ _)
 have R2:Hid (Rd 225 w.heap.size (fixT s 1) (false||!hasF s ((1:Nat):Int)) w3):=R2.out.below b3 Z2.out
 have A2:=zh a3
 have B3:Hid (Below w.heap.size w w3):=B2.out.trans (b3.mono B2.out.size)
 clear m3 b3 a3
 unfold rdp at *
 go_wp2_with fail
 refine (rd1_any _ _ _ _ _ A2.out R2.out HS1.out).mono ?_
 rintro e w4 ⟨rfl,r4,g4⟩
 rw [HM.out]
 rw [HT.out,HO2.out] at r4
 have R4:=zh r4
 have B4:Hid (Below w.heap.size w w4):=below_grownBy B3.out g4 B3.out.size (Nat.le_refl _)
 clear r4 g4 hl
 by_cases hgt:(1048576:Int)<(M:Int)
 ·have hno:nOk s=false:=by rw [HQ.out,decide_eq_false (by omega)];rfl
  go_wp2
  refine bodyPost_ret (v:=_) (by simp [results,Tryz.results119,go_sem]) rfl ⟨nx_ret_no hno,B4.out⟩
 have hms:=HTS.out
 have hss:=HS.out
 have hsub:wrap64 ((s.size:Int)-(T.size:Int))=((s.size-T.size:Nat):Int):=by unfold wrap64;omega
 have hsz:s.size-T.size≤s.size:=by omega
 have hMw:IntKind.i64.wrap (M:Int)=M:=IntWalk.i64_in _ (by omega)
 have hgt2:¬ ((1048576:Int)<(M:Int)):=hgt
 go_wp2_with fail
 refine (left_any _ _ _ _ R4.out).mono ?_
 rintro e w5 ⟨rfl,rfl⟩
 go_wp2_with fail
 refine (bytes_any _ _ _ 4 _ R4.out (Nat.le_trans hms hss)).mono ?_
 rintro e w6 ⟨rfl,r6,g6⟩
 rw [HS4.out,HHD.out]
 rw [HU4.out] at r6
 have R6:=zh r6
 have B6:Hid (Below w.heap.size w w6):=below_grownBy B4.out g6 B4.out.size (Nat.le_refl _)
 clear r6 g6
 go_wp2_with fail
 refine (bytes_any _ _ _ (M:Int) _ R6.out HUS.out).mono ?_
 rintro e w7 ⟨rfl,r7,g7⟩
 rw [HB4.out]
 rw [HW4.out,HR.out] at r7
 have R7:=zh r7
 have B7:Hid (Below w.heap.size w w7):=below_grownBy B6.out g7 B6.out.size (Nat.le_refl _)
 clear r7 g7
 cases r with
 | false =>
   have hno:nOk s=false:=by rw [HQ.out,decide_eq_true (by omega)];rfl
   have HNO:=zh hno
   clear hno
   go_wp2_with fail
   refine (ok_any _ _ _ _ R7.out).mono ?_
   rintro e w8 ⟨rfl,rfl⟩
   go_wp2
   refine bodyPost_ret (v:=_) (by simp [results,Tryz.results119,go_sem]) rfl ⟨nx_ret_no HNO.out,B7.out⟩
 | true =>
   obtain ⟨q,hq⟩:∃ q,((nS s).toList==(sealB (nHd s) (nBd s)).toList)=q:=⟨_,rfl⟩
   have HQ2:Hid (nOk s=q):=by show _=_;rw [HQ.out,decide_eq_true (by omega),hq];rfl
   have HHZ:=zh (nHd_size s)
   have HBZ:Hid ((nBd s).size≤281474976710656):=Nat.le_trans (bytV_size _ _) HUS.out
   cases q with
   | false =>
     go_wp2_with fail
     refine (ok_any _ _ _ _ R7.out).mono ?_
     rintro e w8 ⟨rfl,rfl⟩
     go_wp2_with fail
     refine (seal_any _ _ _ (Nat.le_trans HHZ.out hss) HBZ.out).mono ?_
     rintro e w9 ⟨rfl,b9⟩
     have B9:Hid (Below w.heap.size w w9):=B7.out.trans (b9.mono B7.out.size)
     clear b9
     go_wp2
     refine bodyPost_ret (v:=_) (by simp [results,Tryz.results119,go_sem]) rfl ⟨nx_ret_no HQ2.out,B9.out⟩
   | true =>
     have hw4:(nW s).size≤s.size:=Nat.le_trans HW.out (Nat.le_trans HU.out hms)
     have hsub2:wrap64 ((s.size:Int)-((nW s).size:Int))=(s.size:Int)-((nW s).size:Int):=by unfold wrap64;omega
     go_wp2_with fail
     refine (ok_any _ _ _ _ R7.out).mono ?_
     rintro e w8 ⟨rfl,rfl⟩
     go_wp2_with fail
     refine (seal_any _ _ _ (Nat.le_trans HHZ.out hss) HBZ.out).mono ?_
     rintro e w9 ⟨rfl,b9⟩
     have B9:Hid (Below w.heap.size w w9):=B7.out.trans (b9.mono B7.out.size)
     have R9:=zh (R7.out.below b9 R7.out.lt)
     clear b9
     go_wp2_with fail
     refine (left_any _ _ _ _ R9.out).mono ?_
     rintro e w10 ⟨rfl,rfl⟩
     go_wp2
     refine bodyPost_ret (v:=_) (by simp [results,Tryz.results119,go_sem]) rfl ⟨nx_ret_yes HQ2.out HVV.out rfl rfl,B9.out⟩
theorem next2_any (s:ByteArray) (w:World) (hs:s.size≤281474976710656) (hF:fixV s 1=162) :
 Calls Tryz.prog 119 #[.string s] w fun e w'=>e=.returned (.tuple #[.int .i64 (nxV s),.string (nxB s),.int .i64 (nxN s),.bool (nOk s)])∧Below w.heap.size w w':=by
 have hv:nV s=2:=by unfold nV;rw [hF];rfl
 have KN:=zh (fun (W:World)=>new_any s W)
 have KR:=zh (fun (g:Nat) (W:World)=>reads_any g W)
 have HF:Hid (fixV s 1=162):=hF
 have HS:=zh hs
 have HS1:Hid ((fixT s 1).size≤281474976710656):=Nat.le_trans (fixT_size s 1) hs
 have HM:Hid ((varV (fixT s 1):Nat)=nM s):=by show _=_;unfold nM;rw [hv];rfl
 have HT:Hid (varT (fixT s 1)=nT s):=by show _=_;unfold nT;rw [hv];rfl
 have HO2:Hid ((false||!hasF s ((1:Nat):Int)||!varO (fixT s 1))=!nO2 s):=by show _=_;unfold nO2;rw [hv];show _=!(hasF s 1&&varO (fixT s 1));show (false||!hasF s 1||!varO (fixT s 1))=_;cases hasF s 1<;>cases varO (fixT s 1)<;>rfl
 have HTS:Hid ((nT s).size≤s.size):=by show _≤_;rw [←HT.out];exact Nat.le_trans (varT_size _) (fixT_size s 1)
 have HU:Hid ((nU s).size≤(nT s).size):=bytT_size _ _
 have HW:Hid ((nW s).size≤(nU s).size):=bytT_size _ _
 have HR:Hid ((!nO2 s||!hasB (nT s) 4||!hasB (nU s) (nM s))=!nR s):=by show _=_;unfold nR;cases nO2 s<;>cases hasB (nT s) 4<;>cases hasB (nU s) (nM s)<;>rfl
 have HHD:Hid (s.extract 0 (s.size-(nT s).size)=nHd s):=rfl
 have HQ:Hid (nOk s=(decide (nM s≤1048576)&&(nR s&&((nS s).toList==(sealB (nHd s) (nBd s)).toList)))):=by show _=_;unfold nOk;rw [hv];rfl
 have HVV:Hid (nV s=2):=hv
 obtain ⟨M,hM⟩:∃ M,M=nM s:=⟨_,rfl⟩
 obtain ⟨T,hT⟩:∃ T,T=nT s:=⟨_,rfl⟩
 obtain ⟨r,hr⟩:∃ r,r=nR s:=⟨_,rfl⟩
 have HNM:=zh hM
 have HNT:=zh hT
 have HNR:=zh hr
 rw [←hM] at HM HQ HR
 rw [←hT] at HT HTS HU HR HHD
 rw [←hr] at HQ HR
 have HML:Hid (M<18446744073709551616):=by show _<_;rw [hM];exact nM_lt s
 have HS4:Hid (bytV T 4=nS s):=by show _=_;rw [hT];rfl
 have HU4:Hid (bytT T 4=nU s):=by show _=_;rw [hT];rfl
 have HB4:Hid (bytV (nU s) M=nBd s):=by show _=_;rw [hM];rfl
 have HW4:Hid (bytT (nU s) M=nW s):=by show _=_;rw [hM];rfl
 have HUS:Hid ((nU s).size≤281474976710656):=Nat.le_trans HU.out (Nat.le_trans HTS.out hs)
 clear hF hs hv hM hT hr
 go_enter Tryz.func119,Tryz.ntmps119
 go_wp2_with fail
 refine (KN.out _).mono ?_
 rintro e w1 ⟨rfl,hw1⟩
 have R1:Hid (Rd 225 w.heap.size s false w1):=by show Rd _ _ _ _ _;rw [hw1];exact Rd.new w 225 s false
 have B1:Hid (Below w.heap.size w w1):=by show Below _ _ _;rw [hw1];exact (Below.refl _ _).alloc (Nat.le_refl _) _
 have Z1:Hid (w1.heap.size=w.heap.size+1):=by show _=_;rw [hw1];simp
 clear hw1
 go_wp2_with fail
 refine (fixedr_any _ _ _ 1 _ R1.out HS.out).mono ?_
 rintro e w2 ⟨rfl,r2,g2⟩
 rw [HF.out]
 have R2:=zh r2
 have B2:Hid (Below w.heap.size w w2):=below_grownBy B1.out g2 B1.out.size (Nat.le_refl _)
 have Z2:Hid (w.heap.size<w2.heap.size):=r2.lt
 clear r2 g2
 go_wp2_with fail
 refine (KR.out _ _).mono ?_
 rintro e w3 ⟨rfl,a3,m3,b3⟩
 have hl:=look_step (T:=209) 2 (.func (.func 187) #[rdp w.heap.size] #[]) Tryz.underlying209 m3 (two_2 _ _)
 have R2:Hid (Rd 225 w.heap.size (fixT s 1) (false||!hasF s ((1:Nat):Int)) w3):=R2.out.below b3 Z2.out
 have A2:=zh a3
 have B3:Hid (Below w.heap.size w w3):=B2.out.trans (b3.mono B2.out.size)
 clear m3 b3 a3
 unfold rdp at *
 go_wp2_with fail
 refine (var_any _ _ _ _ R2.out HS1.out).mono ?_
 rintro e w4 ⟨rfl,r4,g4⟩
 rw [HM.out]
 rw [HT.out,HO2.out] at r4
 have R4:=zh r4
 have B4:Hid (Below w.heap.size w w4):=below_grownBy B3.out g4 B3.out.size (Nat.le_refl _)
 clear r4 g4 hl
 by_cases hgt:(1048576:Int)<(M:Int)
 ·have hno:nOk s=false:=by rw [HQ.out,decide_eq_false (by omega)];rfl
  go_wp2
  refine bodyPost_ret (v:=_) (by simp [results,Tryz.results119,go_sem]) rfl ⟨nx_ret_no hno,B4.out⟩
 have hms:=HTS.out
 have hss:=HS.out
 have hsub:wrap64 ((s.size:Int)-(T.size:Int))=((s.size-T.size:Nat):Int):=by unfold wrap64;omega
 have hsz:s.size-T.size≤s.size:=by omega
 have hMw:IntKind.i64.wrap (M:Int)=M:=IntWalk.i64_in _ (by omega)
 have hgt2:¬ ((1048576:Int)<(M:Int)):=hgt
 go_wp2_with fail
 refine (left_any _ _ _ _ R4.out).mono ?_
 rintro e w5 ⟨rfl,rfl⟩
 go_wp2_with fail
 refine (bytes_any _ _ _ 4 _ R4.out (Nat.le_trans hms hss)).mono ?_
 rintro e w6 ⟨rfl,r6,g6⟩
 rw [HS4.out,HHD.out]
 rw [HU4.out] at r6
 have R6:=zh r6
 have B6:Hid (Below w.heap.size w w6):=below_grownBy B4.out g6 B4.out.size (Nat.le_refl _)
 clear r6 g6
 go_wp2_with fail
 refine (bytes_any _ _ _ (M:Int) _ R6.out HUS.out).mono ?_
 rintro e w7 ⟨rfl,r7,g7⟩
 rw [HB4.out]
 rw [HW4.out,HR.out] at r7
 have R7:=zh r7
 have B7:Hid (Below w.heap.size w w7):=below_grownBy B6.out g7 B6.out.size (Nat.le_refl _)
 clear r7 g7
 cases r with
 | false =>
   have hno:nOk s=false:=by rw [HQ.out,decide_eq_true (by omega)];rfl
   have HNO:=zh hno
   clear hno
   go_wp2_with fail
   refine (ok_any _ _ _ _ R7.out).mono ?_
   rintro e w8 ⟨rfl,rfl⟩
   go_wp2
   refine bodyPost_ret (v:=_) (by simp [results,Tryz.results119,go_sem]) rfl ⟨nx_ret_no HNO.out,B7.out⟩
 | true =>
   obtain ⟨q,hq⟩:∃ q,((nS s).toList==(sealB (nHd s) (nBd s)).toList)=q:=⟨_,rfl⟩
   have HQ2:Hid (nOk s=q):=by show _=_;rw [HQ.out,decide_eq_true (by omega),hq];rfl
   have HHZ:=zh (nHd_size s)
   have HBZ:Hid ((nBd s).size≤281474976710656):=Nat.le_trans (bytV_size _ _) HUS.out
   cases q with
   | false =>
     go_wp2_with fail
     refine (ok_any _ _ _ _ R7.out).mono ?_
     rintro e w8 ⟨rfl,rfl⟩
     go_wp2_with fail
     refine (seal_any _ _ _ (Nat.le_trans HHZ.out hss) HBZ.out).mono ?_
     rintro e w9 ⟨rfl,b9⟩
     have B9:Hid (Below w.heap.size w w9):=B7.out.trans (b9.mono B7.out.size)
     clear b9
     go_wp2
     refine bodyPost_ret (v:=_) (by simp [results,Tryz.results119,go_sem]) rfl ⟨nx_ret_no HQ2.out,B9.out⟩
   | true =>
     have hw4:(nW s).size≤s.size:=Nat.le_trans HW.out (Nat.le_trans HU.out hms)
     have hsub2:wrap64 ((s.size:Int)-((nW s).size:Int))=(s.size:Int)-((nW s).size:Int):=by unfold wrap64;omega
     go_wp2_with fail
     refine (ok_any _ _ _ _ R7.out).mono ?_
     rintro e w8 ⟨rfl,rfl⟩
     go_wp2_with fail
     refine (seal_any _ _ _ (Nat.le_trans HHZ.out hss) HBZ.out).mono ?_
     rintro e w9 ⟨rfl,b9⟩
     have B9:Hid (Below w.heap.size w w9):=B7.out.trans (b9.mono B7.out.size)
     have R9:=zh (R7.out.below b9 R7.out.lt)
     clear b9
     go_wp2_with fail
     refine (left_any _ _ _ _ R9.out).mono ?_
     rintro e w10 ⟨rfl,rfl⟩
     go_wp2
     refine bodyPost_ret (v:=_) (by simp [results,Tryz.results119,go_sem]) rfl ⟨nx_ret_yes HQ2.out HVV.out rfl rfl,B9.out⟩
theorem nextN_any (s:ByteArray) (w:World) (hs:s.size≤281474976710656) (h1:nV s≠1) (h2:nV s≠2) :
 Calls Tryz.prog 119 #[.string s] w fun e w'=>e=.returned (.tuple #[.int .i64 (nxV s),.string (nxB s),.int .i64 (nxN s),.bool (nOk s)])∧Below w.heap.size w w':=by
 have hno:nOk s=false:=by unfold nOk;rw [decide_eq_false h1,decide_eq_false h2];rfl
 have HNO:=zh hno
 have KN:=zh (fun (W:World)=>new_any s W)
 have KR:=zh (fun (g:Nat) (W:World)=>reads_any g W)
 have HS:=zh hs
 obtain ⟨v,hv⟩:∃ v,v=nV s:=⟨_,rfl⟩
 obtain ⟨F,hF⟩:∃ F,F=fixV s 1:=⟨_,rfl⟩
 have hlt:F<256:=by rw [hF];exact fixV_lt1 s
 have hvF:(F:Int)-160=v:=by rw [hv,hF];rfl
 have hw1:IntKind.i64.wrap (F:Int)=F:=IntWalk.i64_in _ (by omega)
 have hw2:wrap64 ((F:Int)-160)=v:=by rw [←hvF];unfold wrap64;omega
 have HF:Hid (fixV s 1=F):=hF.symm
 rw [←hv] at h1 h2
 have KL:=zh (fun (g:Nat) (a b:Value) (W:World) (m:W.heap[g]?=some (.map (two a b) 2))=>look_none (T:=209) v Tryz.underlying209 Tryz.zeroValue143 m (two_n a b v h1 h2))
 clear hF hs hv hno h1 h2 hlt hvF
 go_enter Tryz.func119,Tryz.ntmps119
 go_wp2_with fail
 refine (KN.out _).mono ?_
 rintro e w1 ⟨rfl,hw1⟩
 have R1:Hid (Rd 225 w.heap.size s false w1):=by show Rd _ _ _ _ _;rw [hw1];exact Rd.new w 225 s false
 have B1:Hid (Below w.heap.size w w1):=by show Below _ _ _;rw [hw1];exact (Below.refl _ _).alloc (Nat.le_refl _) _
 clear hw1
 go_wp2_with fail
 refine (fixedr_any _ _ _ 1 _ R1.out HS.out).mono ?_
 rintro e w2 ⟨rfl,r2,g2⟩
 rw [HF.out]
 have R2:=zh r2
 have B2:Hid (Below w.heap.size w w2):=below_grownBy B1.out g2 B1.out.size (Nat.le_refl _)
 clear r2 g2
 go_wp2_with fail
 refine (KR.out _ _).mono ?_
 rintro e w3 ⟨rfl,a3,m3,b3⟩
 have hl:=KL.out _ _ _ _ m3
 have B3:Hid (Below w.heap.size w w3):=B2.out.trans (b3.mono B2.out.size)
 clear m3 b3 a3
 go_wp2
 refine bodyPost_ret (v:=_) (by simp [results,Tryz.results119,go_sem]) rfl ⟨nx_ret_no HNO.out,B3.out⟩
theorem next_any (s:ByteArray) (w:World) (hs:s.size≤281474976710656) :
 Calls Tryz.prog 119 #[.string s] w fun e w'=>e=.returned (.tuple #[.int .i64 (nxV s),.string (nxB s),.int .i64 (nxN s),.bool (nOk s)])∧Below w.heap.size w w':=by
 by_cases h1:nV s=1
 ·exact next1_any s w hs (by unfold nV at h1;omega)
 ·by_cases h2:nV s=2
  ·exact next2_any s w hs (by unfold nV at h2;omega)
  ·exact nextN_any s w hs h1 h2
def uO (s:ByteArray):Bool:=nOk s&&decide (nxN s=s.size)
def uV (s:ByteArray):Int:=if uO s then nxV s else 0
def uB (s:ByteArray):ByteArray:=if uO s then nxB s else ⟨#[]⟩
theorem u_ret_no {s:ByteArray} (h:uO s=false):Ending.returned (.tuple #[.int .i64 0,.string ⟨#[]⟩,.bool false])=Ending.returned (.tuple #[.int .i64 (uV s),.string (uB s),.bool (uO s)]):=by
 unfold uV uB;rw [h];rfl
theorem u_ret_yes {s:ByteArray} (h:uO s=true):Ending.returned (.tuple #[.int .i64 (nxV s),.string (nxB s),.bool true])=Ending.returned (.tuple #[.int .i64 (uV s),.string (uB s),.bool (uO s)]):=by
 unfold uV uB;rw [h];rfl
theorem nxN_le (s:ByteArray):0≤nxN s∧nxN s≤s.size:=by
 unfold nxN
 split
 ·have h1:(nW s).size≤s.size:=by
   have a1:(nW s).size≤(nU s).size:=bytT_size _ _
   have a2:(nU s).size≤(nT s).size:=bytT_size _ _
   have a3:(nT s).size≤(fixT s 1).size:=by
    unfold nT
    split
    ·exact fixT_size _ _
    ·exact varT_size _
   have a4:=fixT_size s 1
   omega
  omega
 ·omega
theorem unpack_any (s:ByteArray) (w:World) (hs:s.size≤281474976710656) :
 Calls Tryz.prog 189 #[.string s] w fun e w'=>e=.returned (.tuple #[.int .i64 (uV s),.string (uB s),.bool (uO s)])∧Below w.heap.size w w':=by
 have KN:=zh (next_any s w hs)
 obtain ⟨hn0,hn1⟩:=nxN_le s
 have hu:uO s=(nOk s&&decide (nxN s=s.size)):=rfl
 have U1:=zh (fun h=>u_ret_no (s:=s) h)
 have U2:=zh (fun h=>u_ret_yes (s:=s) h)
 obtain ⟨ok,hok⟩:∃ ok,ok=nOk s:=⟨_,rfl⟩
 rw [←hok] at KN hu
 obtain ⟨n,hn⟩:∃ n,n=nxN s:=⟨_,rfl⟩
 rw [←hn] at KN hu hn0 hn1
 clear hok hn
 cases ok with
 | false =>
   have HU:=zh (U1.out hu)
   clear hu U1 U2
   go_enter Tryz.func189,Tryz.ntmps189
   go_wp2_with fail
   refine KN.out.mono ?_
   rintro e w1 ⟨rfl,b1⟩
   go_wp2
   refine bodyPost_ret (v:=_) (by simp [results,Tryz.results189,go_sem]) rfl ⟨HU.out,b1⟩
 | true =>
   by_cases hlt:n<(s.size:Int)
   ·have HU:=zh (U1.out (by rw [hu,decide_eq_false (by omega)];rfl))
    clear hu U1 U2
    go_enter Tryz.func189,Tryz.ntmps189
    go_wp2_with fail
    refine KN.out.mono ?_
    rintro e w1 ⟨rfl,b1⟩
    go_wp2
    refine bodyPost_ret (v:=_) (by simp [results,Tryz.results189,go_sem]) rfl ⟨HU.out,b1⟩
   ·have HU:=zh (U2.out (by rw [hu,decide_eq_true (by omega)];rfl))
    clear hu U1 U2
    go_enter Tryz.func189,Tryz.ntmps189
    go_wp2_with fail
    refine KN.out.mono ?_
    rintro e w1 ⟨rfl,b1⟩
    go_wp2
    refine bodyPost_ret (v:=_) (by simp [results,Tryz.results189,go_sem]) rfl ⟨HU.out,b1⟩
end Go.Proofs.YtnobeoppffoomaaGreat
