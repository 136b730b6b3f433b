/- Parts of a proof. -/
import Derived.Test.YtidndekacnmihaaGreatC00
import Derived.Test.YtidndekacnmihaaGreatC02
set_option linter.unusedVariables false
set_option linter.unusedSimpArgs false
set_option maxHeartbeats 8000000
set_option maxRecDepth 100000
namespace Go.Proofs.YtidndekacnmihaaGreat
open Go.RowKit
section
open Dk
def Dk.zeros (n:Nat):List UInt8:=List.replicate n 0
theorem zkZ (a b:List UInt8):txt a++txt b=txt (a++b):=by
 apply ByteArray.ext;simp [txt,zup]
theorem za0 {d:St} {i:Int} (hd:d.dead=false) (h0:0≤i) (h1:i<d.n):d.refuses i=0:=by
 unfold St.refuses;rw [hd,if_neg (by decide),if_neg (by omega)]
theorem zcJ {d:St} {i:Int} (hd:d.dead=false) (h0:i<0∨(d.n:Int)≤i):d.refuses i=5:=by
 unfold St.refuses;rw [hd,if_neg (by decide),if_pos h0]
theorem zi7 {d:St} {i:Nat} {s:List UInt8} (hl:d.left<0) (hd:d.dead=false) (hi:i<d.n) (hs:s.length≤64):d.write i s=(d.put i (pad s),0):=by
 unfold St.write;rw [if_neg (by rw [za0 hd (by omega) (by omega)];simp),if_neg (by omega)];unfold St.try_;rw [if_neg (by omega),hd,if_neg (by decide)]
 have e:d.step=d:=by
  unfold St.step;rw [if_neg (by omega)]
 rw [e];rfl
theorem zi8 {d:St} (hl:d.left<0) (hd:d.dead=false):d.flush=(d.settle,0):=by
 unfold St.flush St.try_;rw [if_neg (by omega),hd,if_neg (by decide)]
 have e:d.step=d:=by
  unfold St.step;rw [if_neg (by omega)]
 rw [e]
theorem zpR {d:St} {i:Nat} (hd:d.dead=false) (hi:i<d.n):d.readS i=d.now i:=by
 unfold St.readS;rw [if_pos (za0 hd (by omega) (by omega))];rfl
end
end Go.Proofs.YtidndekacnmihaaGreat
namespace Go.Proofs
open Go.Shelf
def Tryz.lays169_ren:Go.Shelf.Ren:=⟨fun|169=>94|n=>n,fun|70=>149|9=>9|0=>0|72=>151|37=>78|127=>215|3=>3|5=>5|n=>n,fun|n=>n⟩
theorem Tryz.lays169:Go.Proofs.Lays.n169 Tryz.prog Tryz.lays169_ren:={
 mixed:=by kernel_rfl
 f169:=Tryz.func94.trans (congrArg some (by kernel_rfl))
 t0:=Tryz.underlying0
 a0:=Tryz.isAgg0
 z0:=Tryz.sizeOf0
 v0:=Tryz.zeroValue0
 t3:=Tryz.underlying3
 a3:=Tryz.isAgg3
 z3:=Tryz.sizeOf3
 v3:=Tryz.zeroValue3
 t9:=Tryz.underlying9
 a9:=Tryz.isAgg9
 z9:=Tryz.sizeOf9
 v9:=Tryz.zeroValue9
 t37:=Tryz.underlying78
 a37:=Tryz.isAgg78
 z37:=Tryz.sizeOf78
 v37:=Tryz.zeroValue78
 t70:=Tryz.underlying149
 a70:=Tryz.isAgg149
 z70:=Tryz.sizeOf149
 v70:=Tryz.zeroValue149
 t72:=Tryz.underlying151
 a72:=Tryz.isAgg151
 z72:=Tryz.sizeOf151
 v72:=Tryz.zeroValue151
 t127:=Tryz.underlying215
 a127:=Tryz.isAgg215
 z127:=Tryz.sizeOf215
 v127:=Tryz.zeroValue215 }
theorem Tryz.Builder_Extra_169:Builder.Extra Tryz.prog Tryz.lays169_ren:={
 sizeBuilder:=by kernel_rfl
 liesBuilder:=by kernel_rfl
 t5:=Tryz.underlying5
 a5:=Tryz.isAgg5
 z5:=Tryz.sizeOf5
 v5:=Tryz.zeroValue5
 infoByte:=by kernel_rfl
 cellsByte:=by kernel_rfl
 sizeByte:=by kernel_rfl
 neB5:=by decide }
open Go.RowKit in
theorem Tryz.Builder_String_any (B b:Nat) (l:List UInt8) (w:World) (h:Lib.IsBuilder 151 5 B b (Lib.byteCells l) w) (hBw:B≤w.heap.size) :
 Calls Tryz.prog 94 #[.pointer (some ⟨b,0,none⟩)] w fun e w'=>e=.returned (.string ⟨l.toArray⟩)∧Below B w w':=Any.Builder_String_any Tryz.lays169 Tryz.Builder_Extra_169 B b l w h hBw
end Go.Proofs
namespace Go.Proofs.YtidndekacnmihaaGreat
open Go.RowKit
section
open Go.Shelf Dk
theorem zfH {B b:Nat} {bs:List Value} {w w':World} (h:Lib.IsBuilder 151 5 B b bs w) (hb:Below w.heap.size w w'):Lib.IsBuilder 151 5 B b bs w':=by
 have hg:w.grownBy w' none:=⟨hb.os,hb.tape,hb.output,hb.size,fun k hk _=>hb.block k hk⟩
 have key:∀ p,Lib.BuilderAt 151 5 B b p bs w→Lib.BuilderAt 151 5 B b p bs w':=fun p h=>by
  have hlt:=h.lt;obtain ⟨hB,v,hbk,hown,hne⟩:=h;refine ⟨hB,v,(hb.block b hlt).trans hbk,hown.kept hg ?_,hne⟩
  cases e:v.ownBlock with
  | none=>exact .inl rfl
  | some k=>exact .inr (by simp)
 exact h.elim (fun h=>.inl (key _ h)) (fun h=>.inr (key _ h))
end
end Go.Proofs.YtidndekacnmihaaGreat
