/-
  FrameCodes: part G00.
  Conditions: named in each theorem.
-/
import Derived.Shelf.Strings.Builder1
import Derived.Shelf.Small.Strs
import Derived.Shelf.LaysM
import Derived.Shelf.Strconv.Clone
import Derived.Shelf.Strings.Search1
import Derived.Test.YtpdbeijfchmlgaaGreatProg
import Derived.Shelf.Strings.Repeat
import Derived.Test.YtpdbeijfchmlgaaGreatRows
import Derived.WalkKit
import Derived.WalkSpells
import Derived.WalkLawsBesides
import Derived.Lib.Hide
import Derived.Below
import Derived.BigQuiet
import Derived.StillTailTactics
import Derived.Deep.RegionHeld3
import Derived.IntWalk
import Derived.Test.YtpdbeijfchmlgaaGreatZ0
set_option linter.unusedVariables false
set_option linter.unusedSimpArgs false
set_option maxHeartbeats 16000000
set_option maxRecDepth 100000
namespace Go.Proofs
open Go.Shelf
def Tryz.lays137_ren : Go.Shelf.Ren := ⟨fun | 137 => 160 | 217 => 192 | 266 => 216 | n => n, fun | 9 => 9 | 5 => 5 | 3 => 3 | n => n, fun | n => n⟩
theorem Tryz.lays137 : Go.Proofs.Lays.n137 Tryz.prog Tryz.lays137_ren := {
  mixed := by kernel_rfl
  f137 := Tryz.func160.trans (congrArg some (by kernel_rfl))
  f217 := Tryz.func192.trans (congrArg some (by kernel_rfl))
  f266 := Tryz.func216.trans (congrArg some (by kernel_rfl))
  t3 := Tryz.underlying3
  a3 := Tryz.isAgg3
  z3 := Tryz.sizeOf3
  v3 := Tryz.zeroValue3
  t5 := Tryz.underlying5
  a5 := Tryz.isAgg5
  z5 := Tryz.sizeOf5
  v5 := Tryz.zeroValue5
  t9 := Tryz.underlying9
  a9 := Tryz.isAgg9
  z9 := Tryz.sizeOf9
  v9 := Tryz.zeroValue9 }
open Go.RowKit in
theorem Tryz.strings_IndexByte (s : ByteArray) (c : Int) (w : World) :
    Calls Tryz.prog 160 #[.string s, .int .u8 c] w fun e w' => e = .returned (.int .i64 (Lib.indexByte s.data.toList c.toNat.toUInt8)) ∧ w' = w := Any.strings_IndexByte Tryz.lays137 s c w
def Tryz.laysM316_ren : Go.Shelf.Ren := ⟨fun | 316 => 187 | n => n, fun | 9 => 9 | 3 => 3 | 4 => 4 | 37 => 62 | 0 => 0 | 127 => 141 | 5 => 5 | n => n, fun | n => n⟩
theorem Tryz.laysM316 : Go.Proofs.LaysM.n316 Tryz.prog Tryz.laysM316_ren := {
  mixed := by kernel_rfl
  f316 := Tryz.func187.trans (congrArg some (by kernel_rfl))
  t0 := Tryz.underlying0
  a0 := Tryz.isAgg0
  z0 := Tryz.sizeOf0
  v0 := Tryz.zeroValue0
  t3 := Tryz.underlying3
  a3 := Tryz.isAgg3
  z3 := Tryz.sizeOf3
  v3 := Tryz.zeroValue3
  t4 := Tryz.underlying4
  a4 := Tryz.isAgg4
  z4 := Tryz.sizeOf4
  v4 := Tryz.zeroValue4
  t9 := Tryz.underlying9
  a9 := Tryz.isAgg9
  z9 := Tryz.sizeOf9
  v9 := Tryz.zeroValue9
  t37 := Tryz.underlying62
  a37 := Tryz.isAgg62
  z37 := Tryz.sizeOf62
  v37 := Tryz.zeroValue62
  t127 := Tryz.underlying141
  a127 := Tryz.isAgg141
  z127 := Tryz.sizeOf141
  v127 := Tryz.zeroValue141
  t5 := Tryz.underlying5
  a5 := Tryz.isAgg5
  z5 := Tryz.sizeOf5
  v5 := Tryz.zeroValue5
  i0 := by kernel_rfl
  i3 := by kernel_rfl
  i4 := by kernel_rfl
  i5 := by kernel_rfl
  i9 := by kernel_rfl
  i37 := by kernel_rfl
  i127 := by kernel_rfl }
open Go.RowKit in
theorem Tryz.stringslite_Clone (s : ByteArray) (w : World) (hlim : s.size ≤ 281474976710656) :
    Calls Tryz.prog 187 #[.string s] w fun e w' => e = .returned (.string s) ∧ Below w.heap.size w w' := Any.stringslite_Clone Tryz.laysM316 s w hlim
end Go.Proofs
namespace Go.Proofs
open Go.Shelf
def Tryz.lays105_ren : Go.Shelf.Ren := ⟨fun | 105 => 154 | 212 => 188 | 99 => 189 | 165 => 190 | 166 => 110 | 170 => 191 | 169 => 61 | 263 => 212 | 264 => 213 | 206 => 214 | 240 => 164 | 241 => 215 | 276 => 193 | 277 => 217 | n => n, fun | 9 => 9 | 3 => 3 | 4 => 4 | 20 => 20 | 0 => 0 | 46 => 34 | 109 => 202 | 5 => 5 | 72 => 93 | 76 => 139 | 51 => 104 | 146 => 208 | 53 => 22 | 148 => 210 | 70 => 91 | 37 => 62 | 75 => 138 | 127 => 141 | 164 => 206 | 80 => 97 | n => n, fun | n => n⟩
theorem Tryz.lays105 : Go.Proofs.Lays.n105 Tryz.prog Tryz.lays105_ren := {
  mixed := by kernel_rfl
  f99 := Tryz.func189.trans (congrArg some (by kernel_rfl))
  f105 := Tryz.func154.trans (congrArg some (by kernel_rfl))
  f165 := Tryz.func190.trans (congrArg some (by kernel_rfl))
  f166 := Tryz.func110.trans (congrArg some (by kernel_rfl))
  f169 := Tryz.func61.trans (congrArg some (by kernel_rfl))
  f170 := Tryz.func191.trans (congrArg some (by kernel_rfl))
  f206 := Tryz.func214.trans (congrArg some (by kernel_rfl))
  f212 := Tryz.func188.trans (congrArg some (by kernel_rfl))
  f240 := Tryz.func164.trans (congrArg some (by kernel_rfl))
  f241 := Tryz.func215.trans (congrArg some (by kernel_rfl))
  f263 := Tryz.func212.trans (congrArg some (by kernel_rfl))
  f264 := Tryz.func213.trans (congrArg some (by kernel_rfl))
  f276 := Tryz.func193.trans (congrArg some (by kernel_rfl))
  f277 := Tryz.func217.trans (congrArg some (by kernel_rfl))
  t0 := Tryz.underlying0
  a0 := Tryz.isAgg0
  z0 := Tryz.sizeOf0
  v0 := Tryz.zeroValue0
  t3 := Tryz.underlying3
  a3 := Tryz.isAgg3
  z3 := Tryz.sizeOf3
  v3 := Tryz.zeroValue3
  t4 := Tryz.underlying4
  a4 := Tryz.isAgg4
  z4 := Tryz.sizeOf4
  v4 := Tryz.zeroValue4
  t5 := Tryz.underlying5
  a5 := Tryz.isAgg5
  z5 := Tryz.sizeOf5
  v5 := Tryz.zeroValue5
  t9 := Tryz.underlying9
  a9 := Tryz.isAgg9
  z9 := Tryz.sizeOf9
  v9 := Tryz.zeroValue9
  t20 := Tryz.underlying20
  a20 := Tryz.isAgg20
  z20 := Tryz.sizeOf20
  v20 := Tryz.zeroValue20
  t37 := Tryz.underlying62
  a37 := Tryz.isAgg62
  z37 := Tryz.sizeOf62
  v37 := Tryz.zeroValue62
  t46 := Tryz.underlying34
  a46 := Tryz.isAgg34
  z46 := Tryz.sizeOf34
  v46 := Tryz.zeroValue34
  t51 := Tryz.underlying104
  a51 := Tryz.isAgg104
  z51 := Tryz.sizeOf104
  v51 := Tryz.zeroValue104
  t53 := Tryz.underlying22
  a53 := Tryz.isAgg22
  z53 := Tryz.sizeOf22
  v53 := Tryz.zeroValue22
  t70 := Tryz.underlying91
  a70 := Tryz.isAgg91
  z70 := Tryz.sizeOf91
  v70 := Tryz.zeroValue91
  t72 := Tryz.underlying93
  a72 := Tryz.isAgg93
  z72 := Tryz.sizeOf93
  v72 := Tryz.zeroValue93
  t75 := Tryz.underlying138
  a75 := Tryz.isAgg138
  z75 := Tryz.sizeOf138
  v75 := Tryz.zeroValue138
  t76 := Tryz.underlying139
  a76 := Tryz.isAgg139
  z76 := Tryz.sizeOf139
  v76 := Tryz.zeroValue139
  t109 := Tryz.underlying202
  a109 := Tryz.isAgg202
  z109 := Tryz.sizeOf202
  v109 := Tryz.zeroValue202
  t127 := Tryz.underlying141
  a127 := Tryz.isAgg141
  z127 := Tryz.sizeOf141
  v127 := Tryz.zeroValue141
  t146 := Tryz.underlying208
  a146 := Tryz.isAgg208
  z146 := Tryz.sizeOf208
  v146 := Tryz.zeroValue208
  t148 := Tryz.underlying210
  a148 := Tryz.isAgg210
  z148 := Tryz.sizeOf210
  v148 := Tryz.zeroValue210
  t164 := Tryz.underlying206
  a164 := Tryz.isAgg206
  z164 := Tryz.sizeOf206
  v164 := Tryz.zeroValue206 }
theorem Tryz.Builder_Extra_105 : Builder.Extra Tryz.prog Tryz.lays105_ren := {
  sizeBuilder := by kernel_rfl
  liesBuilder := by kernel_rfl
  t5 := Tryz.underlying5
  a5 := Tryz.isAgg5
  z5 := Tryz.sizeOf5
  v5 := Tryz.zeroValue5
  infoByte := by kernel_rfl
  cellsByte := by kernel_rfl
  sizeByte := by kernel_rfl
  neB5 := by decide }
open Go.RowKit Go.Lib in
theorem Tryz.strings_Repeat (s : ByteArray) (c : Nat) (w : World) (hc : c ≤ 9223372036854775807) (hlen : s.size * c ≤ 140737488355328) :
    Calls Tryz.prog 154 #[.string s, .int .i64 c] w fun e w' => e = .returned (.string ⟨(Lib.repeatL s.data.toList c).toArray⟩) ∧ Below w.heap.size w w' := Any.strings_Repeat Tryz.lays105 Tryz.Builder_Extra_105 s c w hc hlen
end Go.Proofs
namespace Go.Proofs.YtpdbeijfchmlgaaGreat
open Go.RowKit
structure En where
 term:Int
 index:Int
 kind:Int
 client:Int
 seq:Int
 block:Int
 many:Int
 node:Int
 level:Int
 data:ByteArray
 old:ByteArray
abbrev ev (e:En):Value:=.agg #[.int .u64 e.term,.int .u64 e.index,.int .i64 e.kind,.int .u64 e.client,.int .u64 e.seq,.int .u64 e.block,.int .u64 e.many,.int .i64 e.node,.int .i64 e.level,.string e.data,.string e.old]
abbrev ec (e:En):Array Value:=#[.int .u64 e.term,.int .u64 e.index,.int .i64 e.kind,.int .u64 e.client,.int .u64 e.seq,.int .u64 e.block,.int .u64 e.many,.int .i64 e.node,.int .i64 e.level,.string e.data,.string e.old]
theorem _root_.Go.Proofs.YtpdbeijfchmlgaaGreat.zecl {w:World} {b:Nat} {e:En} (h:w.heap[b]?=some (.cells (ec e) 24 (0,0))):w.cell? ⟨b,0,none⟩=some (.int .u64 e.term)∧w.cell? ⟨b,1,none⟩=some (.int .u64 e.index)∧w.cell? ⟨b,2,none⟩=some (.int .i64 e.kind)∧w.cell? ⟨b,3,none⟩=some (.int .u64 e.client)∧w.cell? ⟨b,4,none⟩=some (.int .u64 e.seq)∧w.cell? ⟨b,5,none⟩=some (.int .u64 e.block)∧w.cell? ⟨b,6,none⟩=some (.int .u64 e.many)∧w.cell? ⟨b,7,none⟩=some (.int .i64 e.node)∧w.cell? ⟨b,8,none⟩=some (.int .i64 e.level)∧w.cell? ⟨b,9,none⟩=some (.string e.data)∧w.cell? ⟨b,10,none⟩=some (.string e.old):=⟨zcr w b 0 _ 24 (0,0) h,zcr w b 1 _ 24 (0,0) h,zcr w b 2 _ 24 (0,0) h,zcr w b 3 _ 24 (0,0) h,zcr w b 4 _ 24 (0,0) h,zcr w b 5 _ 24 (0,0) h,zcr w b 6 _ 24 (0,0) h,zcr w b 7 _ 24 (0,0) h,zcr w b 8 _ 24 (0,0) h,zcr w b 9 _ 24 (0,0) h,zcr w b 10 _ 24 (0,0) h⟩
theorem _root_.Go.Proofs.YtpdbeijfchmlgaaGreat.zeclf {w:World} {b:Nat} {e:En} (h:∀ i,w.cell? ⟨b,i,none⟩=(ec e)[i]?):w.cell? ⟨b,0,none⟩=some (.int .u64 e.term)∧w.cell? ⟨b,1,none⟩=some (.int .u64 e.index)∧w.cell? ⟨b,2,none⟩=some (.int .i64 e.kind)∧w.cell? ⟨b,3,none⟩=some (.int .u64 e.client)∧w.cell? ⟨b,4,none⟩=some (.int .u64 e.seq)∧w.cell? ⟨b,5,none⟩=some (.int .u64 e.block)∧w.cell? ⟨b,6,none⟩=some (.int .u64 e.many)∧w.cell? ⟨b,7,none⟩=some (.int .i64 e.node)∧w.cell? ⟨b,8,none⟩=some (.int .i64 e.level)∧w.cell? ⟨b,9,none⟩=some (.string e.data)∧w.cell? ⟨b,10,none⟩=some (.string e.old):=⟨h 0,h 1,h 2,h 3,h 4,h 5,h 6,h 7,h 8,h 9,h 10⟩
def fl (k:Int):ByteArray :=
 if k=1 then ⟨#[99,98,100]⟩ else if k=2 then ⟨#[99,98,109]⟩ else if k=3 then ⟨#[99,109]⟩ else if k=4 then ⟨#[99]⟩
 else if k=5 then ⟨#[110]⟩ else if k=6 then ⟨#[110]⟩ else if k=7 then ⟨#[110,108]⟩ else if k=11 then ⟨#[99,98,100,111]⟩ else ⟨#[]⟩
def fb (k:Int):Bool:=decide (0≤k∧k≤11)
def mfl (k:Int):ByteArray :=
 if k=1 then ⟨#[105,112]⟩ else if k=2 then ⟨#[121]⟩ else if k=3 then ⟨#[105,112]⟩ else if k=4 then ⟨#[121]⟩
 else if k=5 then ⟨#[105,112,116,101,107]⟩ else if k=6 then ⟨#[105,121,107]⟩ else if k=7 then ⟨#[105,112,115]⟩ else if k=8 then ⟨#[105]⟩
 else if k=9 then ⟨#[107]⟩ else if k=10 then ⟨#[107]⟩ else ⟨#[]⟩
def mfb (k:Int):Bool:=decide (1≤k∧k≤10)
theorem kinds_of (k:Int):(k=0∨k=1∨k=2∨k=3∨k=4∨k=5∨k=6∨k=7∨k=8∨k=9∨k=10∨k=11)∨(k<0∨11<k):=by omega
theorem fl_none (k:Int) (h:k<0∨11<k):fl k=⟨#[]⟩:=by
 unfold fl;rw [if_neg (by omega),if_neg (by omega),if_neg (by omega),if_neg (by omega),if_neg (by omega),if_neg (by omega),if_neg (by omega),if_neg (by omega)]
theorem mfl_none (k:Int) (h:k<1∨10<k):mfl k=⟨#[]⟩:=by
 unfold mfl;rw [if_neg (by omega),if_neg (by omega),if_neg (by omega),if_neg (by omega),if_neg (by omega),if_neg (by omega),if_neg (by omega),if_neg (by omega),if_neg (by omega),if_neg (by omega)]
theorem beqF {a b:Int} (h:a≠b):(a==b)=false:=by simpa using h
theorem fields_any (k:Int) (w:World) :
 Calls Tryz.prog 111 #[.int .i64 k] w fun e w'=>e=.returned (.tuple #[.string (fl k),.bool (fb k)])∧w=w':=by
 rcases kinds_of k with h|h
 ·rcases h with rfl|rfl|rfl|rfl|rfl|rfl|rfl|rfl|rfl|rfl|rfl|rfl
  all_goals
   go_enter Tryz.func111,Tryz.ntmps111
   go_wp2;go_ret2;exact ⟨rfl,rfl⟩
 ·have e1:=fl_none k h;have e2:fb k=false:=by unfold fb;exact decide_eq_false (by omega)
  rw [e1,e2];have h0:=beqF (show k≠0 by omega);have h1:=beqF (show k≠1 by omega);have h2:=beqF (show k≠2 by omega);have h3:=beqF (show k≠3 by omega);have h4:=beqF (show k≠4 by omega);have h5:=beqF (show k≠5 by omega);have h6:=beqF (show k≠6 by omega);have h7:=beqF (show k≠7 by omega);have h8:=beqF (show k≠8 by omega);have h9:=beqF (show k≠9 by omega);have h10:=beqF (show k≠10 by omega);have h11:=beqF (show k≠11 by omega);clear h e1 e2
  go_enter Tryz.func111,Tryz.ntmps111
  go_wp2;go_ret2;exact ⟨rfl,rfl⟩
theorem mfields_any (k:Int) (w:World) :
 Calls Tryz.prog 98 #[.int .i64 k] w fun e w'=>e=.returned (.tuple #[.string (mfl k),.bool (mfb k)])∧w=w':=by
 rcases (show (k=1∨k=2∨k=3∨k=4∨k=5∨k=6∨k=7∨k=8∨k=9∨k=10)∨(k<1∨10<k) by omega) with h|h
 ·rcases h with rfl|rfl|rfl|rfl|rfl|rfl|rfl|rfl|rfl|rfl
  all_goals
   go_enter Tryz.func98,Tryz.ntmps98
   go_wp2;go_ret2;exact ⟨rfl,rfl⟩
 ·have e1:=mfl_none k h;have e2:mfb k=false:=by unfold mfb;exact decide_eq_false (by omega)
  rw [e1,e2];have h1:=beqF (show k≠1 by omega);have h2:=beqF (show k≠2 by omega);have h3:=beqF (show k≠3 by omega);have h4:=beqF (show k≠4 by omega);have h5:=beqF (show k≠5 by omega);have h6:=beqF (show k≠6 by omega);have h7:=beqF (show k≠7 by omega);have h8:=beqF (show k≠8 by omega);have h9:=beqF (show k≠9 by omega);have h10:=beqF (show k≠10 by omega);clear h e1 e2
  go_enter Tryz.func98,Tryz.ntmps98
  go_wp2;go_ret2;exact ⟨rfl,rfl⟩
theorem rfields_any (k:Int) (w:World) :
 Calls Tryz.prog 27 #[.int .i64 k] w fun e w'=>e=.returned (.tuple #[.string (fl k),.bool (fb k)])∧Below w.heap.size w w':=by
 rcases kinds_of k with h|h
 ·rcases h with rfl|rfl|rfl|rfl|rfl|rfl|rfl|rfl|rfl|rfl|rfl|rfl
  all_goals
   go_enter Tryz.func27,Tryz.ntmps27
   go_wp2;go_ret2;exact ⟨rfl,zba⟩
 ·have e1:=fl_none k h;have e2:fb k=false:=by unfold fb;exact decide_eq_false (by omega)
  rw [e1,e2];clear e1 e2
  by_cases h0:k<0
  ·clear h
   go_enter Tryz.func27,Tryz.ntmps27
   go_wp2;go_ret2;exact ⟨rfl,Below.refl _ _⟩
  ·have h1:11<k:=by omega
   clear h
   go_enter Tryz.func27,Tryz.ntmps27
   go_wp2;go_ret2;exact ⟨rfl,Below.refl _ _⟩
theorem rmfields_any (k:Int) (w:World) :
 Calls Tryz.prog 34 #[.int .i64 k] w fun e w'=>e=.returned (.tuple #[.string (mfl k),.bool (mfb k)])∧Below w.heap.size w w':=by
 rcases (show (k=1∨k=2∨k=3∨k=4∨k=5∨k=6∨k=7∨k=8∨k=9∨k=10)∨(k<1∨10<k) by omega) with h|h
 ·rcases h with rfl|rfl|rfl|rfl|rfl|rfl|rfl|rfl|rfl|rfl
  all_goals
   go_enter Tryz.func34,Tryz.ntmps34
   go_wp2;go_ret2;exact ⟨rfl,zba⟩
 ·have e1:=mfl_none k h;have e2:mfb k=false:=by unfold mfb;exact decide_eq_false (by omega)
  rw [e1,e2];clear e1 e2
  by_cases h0:k<1
  ·clear h
   go_enter Tryz.func34,Tryz.ntmps34
   go_wp2;go_ret2;exact ⟨rfl,Below.refl _ _⟩
  ·have h1:10<k:=by omega
   clear h
   go_enter Tryz.func34,Tryz.ntmps34
   go_wp2;go_ret2;exact ⟨rfl,Below.refl _ _⟩
end Go.Proofs.YtpdbeijfchmlgaaGreat
namespace Go.Proofs.YtpdbeijfchmlgaaGreat
open Go.RowKit
theorem ret_bool {a b:Bool} (h:a=b):Ending.returned (.bool a)=.returned (.bool b):=by rw [h]
def hasL (s:ByteArray) (c:Int):Bool:=s.data.toList.any fun x=>(x.toNat:Int)==c
theorem indexByte_cons (b:UInt8) (l:List UInt8) (c:UInt8):Lib.indexByte (b :: l) c=if b==c then 0 else if Lib.indexByte l c==-1 then -1 else Lib.indexByte l c+1:=rfl
theorem indexByte_has:∀ (l:List UInt8) (c:UInt8),(decide (0≤Lib.indexByte l c))=l.any fun x=>x==c
 | [],c=>rfl
 | b :: l,c=>by
   have ih:=indexByte_has l c;have hge:=Lib.indexByte_ge l c;rw [List.any_cons,←ih,indexByte_cons]
   cases hbc:b==c
   ·rw [if_neg (by simp),Bool.false_or]
    by_cases h1:Lib.indexByte l c=-1
    ·rw [h1];rfl
    ·rw [if_neg (by simpa using h1),decide_eq_decide];omega
   ·simp
theorem hasL_index (s:ByteArray) (c:Nat) (hc:c<256):decide (0≤Lib.indexByte s.data.toList c.toUInt8)=hasL s c:=by
 rw [indexByte_has];unfold hasL
 congr 1
 funext x
 rw [Bool.eq_iff_iff,beq_iff_eq,beq_iff_eq];have h1:c.toUInt8.toNat=c:=by simp [Nat.toUInt8,UInt8.toNat_ofNat'];omega
 constructor
 ·rintro rfl;rw [h1]
 ·intro h;rw [←UInt8.toNat_inj,h1];omega
theorem any_take_step0 (l:List UInt8) (k:Nat) (p:UInt8→Bool) (h:k<l.length):(l.take (k+1)).any p=((l.take k).any p||p l[k]):=by
 rw [List.take_succ_eq_append_getElem h,List.any_append]
 simp
theorem any_take_step (s:ByteArray) (k:Nat) (p:UInt8→Bool) (h:k<s.size):(s.data.toList.take (k+1)).any p=((s.data.toList.take k).any p||p s[k]) :=
 any_take_step0 s.data.toList k p (by simpa using h)
theorem mem_ba (s:ByteArray) (k:Nat) (h:k<s.size):s[k]∈s.data.toList:=List.getElem_mem (l:=s.data.toList) (n:=k) (by simpa using h)
theorem has_any (s:ByteArray) (c:Int) (w:World) (hs:s.size≤140737488355328) :
 Calls Tryz.prog 127 #[.string s,.int .u8 c] w fun e w'=>e=.returned (.bool (hasL s c))∧w=w':=by
 go_enter Tryz.func127,Tryz.ntmps127
 go_wp2
 go_loop [5] (fun i=>∃ k:Nat,k≤s.size∧i=.int .i64 k∧Hid ((s.data.toList.take k).any (fun x=>(x.toNat:Int)==c)=false)) (fun i=>s.size-(intOf i).toNat)
 case atStart=>exact ⟨0,Nat.zero_le _,rfl,rfl⟩
 case round =>
  obtain ⟨k,hk,rfl,hno⟩:=hrel
  by_cases hlt:k<s.size
  ·have hst:=zh (any_take_step s k (fun x=>(x.toNat:Int)==c) hlt);have hmem:=zh (mem_ba s k hlt)
   by_cases hc:((s[k].toNat:Int)==c)=true
   ·have H1:Hid (hasL s c=true):=by
     unfold hasL
     show List.any s.data.toList _=true
     rw [List.any_eq_true];exact ⟨s[k],hmem.out,hc⟩
    go_wp2;go_ret;exact ⟨ret_bool H1.out.symm,rfl⟩
   ·have hc2:((s[k].toNat:Int)==c)=false:=by simpa using hc
    clear hc;go_wp2
    go_round
    case rel=>exact ⟨k+1,by omega,by go_num,by show _=_;rw [hst.out,hno.out,Bool.false_or];exact hc2⟩
    case measure=>simp [intOf];omega
  ·have H1:Hid (hasL s c=false):=by
    have h2:=hno.out;rw [List.take_of_length_le (by simp;omega)] at h2;exact h2
   go_wp2;go_ret;exact ⟨ret_bool H1.out.symm,rfl⟩
theorem all_any (l:List Bool) (n c:Nat) (b:Nat) (w:World) (hn:l.length=n) (hl:n≤64) (hc:∀ j x,l[j]?=some x→w.cell? ⟨b,j,none⟩=some (.bool x)) :
 Calls Tryz.prog 52 #[.slice (some ⟨b,0,none⟩) n c] w fun e w'=>e=.returned (.bool (l.all id))∧w=w':=by
 have HC:=zh hc;clear hc;have HN:=zh hn;clear hn
 go_enter Tryz.func52,Tryz.ntmps52
 go_wp2
 go_loop [7] (fun i=>∃ k:Nat,k≤n∧i=.int .i64 k∧Hid ((l.take k).all id=true)) (fun i=>n-(intOf i).toNat)
 case atStart=>exact ⟨0,Nat.zero_le _,rfl,rfl⟩
 case round =>
  obtain ⟨k,hk,rfl,hall⟩:=hrel
  by_cases hlt:k<n
  ·have hkl:k<l.length:=by rw [HN.out];exact hlt
   have hcell:=HC.out k _ (List.getElem?_eq_getElem hkl)
   cases hx:l[k] with
   | true =>
     rw [hx] at hcell
     have H1:Hid ((l.take (k+1)).all id=true):=by
      show _=true
      rw [List.take_succ_eq_append_getElem hkl,List.all_append,hall.out,hx];rfl
     clear hx;go_wp2
     go_round
     case rel=>exact ⟨k+1,by omega,by go_num,H1⟩
     case measure=>simp [intOf];omega
   | false =>
     rw [hx] at hcell
     have H1:Hid (l.all id=false):=by
      show _=false
      rw [List.all_eq_false];exact ⟨l[k],List.getElem_mem _,by rw [hx];simp⟩
     clear hx;go_wp2;go_ret;exact ⟨ret_bool H1.out.symm,rfl⟩
  ·have H1:Hid (l.all id=true):=by
    have h2:=hall.out;rw [List.take_of_length_le (by rw [HN.out];omega)] at h2;exact h2
   go_wp2;go_ret;exact ⟨ret_bool H1.out.symm,rfl⟩
def lim (s:ByteArray) (c n lo hi:Int):Bool:=if hasL s c then (decide (lo≤n)&&decide (n≤hi)) else n==0
theorem limit_any (s:ByteArray) (c:Nat) (n lo hi:Int) (a:Addr) (w:World) (hc:c<256) (ha:w.cell? a=some (.string s)) :
 Calls Tryz.prog 159 #[.int .u8 c,.int .u64 n,.int .u64 lo,.int .u64 hi,.pointer (some a)] w fun e w'=>e=.returned (.bool (lim s c n lo hi))∧w=w':=by
 have hq:=hasL_index s c hc
 cases hb:hasL s c with
 | false =>
   have e1:Hid (lim s c n lo hi=(n==0)):=by show _=_;unfold lim;rw [hb,if_neg (by simp)]
   rw [hb] at hq
   have hlt:decide (Lib.indexByte s.data.toList c.toUInt8<0)=true:=by
    have:=of_decide_eq_false hq
    simpa using this
   clear hb hq
   go_enter Tryz.func159,Tryz.ntmps159
   go_wp2_with (go_at_call 160;refine (Tryz.strings_IndexByte s c _).mono ?_;rintro e w' ⟨rfl,rfl⟩)
   all_goals go_ret
   all_goals exact ⟨ret_bool e1.out.symm,rfl⟩
 | true =>
   have e1:Hid (lim s c n lo hi=(decide (lo≤n)&&decide (n≤hi))):=by show _=_;unfold lim;rw [hb,if_pos rfl]
   rw [hb] at hq
   have hlt:decide (Lib.indexByte s.data.toList c.toUInt8<0)=false:=by
    have:=of_decide_eq_true hq
    exact decide_eq_false (by omega)
   clear hb hq
   by_cases h1:lo≤n
   ·have h2:decide (lo≤n)=true:=decide_eq_true h1
    go_enter Tryz.func159,Tryz.ntmps159
    go_wp2_with (go_at_call 160;refine (Tryz.strings_IndexByte s c _).mono ?_;rintro e w' ⟨rfl,rfl⟩)
    all_goals go_ret
    all_goals exact ⟨ret_bool (by rw [e1.out,h2];rfl),rfl⟩
   ·have h2:decide (lo≤n)=false:=decide_eq_false h1
    go_enter Tryz.func159,Tryz.ntmps159
    go_wp2_with (go_at_call 160;refine (Tryz.strings_IndexByte s c _).mono ?_;rintro e w' ⟨rfl,rfl⟩)
    all_goals go_ret
    all_goals exact ⟨ret_bool (by rw [e1.out,h2];rfl),rfl⟩
end Go.Proofs.YtpdbeijfchmlgaaGreat
namespace Go.Proofs.YtpdbeijfchmlgaaGreat
open Go.RowKit
structure En.Ok (e:En):Prop where
 t0:0≤e.term
 t1:e.term≤18446744073709551615
 i0:0≤e.index
 i1:e.index≤18446744073709551615
 k0:-9223372036854775808≤e.kind
 k1:e.kind≤9223372036854775807
 c0:0≤e.client
 c1:e.client≤18446744073709551615
 s0:0≤e.seq
 s1:e.seq≤18446744073709551615
 b0:0≤e.block
 b1:e.block≤18446744073709551615
 m0:0≤e.many
 m1:e.many≤18446744073709551615
 n0:-9223372036854775808≤e.node
 n1:e.node≤9223372036854775807
 l0:-9223372036854775808≤e.level
 l1:e.level≤9223372036854775807
 d1:e.data.size≤140737488351232
 o1:e.old.size≤140737488351232
def asks (e:En):List Bool :=
 [fb e.kind,decide (1≤e.term),decide (1≤e.index),lim (fl e.kind) 99 e.client 1 18446744073709551615,lim (fl e.kind) 99 e.seq 0 18446744073709551615,lim (fl e.kind) 98 e.block 0 4294967295,lim (fl e.kind) 109 e.many 0 4294967295,
  lim (fl e.kind) 110 (IntKind.u64.wrap e.node) 1 7,lim (fl e.kind) 108 (IntKind.u64.wrap e.level) 1 2,lim (fl e.kind) 100 (IntKind.u64.wrap e.data.size) 0 64,lim (fl e.kind) 111 (IntKind.u64.wrap e.old.size) 0 64]
def rightB (e:En):Bool:=(asks e).all id
theorem limits_any (s:ByteArray) (w:World) :
 Calls Tryz.prog 99 #[.string s] w fun e w'=>e=.returned (.func (.func 159) #[] #[.pointer (some ⟨w.heap.size,0,none⟩)])∧w'=w.alloc (.cells #[.string s] 9):=by
 have hmf:=zmL
 go_enter Tryz.func99,Tryz.ntmps99
 go_wp2;go_ret;exact ⟨rfl,rfl⟩
theorem limit_st (s:ByteArray) (c n lo hi:Int) (a:Addr) (w:World) (hc0:0≤c) (hc:c<256) (ha:w.cell? a=some (.string s)) :
 Calls Tryz.prog 159 #[.int .u8 c,.int .u64 n,.int .u64 lo,.int .u64 hi,.pointer (some a)] w fun e w'=>e=.returned (.bool (lim s c n lo hi))∧w'=w:=by
 obtain ⟨m,rfl⟩:∃ m:Nat,c=m:=⟨c.toNat,by omega⟩;exact (limit_any s m n lo hi a w (by omega) ha).mono fun _ _ ⟨h1,h2⟩=>⟨h1,h2.symm⟩
theorem cells_bools (l:List Bool) (W:World) (j:Nat) (x:Bool) (h:l[j]?=some x):(W.alloc (.cells (l.map Value.bool).toArray 4)).cell? ⟨W.heap.size,j,none⟩=some (.bool x):=by
 rw [World.cell?_alloc_new]
 simp [h]
theorem all11 (b0 b1 b2 b3 b4 b5 b6 b7 b8 b9 b10:Bool) (W:World) :
 Calls Tryz.prog 52 #[.slice (some ⟨W.heap.size,0,none⟩) 11 11] (W.alloc (.cells #[.bool b0,.bool b1,.bool b2,.bool b3,.bool b4,.bool b5,.bool b6,.bool b7,.bool b8,.bool b9,.bool b10] 4)).drew fun e w'=>e=.returned (.bool ([b0,b1,b2,b3,b4,b5,b6,b7,b8,b9,b10].all id))∧(W.alloc (.cells #[.bool b0,.bool b1,.bool b2,.bool b3,.bool b4,.bool b5,.bool b6,.bool b7,.bool b8,.bool b9,.bool b10] 4)).drew=w' :=
 all_any [b0,b1,b2,b3,b4,b5,b6,b7,b8,b9,b10] 11 11 W.heap.size _ rfl (by omega) (fun j x h=>cells_bools [b0,b1,b2,b3,b4,b5,b6,b7,b8,b9,b10] W j x h)
theorem limit_rw (s:ByteArray) (c n lo hi:Int) (a:Addr) (w:World) (hc0:0≤c) (hc:c<256) (ha:w.cell? a=some (.string s)) :
 Calls Tryz.prog 159 #[.int .u8 c,.int .u64 n,.int .u64 lo,.int .u64 hi,.pointer (some a)] w fun e w'=>e=.returned (.bool (lim s c n lo hi))∧w=w' :=
 (limit_st s c n lo hi a w hc0 hc ha).mono fun _ _ ⟨h1,h2⟩=>⟨h1,h2.symm⟩
theorem right_any (e:En) (w:World) (ok:e.Ok) :
 Calls Tryz.prog 62 #[ev e] w fun r w'=>r=.returned (.bool (rightB e))∧Below w.heap.size w w':=by
 have HO:=zh ok;clear ok
 go_enter Tryz.func62,Tryz.ntmps62
 go_wp2_with (first
  | (go_at_call 111;refine (fields_any e.kind _).mono ?_;rintro r w' ⟨rfl,rfl⟩)
  | (go_at_call 99;refine (limits_any (fl e.kind) _).mono ?_;rintro r w' ⟨rfl,rfl⟩))
 obtain ⟨wr,hW⟩:∃ wr,wr=(w.alloc (Obj.cells (ec e) 24)).alloc (Obj.cells #[Value.string (fl e.kind)] 9):=⟨_,rfl⟩;have hb:Below w.heap.size w wr:=by rw [hW];exact zba.alloc (by simp) _
 have hrow:∀ i,i<11→wr.cell? ⟨w.heap.size,i,none⟩=(ec e)[i]?:=fun i hi=>by
  rw [hW,World.cell?_alloc_lt _ _ _ (by simp),World.cell?_alloc_new]
 have c0:=hrow 0 (by omega);have c1:=hrow 1 (by omega);have c3:=hrow 3 (by omega);have c4:=hrow 4 (by omega);have c5:=hrow 5 (by omega);have c6:=hrow 6 (by omega);have c7:=hrow 7 (by omega);have c8:=hrow 8 (by omega);have c9:=hrow 9 (by omega);have c10:=hrow 10 (by omega);simp only [ec,List.getElem?_toArray,List.getElem?_cons_succ,List.getElem?_cons_zero] at c0 c1 c3 c4 c5 c6 c7 c8 c9 c10
 have cL:wr.cell? ⟨w.heap.size+1,0,none⟩=some (.string (fl e.kind)):=by
  have h:=World.cell?_alloc_new (w.alloc (Obj.cells (ec e) 24)) #[Value.string (fl e.kind)] 9 0;rw [show (w.alloc (Obj.cells (ec e) 24)).heap.size=w.heap.size+1 by simp] at h;rw [hW,h];rfl
 rw [←hW];have HW:=zh hW;clear hW hrow;have cLd:wr.drew.cell? ⟨w.heap.size+1,0,none⟩=some (.string (fl e.kind)):=cL
 go_region_held3 (fun w'=>w'.cell? ⟨w.heap.size,0,none⟩=some (.int .u64 e.term)∧w'.cell? ⟨w.heap.size,1,none⟩=some (.int .u64 e.index)∧w'.cell? ⟨w.heap.size,3,none⟩=some (.int .u64 e.client)∧w'.cell? ⟨w.heap.size,4,none⟩=some (.int .u64 e.seq)∧w'.cell? ⟨w.heap.size,5,none⟩=some (.int .u64 e.block)∧w'.cell? ⟨w.heap.size,6,none⟩=some (.int .u64 e.many)∧w'.cell? ⟨w.heap.size,7,none⟩=some (.int .i64 e.node)∧w'.cell? ⟨w.heap.size,8,none⟩=some (.int .i64 e.level)∧w'.cell? ⟨w.heap.size,9,none⟩=some (.string e.data)∧w'.cell? ⟨w.heap.size,10,none⟩=some (.string e.old)∧w'.cell? ⟨w.heap.size+1,0,none⟩=some (.string (fl e.kind)))
  (first|exact ⟨c0,c1,c3,c4,c5,c6,c7,c8,c9,c10,cL⟩|go_keep)
  (first
    | (go_at_call 159;(with_reducible refine (limit_rw (fl e.kind) _ _ _ _ _ _ (by omega) (by omega) cLd).mono ?_);rintro r w' ⟨rfl,rfl⟩)
    | (go_at_call 52;(with_reducible refine (all11 _ _ _ _ _ _ _ _ _ _ _ _).mono ?_);rintro r w' ⟨rfl,rfl⟩))
 all_goals
  have hR:Hid (rightB e=(fb e.kind&&(decide (1≤e.term)&&(decide (1≤e.index)&&(lim (fl e.kind) 99 e.client 1 18446744073709551615&&(lim (fl e.kind) 99 e.seq 0 18446744073709551615&&(lim (fl e.kind) 98 e.block 0 4294967295&&(lim (fl e.kind) 109 e.many 0 4294967295&&(lim (fl e.kind) 110 (IntKind.u64.wrap e.node) 1 7&&(lim (fl e.kind) 108 (IntKind.u64.wrap e.level) 1 2&&(lim (fl e.kind) 100 (IntKind.u64.wrap e.data.size) 0 64&&lim (fl e.kind) 111 (IntKind.u64.wrap e.old.size) 0 64))))))))))):=by
   show _=_
   unfold rightB asks;simp only [List.all_cons,List.all_nil,id,Bool.and_true]
  have hbD:Below w.heap.size w (wr.alloc (Obj.cells #[Value.bool true] 4)):=hb.alloc hb.size _;go_wp2;go_ret;refine ⟨ret_bool hR.out.symm,?_⟩;exact ⟨hb.os,hb.tape,hb.output,by have:=hb.size;simp;omega,fun k hk=>(Below.heap_alloc wr _ k (Nat.lt_of_lt_of_le hk hb.size)).trans (hb.block k hk)⟩
end Go.Proofs.YtpdbeijfchmlgaaGreat
namespace Go.Proofs.YtpdbeijfchmlgaaGreat
open Go.RowKit
structure Bx (B0:Nat) (e:En) (T:TypeId) (w:World):Prop where
 bx:w.heap[B0]?=some (.cells (ec e) T (0,0))
theorem Bx.cell {B0:Nat} {e:En} {T:TypeId} {w:World} (h:Bx B0 e T w) (i:Nat):w.cell? ⟨B0,i,none⟩=(ec e)[i]?:=zcr w _ i _ T (0,0) h.bx
theorem Bx.lt {B0:Nat} {e:En} {T:TypeId} {w:World} (h:Bx B0 e T w):B0<w.heap.size:=(zgx h.bx)
theorem Bx.below {B0:Nat} {e:En} {T:TypeId} {w w1:World} (h:Bx B0 e T w) (hb:Below w.heap.size w w1):Bx B0 e T w1:=⟨(hb.block _ h.lt).trans h.bx⟩
theorem Bx.frozen {B0:Nat} {e:En} {T:TypeId} {w:World} (h:Bx B0 e T w) (i:Nat):w.frozen? ⟨B0,i,none⟩=false:=by
 have:=h.bx
 simp [World.frozen?,this]
structure Ms where
 kind:Int
 frm:Int
 dst:Int
 term:Int
 index:Int
 prev:Int
 commit:Int
 mark:Int
 ok:Bool
 A:Option Addr
 n:Nat
 c:Nat
 es:List En
 snap:ByteArray
abbrev mc (m:Ms):Array Value:=#[.int .i64 m.kind,.int .i64 m.frm,.int .i64 m.dst,.int .u64 m.term,.int .u64 m.index,.int .u64 m.prev,.int .u64 m.commit,.int .u64 m.mark,.bool m.ok,.slice m.A m.n m.c,.string m.snap]
theorem _root_.Go.Proofs.YtpdbeijfchmlgaaGreat.zmcl {w:World} {b:Nat} {e:Ms} (h:w.heap[b]?=some (.cells (mc e) 29 (0,0))):w.cell? ⟨b,0,none⟩=some (.int .i64 e.kind)∧w.cell? ⟨b,1,none⟩=some (.int .i64 e.frm)∧w.cell? ⟨b,2,none⟩=some (.int .i64 e.dst)∧w.cell? ⟨b,3,none⟩=some (.int .u64 e.term)∧w.cell? ⟨b,4,none⟩=some (.int .u64 e.index)∧w.cell? ⟨b,5,none⟩=some (.int .u64 e.prev)∧w.cell? ⟨b,6,none⟩=some (.int .u64 e.commit)∧w.cell? ⟨b,7,none⟩=some (.int .u64 e.mark)∧w.cell? ⟨b,8,none⟩=some (.bool e.ok)∧w.cell? ⟨b,9,none⟩=some (.slice e.A e.n e.c)∧w.cell? ⟨b,10,none⟩=some (.string e.snap):=⟨zcr w b 0 _ 29 (0,0) h,zcr w b 1 _ 29 (0,0) h,zcr w b 2 _ 29 (0,0) h,zcr w b 3 _ 29 (0,0) h,zcr w b 4 _ 29 (0,0) h,zcr w b 5 _ 29 (0,0) h,zcr w b 6 _ 29 (0,0) h,zcr w b 7 _ 29 (0,0) h,zcr w b 8 _ 29 (0,0) h,zcr w b 9 _ 29 (0,0) h,zcr w b 10 _ 29 (0,0) h⟩
theorem _root_.Go.Proofs.YtpdbeijfchmlgaaGreat.zmclf {w:World} {b:Nat} {e:Ms} (h:∀ i,w.cell? ⟨b,i,none⟩=(mc e)[i]?):w.cell? ⟨b,0,none⟩=some (.int .i64 e.kind)∧w.cell? ⟨b,1,none⟩=some (.int .i64 e.frm)∧w.cell? ⟨b,2,none⟩=some (.int .i64 e.dst)∧w.cell? ⟨b,3,none⟩=some (.int .u64 e.term)∧w.cell? ⟨b,4,none⟩=some (.int .u64 e.index)∧w.cell? ⟨b,5,none⟩=some (.int .u64 e.prev)∧w.cell? ⟨b,6,none⟩=some (.int .u64 e.commit)∧w.cell? ⟨b,7,none⟩=some (.int .u64 e.mark)∧w.cell? ⟨b,8,none⟩=some (.bool e.ok)∧w.cell? ⟨b,9,none⟩=some (.slice e.A e.n e.c)∧w.cell? ⟨b,10,none⟩=some (.string e.snap):=⟨h 0,h 1,h 2,h 3,h 4,h 5,h 6,h 7,h 8,h 9,h 10⟩
abbrev mv (m:Ms):Value:=.agg #[.int .i64 m.kind,.int .i64 m.frm,.int .i64 m.dst,.int .u64 m.term,.int .u64 m.index,.int .u64 m.prev,.int .u64 m.commit,.int .u64 m.mark,.bool m.ok,.slice m.A m.n m.c,.string m.snap]
structure Ents (B:Nat) (A:Option Addr) (n:Nat) (es:List En) (w:World):Prop where
 len:es.length=n
 at_:∀ i e,es[i]?=some e→∃ a,A=some a∧a.block<B∧∀ j,j<11→w.cell? ((a.add (i*11)).add j)=(ec e)[j]?
theorem block_of_add (a:Addr) (n:Nat):(a.add n).block=a.block:=by
 unfold Addr.add
 split<;>rfl
theorem Ents.below {B:Nat} {A:Option Addr} {n:Nat} {es:List En} {w w1:World} (h:Ents B A n es w) (hb:Below B w w1):Ents B A n es w1 :=
 ⟨h.len,fun i e he=>by
  obtain ⟨a,hA,hB,hc⟩:=h.at_ i e he;exact ⟨a,hA,hB,fun j hj=>(hb.cell (by rw [block_of_add,block_of_add];exact hB)).trans (hc j hj)⟩⟩
theorem Ents.mr {B B':Nat} {A:Option Addr} {n:Nat} {es:List En} {w:World} (h:Ents B A n es w) (hB:B≤B'):Ents B' A n es w :=
 ⟨h.len,fun i e he=>by
  obtain ⟨a,hA,h1,hc⟩:=h.at_ i e he;exact ⟨a,hA,Nat.lt_of_lt_of_le h1 hB,hc⟩⟩
structure By (B0:Nat) (m:Ms) (T:TypeId) (w:World):Prop where
 bx:w.heap[B0]?=some (.cells (mc m) T (0,0))
theorem By.cell {B0:Nat} {m:Ms} {T:TypeId} {w:World} (h:By B0 m T w) (i:Nat):w.cell? ⟨B0,i,none⟩=(mc m)[i]?:=zcr w _ i _ T (0,0) h.bx
theorem By.lt {B0:Nat} {m:Ms} {T:TypeId} {w:World} (h:By B0 m T w):B0<w.heap.size:=(zgx h.bx)
theorem By.below {B0:Nat} {m:Ms} {T:TypeId} {w w1:World} (h:By B0 m T w) (hb:Below w.heap.size w w1):By B0 m T w1:=⟨(hb.block _ h.lt).trans h.bx⟩
def bitI (b:Bool):Int:=if b then 1 else 0
theorem bit_any (b:Bool) (w:World):Calls Tryz.prog 100 #[.bool b] w fun r w'=>r=.returned (.int .u64 (bitI b))∧w=w':=by
 cases b
 all_goals
  go_enter Tryz.func100,Tryz.ntmps100
  go_wp2;go_ret;exact ⟨rfl,rfl⟩
def lvl (k:Int):Int:=if k=11 then 2 else 1
theorem level_any (e:En) (w:World):Calls Tryz.prog 18 #[ev e] w fun r w'=>r=.returned (.int .i64 (lvl e.kind))∧Below w.heap.size w w':=by
 by_cases h:e.kind=11
 ·have hT:Hid (lvl e.kind=2):=by show _=_;unfold lvl;rw [if_pos h]
  have h2:(e.kind==11)=true:=by simpa using h
  clear h
  go_enter Tryz.func18,Tryz.ntmps18
  go_wp2;go_ret;exact ⟨by rw [hT.out];rfl,zba⟩
 ·have hT:Hid (lvl e.kind=1):=by show _=_;unfold lvl;rw [if_neg h]
  have h2:(e.kind==11)=false:=beqF h;clear h
  go_enter Tryz.func18,Tryz.ntmps18
  go_wp2;go_ret;exact ⟨by rw [hT.out];rfl,zba⟩
theorem rlevel_any (e:En) (w:World):Calls Tryz.prog 66 #[ev e] w fun r w'=>r=.returned (.int .i64 (lvl e.kind))∧Below w.heap.size w w':=by
 by_cases h:e.kind=11
 ·have hT:Hid (lvl e.kind=2):=by show _=_;unfold lvl;rw [if_pos h]
  have h2:(e.kind==11)=true:=by simpa using h
  clear h
  go_enter Tryz.func66,Tryz.ntmps66
  go_wp2;go_ret;exact ⟨by rw [hT.out];rfl,zba⟩
 ·have hT:Hid (lvl e.kind=1):=by show _=_;unfold lvl;rw [if_neg h]
  have h2:(e.kind==11)=false:=beqF h;clear h
  go_enter Tryz.func66,Tryz.ntmps66
  go_wp2;go_ret;exact ⟨by rw [hT.out];rfl,zba⟩
def sameB (a b:En):Bool :=
 decide (a.term=b.term)&&(decide (a.index=b.index)&&(decide (a.kind=b.kind)&&(decide (a.client=b.client)&&(decide (a.seq=b.seq)&&(decide (a.block=b.block)&&(decide (a.many=b.many)&&(decide (a.node=b.node)&&(decide (a.level=b.level)&&(decide (a.data.toList=b.data.toList)&&decide (a.old.toList=b.old.toList))))))))))
theorem u64_id {x:Int} (h0:0≤x) (h1:x≤9223372036854775807):IntKind.u64.wrap x=x:=by rw [IntKind.wrap_u64];omega
theorem neq_entry (a b:En) (w:World):(binOp .neq 24 (ev a) (ev b)).run Tryz.prog w=.ok (.bool (!sameB a b)) w:=by
 go_simp;unfold sameB
 repeat' split
 all_goals simp_all
end Go.Proofs.YtpdbeijfchmlgaaGreat
namespace Go.Proofs.YtpdbeijfchmlgaaGreat
open Go.RowKit
def idxW:List En→Int→Int
 | [],_=>-1
 | e :: es,i=>if rightB e then idxW es (i+1) else i
def hasWrong (es:List En):Bool:=es.any fun e=>!rightB e
theorem idxW_any:∀ (es:List En) (i:Int),0≤i→decide (0≤idxW es i)=hasWrong es
 | [],i,h=>rfl
 | e :: es,i,h=>by
   unfold idxW hasWrong;rw [List.any_cons]
   cases rightB e with
   | true=>rw [if_pos rfl];exact (idxW_any es (i+1) (by omega)).trans (by simp [hasWrong])
   | false=>rw [if_neg (by simp)];simpa using h
theorem wrong_any (e:En) (w:World) (ok:e.Ok):Calls Tryz.prog 101 #[ev e] w fun r w'=>r=.returned (.bool (!rightB e))∧Below w.heap.size w w':=by
 have hb0:Below w.heap.size w (w.alloc (Obj.cells (ec e) 24)):=zba;have HC:=zh (right_any e (w.alloc (Obj.cells (ec e) 24)) ok);have HB:=zh hb0;clear hb0 ok
 go_enter Tryz.func101,Tryz.ntmps101
 go_wp2_with (go_at_call 62;(with_reducible refine HC.out.mono ?_);rintro r w1 ⟨rfl,hb1⟩)
 go_ret;exact ⟨rfl,HB.out.trans (hb1.mono (by simp))⟩
theorem idx_any (A:Option Addr) (n c:Nat) (es:List En) (w:World) (hE:Ents w.heap.size A n es w) (hn:(n:Int)≤9223372036854775807) (hok:∀ e∈es,e.Ok) :
 Calls Tryz.prog 161 #[.slice A n c,.func (.func 101) #[] #[]] w fun r w'=>r=.returned (.int .i64 (idxW es 0))∧Below w.heap.size w w':=by
 have HE:=zh hE;have HO:=zh hok;clear hE hok
 go_enter Tryz.func161,Tryz.ntmps161
 go_wp2
 go_loopw [8] (fun i wr=>∃ k:Nat,k≤n∧i=.int .i64 k∧Hid (idxW es 0=idxW (es.drop k) k)∧Below w.heap.size w wr) (fun i _=>n-(intOf i).toNat)
 case atStart=>exact ⟨0,Nat.zero_le _,rfl,rfl,Below.refl _ _⟩
 case round =>
  obtain ⟨k,hk,rfl,HI,hb⟩:=hrel
  by_cases hlt:k<n
  ·obtain ⟨e,he⟩:∃ e,es[k]?=some e:=⟨_,List.getElem?_eq_getElem (by rw [HE.out.len];exact hlt)⟩;obtain ⟨a,hA,hB,hc⟩:=(HE.out.below hb).at_ k e he;have hmem:=List.mem_of_getElem? he;have hkl:k<es.length:=by rw [HE.out.len];exact hlt
   have hek:es[k]=e:=by rw [List.getElem?_eq_getElem hkl] at he;exact Option.some.inj he
   have hdrop:Hid (es.drop k=e :: es.drop (k+1)):=by show _=_;rw [List.drop_eq_getElem_cons hkl,hek]
   have d0:wr.cell? (a.add (k*11))=some (.int .u64 e.term):=hc 0 (by omega);have d1:wr.cell? ⟨(a.add (k*11)).block,(a.add (k*11)).off+1,none⟩=some (.int .u64 e.index):=hc 1 (by omega);have d2:wr.cell? ⟨(a.add (k*11)).block,(a.add (k*11)).off+2,none⟩=some (.int .i64 e.kind):=hc 2 (by omega);have d3:wr.cell? ⟨(a.add (k*11)).block,(a.add (k*11)).off+3,none⟩=some (.int .u64 e.client):=hc 3 (by omega);have d4:wr.cell? ⟨(a.add (k*11)).block,(a.add (k*11)).off+4,none⟩=some (.int .u64 e.seq):=hc 4 (by omega);have d5:wr.cell? ⟨(a.add (k*11)).block,(a.add (k*11)).off+5,none⟩=some (.int .u64 e.block):=hc 5 (by omega);have d6:wr.cell? ⟨(a.add (k*11)).block,(a.add (k*11)).off+6,none⟩=some (.int .u64 e.many):=hc 6 (by omega);have d7:wr.cell? ⟨(a.add (k*11)).block,(a.add (k*11)).off+7,none⟩=some (.int .i64 e.node):=hc 7 (by omega);have d8:wr.cell? ⟨(a.add (k*11)).block,(a.add (k*11)).off+8,none⟩=some (.int .i64 e.level):=hc 8 (by omega);have d9:wr.cell? ⟨(a.add (k*11)).block,(a.add (k*11)).off+9,none⟩=some (.string e.data):=hc 9 (by omega);have d10:wr.cell? ⟨(a.add (k*11)).block,(a.add (k*11)).off+10,none⟩=some (.string e.old):=hc 10 (by omega);have K:=zh (wrong_any e wr (HO.out e hmem));have HB:=zh hb;clear hb hc he hek hmem;rw [hA];clear hA
   cases hr:rightB e with
   | true =>
     have HI2:Hid (idxW es 0=idxW (es.drop (k+1)) ((k+1:Nat):Int)):=by
      show _=_
      rw [HI.out,hdrop.out,idxW,if_pos hr];rfl
     have K2:Calls Tryz.prog 101 #[ev e] wr fun r w'=>r=.returned (.bool false)∧Below wr.heap.size wr w':=K.out.mono fun r w' ⟨h1,h2⟩=>⟨by rw [h1,hr];rfl,h2⟩;have K3:=zh K2;clear K2 hr
     go_wp2_with (go_at_call 101;(with_reducible refine K3.out.mono ?_);rintro r w1 ⟨rfl,hb1⟩)
     go_roundw
     case rel=>exact ⟨k+1,by omega,by go_num,HI2,HB.out.trans (hb1.mono HB.out.size)⟩
     case measure=>simp [intOf];omega
   | false =>
     have HI2:Hid (idxW es 0=k):=by
      show _=_
      rw [HI.out,hdrop.out,idxW,if_neg (by rw [hr];simp)]
     have K2:Calls Tryz.prog 101 #[ev e] wr fun r w'=>r=.returned (.bool true)∧Below wr.heap.size wr w':=K.out.mono fun r w' ⟨h1,h2⟩=>⟨by rw [h1,hr];rfl,h2⟩;have K3:=zh K2;clear K2 hr
     go_wp2_with (go_at_call 101;(with_reducible refine K3.out.mono ?_);rintro r w1 ⟨rfl,hb1⟩)
     go_ret;exact ⟨by rw [HI2.out];rfl,HB.out.trans (hb1.mono HB.out.size)⟩
  ·have HI2:Hid (idxW es 0=-1):=by
    show _=_
    rw [HI.out,List.drop_of_length_le (by rw [HE.out.len];omega)];rfl
   go_wp2;go_ret;exact ⟨by rw [HI2.out];rfl,hb⟩
theorem contains_any (A:Option Addr) (n c:Nat) (es:List En) (w:World) (hE:Ents w.heap.size A n es w) (hn:(n:Int)≤9223372036854775807) (hok:∀ e∈es,e.Ok) :
 Calls Tryz.prog 102 #[.slice A n c,.func (.func 101) #[] #[]] w fun r w'=>r=.returned (.bool (hasWrong es))∧Below w.heap.size w w':=by
 have HC:=zh (idx_any A n c es w hE hn hok);have HW:=zh (idxW_any es 0 (by omega));clear hE hok
 go_enter Tryz.func102,Tryz.ntmps102
 go_wp2_with (go_at_call 161;(with_reducible refine HC.out.mono ?_);rintro r w1 ⟨rfl,hb1⟩)
 go_ret;exact ⟨ret_bool HW.out,hb1⟩
end Go.Proofs.YtpdbeijfchmlgaaGreat
