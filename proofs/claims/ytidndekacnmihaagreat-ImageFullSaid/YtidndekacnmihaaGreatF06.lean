/- Parts of a proof. -/
import Derived.Test.YtidndekacnmihaaGreatF00
set_option linter.unusedVariables false
set_option linter.unusedSimpArgs false
set_option maxHeartbeats 8000000
set_option maxRecDepth 100000
namespace Go.Proofs.YtidndekacnmihaaGreat
open Go.RowKit
structure En where
 term:Int
 index:Int
 kind:Int
 client:Int
 seq:Int
 block:Int
 many:Int
 node:Int
 level:Int
 data:ByteArray
 old:ByteArray
abbrev ev (e:En):Value:=.agg #[.int .u64 e.term,.int .u64 e.index,.int .i64 e.kind,.int .u64 e.client,.int .u64 e.seq,.int .u64 e.block,.int .u64 e.many,.int .i64 e.node,.int .i64 e.level,.string e.data,.string e.old]
abbrev ec (e:En):Array Value:=#[.int .u64 e.term,.int .u64 e.index,.int .i64 e.kind,.int .u64 e.client,.int .u64 e.seq,.int .u64 e.block,.int .u64 e.many,.int .i64 e.node,.int .i64 e.level,.string e.data,.string e.old]
def fl (k:Int):ByteArray :=
 if k=1 then ⟨#[99,98,100]⟩ else if k=2 then ⟨#[99,98,109]⟩ else if k=3 then ⟨#[99,109]⟩ else if k=4 then ⟨#[99]⟩
 else if k=5 then ⟨#[110]⟩ else if k=6 then ⟨#[110]⟩ else if k=7 then ⟨#[110,108]⟩ else if k=11 then ⟨#[99,98,100,111]⟩ else ⟨#[]⟩
def fb (k:Int):Bool:=decide (0≤k∧k≤11)
theorem zi2 (k:Int):(k=0∨k=1∨k=2∨k=3∨k=4∨k=5∨k=6∨k=7∨k=8∨k=9∨k=10∨k=11)∨(k<0∨11<k):=by omega
theorem zkO (k:Int) (h:k<0∨11<k):fl k=⟨#[]⟩:=by
 unfold fl;rw [if_neg (by omega),if_neg (by omega),if_neg (by omega),if_neg (by omega),if_neg (by omega),if_neg (by omega),if_neg (by omega),if_neg (by omega)]
theorem zcG {a b:Int} (h:a≠b):(a==b)=false:=by simpa using h
theorem zjU (k:Int) (w:World) :
 Calls Tryz.prog 300 #[.int .i64 k] w fun e w'=>e=.returned (.tuple #[.string (fl k),.bool (fb k)])∧w=w':=by
 rcases zi2 k with h|h
 ·rcases h with rfl|rfl|rfl|rfl|rfl|rfl|rfl|rfl|rfl|rfl|rfl|rfl
  all_goals
   go_enter Tryz.func300,Tryz.ntmps300;go_wp2;go_ret2;exact ⟨rfl,rfl⟩
 ·have e1:=zkO k h;have e2:fb k=false:=by unfold fb;exact zsC (by omega)
  rw [e1,e2];have h0:=zcG (show k≠0 by omega);have h1:=zcG (show k≠1 by omega);have h2:=zcG (show k≠2 by omega);have h3:=zcG (show k≠3 by omega);have h4:=zcG (show k≠4 by omega);have h5:=zcG (show k≠5 by omega);have h6:=zcG (show k≠6 by omega);have h7:=zcG (show k≠7 by omega);have h8:=zcG (show k≠8 by omega);have h9:=zcG (show k≠9 by omega);have h10:=zcG (show k≠10 by omega);have h11:=zcG (show k≠11 by omega);clear h e1 e2;go_enter Tryz.func300,Tryz.ntmps300;go_wp2;go_ret2;exact ⟨rfl,rfl⟩
theorem zif (k:Int) (w:World) :
 Calls Tryz.prog 138 #[.int .i64 k] w fun e w'=>e=.returned (.tuple #[.string (fl k),.bool (fb k)])∧Below w.heap.size w w':=by
 rcases zi2 k with h|h
 ·rcases h with rfl|rfl|rfl|rfl|rfl|rfl|rfl|rfl|rfl|rfl|rfl|rfl
  all_goals
   go_enter Tryz.func138,Tryz.ntmps138;go_wp2;go_ret2;exact ⟨rfl,zba⟩
 ·have e1:=zkO k h;have e2:fb k=false:=by unfold fb;exact zsC (by omega)
  rw [e1,e2];clear e1 e2
  by_cases h0:k<0
  ·clear h;go_enter Tryz.func138,Tryz.ntmps138;go_wp2;go_ret2;exact ⟨rfl,Below.refl _ _⟩
  ·have h1:11<k:=by omega
   clear h;go_enter Tryz.func138,Tryz.ntmps138;go_wp2;go_ret2;exact ⟨rfl,Below.refl _ _⟩
theorem za6 {a b:Bool} (h:a=b):Ending.returned (.bool a)=.returned (.bool b):=by rw [h]
def zb9 (s:ByteArray) (c:Int):Bool:=s.data.toList.any fun x=>(x.toNat:Int)==c
theorem zfH (b:UInt8) (l:List UInt8) (c:UInt8):Lib.indexByte (b :: l) c=if b==c then 0 else if Lib.indexByte l c==-1 then -1 else Lib.indexByte l c+1:=rfl
theorem zdA:∀ (l:List UInt8) (c:UInt8),(decide (0≤Lib.indexByte l c))=l.any fun x=>x==c
 | [],c=>rfl
 | b :: l,c=>by
   have ih:=zdA l c;have hge:=Lib.indexByte_ge l c;rw [List.any_cons,←ih,zfH]
   cases hbc:b==c
   ·rw [if_neg (by simp),Bool.false_or]
    by_cases h1:Lib.indexByte l c=-1
    ·rw [h1];rfl
    ·rw [if_neg (by simpa using h1),decide_eq_decide];omega
   ·simp
theorem zj9 (s:ByteArray) (c:Nat) (hc:c<256):decide (0≤Lib.indexByte s.data.toList c.toUInt8)=zb9 s c:=by
 rw [zdA];unfold zb9
 congr 1
 funext x
 rw [Bool.eq_iff_iff,beq_iff_eq,beq_iff_eq];have h1:c.toUInt8.toNat=c:=by simp [Nat.toUInt8,UInt8.toNat_ofNat'];omega
 constructor
 ·rintro rfl;rw [h1]
 ·intro h;rw [←UInt8.toNat_inj,h1];omega
theorem zfI (l:List UInt8) (k:Nat) (p:UInt8→Bool) (h:k<l.length):(l.take (k+1)).any p=((l.take k).any p||p l[k]):=by
 rw [ztJ h,List.any_append]
 simp
theorem zgr (s:ByteArray) (k:Nat) (p:UInt8→Bool) (h:k<s.size):(s.data.toList.take (k+1)).any p=((s.data.toList.take k).any p||p s[k]) :=
 zfI s.data.toList k p (by simpa using h)
theorem zqV (s:ByteArray) (k:Nat) (h:k<s.size):s[k]∈s.data.toList:=List.getElem_mem (l:=s.data.toList) (n:=k) (by simpa using h)
theorem zpD (s:ByteArray) (c:Int) (w:World) (hs:s.size≤140737488355328) :
 Calls Tryz.prog 287 #[.string s,.int .u8 c] w fun e w'=>e=.returned (.bool (zb9 s c))∧w=w':=by
 go_enter Tryz.func287,Tryz.ntmps287;go_wp2
 go_loop [5] (fun i=>∃ k:Nat,k≤s.size∧i=.int .i64 k∧Hid ((s.data.toList.take k).any (fun x=>(x.toNat:Int)==c)=false)) (fun i=>s.size-(Go.RowKit.intOf i).toNat)
 case atStart=>exact ⟨0,zsE _,rfl,rfl⟩
 case round =>
  obtain ⟨k,hk,rfl,hno⟩:=hrel
  by_cases hlt:k<s.size
  ·have hst:=zh (zgr s k (fun x=>(x.toNat:Int)==c) hlt);have hmem:=zh (zqV s k hlt)
   by_cases hc:((s[k].toNat:Int)==c)=true
   ·have H1:Hid (zb9 s c=true):=by
     unfold zb9;show List.any s.data.toList _=true;rw [List.any_eq_true];exact ⟨s[k],hmem.out,hc⟩
    go_wp2;go_ret;exact ⟨za6 H1.out.symm,rfl⟩
   ·have hc2:((s[k].toNat:Int)==c)=false:=by simpa using hc
    clear hc;go_wp2
    go_round
    case rel=>exact ⟨k+1,by omega,by go_num,by show _=_;rw [hst.out,hno.out,Bool.false_or];exact hc2⟩
    case measure=>simp [Go.RowKit.intOf];omega
  ·have H1:Hid (zb9 s c=false):=by
    have h2:=hno.out;rw [zsX (by simp;omega)] at h2;exact h2
   go_wp2;go_ret;exact ⟨za6 H1.out.symm,rfl⟩
theorem zpE (l:List Bool) (n c:Nat) (b:Nat) (w:World) (hn:l.length=n) (hl:n≤64) (hc:∀ j x,l[j]?=some x→w.cell? ⟨b,j,none⟩=some (.bool x)) :
 Calls Tryz.prog 302 #[.slice (some ⟨b,0,none⟩) n c] w fun e w'=>e=.returned (.bool (l.all id))∧w=w':=by
 have HC:=zh hc;clear hc;have HN:=zh hn;clear hn;go_enter Tryz.func302,Tryz.ntmps302;go_wp2
 go_loop [7] (fun i=>∃ k:Nat,k≤n∧i=.int .i64 k∧Hid ((l.take k).all id=true)) (fun i=>n-(Go.RowKit.intOf i).toNat)
 case atStart=>exact ⟨0,zsE _,rfl,rfl⟩
 case round =>
  obtain ⟨k,hk,rfl,hall⟩:=hrel
  by_cases hlt:k<n
  ·have hkl:k<l.length:=by rw [HN.out];exact hlt
   have hcell:=HC.out k _ (zsW hkl)
   cases hx:l[k] with
   | true =>
     rw [hx] at hcell
     have H1:Hid ((l.take (k+1)).all id=true):=by
      show _=true;rw [ztJ hkl,List.all_append,hall.out,hx];rfl
     clear hx;go_wp2
     go_round
     case rel=>exact ⟨k+1,by omega,by go_num,H1⟩
     case measure=>simp [Go.RowKit.intOf];omega
   | false =>
     rw [hx] at hcell
     have H1:Hid (l.all id=false):=by
      show _=false;rw [List.all_eq_false];exact ⟨l[k],List.getElem_mem _,by rw [hx];simp⟩
     clear hx;go_wp2;go_ret;exact ⟨za6 H1.out.symm,rfl⟩
  ·have H1:Hid (l.all id=true):=by
    have h2:=hall.out;rw [zsX (by rw [HN.out];omega)] at h2;exact h2
   go_wp2;go_ret;exact ⟨za6 H1.out.symm,rfl⟩
def lim (s:ByteArray) (c n lo hi:Int):Bool:=if zb9 s c then (decide (lo≤n)&&decide (n≤hi)) else n==0
theorem zk8 (s:ByteArray) (c:Nat) (n lo hi:Int) (a:Addr) (w:World) (hc:c<256) (ha:w.cell? a=some (.string s)) :
 Calls Tryz.prog 323 #[.int .u8 c,.int .u64 n,.int .u64 lo,.int .u64 hi,.pointer (some a)] w fun e w'=>e=.returned (.bool (lim s c n lo hi))∧w=w':=by
 have hq:=zj9 s c hc
 cases hb:zb9 s c with
 | false =>
   have e1:Hid (lim s c n lo hi=(n==0)):=by show _=_;unfold lim;rw [hb,if_neg (by simp)]
   rw [hb] at hq
   have hlt:decide (Lib.indexByte s.data.toList c.toUInt8<0)=true:=by
    have:=of_decide_eq_false hq
    simpa using this
   clear hb hq;go_enter Tryz.func323,Tryz.ntmps323
   go_wp2_with (go_at_call 324;refine (Tryz.strings_IndexByte s c _).mono ?_;rintro e w' ⟨rfl,rfl⟩)
   all_goals go_ret
   all_goals exact ⟨za6 e1.out.symm,rfl⟩
 | true =>
   have e1:Hid (lim s c n lo hi=(decide (lo≤n)&&decide (n≤hi))):=by show _=_;unfold lim;rw [hb,if_pos rfl]
   rw [hb] at hq
   have hlt:decide (Lib.indexByte s.data.toList c.toUInt8<0)=false:=by
    have:=of_decide_eq_true hq
    exact zsC (by omega)
   clear hb hq
   by_cases h1:lo≤n
   ·have h2:decide (lo≤n)=true:=zsD h1;go_enter Tryz.func323,Tryz.ntmps323
    go_wp2_with (go_at_call 324;refine (Tryz.strings_IndexByte s c _).mono ?_;rintro e w' ⟨rfl,rfl⟩)
    all_goals go_ret
    all_goals exact ⟨za6 (by rw [e1.out,h2];rfl),rfl⟩
   ·have h2:decide (lo≤n)=false:=zsC h1;go_enter Tryz.func323,Tryz.ntmps323
    go_wp2_with (go_at_call 324;refine (Tryz.strings_IndexByte s c _).mono ?_;rintro e w' ⟨rfl,rfl⟩)
    all_goals go_ret
    all_goals exact ⟨za6 (by rw [e1.out,h2];rfl),rfl⟩
structure En.Ok (e:En):Prop where
 t0:0≤e.term
 t1:e.term≤18446744073709551615
 i0:0≤e.index
 i1:e.index≤18446744073709551615
 k0:-9223372036854775808≤e.kind
 k1:e.kind≤9223372036854775807
 c0:0≤e.client
 c1:e.client≤18446744073709551615
 s0:0≤e.seq
 s1:e.seq≤18446744073709551615
 b0:0≤e.block
 b1:e.block≤18446744073709551615
 m0:0≤e.many
 m1:e.many≤18446744073709551615
 n0:-9223372036854775808≤e.node
 n1:e.node≤9223372036854775807
 l0:-9223372036854775808≤e.level
 l1:e.level≤9223372036854775807
 d1:e.data.size≤140737488351232
 o1:e.old.size≤140737488351232
def asks (e:En):List Bool :=
 [fb e.kind,decide (1≤e.term),decide (1≤e.index),lim (fl e.kind) 99 e.client 1 18446744073709551615,lim (fl e.kind) 99 e.seq 0 18446744073709551615,lim (fl e.kind) 98 e.block 0 4294967295,lim (fl e.kind) 109 e.many 0 4294967295,
  lim (fl e.kind) 110 (IntKind.u64.wrap e.node) 1 7,lim (fl e.kind) 108 (IntKind.u64.wrap e.level) 1 2,lim (fl e.kind) 100 (IntKind.u64.wrap e.data.size) 0 64,lim (fl e.kind) 111 (IntKind.u64.wrap e.old.size) 0 64]
def zaJ (e:En):Bool:=(asks e).all id
theorem zkq (s:ByteArray) (w:World) :
 Calls Tryz.prog 301 #[.string s] w fun e w'=>e=.returned (.func (.func 323) #[] #[.pointer (some ⟨w.heap.size,0,none⟩)])∧w'=w.alloc (.cells #[.string s] 9):=by
 have hmf:=zmL;go_enter Tryz.func301,Tryz.ntmps301;go_wp2;go_ret;exact ⟨rfl,rfl⟩
theorem zok (s:ByteArray) (c n lo hi:Int) (a:Addr) (w:World) (hc0:0≤c) (hc:c<256) (ha:w.cell? a=some (.string s)) :
 Calls Tryz.prog 323 #[.int .u8 c,.int .u64 n,.int .u64 lo,.int .u64 hi,.pointer (some a)] w fun e w'=>e=.returned (.bool (lim s c n lo hi))∧w'=w:=by
 obtain ⟨m,rfl⟩:∃ m:Nat,c=m:=⟨c.toNat,by omega⟩;exact (zk8 s m n lo hi a w (by omega) ha).mono fun _ _ ⟨h1,h2⟩=>⟨h1,h2.symm⟩
theorem ziI (l:List Bool) (W:World) (j:Nat) (x:Bool) (h:l[j]?=some x):(W.alloc (.cells (l.map Value.bool).toArray 4)).cell? ⟨W.heap.size,j,none⟩=some (.bool x):=by
 rw [World.cell?_alloc_new];simp [h]
theorem zsa (b0 b1 b2 b3 b4 b5 b6 b7 b8 b9 b10:Bool) (W:World) :
 Calls Tryz.prog 302 #[.slice (some ⟨W.heap.size,0,none⟩) 11 11] (W.alloc (.cells #[.bool b0,.bool b1,.bool b2,.bool b3,.bool b4,.bool b5,.bool b6,.bool b7,.bool b8,.bool b9,.bool b10] 4)).drew fun e w'=>e=.returned (.bool ([b0,b1,b2,b3,b4,b5,b6,b7,b8,b9,b10].all id))∧(W.alloc (.cells #[.bool b0,.bool b1,.bool b2,.bool b3,.bool b4,.bool b5,.bool b6,.bool b7,.bool b8,.bool b9,.bool b10] 4)).drew=w' :=
 zpE [b0,b1,b2,b3,b4,b5,b6,b7,b8,b9,b10] 11 11 W.heap.size _ rfl (by omega) (fun j x h=>ziI [b0,b1,b2,b3,b4,b5,b6,b7,b8,b9,b10] W j x h)
theorem zol (s:ByteArray) (c n lo hi:Int) (a:Addr) (w:World) (hc0:0≤c) (hc:c<256) (ha:w.cell? a=some (.string s)) :
 Calls Tryz.prog 323 #[.int .u8 c,.int .u64 n,.int .u64 lo,.int .u64 hi,.pointer (some a)] w fun e w'=>e=.returned (.bool (lim s c n lo hi))∧w=w' :=
 (zok s c n lo hi a w hc0 hc ha).mono fun _ _ ⟨h1,h2⟩=>⟨h1,h2.symm⟩
theorem zbK (e:En) (w:World) (ok:e.Ok) :
 Calls Tryz.prog 282 #[ev e] w fun r w'=>r=.returned (.bool (zaJ e))∧Below w.heap.size w w':=by
 have HO:=zh ok;clear ok;go_enter Tryz.func282,Tryz.ntmps282
 go_wp2_with (first
  | (go_at_call 300;refine (zjU e.kind _).mono ?_;rintro r w' ⟨rfl,rfl⟩)
  | (go_at_call 301;refine (zkq (fl e.kind) _).mono ?_;rintro r w' ⟨rfl,rfl⟩))
 obtain ⟨wr,hW⟩:∃ wr,wr=(w.alloc (Obj.cells (ec e) 69)).alloc (Obj.cells #[Value.string (fl e.kind)] 9):=⟨_,rfl⟩;have hb:Below w.heap.size w wr:=by rw [hW];exact zba.alloc (by simp) _
 have hrow:∀ i,i<11→wr.cell? ⟨w.heap.size,i,none⟩=(ec e)[i]?:=fun i hi=>by
  rw [hW,World.cell?_alloc_lt _ _ _ (by simp),World.cell?_alloc_new]
 have c0:=hrow 0 (by omega);have c1:=hrow 1 (by omega);have c3:=hrow 3 (by omega);have c4:=hrow 4 (by omega);have c5:=hrow 5 (by omega);have c6:=hrow 6 (by omega);have c7:=hrow 7 (by omega);have c8:=hrow 8 (by omega);have c9:=hrow 9 (by omega);have c10:=hrow 10 (by omega);simp only [ec,ztw,ztC,ztB] at c0 c1 c3 c4 c5 c6 c7 c8 c9 c10
 have cL:wr.cell? ⟨w.heap.size+1,0,none⟩=some (.string (fl e.kind)):=by
  have h:=World.cell?_alloc_new (w.alloc (Obj.cells (ec e) 69)) #[Value.string (fl e.kind)] 9 0;rw [show (w.alloc (Obj.cells (ec e) 69)).heap.size=w.heap.size+1 by simp] at h;rw [hW,h];rfl
 rw [←hW];have HW:=zh hW;clear hW hrow;have cLd:wr.drew.cell? ⟨w.heap.size+1,0,none⟩=some (.string (fl e.kind)):=cL
 go_region_held3 (fun w'=>w'.cell? ⟨w.heap.size,0,none⟩=some (.int .u64 e.term)∧w'.cell? ⟨w.heap.size,1,none⟩=some (.int .u64 e.index)∧w'.cell? ⟨w.heap.size,3,none⟩=some (.int .u64 e.client)∧w'.cell? ⟨w.heap.size,4,none⟩=some (.int .u64 e.seq)∧w'.cell? ⟨w.heap.size,5,none⟩=some (.int .u64 e.block)∧w'.cell? ⟨w.heap.size,6,none⟩=some (.int .u64 e.many)∧w'.cell? ⟨w.heap.size,7,none⟩=some (.int .i64 e.node)∧w'.cell? ⟨w.heap.size,8,none⟩=some (.int .i64 e.level)∧w'.cell? ⟨w.heap.size,9,none⟩=some (.string e.data)∧w'.cell? ⟨w.heap.size,10,none⟩=some (.string e.old)∧w'.cell? ⟨w.heap.size+1,0,none⟩=some (.string (fl e.kind)))
  (first|exact ⟨c0,c1,c3,c4,c5,c6,c7,c8,c9,c10,cL⟩|go_keep)
  (first
    | (go_at_call 323;(with_reducible refine (zol (fl e.kind) _ _ _ _ _ _ (by omega) (by omega) cLd).mono ?_);rintro r w' ⟨rfl,rfl⟩)
    | (go_at_call 302;(with_reducible refine (zsa _ _ _ _ _ _ _ _ _ _ _ _).mono ?_);rintro r w' ⟨rfl,rfl⟩))
 all_goals
  have hR:Hid (zaJ e=(fb e.kind&&(decide (1≤e.term)&&(decide (1≤e.index)&&(lim (fl e.kind) 99 e.client 1 18446744073709551615&&(lim (fl e.kind) 99 e.seq 0 18446744073709551615&&(lim (fl e.kind) 98 e.block 0 4294967295&&(lim (fl e.kind) 109 e.many 0 4294967295&&(lim (fl e.kind) 110 (IntKind.u64.wrap e.node) 1 7&&(lim (fl e.kind) 108 (IntKind.u64.wrap e.level) 1 2&&(lim (fl e.kind) 100 (IntKind.u64.wrap e.data.size) 0 64&&lim (fl e.kind) 111 (IntKind.u64.wrap e.old.size) 0 64))))))))))):=by
   show _=_;unfold zaJ asks;simp only [List.all_cons,List.all_nil,id,Bool.and_true]
  have hbD:Below w.heap.size w (wr.alloc (Obj.cells #[Value.bool true] 4)):=hb.alloc hb.size _;go_wp2;go_ret;refine ⟨za6 hR.out.symm,?_⟩;exact ⟨hb.os,hb.tape,hb.output,by have:=hb.size;simp;omega,fun k hk=>(zty wr _ k (zs8 hk hb.size)).trans (hb.block k hk)⟩
theorem zl6 {L:ByteArray} {c n lo hi:Int}:lim L c n lo hi=true↔((zb9 L c=true→lo≤n∧n≤hi)∧(zb9 L c=false→n=0)):=by
 unfold lim
 cases zb9 L c<;>simp
structure zqh (e:En):Prop where
 f:fb e.kind=true
 t:1≤e.term
 i:1≤e.index
 c1:zb9 (fl e.kind) 99=true→1≤e.client
 c0:zb9 (fl e.kind) 99=false→e.client=0
 s0:zb9 (fl e.kind) 99=false→e.seq=0
 b1:e.block≤4294967295
 b0:zb9 (fl e.kind) 98=false→e.block=0
 m1:e.many≤4294967295
 m0:zb9 (fl e.kind) 109=false→e.many=0
 n1:zb9 (fl e.kind) 110=true→1≤e.node∧e.node≤7
 n0:zb9 (fl e.kind) 110=false→e.node=0
 l1:zb9 (fl e.kind) 108=true→1≤e.level∧e.level≤2
 l0:zb9 (fl e.kind) 108=false→e.level=0
 d1:(e.data.size:Int)≤64
 d0:zb9 (fl e.kind) 100=false→(e.data.size:Int)=0
 o1:(e.old.size:Int)≤64
 o0:zb9 (fl e.kind) 111=false→(e.old.size:Int)=0
theorem both {b:Bool} {P:Prop} (h1:b=true→P) (h2:b=false→P):P:=by cases b;exact h2 rfl;exact h1 rfl
theorem zdS (e:En) (ok:e.Ok):zaJ e=true↔zqh e:=by
 obtain ⟨t0,t1,i0,i1,k0,k1,c0,c1,s0,s1,b0,b1,m0,m1,n0,n1,l0,l1,d1,o1⟩:=ok;unfold zaJ asks;simp only [List.all_cons,List.all_nil,id,Bool.and_true,zsR,decide_eq_true_eq,zl6,zsT];constructor
 ·rintro ⟨a0,a1,a2,a3,a4,a5,a6,a7,a8,a9,a10⟩;constructor
  ·exact a0
  ·exact a1
  ·exact a2
  ·exact fun h=>(a3.1 h).1
  ·exact a3.2
  ·exact a4.2
  ·exact both (fun h=>(a5.1 h).2) (fun h=>by have:=a5.2 h;omega)
  ·exact a5.2
  ·exact both (fun h=>(a6.1 h).2) (fun h=>by have:=a6.2 h;omega)
  ·exact a6.2
  ·exact fun h=>by have:=a7.1 h;omega
  ·exact fun h=>by have:=a7.2 h;omega
  ·exact fun h=>by have:=a8.1 h;omega
  ·exact fun h=>by have:=a8.2 h;omega
  ·exact both (fun h=>by have:=a9.1 h;omega) (fun h=>by have:=a9.2 h;omega)
  ·exact fun h=>by have:=a9.2 h;omega
  ·exact both (fun h=>by have:=a10.1 h;omega) (fun h=>by have:=a10.2 h;omega)
  ·exact fun h=>by have:=a10.2 h;omega
 ·intro A;have A1:=A.d1;have A2:=A.o1;have A3:=A.b1;have A4:=A.m1;refine ⟨A.f,A.t,A.i,⟨fun h=>⟨A.c1 h,c1⟩,A.c0⟩,⟨fun h=>⟨s0,s1⟩,A.s0⟩,⟨fun h=>⟨b0,A.b1⟩,A.b0⟩,⟨fun h=>⟨m0,A.m1⟩,A.m0⟩,⟨fun h=>by have:=A.n1 h;omega,fun h=>by have:=A.n0 h;omega⟩,⟨fun h=>by have:=A.l1 h;omega,fun h=>by have:=A.l0 h;omega⟩,⟨fun h=>by omega,fun h=>by have:=A.d0 h;omega⟩,⟨fun h=>by omega,fun h=>by have:=A.o0 h;omega⟩⟩
structure Bx (B0:Nat) (e:En) (T:TypeId) (w:World):Prop where
 bx:w.heap[B0]?=some (.cells (ec e) T (0,0))
theorem Bx.cell {B0:Nat} {e:En} {T:TypeId} {w:World} (h:Bx B0 e T w) (i:Nat):w.cell? ⟨B0,i,none⟩=(ec e)[i]?:=zcr w _ i _ T (0,0) h.bx
theorem Bx.lt {B0:Nat} {e:En} {T:TypeId} {w:World} (h:Bx B0 e T w):B0<w.heap.size:=(zgx h.bx)
theorem Bx.below {B0:Nat} {e:En} {T:TypeId} {w w1:World} (h:Bx B0 e T w) (hb:Below w.heap.size w w1):Bx B0 e T w1:=⟨(hb.block _ h.lt).trans h.bx⟩
def lvl (k:Int):Int:=if k=11 then 2 else 1
theorem zmi (e:En) (w:World):Calls Tryz.prog 296 #[ev e] w fun r w'=>r=.returned (.int .i64 (lvl e.kind))∧Below w.heap.size w w':=by
 by_cases h:e.kind=11
 ·have hT:Hid (lvl e.kind=2):=by show _=_;unfold lvl;rw [if_pos h]
  have h2:(e.kind==11)=true:=by simpa using h
  clear h;go_enter Tryz.func296,Tryz.ntmps296;go_wp2;go_ret;exact ⟨by rw [hT.out];rfl,zba⟩
 ·have hT:Hid (lvl e.kind=1):=by show _=_;unfold lvl;rw [if_neg h]
  have h2:(e.kind==11)=false:=zcG h;clear h;go_enter Tryz.func296,Tryz.ntmps296;go_wp2;go_ret;exact ⟨by rw [hT.out];rfl,zba⟩
theorem zkr (e:En) (w:World):Calls Tryz.prog 74 #[ev e] w fun r w'=>r=.returned (.int .i64 (lvl e.kind))∧Below w.heap.size w w':=by
 by_cases h:e.kind=11
 ·have hT:Hid (lvl e.kind=2):=by show _=_;unfold lvl;rw [if_pos h]
  have h2:(e.kind==11)=true:=by simpa using h
  clear h;go_enter Tryz.func74,Tryz.ntmps74;go_wp2;go_ret;exact ⟨by rw [hT.out];rfl,zba⟩
 ·have hT:Hid (lvl e.kind=1):=by show _=_;unfold lvl;rw [if_neg h]
  have h2:(e.kind==11)=false:=zcG h;clear h;go_enter Tryz.func74,Tryz.ntmps74;go_wp2;go_ret;exact ⟨by rw [hT.out];rfl,zba⟩
theorem zp8 (r:Int):(fl r).size≤4:=by
 unfold fl
 repeat' split
 all_goals decide
def zpd (l:List UInt8) (c:Int):Bool:=l.any fun x=>(x.toNat:Int)==c
def zrp (s:ByteArray):ByteArray:=s.extract 0 (min (s.size:Int) 64).toNat
def part (e:En) (r:Int) (l:List UInt8):En :=
 { term:=e.term % 1000+1,index:=e.index % 1000+1,kind:=r
   client:=if zpd l 99 then e.client % 5+1 else 0
   seq:=if zpd l 99 then e.seq % 9 else 0
   block:=if zpd l 98 then e.block % 9 else 0
   many:=if zpd l 109 then e.many % 9 else 0
   node:=if zpd l 110 then IntKind.u64.wrap e.node % 7+1 else 0
   level:=if zpd l 108 then IntKind.u64.wrap e.level % 2+1 else 0
   data:=if zpd l 100 then zrp e.data else ⟨#[]⟩
   old:=if zpd l 111 then zrp e.old else ⟨#[]⟩ }
def mk (e:En):En:=part e (e.kind % 12) (fl (e.kind % 12)).data.toList
abbrev ezz:En:=⟨0,0,0,0,0,0,0,0,0,⟨#[]⟩,⟨#[]⟩⟩
theorem zaC {w:World} {g:Nat} {T:TypeId} {cs:Array Value} (h:w.heap[g]?=some (.cells cs T (0,0))) (i:Nat) (u:Value):(w.setCell ⟨g,i,none⟩ u).heap[g]?=some (.cells (cs.setIfInBounds i u) T (0,0)):=by
 simp [World.setCell,Array.getElem?_modify,h]
theorem zn3 (E:En):((((((((((((ec ezz).setIfInBounds 0 (.int .u64 E.term)).setIfInBounds 1 (.int .u64 E.index)).setIfInBounds 2 (.int .i64 E.kind)).setIfInBounds 3 (.int .u64 E.client)).setIfInBounds 4 (.int .u64 E.seq)).setIfInBounds 5 (.int .u64 E.block)).setIfInBounds 6 (.int .u64 E.many)).setIfInBounds 7 (.int .i64 E.node)).setIfInBounds 8 (.int .i64 E.level)).setIfInBounds 9 (.string E.data)).setIfInBounds 10 (.string E.old))=ec E:=by
 simp
theorem zlP {wr:World} {g:Nat} (E:En) (h:wr.heap[g]?=some (.cells (ec ezz) 69 (0,0))):(((((((((((wr.setCell ⟨g,0,none⟩ (.int .u64 E.term)).setCell ⟨g,1,none⟩ (.int .u64 E.index)).setCell ⟨g,2,none⟩ (.int .i64 E.kind)).setCell ⟨g,3,none⟩ (.int .u64 E.client)).setCell ⟨g,4,none⟩ (.int .u64 E.seq)).setCell ⟨g,5,none⟩ (.int .u64 E.block)).setCell ⟨g,6,none⟩ (.int .u64 E.many)).setCell ⟨g,7,none⟩ (.int .i64 E.node)).setCell ⟨g,8,none⟩ (.int .i64 E.level)).setCell ⟨g,9,none⟩ (.string E.data)).setCell ⟨g,10,none⟩ (.string E.old)).heap[g]?=some (.cells (ec E) 69 (0,0)):=by
 rw [←zn3 E];exact (zaC (zaC (zaC (zaC (zaC (zaC (zaC (zaC (zaC (zaC (zaC h 0 _) 1 _) 2 _) 3 _) 4 _) 5 _) 6 _) 7 _) 8 _) 9 _) 10 _)
theorem zcQ {B:Nat} {a wr:World} {g:Nat} (E:En) (h:Below B a wr) (hg:B≤g):Below B a (((((((((((wr.setCell ⟨g,0,none⟩ (.int .u64 E.term)).setCell ⟨g,1,none⟩ (.int .u64 E.index)).setCell ⟨g,2,none⟩ (.int .i64 E.kind)).setCell ⟨g,3,none⟩ (.int .u64 E.client)).setCell ⟨g,4,none⟩ (.int .u64 E.seq)).setCell ⟨g,5,none⟩ (.int .u64 E.block)).setCell ⟨g,6,none⟩ (.int .u64 E.many)).setCell ⟨g,7,none⟩ (.int .i64 E.node)).setCell ⟨g,8,none⟩ (.int .i64 E.level)).setCell ⟨g,9,none⟩ (.string E.data)).setCell ⟨g,10,none⟩ (.string E.old)) :=
 (((((((((((h.setCell (p:=⟨g,0,none⟩) hg _).setCell (p:=⟨g,1,none⟩) hg _).setCell (p:=⟨g,2,none⟩) hg _).setCell (p:=⟨g,3,none⟩) hg _).setCell (p:=⟨g,4,none⟩) hg _).setCell (p:=⟨g,5,none⟩) hg _).setCell (p:=⟨g,6,none⟩) hg _).setCell (p:=⟨g,7,none⟩) hg _).setCell (p:=⟨g,8,none⟩) hg _).setCell (p:=⟨g,9,none⟩) hg _).setCell (p:=⟨g,10,none⟩) hg _)
theorem zf0 (a:Addr) (n:Nat):(a.add n).block=a.block:=by
 unfold Addr.add
 split<;>rfl
structure zcJ (B:Nat) (A:Option Addr) (n:Nat) (es:List En) (w:World):Prop where
 len:es.length=n
 at_:∀ i e,es[i]?=some e→∃ a,A=some a∧a.block<B∧∀ j,j<11→w.cell? ((a.add (i*11)).add j)=(ec e)[j]?
theorem zcJ.below {B:Nat} {A:Option Addr} {n:Nat} {es:List En} {w w1:World} (h:zcJ B A n es w) (hb:Below B w w1):zcJ B A n es w1 :=
 ⟨h.len,fun i e he=>by
  obtain ⟨a,hA,hB,hc⟩:=h.at_ i e he;exact ⟨a,hA,hB,fun j hj=>(hb.cell (by rw [zf0,zf0];exact hB)).trans (hc j hj)⟩⟩
theorem zcJ.mr {B B':Nat} {A:Option Addr} {n:Nat} {es:List En} {w:World} (h:zcJ B A n es w) (hB:B≤B'):zcJ B' A n es w :=
 ⟨h.len,fun i e he=>by
  obtain ⟨a,hA,h1,hc⟩:=h.at_ i e he;exact ⟨a,hA,zs8 h1 hB,hc⟩⟩
def flat (es:List En):List Value:=es.flatMap fun e=>(ec e).toList
theorem zdx (es:List En) (e:En):flat (es++[e])=flat es++(ec e).toList:=by
 unfold flat;rw [List.flatMap_append]
 simp
theorem za2 (es:List En):(flat es).length=es.length*11:=by
 induction es with
 | nil=>rfl
 | cons e es ih =>
   show ((ec e).toList++flat es).length=_;rw [zsS,ih];show 11+es.length*11=(es.length+1)*11;omega
theorem zdy (es:List En) (i:Nat) (e:En) (h:es[i]?=some e) (j:Nat) (hj:j<11):(flat es)[i*11+j]?=(ec e)[j]?:=by
 induction es generalizing i with
 | nil=>cases h
 | cons a es ih =>
   have e1:flat (a :: es)=(ec a).toList++flat es:=rfl;rw [e1]
   cases i with
   | zero =>
     have:a=e:=Option.some.inj h
     subst this;rw [ztG (by show 0*11+j<11;omega),Nat.zero_mul,zs0];rw [zto]
   | succ i =>
     have hl:(ec a).toList.length=11:=rfl;rw [List.getElem?_append_right (by rw [hl];omega),hl,show (i+1)*11+j-11=i*11+j by omega];exact ih i h
theorem zeY {w w':World} {B e s n:Nat} {v:Value} {xs:List Value} (h:w.ownsRow B e s v n xs) (he:∀ k,v.ownBlock=some k→w'.heap[k]?=w.heap[k]?):w'.ownsRow B e s v n xs:=by
 obtain ⟨hl,h⟩:=h;refine ⟨hl,?_⟩;rcases h with h|⟨gb,c,cur,rfl,hb,hh,r⟩
 ·exact .inl h
 ·exact .inr ⟨gb,c,cur,rfl,hb,(he gb (by simp [Value.ownBlock])).trans hh,r⟩
theorem zil {w:World} {B:Nat} {A:Option Addr} {n c:Nat} {es:List En} (h:w.ownsRow B 69 11 (.slice A n c) n (flat es)) (hl:es.length=n):zcJ w.heap.size A n es w:=by
 refine ⟨hl,fun i e he=>?_⟩
 have hi:i<n:=by
  rw [←hl];exact (List.getElem?_eq_some_iff.1 he).1
 obtain ⟨g,cap,hv,hb,hg⟩:=h.form (by omega)
 have hA:A=some ⟨g,0,none⟩∧c=cap:=by
  simp at hv;exact hv
 obtain ⟨rfl,rfl⟩:=hA;refine ⟨_,rfl,hg,fun j hj=>?_⟩;have h1:=h.cellAt (i*11+j) (by omega);rw [zdy es i e he j hj] at h1;rw [←h1,Addr.add_mid,Addr.add_mid,zs0]
abbrev wz (w:World) (g:Nat) (E:En):World:=(((((((((((w.setCell ⟨g,0,none⟩ (.int .u64 E.term)).setCell ⟨g,1,none⟩ (.int .u64 E.index)).setCell ⟨g,2,none⟩ (.int .i64 E.kind)).setCell ⟨g,3,none⟩ (.int .u64 E.client)).setCell ⟨g,4,none⟩ (.int .u64 E.seq)).setCell ⟨g,5,none⟩ (.int .u64 E.block)).setCell ⟨g,6,none⟩ (.int .u64 E.many)).setCell ⟨g,7,none⟩ (.int .i64 E.node)).setCell ⟨g,8,none⟩ (.int .i64 E.level)).setCell ⟨g,9,none⟩ (.string E.data)).setCell ⟨g,10,none⟩ (.string E.old))
theorem zj6 (E Z:En):((((((((((((ec Z).setIfInBounds 0 (.int .u64 E.term)).setIfInBounds 1 (.int .u64 E.index)).setIfInBounds 2 (.int .i64 E.kind)).setIfInBounds 3 (.int .u64 E.client)).setIfInBounds 4 (.int .u64 E.seq)).setIfInBounds 5 (.int .u64 E.block)).setIfInBounds 6 (.int .u64 E.many)).setIfInBounds 7 (.int .i64 E.node)).setIfInBounds 8 (.int .i64 E.level)).setIfInBounds 9 (.string E.data)).setIfInBounds 10 (.string E.old))=ec E:=by simp
theorem zcp {wr:World} {g:Nat} {Z:En} (E:En) (h:wr.heap[g]?=some (.cells (ec Z) 69 (0,0))):(wz wr g E).heap[g]?=some (.cells (ec E) 69 (0,0)):=by
 rw [←zj6 E Z];exact zaC (zaC (zaC (zaC (zaC (zaC (zaC (zaC (zaC (zaC (zaC h 0 _) 1 _) 2 _) 3 _) 4 _) 5 _) 6 _) 7 _) 8 _) 9 _) 10 _
end Go.Proofs.YtidndekacnmihaaGreat
