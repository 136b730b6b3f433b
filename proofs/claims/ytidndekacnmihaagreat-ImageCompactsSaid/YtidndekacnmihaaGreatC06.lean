/- Parts of a proof. -/
import Derived.Test.YtidndekacnmihaaGreatC01
set_option linter.all false
set_option maxHeartbeats 8000000
set_option maxRecDepth 100000
namespace Go.Proofs.YtidndekacnmihaaGreat
open Bool renaming true→D,false→J
open Ending renaming returned→M
open Go renaming World→K,Calls→O,Value→S
open Go.RowKit renaming Below→N,intOf→R
open IntKind renaming u64→y,i64→F
open Obj renaming cells→G
open Option renaming none→z,some→C
open Tryz renaming prog→Q
open Value renaming int→d,bool→H,string→I,pointer→U
open Tryz
variable {a c hi lo n r:Int} {b:Bool} {L:ByteArray} {B B0 g k:Nat} {w w0 w1 wr:K} {cs:Array S} {A:Option Addr}
open Go.RowKit
structure En where
 term:Int
 index:Int
 kind:Int
 client:Int
 seq:Int
 block:Int
 many:Int
 node:Int
 level:Int
 data:ByteArray
 old:ByteArray
abbrev ev (e:En):S:=.agg #[d y e.term,d y e.index,d F e.kind,d y e.client,d y e.seq,d y e.block,d y e.many,d F e.node,d F e.level,I e.data,I e.old]
abbrev ec (e:En):Array S:=#[d y e.term,d y e.index,d F e.kind,d y e.client,d y e.seq,d y e.block,d y e.many,d F e.node,d F e.level,I e.data,I e.old]
def fl (k:Int):ByteArray :=
 if k=1 then ⟨#[99,98,100]⟩ else if k=2 then ⟨#[99,98,109]⟩ else if k=3 then ⟨#[99,109]⟩ else if k=4 then ⟨#[99]⟩
 else if k=5 then ⟨#[110]⟩ else if k=6 then ⟨#[110]⟩ else if k=7 then ⟨#[110,108]⟩ else if k=11 then ⟨#[99,98,100,111]⟩ else ⟨#[]⟩
def fb (k:Int):Bool:=decide (0≤k∧k≤11)
theorem zje (k:Int):(k=0∨k=1∨k=2∨k=3∨k=4∨k=5∨k=6∨k=7∨k=8∨k=9∨k=10∨k=11)∨(k<0∨11<k):=by omega
theorem zle (k:Int) (h:k<0∨11<k):fl k=⟨#[]⟩:=by
 unfold fl;rw [if_neg (by omega),if_neg (by omega),if_neg (by omega),if_neg (by omega),if_neg (by omega),if_neg (by omega),if_neg (by omega),if_neg (by omega)]
theorem zcw {b:Int} (h:a≠b):(a==b)=J:=by simpa using h
theorem zkd (k:Int) (w:K) :
 O Q 300 #[d F k] w fun e w'=>e=M (.tuple #[I (fl k),H (fb k)])∧w=w':=by
 rcases zje k with h|h
 ·rcases h with rfl|rfl|rfl|rfl|rfl|rfl|rfl|rfl|rfl|rfl|rfl|rfl
  all_goals
   go_enter func300,ntmps300;go_wp2;go_ret2;exact ⟨rfl,rfl⟩
 ·have e1:=zle k h;have e2:fb k=J:=by unfold fb;exact ztM (by omega)
  rw [e1,e2];have h0:=zcw (show k≠0 by omega);have h1:=zcw (show k≠1 by omega);have h2:=zcw (show k≠2 by omega);have h3:=zcw (show k≠3 by omega);have h4:=zcw (show k≠4 by omega);have h5:=zcw (show k≠5 by omega);have h6:=zcw (show k≠6 by omega);have h7:=zcw (show k≠7 by omega);have h8:=zcw (show k≠8 by omega);have h9:=zcw (show k≠9 by omega);have h10:=zcw (show k≠10 by omega);have h11:=zcw (show k≠11 by omega);clear h e1 e2;go_enter func300,ntmps300;go_wp2;go_ret2;exact ⟨rfl,rfl⟩
theorem ze1 (k:Int) (w:K) :
 O Q 138 #[d F k] w fun e w'=>e=M (.tuple #[I (fl k),H (fb k)])∧N w.heap.size w w':=by
 rcases zje k with h|h
 ·rcases h with rfl|rfl|rfl|rfl|rfl|rfl|rfl|rfl|rfl|rfl|rfl|rfl
  all_goals
   go_enter func138,ntmps138;go_wp2;go_ret2;exact ⟨rfl,zba⟩
 ·have e1:=zle k h;have e2:fb k=J:=by unfold fb;exact ztM (by omega)
  rw [e1,e2];clear e1 e2
  by_cases h0:k<0
  ·clear h;go_enter func138,ntmps138;go_wp2;go_ret2;exact ⟨rfl,Below.refl _ _⟩
  ·have h1:11<k:=by omega
   clear h;go_enter func138,ntmps138;go_wp2;go_ret2;exact ⟨rfl,Below.refl _ _⟩
theorem za9 {a:Bool} (h:a=b):M (H a)=M (H b):=by rw [h]
def zbo (s:ByteArray) (c:Int):Bool:=s.data.toList.any fun x=>(x.toNat:Int)==c
theorem zfL (b:UInt8) (l:List UInt8) (c:UInt8):Lib.indexByte (b :: l) c=if b==c then 0 else if Lib.indexByte l c==-1 then -1 else Lib.indexByte l c+1:=rfl
theorem zdK:∀ (l:List UInt8) (c:UInt8),(decide (0≤Lib.indexByte l c))=l.any fun x=>x==c
 | [],c=>rfl
 | b :: l,c=>by
   have ih:=zdK l c;have hge:=Lib.indexByte_ge l c;rw [List.any_cons,←ih,zfL]
   cases hbc:b==c
   ·rw [if_neg (by simp),Bool.false_or]
    by_cases h1:Lib.indexByte l c=-1
    ·rw [h1];rfl
    ·rw [if_neg (by simpa using h1),decide_eq_decide];omega
   ·simp
theorem zks (s:ByteArray) (c:Nat) (hc:c<256):decide (0≤Lib.indexByte s.data.toList c.toUInt8)=zbo s c:=by
 rw [zdK];unfold zbo
 congr 1
 funext x
 rw [Bool.eq_iff_iff,beq_iff_eq,beq_iff_eq];have h1:c.toUInt8.toNat=c:=by simp [Nat.toUInt8,UInt8.toNat_ofNat'];omega
 constructor
 ·rintro rfl;rw [h1]
 ·intro h;rw [←UInt8.toNat_inj,h1];omega
theorem zfM (l:List UInt8) (k:Nat) (p:UInt8→Bool) (h:k<l.length):(l.take (k+1)).any p=((l.take k).any p||p l[k]):=by
 rw [zuU h,List.any_append]
 simp
theorem zgD (s:ByteArray) (k:Nat) (p:UInt8→Bool) (h:k<s.size):(s.data.toList.take (k+1)).any p=((s.data.toList.take k).any p||p s[k]) :=
 zfM s.data.toList k p (by simpa using h)
theorem zr2 (s:ByteArray) (k:Nat) (h:k<s.size):s[k]∈s.data.toList:=List.getElem_mem (l:=s.data.toList) (n:=k) (by simpa using h)
theorem zqE (s:ByteArray) (c:Int) (w:K) (hs:s.size≤140737488355328) :
 O Q 287 #[I s,d .u8 c] w fun e w'=>e=M (H (zbo s c))∧w=w':=by
 go_enter func287,ntmps287;go_wp2
 go_loop [5] (fun i=>∃ k:Nat,k≤s.size∧i=d F k∧Hid ((s.data.toList.take k).any (fun x=>(x.toNat:Int)==c)=J)) (fun i=>s.size-(R i).toNat)
 case atStart=>exact ⟨0,ztO _,rfl,rfl⟩
 case round =>
  obtain ⟨k,hk,rfl,hno⟩:=hrel
  by_cases hlt:k<s.size
  ·have hst:=zh (zgD s k (fun x=>(x.toNat:Int)==c) hlt);have hmem:=zh (zr2 s k hlt)
   by_cases hc:((s[k].toNat:Int)==c)=D
   ·have H1:Hid (zbo s c=D):=by
     unfold zbo;show List.any s.data.toList _=D;rw [List.any_eq_true];exact ⟨s[k],hmem.out,hc⟩
    go_wp2;go_ret;exact ⟨za9 H1.out.symm,rfl⟩
   ·have hc2:((s[k].toNat:Int)==c)=J:=by simpa using hc
    clear hc;go_wp2
    go_round
    case rel=>exact ⟨k+1,by omega,by go_num,by show _=_;rw [hst.out,hno.out,Bool.false_or];exact hc2⟩
    case measure=>simp [R];omega
  ·have H1:Hid (zbo s c=J):=by
    have h2:=hno.out;rw [zt9 (by simp;omega)] at h2;exact h2
   go_wp2;go_ret;exact ⟨za9 H1.out.symm,rfl⟩
theorem zqF (l:List Bool) (n c:Nat) (b:Nat) (w:K) (hn:l.length=n) (hl:n≤64) (hc:∀ j x,l[j]?=C x→w.cell? ⟨b,j,z⟩=C (H x)) :
 O Q 302 #[.slice (C ⟨b,0,z⟩) n c] w fun e w'=>e=M (H (l.all id))∧w=w':=by
 have HC:=zh hc;clear hc;have HN:=zh hn;clear hn;go_enter func302,ntmps302;go_wp2
 go_loop [7] (fun i=>∃ k:Nat,k≤n∧i=d F k∧Hid ((l.take k).all id=D)) (fun i=>n-(R i).toNat)
 case atStart=>exact ⟨0,ztO _,rfl,rfl⟩
 case round =>
  obtain ⟨k,hk,rfl,hall⟩:=hrel
  by_cases hlt:k<n
  ·have hkl:k<l.length:=by rw [HN.out];exact hlt
   have hcell:=HC.out k _ (zt2 hkl)
   cases hx:l[k] with
   | true =>
     rw [hx] at hcell
     have H1:Hid ((l.take (k+1)).all id=D):=by
      show _=D;rw [zuU hkl,List.all_append,hall.out,hx];rfl
     clear hx;go_wp2
     go_round
     case rel=>exact ⟨k+1,by omega,by go_num,H1⟩
     case measure=>simp [R];omega
   | false =>
     rw [hx] at hcell
     have H1:Hid (l.all id=J):=by
      show _=J;rw [List.all_eq_false];exact ⟨l[k],List.getElem_mem _,by rw [hx];simp⟩
     clear hx;go_wp2;go_ret;exact ⟨za9 H1.out.symm,rfl⟩
  ·have H1:Hid (l.all id=D):=by
    have h2:=hall.out;rw [zt9 (by rw [HN.out];omega)] at h2;exact h2
   go_wp2;go_ret;exact ⟨za9 H1.out.symm,rfl⟩
def lim (s:ByteArray) (c n lo hi:Int):Bool:=if zbo s c then (decide (lo≤n)&&decide (n≤hi)) else n==0
theorem zlA (s:ByteArray) (c:Nat) (n lo hi:Int) (a:Addr) (w:K) (hc:c<256) (ha:w.cell? a=C (I s)) :
 O Q 323 #[d .u8 c,d y n,d y lo,d y hi,U (C a)] w fun e w'=>e=M (H (lim s c n lo hi))∧w=w':=by
 have hq:=zks s c hc
 cases hb:zbo s c with
 | false =>
   have e1:Hid (lim s c n lo hi=(n==0)):=by show _=_;unfold lim;rw [hb,if_neg (by simp)]
   rw [hb] at hq
   have hlt:decide (Lib.indexByte s.data.toList c.toUInt8<0)=D:=by
    have:=of_decide_eq_false hq
    simpa using this
   clear hb hq;go_enter func323,ntmps323
   go_wp2_with (go_at_call 324;refine (strings_IndexByte s c _).mono ?_;rintro e w' ⟨rfl,rfl⟩)
   all_goals go_ret
   all_goals exact ⟨za9 e1.out.symm,rfl⟩
 | true =>
   have e1:Hid (lim s c n lo hi=(decide (lo≤n)&&decide (n≤hi))):=by show _=_;unfold lim;rw [hb,if_pos rfl]
   rw [hb] at hq
   have hlt:decide (Lib.indexByte s.data.toList c.toUInt8<0)=J:=by
    have:=of_decide_eq_true hq
    exact ztM (by omega)
   clear hb hq
   by_cases h1:lo≤n
   ·have h2:decide (lo≤n)=D:=ztN h1;go_enter func323,ntmps323
    go_wp2_with (go_at_call 324;refine (strings_IndexByte s c _).mono ?_;rintro e w' ⟨rfl,rfl⟩)
    all_goals go_ret
    all_goals exact ⟨za9 (by rw [e1.out,h2];rfl),rfl⟩
   ·have h2:decide (lo≤n)=J:=ztM h1;go_enter func323,ntmps323
    go_wp2_with (go_at_call 324;refine (strings_IndexByte s c _).mono ?_;rintro e w' ⟨rfl,rfl⟩)
    all_goals go_ret
    all_goals exact ⟨za9 (by rw [e1.out,h2];rfl),rfl⟩
structure En.Ok (e:En):Prop where
 t0:0≤e.term
 t1:e.term≤18446744073709551615
 i0:0≤e.index
 i1:e.index≤18446744073709551615
 k0:-9223372036854775808≤e.kind
 k1:e.kind≤9223372036854775807
 c0:0≤e.client
 c1:e.client≤18446744073709551615
 s0:0≤e.seq
 s1:e.seq≤18446744073709551615
 b0:0≤e.block
 b1:e.block≤18446744073709551615
 m0:0≤e.many
 m1:e.many≤18446744073709551615
 n0:-9223372036854775808≤e.node
 n1:e.node≤9223372036854775807
 l0:-9223372036854775808≤e.level
 l1:e.level≤9223372036854775807
 d1:e.data.size≤140737488351232
 o1:e.old.size≤140737488351232
def asks (e:En):List Bool :=
 [fb e.kind,decide (1≤e.term),decide (1≤e.index),lim (fl e.kind) 99 e.client 1 18446744073709551615,lim (fl e.kind) 99 e.seq 0 18446744073709551615,lim (fl e.kind) 98 e.block 0 4294967295,lim (fl e.kind) 109 e.many 0 4294967295,
  lim (fl e.kind) 110 (y.wrap e.node) 1 7,lim (fl e.kind) 108 (y.wrap e.level) 1 2,lim (fl e.kind) 100 (y.wrap e.data.size) 0 64,lim (fl e.kind) 111 (y.wrap e.old.size) 0 64]
def zas (e:En):Bool:=(asks e).all id
theorem zkM (s:ByteArray) (w:K) :
 O Q 301 #[I s] w fun e w'=>e=M (.func (.func 323) #[] #[U (C ⟨w.heap.size,0,z⟩)])∧w'=w.alloc (G #[I s] 9):=by
 have hmf:=zmL;go_enter func301,ntmps301;go_wp2;go_ret;exact ⟨rfl,rfl⟩
theorem zpe (s:ByteArray) (c n lo hi:Int) (a:Addr) (w:K) (hc0:0≤c) (hc:c<256) (ha:w.cell? a=C (I s)) :
 O Q 323 #[d .u8 c,d y n,d y lo,d y hi,U (C a)] w fun e w'=>e=M (H (lim s c n lo hi))∧w'=w:=by
 obtain ⟨m,rfl⟩:∃ m:Nat,c=m:=⟨c.toNat,by omega⟩;exact (zlA s m n lo hi a w (by omega) ha).mono fun _ _ ⟨h1,h2⟩=>⟨h1,h2.symm⟩
theorem ziW (l:List Bool) (W:K) (j:Nat) (x:Bool) (h:l[j]?=C x):(W.alloc (G (l.map Value.bool).toArray 4)).cell? ⟨W.heap.size,j,z⟩=C (H x):=by
 rw [World.cell?_alloc_new];simp [h]
theorem zti (b0 b1 b2 b3 b4 b5 b6 b7 b8 b9 b10:Bool) (W:K) :
 O Q 302 #[.slice (C ⟨W.heap.size,0,z⟩) 11 11] (W.alloc (G #[H b0,H b1,H b2,H b3,H b4,H b5,H b6,H b7,H b8,H b9,H b10] 4)).drew fun e w'=>e=M (H ([b0,b1,b2,b3,b4,b5,b6,b7,b8,b9,b10].all id))∧(W.alloc (G #[H b0,H b1,H b2,H b3,H b4,H b5,H b6,H b7,H b8,H b9,H b10] 4)).drew=w' :=
 zqF [b0,b1,b2,b3,b4,b5,b6,b7,b8,b9,b10] 11 11 W.heap.size _ rfl (by omega) (fun j x h=>ziW [b0,b1,b2,b3,b4,b5,b6,b7,b8,b9,b10] W j x h)
theorem zpf (s:ByteArray) (c n lo hi:Int) (a:Addr) (w:K) (hc0:0≤c) (hc:c<256) (ha:w.cell? a=C (I s)) :
 O Q 323 #[d .u8 c,d y n,d y lo,d y hi,U (C a)] w fun e w'=>e=M (H (lim s c n lo hi))∧w=w' :=
 (zpe s c n lo hi a w hc0 hc ha).mono fun _ _ ⟨h1,h2⟩=>⟨h1,h2.symm⟩
theorem zbR (e:En) (w:K) (ok:e.Ok) :
 O Q 282 #[ev e] w fun r w'=>r=M (H (zas e))∧N w.heap.size w w':=by
 have HO:=zh ok;clear ok;go_enter func282,ntmps282
 go_wp2_with (first
  | (go_at_call 300;refine (zkd e.kind _).mono ?_;rintro r w' ⟨rfl,rfl⟩)
  | (go_at_call 301;refine (zkM (fl e.kind) _).mono ?_;rintro r w' ⟨rfl,rfl⟩))
 obtain ⟨wr,hW⟩:∃ wr,wr=(w.alloc (G (ec e) 69)).alloc (G #[Value.string (fl e.kind)] 9):=⟨_,rfl⟩;have hb:N w.heap.size w wr:=by rw [hW];exact zba.alloc (by simp) _
 have hrow:∀ i,i<11→wr.cell? ⟨w.heap.size,i,z⟩=(ec e)[i]?:=fun i hi=>by
  rw [hW,World.cell?_alloc_lt _ _ _ (by simp),World.cell?_alloc_new]
 have c0:=hrow 0 (by omega);have c1:=hrow 1 (by omega);have c3:=hrow 3 (by omega);have c4:=hrow 4 (by omega);have c5:=hrow 5 (by omega);have c6:=hrow 6 (by omega);have c7:=hrow 7 (by omega);have c8:=hrow 8 (by omega);have c9:=hrow 9 (by omega);have c10:=hrow 10 (by omega);simp only [ec,zuw,zuA,zuz] at c0 c1 c3 c4 c5 c6 c7 c8 c9 c10
 have cL:wr.cell? ⟨w.heap.size+1,0,z⟩=C (I (fl e.kind)):=by
  have h:=World.cell?_alloc_new (w.alloc (G (ec e) 69)) #[Value.string (fl e.kind)] 9 0;rw [show (w.alloc (G (ec e) 69)).heap.size=w.heap.size+1 by simp] at h;rw [hW,h];rfl
 rw [←hW];have HW:=zh hW;clear hW hrow;have cLd:wr.drew.cell? ⟨w.heap.size+1,0,z⟩=C (I (fl e.kind)):=cL
 go_region_held3 (fun w'=>w'.cell? ⟨w.heap.size,0,z⟩=C (d y e.term)∧w'.cell? ⟨w.heap.size,1,z⟩=C (d y e.index)∧w'.cell? ⟨w.heap.size,3,z⟩=C (d y e.client)∧w'.cell? ⟨w.heap.size,4,z⟩=C (d y e.seq)∧w'.cell? ⟨w.heap.size,5,z⟩=C (d y e.block)∧w'.cell? ⟨w.heap.size,6,z⟩=C (d y e.many)∧w'.cell? ⟨w.heap.size,7,z⟩=C (d F e.node)∧w'.cell? ⟨w.heap.size,8,z⟩=C (d F e.level)∧w'.cell? ⟨w.heap.size,9,z⟩=C (I e.data)∧w'.cell? ⟨w.heap.size,10,z⟩=C (I e.old)∧w'.cell? ⟨w.heap.size+1,0,z⟩=C (I (fl e.kind)))
  (first|exact ⟨c0,c1,c3,c4,c5,c6,c7,c8,c9,c10,cL⟩|go_keep)
  (first
    | (go_at_call 323;(with_reducible refine (zpf (fl e.kind) _ _ _ _ _ _ (by omega) (by omega) cLd).mono ?_);rintro r w' ⟨rfl,rfl⟩)
    | (go_at_call 302;(with_reducible refine (zti _ _ _ _ _ _ _ _ _ _ _ _).mono ?_);rintro r w' ⟨rfl,rfl⟩))
 all_goals
  have hR:Hid (zas e=(fb e.kind&&(decide (1≤e.term)&&(decide (1≤e.index)&&(lim (fl e.kind) 99 e.client 1 18446744073709551615&&(lim (fl e.kind) 99 e.seq 0 18446744073709551615&&(lim (fl e.kind) 98 e.block 0 4294967295&&(lim (fl e.kind) 109 e.many 0 4294967295&&(lim (fl e.kind) 110 (y.wrap e.node) 1 7&&(lim (fl e.kind) 108 (y.wrap e.level) 1 2&&(lim (fl e.kind) 100 (y.wrap e.data.size) 0 64&&lim (fl e.kind) 111 (y.wrap e.old.size) 0 64))))))))))):=by
   show _=_;unfold zas asks;simp only [List.all_cons,List.all_nil,id,Bool.and_true]
  have hbD:N w.heap.size w (wr.alloc (G #[Value.bool D] 4)):=hb.alloc hb.size _;go_wp2;go_ret;refine ⟨za9 hR.out.symm,?_⟩;exact ⟨hb.os,hb.tape,hb.output,by have:=hb.size;simp;omega,fun k hk=>(zuN wr _ k (zuk hk hb.size)).trans (hb.block k hk)⟩
theorem zmG:lim L c n lo hi=D↔((zbo L c=D→lo≤n∧n≤hi)∧(zbo L c=J→n=0)):=by
 unfold lim
 cases zbo L c<;>simp
structure zrm (e:En):Prop where
 f:fb e.kind=D
 t:1≤e.term
 i:1≤e.index
 c1:zbo (fl e.kind) 99=D→1≤e.client
 c0:zbo (fl e.kind) 99=J→e.client=0
 s0:zbo (fl e.kind) 99=J→e.seq=0
 b1:e.block≤4294967295
 b0:zbo (fl e.kind) 98=J→e.block=0
 m1:e.many≤4294967295
 m0:zbo (fl e.kind) 109=J→e.many=0
 n1:zbo (fl e.kind) 110=D→1≤e.node∧e.node≤7
 n0:zbo (fl e.kind) 110=J→e.node=0
 l1:zbo (fl e.kind) 108=D→1≤e.level∧e.level≤2
 l0:zbo (fl e.kind) 108=J→e.level=0
 d1:(e.data.size:Int)≤64
 d0:zbo (fl e.kind) 100=J→(e.data.size:Int)=0
 o1:(e.old.size:Int)≤64
 o0:zbo (fl e.kind) 111=J→(e.old.size:Int)=0
theorem both {P:Prop} (h1:b=D→P) (h2:b=J→P):P:=by cases b;exact h2 rfl;exact h1 rfl
theorem zcW (e:En) (ok:e.Ok):zas e=D↔zrm e:=by
 obtain ⟨t0,t1,i0,i1,k0,k1,c0,c1,s0,s1,b0,b1,m0,m1,n0,n1,l0,l1,d1,o1⟩:=ok;unfold zas asks;simp only [List.all_cons,List.all_nil,id,Bool.and_true,ztZ,decide_eq_true_eq,zmG,zt3];constructor
 ·rintro ⟨a0,a1,a2,a3,a4,a5,a6,a7,a8,a9,a10⟩;constructor
  ·exact a0
  ·exact a1
  ·exact a2
  ·exact fun h=>(a3.1 h).1
  ·exact a3.2
  ·exact a4.2
  ·exact both (fun h=>(a5.1 h).2) (fun h=>by have:=a5.2 h;omega)
  ·exact a5.2
  ·exact both (fun h=>(a6.1 h).2) (fun h=>by have:=a6.2 h;omega)
  ·exact a6.2
  ·exact fun h=>by have:=a7.1 h;omega
  ·exact fun h=>by have:=a7.2 h;omega
  ·exact fun h=>by have:=a8.1 h;omega
  ·exact fun h=>by have:=a8.2 h;omega
  ·exact both (fun h=>by have:=a9.1 h;omega) (fun h=>by have:=a9.2 h;omega)
  ·exact fun h=>by have:=a9.2 h;omega
  ·exact both (fun h=>by have:=a10.1 h;omega) (fun h=>by have:=a10.2 h;omega)
  ·exact fun h=>by have:=a10.2 h;omega
 ·intro A;have A1:=A.d1;have A2:=A.o1;have A3:=A.b1;have A4:=A.m1;refine ⟨A.f,A.t,A.i,⟨fun h=>⟨A.c1 h,c1⟩,A.c0⟩,⟨fun h=>⟨s0,s1⟩,A.s0⟩,⟨fun h=>⟨b0,A.b1⟩,A.b0⟩,⟨fun h=>⟨m0,A.m1⟩,A.m0⟩,⟨fun h=>by have:=A.n1 h;omega,fun h=>by have:=A.n0 h;omega⟩,⟨fun h=>by have:=A.l1 h;omega,fun h=>by have:=A.l0 h;omega⟩,⟨fun h=>by omega,fun h=>by have:=A.d0 h;omega⟩,⟨fun h=>by omega,fun h=>by have:=A.o0 h;omega⟩⟩
structure Bx (B0:Nat) (e:En) (T:TypeId) (w:K):Prop where
 bx:w.heap[B0]?=C (G (ec e) T (0,0))
theorem Bx.cell {e:En} {T:TypeId} (h:Bx B0 e T w) (i:Nat):w.cell? ⟨B0,i,z⟩=(ec e)[i]?:=zcr w _ i _ T (0,0) h.bx
theorem Bx.lt {e:En} {T:TypeId} (h:Bx B0 e T w):B0<w.heap.size:=(zgx h.bx)
theorem Bx.below {e:En} {T:TypeId} (h:Bx B0 e T w) (hb:N w.heap.size w w1):Bx B0 e T w1:=⟨(hb.block _ h.lt).trans h.bx⟩
theorem Bx.frozen {e:En} {T:TypeId} (h:Bx B0 e T w) (i:Nat):w.frozen? ⟨B0,i,z⟩=J:=by
 have:=h.bx
 simp [World.frozen?,this]
def lvl (k:Int):Int:=if k=11 then 2 else 1
theorem zmT (e:En) (w:K):O Q 296 #[ev e] w fun r w'=>r=M (d F (lvl e.kind))∧N w.heap.size w w':=by
 by_cases h:e.kind=11
 ·have hT:Hid (lvl e.kind=2):=by show _=_;unfold lvl;rw [if_pos h]
  have h2:(e.kind==11)=D:=by simpa using h
  clear h;go_enter func296,ntmps296;go_wp2;go_ret;exact ⟨by rw [hT.out];rfl,zba⟩
 ·have hT:Hid (lvl e.kind=1):=by show _=_;unfold lvl;rw [if_neg h]
  have h2:(e.kind==11)=J:=zcw h;clear h;go_enter func296,ntmps296;go_wp2;go_ret;exact ⟨by rw [hT.out];rfl,zba⟩
theorem zgn (e:En) (w:K):O Q 74 #[ev e] w fun r w'=>r=M (d F (lvl e.kind))∧N w.heap.size w w':=by
 by_cases h:e.kind=11
 ·have hT:Hid (lvl e.kind=2):=by show _=_;unfold lvl;rw [if_pos h]
  have h2:(e.kind==11)=D:=by simpa using h
  clear h;go_enter func74,ntmps74;go_wp2;go_ret;exact ⟨by rw [hT.out];rfl,zba⟩
 ·have hT:Hid (lvl e.kind=1):=by show _=_;unfold lvl;rw [if_neg h]
  have h2:(e.kind==11)=J:=zcw h;clear h;go_enter func74,ntmps74;go_wp2;go_ret;exact ⟨by rw [hT.out];rfl,zba⟩
theorem zmn (r:Int):(fl r).size≤4:=by
 unfold fl
 repeat' split
 all_goals decide
def zkD (l:List UInt8) (c:Int):Bool:=l.any fun x=>(x.toNat:Int)==c
theorem zbv (l:List UInt8) (x:UInt8) (c:Int):zkD (l++[x]) c=(zkD l c||((x.toNat:Int)==c)):=by
 unfold zkD;rw [List.any_append]
 simp
def zfX (s:ByteArray):ByteArray:=s.extract 0 (min (s.size:Int) 64).toNat
def part (e:En) (r:Int) (l:List UInt8):En :=
 { term:=e.term % 1000+1,index:=e.index % 1000+1,kind:=r
   client:=if zkD l 99 then e.client % 5+1 else 0
   seq:=if zkD l 99 then e.seq % 9 else 0
   block:=if zkD l 98 then e.block % 9 else 0
   many:=if zkD l 109 then e.many % 9 else 0
   node:=if zkD l 110 then y.wrap e.node % 7+1 else 0
   level:=if zkD l 108 then y.wrap e.level % 2+1 else 0
   data:=if zkD l 100 then zfX e.data else ⟨#[]⟩
   old:=if zkD l 111 then zfX e.old else ⟨#[]⟩ }
def mk (e:En):En:=part e (e.kind % 12) (fl (e.kind % 12)).data.toList
abbrev mdv (e:En) (own:Bool):S:=.agg #[d y e.term,d y e.index,d F e.kind,d y e.client,d y e.seq,d y e.block,d y e.many,d F e.node,d F e.level,I e.data,I e.old,H own]
abbrev mdc (e:En) (own:Bool):Array S:=#[d y e.term,d y e.index,d F e.kind,d y e.client,d y e.seq,d y e.block,d y e.many,d F e.node,d F e.level,I e.data,I e.old,H own]
abbrev ezz:En:=⟨0,0,0,0,0,0,0,0,0,⟨#[]⟩,⟨#[]⟩⟩
theorem zmo (n m:Int) (hm:0<m) (hm2:m≤7):wrap64 (wrap64 ((y.wrap n).tmod m)+1)=y.wrap n % m+1:=by
 have h0:0≤y.wrap n:=by rw [zt3];omega
 have h1:=zt7 (y.wrap n) (show m≠0 by omega);have h2:=zua (y.wrap n) hm;rw [Int.tmod_eq_emod_of_nonneg h0];unfold wrap64;omega
theorem zq8 (e:En) (r:Int) (l:List UInt8) (x:UInt8) (hx:(x.toNat:Int)=99):ec (part e r (l++[x]))=(((ec (part e r l)).setIfInBounds 3 (d y (e.client % 5+1))).setIfInBounds 4 (d y (e.seq % 9))):=by
 simp [part,zbv,hx]
theorem zq9 (e:En) (r:Int) (l:List UInt8) (x:UInt8) (hx:(x.toNat:Int)=98):ec (part e r (l++[x]))=((ec (part e r l)).setIfInBounds 5 (d y (e.block % 9))):=by
 simp [part,zbv,hx]
theorem zoR (e:En) (r:Int) (l:List UInt8) (x:UInt8) (hx:(x.toNat:Int)=109):ec (part e r (l++[x]))=((ec (part e r l)).setIfInBounds 6 (d y (e.many % 9))):=by
 simp [part,zbv,hx]
theorem zoS (e:En) (r:Int) (l:List UInt8) (x:UInt8) (hx:(x.toNat:Int)=110):ec (part e r (l++[x]))=((ec (part e r l)).setIfInBounds 7 (d F (y.wrap e.node % 7+1))):=by
 simp [part,zbv,hx]
theorem zoT (e:En) (r:Int) (l:List UInt8) (x:UInt8) (hx:(x.toNat:Int)=108):ec (part e r (l++[x]))=((ec (part e r l)).setIfInBounds 8 (d F (y.wrap e.level % 2+1))):=by
 simp [part,zbv,hx]
theorem zoU (e:En) (r:Int) (l:List UInt8) (x:UInt8) (hx:(x.toNat:Int)=100):ec (part e r (l++[x]))=((ec (part e r l)).setIfInBounds 9 (I (zfX e.data))):=by
 simp [part,zbv,hx]
theorem zoV (e:En) (r:Int) (l:List UInt8) (x:UInt8) (hx:(x.toNat:Int)=111):ec (part e r (l++[x]))=((ec (part e r l)).setIfInBounds 10 (I (zfX e.old))):=by
 simp [part,zbv,hx]
theorem zkE (e:En) (r:Int) (l:List UInt8) (x:UInt8) (h:∀ c∈([99,98,109,110,108,100,111]:List Int),(x.toNat:Int)≠c):ec (part e r (l++[x]))=ec (part e r l):=by
 have hh:∀ c∈([99,98,109,110,108,100,111]:List Int),zkD (l++[x]) c=zkD l c:=fun c hc=>by rw [zbv,zcw (h c hc),zuH]
 simp only [part,ec,hh 99 (by simp),hh 98 (by simp),hh 109 (by simp),hh 110 (by simp),hh 108 (by simp),hh 100 (by simp),hh 111 (by simp)]
theorem zat {T:TypeId} (h:w.heap[g]?=C (G cs T (0,0))) (i:Nat) (u:S):(w.setCell ⟨g,i,z⟩ u).heap[g]?=C (G (cs.setIfInBounds i u) T (0,0)):=by
 simp [World.setCell,Array.getElem?_modify,h]
theorem zoW (E:En):((((((((((((ec ezz).setIfInBounds 0 (d y E.term)).setIfInBounds 1 (d y E.index)).setIfInBounds 2 (d F E.kind)).setIfInBounds 3 (d y E.client)).setIfInBounds 4 (d y E.seq)).setIfInBounds 5 (d y E.block)).setIfInBounds 6 (d y E.many)).setIfInBounds 7 (d F E.node)).setIfInBounds 8 (d F E.level)).setIfInBounds 9 (I E.data)).setIfInBounds 10 (I E.old))=ec E:=by
 simp
theorem zhZ (E:En) (h:wr.heap[g]?=C (G (ec ezz) 69 (0,0))):(((((((((((wr.setCell ⟨g,0,z⟩ (d y E.term)).setCell ⟨g,1,z⟩ (d y E.index)).setCell ⟨g,2,z⟩ (d F E.kind)).setCell ⟨g,3,z⟩ (d y E.client)).setCell ⟨g,4,z⟩ (d y E.seq)).setCell ⟨g,5,z⟩ (d y E.block)).setCell ⟨g,6,z⟩ (d y E.many)).setCell ⟨g,7,z⟩ (d F E.node)).setCell ⟨g,8,z⟩ (d F E.level)).setCell ⟨g,9,z⟩ (I E.data)).setCell ⟨g,10,z⟩ (I E.old)).heap[g]?=C (G (ec E) 69 (0,0)):=by
 rw [←zoW E];exact (zat (zat (zat (zat (zat (zat (zat (zat (zat (zat (zat h 0 _) 1 _) 2 _) 3 _) 4 _) 5 _) 6 _) 7 _) 8 _) 9 _) 10 _)
theorem zbU {a:K} (E:En) (h:N B a wr) (hg:B≤g):N B a (((((((((((wr.setCell ⟨g,0,z⟩ (d y E.term)).setCell ⟨g,1,z⟩ (d y E.index)).setCell ⟨g,2,z⟩ (d F E.kind)).setCell ⟨g,3,z⟩ (d y E.client)).setCell ⟨g,4,z⟩ (d y E.seq)).setCell ⟨g,5,z⟩ (d y E.block)).setCell ⟨g,6,z⟩ (d y E.many)).setCell ⟨g,7,z⟩ (d F E.node)).setCell ⟨g,8,z⟩ (d F E.level)).setCell ⟨g,9,z⟩ (I E.data)).setCell ⟨g,10,z⟩ (I E.old)) :=
 (((((((((((h.setCell (p:=⟨g,0,z⟩) hg _).setCell (p:=⟨g,1,z⟩) hg _).setCell (p:=⟨g,2,z⟩) hg _).setCell (p:=⟨g,3,z⟩) hg _).setCell (p:=⟨g,4,z⟩) hg _).setCell (p:=⟨g,5,z⟩) hg _).setCell (p:=⟨g,6,z⟩) hg _).setCell (p:=⟨g,7,z⟩) hg _).setCell (p:=⟨g,8,z⟩) hg _).setCell (p:=⟨g,9,z⟩) hg _).setCell (p:=⟨g,10,z⟩) hg _)
structure Md (w0:K) (e:En) (r:Int) (L:ByteArray) (g k:Nat) (wr:K):Prop where
 src:wr.heap[w0.heap.size+1+1]?=C (G (ec e) 69 (0,0))
 res:wr.heap[w0.heap.size+1]?=C (G (ec ezz) 69 (0,0))
 out:wr.heap[g]?=C (G (ec (part e r (L.data.toList.take k))) 69 (0,0))
 be:N w0.heap.size w0 wr
 l:w0.heap.size+1+1<g
theorem Md.sc {e:En} (h:Md w0 e r L g k wr) (i:Nat):wr.cell? ⟨w0.heap.size+1+1,i,z⟩=(ec e)[i]?:=zcr wr _ i _ 69 (0,0) h.src
theorem Md.oc {e:En} (h:Md w0 e r L g k wr) (i:Nat):wr.cell? ⟨g,i,z⟩=(ec (part e r (L.data.toList.take k)))[i]?:=zcr wr _ i _ 69 (0,0) h.out
theorem Md.rc {e:En} (h:Md w0 e r L g k wr) (i:Nat):wr.cell? ⟨w0.heap.size+1,i,z⟩=(ec ezz)[i]?:=zcr wr _ i _ 69 (0,0) h.res
theorem Md.of {i:Nat} {T:TypeId} (h:w.heap[g]?=C (G cs T (0,0))):w.frozen? ⟨g,i,z⟩=J:=by simp [World.frozen?,h]
theorem Md.step {e:En} (h:Md w0 e r L g k wr) (ho:w1.heap[g]?=C (G (ec (part e r (L.data.toList.take (k+1)))) 69 (0,0))) (hk:∀ j,j≠g→w1.heap[j]?=wr.heap[j]?) (hs:w1.heap.size=wr.heap.size) (h1:w1.os=wr.os) (h2:w1.tape=wr.tape) (h3:w1.output=wr.output) :
 Md w0 e r L g (k+1) w1:=by
 have hl:=h.l;refine ⟨(hk _ (by omega)).trans h.src,(hk _ (by omega)).trans h.res,ho,⟨h1.trans h.be.os,h2.trans h.be.tape,h3.trans h.be.output,by rw [hs];exact h.be.size,fun j hj=>(hk j (by omega)).trans (h.be.block j hj)⟩,hl⟩
theorem Md.set1 {e:En} (h:Md w0 e r L g k wr) (i:Nat) (u:S) (hp:ec (part e r (L.data.toList.take (k+1)))=(ec (part e r (L.data.toList.take k))).setIfInBounds i u):Md w0 e r L g (k+1) (wr.setCell ⟨g,i,z⟩ u) :=
 h.step (by rw [hp];exact zat h.out i u) (fun j hj=>ztX wr _ _ j hj) (by simp) rfl rfl rfl
theorem Md.set2 {e:En} (h:Md w0 e r L g k wr) (i i':Nat) (u u':S) (hp:ec (part e r (L.data.toList.take (k+1)))=((ec (part e r (L.data.toList.take k))).setIfInBounds i u).setIfInBounds i' u'):Md w0 e r L g (k+1) ((wr.setCell ⟨g,i,z⟩ u).setCell ⟨g,i',z⟩ u') :=
 h.step (by rw [hp];exact zat (zat h.out i u) i' u') (fun j hj=>(ztX _ _ _ j hj).trans (ztX wr _ _ j hj)) (by simp) rfl rfl rfl
theorem ztA (e:En):(if e.kind.tmod 12<0 then e.kind.tmod 12+12 else e.kind.tmod 12)=e.kind % 12:=by
 have h1:=Int.tmod_add_mul_tdiv e.kind 12;have h2:=Int.tmod_lt_of_pos e.kind (show (0:Int)<12 by omega)
 have h3:-12<e.kind.tmod 12:=by
  rcases Int.lt_or_le e.kind 0 with h|h
  ·have h4:=Int.tmod_lt_of_pos (-e.kind) (show (0:Int)<12 by omega);rw [Int.neg_tmod] at h4;omega
  ·have:=Int.tmod_nonneg 12 h
   omega
 split<;>omega
theorem zoX (e:En) (w:K) (ok:e.Ok):O Q 73 #[mdv e D] w fun r w'=>r=M (ev (mk e))∧N w.heap.size w w':=by
 have OK:=zh ok;clear ok;have hr1:=ztA e;have hk:=OK.out;have x1:=hk.t0;have x2:=hk.t1;have x3:=hk.i0;have x4:=hk.i1;have x5:=hk.c0;have x6:=hk.c1;have x7:=hk.s0;have x8:=hk.s1;have x9:=hk.b0;have x10:=hk.b1;have x11:=hk.m0;have x12:=hk.m1;clear hk;obtain ⟨wq,hQ⟩:∃ wq,wq=((w.alloc (G (mdc e D) 76)).alloc (G (ec ezz) 69)).alloc (G (ec e) 69):=⟨_,rfl⟩;have hbq:N w.heap.size w wq:=by rw [hQ];exact (zba.alloc (by simp) _).alloc (by simp;omega) _
 have hq2:wq.heap[w.heap.size+1+1]?=C (G (ec e) 69 (0,0)):=by
  have h:=ztJ ((w.alloc (G (mdc e D) 76)).alloc (G (ec ezz) 69)) (G (ec e) 69);rw [show ((w.alloc (G (mdc e D) 76)).alloc (G (ec ezz) 69)).heap.size=w.heap.size+1+1 by simp] at h;rw [hQ];exact h
 have hq1:wq.heap[w.heap.size+1]?=C (G (ec ezz) 69 (0,0)):=by
  have h:=ztJ (w.alloc (G (mdc e D) 76)) (G (ec ezz) 69);rw [show (w.alloc (G (mdc e D) 76)).heap.size=w.heap.size+1 by simp] at h;rw [hQ];exact (ztQ _ _ _ (by simp)).trans h
 have hqs:wq.heap.size=w.heap.size+1+1+1:=by rw [hQ];simp
 have HQ:=zh hQ;have HB:=zh hbq;have HS:=zh hqs;have H1:=zh hq1;have H2:=zh hq2;clear hQ hbq hqs hq1 hq2
 by_cases hneg:e.kind.tmod 12<0
 all_goals
  first|rw [if_pos hneg] at hr1|rw [if_neg hneg] at hr1
  have HR:=zh hr1;clear hr1;go_enter func73,ntmps73
  go_wp2_with (go_at_call 138;fail)
  obtain ⟨r,hr⟩:∃ r,r=e.kind % 12:=⟨_,rfl⟩
  first
   | rw [show wrap64 (e.kind.tmod 12+12)=r by have hx:=HR.out;rw [hx,hr];unfold wrap64;omega]
   | rw [show e.kind.tmod 12+12=r by rw [hr,←HR.out]]
   | rw [show e.kind.tmod 12=r by rw [hr,←HR.out]]
  rw [←HQ.out];have HRR:=zh hr;clear hr HR hneg
  with_reducible refine (ze1 r _).mono ?_
  rintro q w1 ⟨rfl,hb1⟩;have c0:w1.cell? ⟨w.heap.size+1+1,0,z⟩=C (d y e.term):=(hb1.cell (p:=⟨w.heap.size+1+1,0,z⟩) (by have:=HS.out;simp;omega)).trans (zcr wq _ 0 _ 69 (0,0) H2.out);have c1:w1.cell? ⟨w.heap.size+1+1,1,z⟩=C (d y e.index):=(hb1.cell (p:=⟨w.heap.size+1+1,1,z⟩) (by have:=HS.out;simp;omega)).trans (zcr wq _ 1 _ 69 (0,0) H2.out);have hq1w:w1.heap[w.heap.size+1]?=C (G (ec ezz) 69 (0,0)):=(hb1.block _ (by have:=HS.out;omega)).trans H1.out;have hq2w:w1.heap[w.heap.size+1+1]?=C (G (ec e) 69 (0,0)):=(hb1.block _ (by have:=HS.out;omega)).trans H2.out;have hbw:=HB.out.trans (hb1.mono HB.out.size);have hlt1:w.heap.size+1+1<w1.heap.size:=by have:=HS.out;have:=hb1.size;omega
  have hm0:Md w e r (fl r) w1.heap.size 0 (w1.alloc (G (ec (part e r [])) 69)) :=
   ⟨(ztQ w1 _ _ hlt1).trans hq2w,(ztQ w1 _ _ (by omega)).trans hq1w,ztJ w1 _,hbw.alloc hbw.size _,hlt1⟩
  have HM0:=zh hm0;have hfl:(fl r).size≤4:=zmn r;clear hq1w hq2w hm0 hb1;go_wp2
  go_loopw [8] (fun i wr=>∃ k:Nat,k≤(fl r).size∧i=d F k∧Md w e r (fl r) w1.heap.size k wr) (fun i _=>(fl r).size-(R i).toNat)
  case atStart=>exact ⟨0,ztO _,rfl,HM0.out⟩
  case round =>
   obtain ⟨k,hk,rfl,hM⟩:=hrel
   by_cases hlt:k<(fl r).size
   ·have htk:Hid ((fl r).data.toList.take (k+1)=(fl r).data.toList.take k++[(fl r)[k]]):=by
     show _=_;rw [zuU (by simpa using hlt)];rfl
    have s3:=hM.sc 3;have s4:=hM.sc 4;have s5:=hM.sc 5;have s6:=hM.sc 6;have s7:=hM.sc 7;have s8:=hM.sc 8;have s9:=hM.sc 9;have s10:=hM.sc 10;have o3:=hM.oc 3;have o4:=hM.oc 4;have o5:=hM.oc 5;have o6:=hM.oc 6;have o7:=hM.oc 7;have o8:=hM.oc 8;have o9:=hM.oc 9;have o10:=hM.oc 10;simp only [ec,zuw,zuA,zuz] at s3 s4 s5 s6 s7 s8 s9 s10 o3 o4 o5 o6 o7 o8 o9 o10;have fz:∀ i,wr.frozen? ⟨w1.heap.size,i,z⟩=J:=fun i=>Md.of hM.out;have HMM:=zh hM;clear hM
    by_cases y99:(((fl r)[k].toNat:Int)==99)=D
    ·have hx:((fl r)[k].toNat:Int)=99:=by simpa using y99
     have HX:=zh hx;clear hx;go_wp2
     go_roundw
     case rel=>exact ⟨k+1,by omega,by go_num,HMM.out.set2 3 4 _ _ (by rw [htk.out];exact zq8 e r _ _ HX.out)⟩
     case measure=>simp [R];omega
    ·have n99:(((fl r)[k].toNat:Int)==99)=J:=by simpa using y99
     clear y99
     by_cases y98:(((fl r)[k].toNat:Int)==98)=D
     ·have hx:((fl r)[k].toNat:Int)=98:=by simpa using y98
      have HX:=zh hx;clear hx;go_wp2
      go_roundw
      case rel=>exact ⟨k+1,by omega,by go_num,HMM.out.set1 5 _ (by rw [htk.out];exact zq9 e r _ _ HX.out)⟩
      case measure=>simp [R];omega
     ·have n98:(((fl r)[k].toNat:Int)==98)=J:=by simpa using y98
      clear y98
      by_cases y109:(((fl r)[k].toNat:Int)==109)=D
      ·have hx:((fl r)[k].toNat:Int)=109:=by simpa using y109
       have HX:=zh hx;clear hx;go_wp2
       go_roundw
       case rel=>exact ⟨k+1,by omega,by go_num,HMM.out.set1 6 _ (by rw [htk.out];exact zoR e r _ _ HX.out)⟩
       case measure=>simp [R];omega
      ·have n109:(((fl r)[k].toNat:Int)==109)=J:=by simpa using y109
       clear y109
       by_cases y110:(((fl r)[k].toNat:Int)==110)=D
       ·have hx:((fl r)[k].toNat:Int)=110:=by simpa using y110
        have HX:=zh hx;clear hx;go_wp2
        go_roundw
        case rel=>exact ⟨k+1,by omega,by go_num,HMM.out.set1 7 _ (by rw [htk.out,zmo _ 7 (by omega) (by omega)];exact zoS e r _ _ HX.out)⟩
        case measure=>simp [R];omega
       ·have n110:(((fl r)[k].toNat:Int)==110)=J:=by simpa using y110
        clear y110
        by_cases y108:(((fl r)[k].toNat:Int)==108)=D
        ·have hx:((fl r)[k].toNat:Int)=108:=by simpa using y108
         have HX:=zh hx;clear hx;go_wp2
         go_roundw
         case rel=>exact ⟨k+1,by omega,by go_num,HMM.out.set1 8 _ (by rw [htk.out,zmo _ 2 (by omega) (by omega)];exact zoT e r _ _ HX.out)⟩
         case measure=>simp [R];omega
        ·have n108:(((fl r)[k].toNat:Int)==108)=J:=by simpa using y108
         clear y108
         by_cases y100:(((fl r)[k].toNat:Int)==100)=D
         ·have hx:((fl r)[k].toNat:Int)=100:=by simpa using y100
          have HX:=zh hx;clear hx;go_wp2
          go_roundw
          case rel=>exact ⟨k+1,by omega,by go_num,HMM.out.set1 9 _ (by rw [htk.out];exact zoU e r _ _ HX.out)⟩
          case measure=>simp [R];omega
         ·have n100:(((fl r)[k].toNat:Int)==100)=J:=by simpa using y100
          clear y100
          by_cases y111:(((fl r)[k].toNat:Int)==111)=D
          ·have hx:((fl r)[k].toNat:Int)=111:=by simpa using y111
           have HX:=zh hx;clear hx;go_wp2
           go_roundw
           case rel=>exact ⟨k+1,by omega,by go_num,HMM.out.set1 10 _ (by rw [htk.out];exact zoV e r _ _ HX.out)⟩
           case measure=>simp [R];omega
          ·have n111:(((fl r)[k].toNat:Int)==111)=J:=by simpa using y111
           clear y111
           have hne:Hid (∀ c∈([99,98,109,110,108,100,111]:List Int),((fl r)[k].toNat:Int)≠c):=by
            intro c hc h0;simp only [ztT,List.not_mem_nil,or_false] at hc;rw [h0] at n99 n98 n109 n110 n108 n100 n111;rcases hc with rfl|rfl|rfl|rfl|rfl|rfl|rfl<;>simp at n99 n98 n109 n110 n108 n100 n111
           go_wp2;have hM2:Md w e r (fl r) w1.heap.size (k+1) wr:=HMM.out.step (by rw [htk.out,zkE e r _ _ hne.out];exact HMM.out.out) (fun _ _=>rfl) rfl rfl rfl rfl
           go_roundw
           case rel=>exact ⟨k+1,by omega,by go_num,hM2⟩
           case measure=>simp [R];omega
   ·have hkn:k=(fl r).size:=by omega
    subst hkn
    have hd:Hid ((fl r).data.toList.take (fl r).size=(fl r).data.toList):=by
     show _=_;rw [zt9 (by simp)]
    have hout:=hM.out;rw [hd.out] at hout;obtain ⟨E,hE⟩:∃ E,E=part e r (fl r).data.toList:=⟨_,rfl⟩;rw [←hE] at hout;have hmk:Hid (mk e=E):=by show _=_;rw [hE];unfold mk;rw [HRR.out]
    have hEo:∀ i,wr.cell? ⟨w1.heap.size,i,z⟩=(ec E)[i]?:=fun i=>zcr wr _ i _ 69 (0,0) hout;have p0:=hEo 0;have p1:=hEo 1;have p2:=hEo 2;have p3:=hEo 3;have p4:=hEo 4;have p5:=hEo 5;have p6:=hEo 6;have p7:=hEo 7;have p8:=hEo 8;have p9:=hEo 9;have p10:=hEo 10;have z0:=hM.rc 0;have z1:=hM.rc 1;have z2:=hM.rc 2;have z3:=hM.rc 3;have z4:=hM.rc 4;have z5:=hM.rc 5;have z6:=hM.rc 6;have z7:=hM.rc 7;have z8:=hM.rc 8;have z9:=hM.rc 9;have z10:=hM.rc 10;simp only [ec,zuw,zuA,zuz] at p0 p1 p2 p3 p4 p5 p6 p7 p8 p9 p10 z0 z1 z2 z3 z4 z5 z6 z7 z8 z9 z10;have fz:∀ i,wr.frozen? ⟨w.heap.size+1,i,z⟩=J:=fun i=>Md.of hM.res;have HBE:=zh hM.be;have HRES:=zh hM.res;clear hE hout hEo hM;go_wp2;obtain ⟨WF,hWF⟩:∃ WF,WF=(((((((((((wr.setCell ⟨w.heap.size+1,0,z⟩ (d y E.term)).setCell ⟨w.heap.size+1,1,z⟩ (d y E.index)).setCell ⟨w.heap.size+1,2,z⟩ (d F E.kind)).setCell ⟨w.heap.size+1,3,z⟩ (d y E.client)).setCell ⟨w.heap.size+1,4,z⟩ (d y E.seq)).setCell ⟨w.heap.size+1,5,z⟩ (d y E.block)).setCell ⟨w.heap.size+1,6,z⟩ (d y E.many)).setCell ⟨w.heap.size+1,7,z⟩ (d F E.node)).setCell ⟨w.heap.size+1,8,z⟩ (d F E.level)).setCell ⟨w.heap.size+1,9,z⟩ (I E.data)).setCell ⟨w.heap.size+1,10,z⟩ (I E.old)):=⟨_,rfl⟩;rw [←hWF]
    have hblk:WF.heap[w.heap.size+1]?=C (G (ec E) 69 (0,0)):=by
     rw [hWF];exact zhZ E HRES.out
    have hbF:N w.heap.size w WF:=by
     rw [hWF];exact zbU E HBE.out (by omega)
    have hEf:∀ i,WF.cell? ⟨w.heap.size+1,i,z⟩=(ec E)[i]?:=fun i=>zcr WF _ i _ 69 (0,0) hblk;have f0:=hEf 0;have f1:=hEf 1;have f2:=hEf 2;have f3:=hEf 3;have f4:=hEf 4;have f5:=hEf 5;have f6:=hEf 6;have f7:=hEf 7;have f8:=hEf 8;have f9:=hEf 9;have f10:=hEf 10;simp only [ec,zuw,zuA,zuz] at f0 f1 f2 f3 f4 f5 f6 f7 f8 f9 f10;clear hEf hblk hWF;exact ztP (v:=ev E) (by simp [results,results73,go_sem,f0,f1,f2,f3,f4,f5,f6,f7,f8,f9,f10]) rfl ⟨by rw [hmk.out],hbF⟩
theorem za8 (a:Addr) (n:Nat):(a.add n).block=a.block:=by
 unfold Addr.add
 split<;>rfl
structure zcx (B:Nat) (A:Option Addr) (n:Nat) (es:List En) (w:K):Prop where
 len:es.length=n
 at_:∀ i e,es[i]?=C e→∃ a,A=C a∧a.block<B∧∀ j,j<11→w.cell? ((a.add (i*11)).add j)=(ec e)[j]?
theorem zcx.below {n:Nat} {es:List En} (h:zcx B A n es w) (hb:N B w w1):zcx B A n es w1 :=
 ⟨h.len,fun i e he=>by
  obtain ⟨a,hA,hB,hc⟩:=h.at_ i e he;exact ⟨a,hA,hB,fun j hj=>(hb.cell (by rw [za8,za8];exact hB)).trans (hc j hj)⟩⟩
theorem zcx.mr {B':Nat} {n:Nat} {es:List En} (h:zcx B A n es w) (hB:B≤B'):zcx B' A n es w :=
 ⟨h.len,fun i e he=>by
  obtain ⟨a,hA,h1,hc⟩:=h.at_ i e he;exact ⟨a,hA,zuk h1 hB,hc⟩⟩
theorem zpX {x:Int} (h0:0≤x) (h1:x≤9223372036854775807):y.wrap x=x:=by rw [zt3];omega
theorem zc4 (s:ByteArray) (hs:s.size≤140737488351232):(zfX s).size≤64:=by
 unfold zfX;rw [zue];omega
theorem ziz (hh:zbo L c=D) (h1:lo≤n) (h2:n≤hi):lim L c n lo hi=D:=by
 unfold lim;rw [if_pos hh,ztN h1,ztN h2];rfl
theorem zgz (hh:zbo L c=J) (h:n=0):lim L c n lo hi=D:=by
 unfold lim;rw [if_neg (by rw [hh];simp),h];rfl
theorem zjh (h1:lo≤n) (h2:n≤hi):lim L c (if zbo L c then n else 0) lo hi=D:=by
 cases hh:zbo L c with
 | true=>rw [if_pos rfl];exact ziz hh h1 h2
 | false=>rw [if_neg (by simp)];exact zgz hh rfl
theorem zlr (h0:0≤n) (h9:n≤9) (h1:lo≤n) (h2:n≤hi):lim L c (y.wrap (if zbo L c then n else 0)) lo hi=D:=by
 cases hh:zbo L c with
 | true=>rw [if_pos rfl,zpX h0 (by omega)];exact ziz hh h1 h2
 | false=>rw [if_neg (by simp)];exact zgz hh rfl
theorem zls {x:ByteArray} (h:x.size≤64):lim L c (y.wrap (((if zbo L c then x else ⟨#[]⟩:ByteArray).size:Nat):Int)) 0 64=D:=by
 cases hh:zbo L c with
 | true=>rw [if_pos rfl,zpX (by omega) (by omega)];exact ziz hh (by omega) (by omega)
 | false=>rw [if_neg (by simp)];exact zgz hh rfl
theorem zn2 (e:En) (hd:e.data.size≤140737488351232) (ho:e.old.size≤140737488351232):zas (mk e)=D:=by
 have r0:=zt7 e.kind (show (12:Int)≠0 by omega);have r1:=zua e.kind (show (0:Int)<12 by omega);have k1:=zc4 e.data hd;have k2:=zc4 e.old ho;have hfb:fb (e.kind % 12)=D:=ztN (by omega)
 have w1:∀ (n m:Int),0<m→m≤7→1≤y.wrap n % m+1∧y.wrap n % m+1≤m:=fun n m h h'=>by
  have h1:=zt7 (y.wrap n) (show m≠0 by omega);have h2:=zua (y.wrap n) h;omega
 have wn:=w1 e.node 7 (by omega) (by omega);have wl:=w1 e.level 2 (by omega) (by omega);have nt:1≤e.term % 1000+1:=by have:=zt7 e.term (show (1000:Int)≠0 by omega);omega
 have ni:1≤e.index % 1000+1:=by have:=zt7 e.index (show (1000:Int)≠0 by omega);omega
 have c1:=zt7 e.client (show (5:Int)≠0 by omega);have c2:=zua e.client (show (0:Int)<5 by omega);have q1:=zt7 e.seq (show (9:Int)≠0 by omega);have q2:=zua e.seq (show (0:Int)<9 by omega);have b1:=zt7 e.block (show (9:Int)≠0 by omega);have b2:=zua e.block (show (0:Int)<9 by omega);have m1:=zt7 e.many (show (9:Int)≠0 by omega);have m2:=zua e.many (show (0:Int)<9 by omega);unfold zas asks;rw [List.all_eq_true];intro x hx;simp only [ztT,List.not_mem_nil,or_false] at hx;rcases hx with rfl|rfl|rfl|rfl|rfl|rfl|rfl|rfl|rfl|rfl|rfl
 ·exact hfb
 ·exact ztN nt
 ·exact ztN ni
 ·exact zjh (L:=fl (e.kind % 12)) (c:=99) (n:=e.client % 5+1) (by omega) (by omega)
 ·exact zjh (L:=fl (e.kind % 12)) (c:=99) (n:=e.seq % 9) (by omega) (by omega)
 ·exact zjh (L:=fl (e.kind % 12)) (c:=98) (n:=e.block % 9) (by omega) (by omega)
 ·exact zjh (L:=fl (e.kind % 12)) (c:=109) (n:=e.many % 9) (by omega) (by omega)
 ·exact zlr (L:=fl (e.kind % 12)) (c:=110) (n:=y.wrap e.node % 7+1) (by omega) (by omega) wn.1 wn.2
 ·exact zlr (L:=fl (e.kind % 12)) (c:=108) (n:=y.wrap e.level % 2+1) (by omega) (by omega) wl.1 wl.2
 ·exact zls (L:=fl (e.kind % 12)) (c:=100) (x:=zfX e.data) k1
 ·exact zls (L:=fl (e.kind % 12)) (c:=111) (x:=zfX e.old) k2
theorem zhl {p:Prop} [Decidable p] (h:0≤a∧a≤9):0≤(if p then a else 0)∧(if p then a else 0)≤9:=by
 split
 ·exact h
 ·omega
theorem zji (e:En) (ok:e.Ok):(mk e).Ok∧zas (mk e)=D∧(mk e).data.size≤64∧(mk e).old.size≤64∧0≤(mk e).node∧(mk e).node≤9:=by
 have r0:=zt7 e.kind (show (12:Int)≠0 by omega);have r1:=zua e.kind (show (0:Int)<12 by omega);have k1:=zc4 e.data ok.d1;have k2:=zc4 e.old ok.o1;have w1:∀ (n m:Int),0<m→0≤y.wrap n % m∧y.wrap n % m<m:=fun n m h=>⟨zt7 _ (by omega),zua _ h⟩;have wn:=w1 e.node 7 (by omega);have wl:=w1 e.level 2 (by omega);have g1:=zt7 e.term (show (1000:Int)≠0 by omega);have g2:=zua e.term (show (0:Int)<1000 by omega);have g3:=zt7 e.index (show (1000:Int)≠0 by omega);have g4:=zua e.index (show (0:Int)<1000 by omega);have c1:=zt7 e.client (show (5:Int)≠0 by omega);have c2:=zua e.client (show (0:Int)<5 by omega);have q1:=zt7 e.seq (show (9:Int)≠0 by omega);have q2:=zua e.seq (show (0:Int)<9 by omega);have b1:=zt7 e.block (show (9:Int)≠0 by omega);have b2:=zua e.block (show (0:Int)<9 by omega);have m1:=zt7 e.many (show (9:Int)≠0 by omega);have m2:=zua e.many (show (0:Int)<9 by omega);have hdat:(mk e).data.size≤64:=by show ((if _ then zfX e.data else ⟨#[]⟩:ByteArray)).size≤64;split;exact k1;decide
 have hold:(mk e).old.size≤64:=by show ((if _ then zfX e.old else ⟨#[]⟩:ByteArray)).size≤64;split;exact k2;decide
 have hn2:0≤y.wrap e.node % 7+1∧y.wrap e.node % 7+1≤9:=by omega
 have hl2:0≤y.wrap e.level % 2+1∧y.wrap e.level % 2+1≤9:=by omega
 have hn:0≤(mk e).node∧(mk e).node≤9:=zhl hn2;have hl:0≤(mk e).level∧(mk e).level≤9:=zhl hl2;refine ⟨?_,zn2 e ok.d1 ok.o1,hdat,hold,hn.1,hn.2⟩;constructor
 all_goals first
  | exact Int.le_trans (by omega) hn.1
  | exact Int.le_trans hn.2 (by omega)
  | exact Int.le_trans (by omega) hl.1
  | exact Int.le_trans hl.2 (by omega)
  | exact ztL hdat (by omega)
  | exact ztL hold (by omega)
  | (unfold mk part;dsimp only;omega)
  | (unfold mk part;dsimp only;split<;>omega)
structure zdr (B:Nat) (A:Option Addr) (n:Nat) (L:List (En×Bool)) (w:K):Prop where
 len:L.length=n
 at_:∀ i p,L[i]?=C p→∃ a,A=C a∧a.block<B∧∀ j,j<12→w.cell? ((a.add (i*12)).add j)=(mdc p.1 p.2)[j]?
theorem zdr.below {n:Nat} {L:List (En×Bool)} (h:zdr B A n L w) (hb:N B w w1):zdr B A n L w1 :=
 ⟨h.len,fun i e he=>by
  obtain ⟨a,hA,hB,hc⟩:=h.at_ i e he;exact ⟨a,hA,hB,fun j hj=>(hb.cell (by rw [za8,za8];exact hB)).trans (hc j hj)⟩⟩
def flat (es:List En):List S:=es.flatMap fun e=>(ec e).toList
theorem zdH (es:List En) (e:En):flat (es++[e])=flat es++(ec e).toList:=by
 unfold flat;rw [List.flatMap_append]
 simp
theorem za4 (es:List En):(flat es).length=es.length*11:=by
 induction es with
 | nil=>rfl
 | cons e es ih =>
   show ((ec e).toList++flat es).length=_;rw [zt4,ih];show 11+es.length*11=(es.length+1)*11;omega
theorem zdI (es:List En) (i:Nat) (e:En) (h:es[i]?=C e) (j:Nat) (hj:j<11):(flat es)[i*11+j]?=(ec e)[j]?:=by
 induction es generalizing i with
 | nil=>cases h
 | cons a es ih =>
   have e1:flat (a :: es)=(ec a).toList++flat es:=rfl;rw [e1]
   cases i with
   | zero =>
     have:a=e:=Option.some.inj h
     subst this;rw [zuR (by show 0*11+j<11;omega),Nat.zero_mul,zub];rw [zuv]
   | succ i =>
     have hl:(ec a).toList.length=11:=rfl;rw [List.getElem?_append_right (by rw [hl];omega),hl,show (i+1)*11+j-11=i*11+j by omega];exact ih i h
theorem zcy {w':K} {e s n:Nat} {v:S} {xs:List S} (h:w.ownsRow B e s v n xs) (he:∀ k,v.ownBlock=C k→w'.heap[k]?=w.heap[k]?):w'.ownsRow B e s v n xs:=by
 obtain ⟨hl,h⟩:=h;refine ⟨hl,?_⟩;rcases h with h|⟨gb,c,cur,rfl,hb,hh,r⟩
 ·exact .inl h
 ·exact .inr ⟨gb,c,cur,rfl,hb,(he gb (by simp [Value.ownBlock])).trans hh,r⟩
theorem ziA {n c:Nat} {es:List En} (h:w.ownsRow B 69 11 (.slice A n c) n (flat es)) (hl:es.length=n):zcx w.heap.size A n es w:=by
 refine ⟨hl,fun i e he=>?_⟩
 have hi:i<n:=by
  rw [←hl];exact (List.getElem?_eq_some_iff.1 he).1
 obtain ⟨g,cap,hv,hb,hg⟩:=h.form (by omega)
 have hA:A=C ⟨g,0,z⟩∧c=cap:=by
  simp at hv;exact hv
 obtain ⟨rfl,rfl⟩:=hA;refine ⟨_,rfl,hg,fun j hj=>?_⟩;have h1:=h.cellAt (i*11+j) (by omega);rw [zdI es i e he j hj] at h1;rw [←h1,Addr.add_mid,Addr.add_mid,zub]
abbrev wz (w:K) (g:Nat) (E:En):K:=(((((((((((w.setCell ⟨g,0,z⟩ (d y E.term)).setCell ⟨g,1,z⟩ (d y E.index)).setCell ⟨g,2,z⟩ (d F E.kind)).setCell ⟨g,3,z⟩ (d y E.client)).setCell ⟨g,4,z⟩ (d y E.seq)).setCell ⟨g,5,z⟩ (d y E.block)).setCell ⟨g,6,z⟩ (d y E.many)).setCell ⟨g,7,z⟩ (d F E.node)).setCell ⟨g,8,z⟩ (d F E.level)).setCell ⟨g,9,z⟩ (I E.data)).setCell ⟨g,10,z⟩ (I E.old))
theorem zkp (E Z:En):((((((((((((ec Z).setIfInBounds 0 (d y E.term)).setIfInBounds 1 (d y E.index)).setIfInBounds 2 (d F E.kind)).setIfInBounds 3 (d y E.client)).setIfInBounds 4 (d y E.seq)).setIfInBounds 5 (d y E.block)).setIfInBounds 6 (d y E.many)).setIfInBounds 7 (d F E.node)).setIfInBounds 8 (d F E.level)).setIfInBounds 9 (I E.data)).setIfInBounds 10 (I E.old))=ec E:=by simp
theorem zbP {Z:En} (E:En) (h:wr.heap[g]?=C (G (ec Z) 69 (0,0))):(wz wr g E).heap[g]?=C (G (ec E) 69 (0,0)):=by
 rw [←zkp E Z];exact zat (zat (zat (zat (zat (zat (zat (zat (zat (zat (zat h 0 _) 1 _) 2 _) 3 _) 4 _) 5 _) 6 _) 7 _) 8 _) 9 _) 10 _
end Go.Proofs.YtidndekacnmihaaGreat
