/- Parts of a proof. -/
import Derived.Test.YtidndekacnmihaaGreatC04
import Derived.Test.YtidndekacnmihaaGreatC13
set_option linter.all false
set_option maxHeartbeats 8000000
set_option maxRecDepth 100000
namespace Go.Proofs.YtidndekacnmihaaGreat
open Bool renaming true→O,false→Z
open Ending renaming returned→Y
open Go renaming World→H,Calls→V
open Go.RowKit renaming Below→E
open Go.RowKit.Below renaming refl→qc
open IntKind renaming i64→C,u64→J
open Obj renaming cells→I
open Option renaming some→f,none→A
open Tryz renaming prog→U
open Value renaming int→y,string→G
open Tryz
namespace Ar
open Go.RowKit Vi
structure Sn where
 ix:Nat
 tm:Nat
 da:ByteArray
structure Sn.Ok (s:Sn):Prop where
 i:s.ix<18446744073709551616
 t:s.tm<18446744073709551616
 d:s.da.size≤140737488355328
abbrev Sn.v (s:Sn):Value:=.agg #[y J s.ix,y J s.tm,G s.da]
abbrev Sn.c (s:Sn):Array Value:=#[y J s.ix,y J s.tm,G s.da]
def snB (v:Int) (s:Sn):ByteArray:=if v=1 then fxB s.ix 8++fxB s.tm 8++s.da else zaE s.ix++zaE s.tm++s.da
def snO (v:Int) (s:Sn):Bool:=(decide (v=1)||decide (v=2))&&decide (s.da.size≤16384)
def snS (v:Int) (s:Sn):ByteArray:=if snO v s then pack v (snB v s) else ⟨#[]⟩
theorem zek (n:Nat) (h:n<18446744073709551616):(zaE n).size≤10:=by
 unfold zaE;rw [zb2];exact zaJ n 9 (by omega)
theorem zdZ (v:Int) (s:Sn) (h:s.Ok):(snB v s).size≤s.da.size+20:=by
 have h1:=zek _ h.i;have h2:=zek _ h.t;have h3:(fxB s.ix 8).size=8:=zac s.ix 8 (by omega);have h4:(fxB s.tm 8).size=8:=zac s.tm 8 (by omega);unfold snB
 split<;>simp only [ztS]<;>omega
theorem zdx {v:Int} {s:Sn}:snO v s=O↔(v=1∨v=2)∧s.da.size≤16384:=by
 unfold snO
 simp
theorem zsB {v:Int} {s:Sn} (ok:s.Ok) (h:snO v s=O):pkO v (snB v s)=O:=by
 obtain ⟨h1,h2⟩:=zdx.1 h;have h3:=zdZ v s ok;unfold pkO;simp only [ztZ,zuD,decide_eq_true_eq];exact ⟨h1,by omega⟩
theorem zjK (v:Int) (s:Sn) (ok:s.Ok):(snS v s).size≤16420:=by
 unfold snS
 split
 ·rename_i h
  obtain ⟨h1,h2⟩:=zdx.1 h;have h3:=zdZ v s ok;unfold pack;have h4:=zeI v (snB v s).size (by omega);rw [ztS,ztS,zbh];omega
 ·exact ztO _
def bI (v:Int) (b:ByteArray):Nat:=if v=1 then za1 b 8 else zb3 b
def bT (v:Int) (b:ByteArray):ByteArray:=if v=1 then zan b 8 else za2 b
def bF (v:Int) (b:ByteArray):Bool:=if v=1 then za3 b 8 else zcd b
def bOk (v:Int) (b:ByteArray):Bool:=bF v b&&bF v (bT v b)
def bDa (v:Int) (b:ByteArray):ByteArray:=bT v (bT v b)
def gtO (s:ByteArray):Bool:=nOk s&&(bOk (nV s) (nBd s)&&decide ((bDa (nV s) (nBd s)).size≤16384))
def gtS (s:ByteArray):Sn:=if gtO s then ⟨bI (nV s) (nBd s),bI (nV s) (bT (nV s) (nBd s)),bDa (nV s) (nBd s)⟩ else ⟨0,0,⟨#[]⟩⟩
def gtV (s:ByteArray):Int:=if gtO s then nV s else 0
theorem ztB (a b c:ByteArray):a++b++c=a++(b++c):=zaK a b c
theorem zqh (v:Int) (n:Nat) (hn:n<18446744073709551616) (t:ByteArray) :
 bI v ((if v=1 then fxB n 8 else zaE n)++t)=n∧bT v ((if v=1 then fxB n 8 else zaE n)++t)=t∧bF v ((if v=1 then fxB n 8 else zaE n)++t)=O:=by
 unfold bI bT bF
 by_cases h:v=1
 ·simp only [if_pos h];obtain ⟨h1,h2,h3⟩:=zcb n 8 (by omega) t;exact ⟨h1.trans (zuj hn),h2,h3⟩
 ·simp only [if_neg h];exact ziB n hn t
theorem zsC (v:Int) (s:Sn):snB v s=(if v=1 then fxB s.ix 8 else zaE s.ix)++((if v=1 then fxB s.tm 8 else zaE s.tm)++s.da):=by
 unfold snB
 split<;>exact ztB _ _ _
theorem zsD {v:Int} {s:Sn} (ok:s.Ok) (h:snO v s=O) (t:ByteArray):gtO (snS v s++t)=O∧gtS (snS v s++t)=s∧gtV (snS v s++t)=v:=by
 have hp:=zsB ok h;obtain ⟨h1,h2⟩:=zdx.1 h;have e:snS v s=pack v (snB v s):=by unfold snS;rw [if_pos h]
 obtain ⟨k1,k2,k3,k4⟩:=zjj hp t;rw [e];obtain ⟨X,hX⟩:∃ X,X=pack v (snB v s)++t:=⟨_,rfl⟩;rw [←hX] at k1 k2 k3 ⊢;obtain ⟨a1,a2,a3⟩:=zqh v s.ix ok.i ((if v=1 then fxB s.tm 8 else zaE s.tm)++s.da);obtain ⟨b1,b2,b3⟩:=zqh v s.tm ok.t s.da;rw [←zsC] at a1 a2 a3;have o1:bOk v (snB v s)=O:=by unfold bOk;rw [a3,a2,b3];rfl
 have o2:bDa v (snB v s)=s.da:=by unfold bDa;rw [a2,b2]
 have o3:gtO X=O:=by unfold gtO;rw [k1,k2,k3,o1,o2,ztN h2];rfl
 refine ⟨o3,?_,?_⟩
 ·unfold gtS;rw [if_pos o3,k2,k3,o2,a1,a2,b1]
 ·unfold gtV;rw [if_pos o3,k2]
theorem zmy {s:ByteArray} (h:gtO s=Z):gtS s=⟨0,0,⟨#[]⟩⟩∧gtV s=0:=by
 unfold gtS gtV;rw [h];exact ⟨rfl,rfl⟩
theorem zqi {s:ByteArray} (h:gtO s=O):gtS s=⟨bI (nV s) (nBd s),bI (nV s) (bT (nV s) (nBd s)),bDa (nV s) (nBd s)⟩∧gtV s=nV s:=by
 unfold gtS gtV;rw [if_pos h,if_pos h];exact ⟨rfl,rfl⟩
open Dk
theorem zmz (w:H) :
 V U 206 #[] w fun r w'=>r=Y (.map (f w.heap.size))∧w'.heap[w.heap.size]?=f (.map (two (fv 248) (fv 211)) 2)∧E w.heap.size w w':=by
 have hmm:=@run_makeMap U;obtain ⟨w1,e1,h1,b1,_,_⟩:=zaM (T:=272) 1 (fv 248) underlying272 (ztJ w (.map #[] 0)) rfl zba (ztI _);obtain ⟨w2,e2,h2,b2,_,_⟩:=zaM (T:=272) 2 (fv 211) underlying272 h1 rfl b1 (ztI _);have H2:Hid (w2.heap[w.heap.size]?=f (.map (two (fv 248) (fv 211)) 2)):=h2;have B2:=zh b2;clear h1 h2 b1 b2;go_enter func206,ntmps206;go_wp2;go_ret;exact ⟨rfl,H2.out,B2.out⟩
theorem zjL (n:Nat) (w:H):V U 248 #[y J n] w fun e w'=>e=Y (G (fxB n 8))∧E w.heap.size w w':=by
 go_enter func248,ntmps248
 go_wp2_with fail
 refine (zbm n 8 _).mono ?_;rintro e w1 ⟨rfl,b1⟩;go_wp2;go_ret;exact ⟨rfl,b1⟩
theorem zae {w:H} {b T:Nat} {s:Sn} (h:w.heap[b]?=f (I s.c T (0,0))):w.cell? ⟨b,0,A⟩=f (y J s.ix)∧w.cell? ⟨b,1,A⟩=f (y J s.tm)∧w.cell? ⟨b,2,A⟩=f (G s.da) :=
 ⟨zcr _ _ 0 _ T (0,0) h,zcr _ _ 1 _ T (0,0) h,zcr _ _ 2 _ T (0,0) h⟩
theorem zrl {v:Int} {s:Sn} (h:snO v s=Z):snS v s=⟨#[]⟩:=by unfold snS;rw [h];rfl
theorem zo2 (v:Int) (s:Sn) (w:H) (ok:s.Ok) :
 V U 157 #[y C v,s.v] w fun e w'=>e=Y (.tuple #[G (snS v s),.bool (snO v s)])∧E w.heap.size w w':=by
 obtain ⟨W,hW⟩:∃ W,W=w.alloc (I s.c 43):=⟨_,rfl⟩;have hB:E w.heap.size w W:=by rw [hW];exact (qc _ w).alloc (ztI _) _
 have hc:W.heap[w.heap.size]?=f (I s.c 43 (0,0)):=by rw [hW];exact ztJ w _
 have KP:=zh (zmz W);have HB:=zh hB;have HC:=zh hc;have HW:=zh hW;have hi:=ok.i;have ht:=ok.t;have hbz:=zdZ v s ok
 by_cases hv:v=1∨v=2
 ·by_cases hd:s.da.size≤16384
  ·have hO:snO v s=O:=zdx.2 ⟨hv,hd⟩;have hS:snS v s=pack v (snB v s):=by unfold snS;rw [if_pos hO]
   have KK:=zh (fun (W:H)=>zfc v (snB v s) W hv (by omega));have HBE:Hid (snB v s=(if v=1 then fxB s.ix 8++fxB s.tm 8++s.da else zaE s.ix++zaE s.tm++s.da)):=rfl;rw [hO,hS];generalize pack v (snB v s)=Q at *;generalize snB v s=X at *;have K1:=zh (fun (W:H)=>zjL s.ix W);have K2:=zh (fun (W:H)=>zjL s.tm W);have K3:=zh (fun (W:H)=>zcX s.ix W hi);have K4:=zh (fun (W:H)=>zcX s.tm W ht);have z1:(fxB s.ix 8).size=8:=zac s.ix 8 (by omega);have z2:(fxB s.tm 8).size=8:=zac s.tm 8 (by omega);have z3:=zek s.ix hi;have z4:=zek s.tm ht;have KC:Hid (∀ W',E W.heap.size W W'→W'.cell? ⟨w.heap.size,0,A⟩=f (y J s.ix)∧W'.cell? ⟨w.heap.size,1,A⟩=f (y J s.tm)∧W'.cell? ⟨w.heap.size,2,A⟩=f (G s.da)):=fun W' hb=>zae ((hb.block _ (zgx HC.out)).trans HC.out);obtain ⟨c0,c1,c2⟩:=KC.out W (qc _ _);have hdn:¬ (16384:Int)<s.da.size:=by omega
   generalize fxB s.ix 8=A1 at *;generalize fxB s.tm 8=A2 at *;generalize zaE s.ix=B1 at *;generalize zaE s.tm=B2 at *;unfold Sn.c at HW;obtain ⟨ix,tm,D⟩:=s;dsimp only at *;clear hc hB hW hO hS hbz hi ht ok;rcases hv with rfl|rfl
   ·have hX:X=A1++A2++D:=HBE.out;subst hX;have hs1:¬ 9223372036854775807<A1.size+A2.size:=by omega
    have hs2:¬ 9223372036854775807<A1.size+A2.size+D.size:=by omega
    clear HBE z1 z2 z3 z4;go_enter func157,ntmps157
    go_upto_region 1 with fail
    refine zaf (w:=W) HW.out.symm ?_
    go_upto_region 2 with (go_at_call 206;(with_reducible refine KP.out.mono ?_);rintro q w1 ⟨rfl,m1,b1⟩;have hl:=zaD (T:=272) 1 (fv 248) underlying272 m1 (zed _ _);have HB1:=zh b1;clear m1 b1)
    obtain ⟨d0,d1,d2⟩:=KC.out _ HB1.out;clear c0 c1 c2 hl
    go_upto_region 4 with fail
    have PB:=HB1.out.drew;obtain ⟨d0,d1,d2⟩:=KC.out _ PB
    go_region_held3 (fun w'=>w'.cell? ⟨w.heap.size,0,A⟩=f (y J ix)∧w'.cell? ⟨w.heap.size,1,A⟩=f (y J tm)∧w'.cell? ⟨w.heap.size,2,A⟩=f (G D)) (first|exact ⟨d0,d1,d2⟩|exact KC.out _ (by assumption)) (first
     | (go_at_call 248;(with_reducible refine (K1.out _).mono ?_);rintro q w2 ⟨rfl,b2⟩;have Q2:E W.heap.size W w2:=PB.trans (b2.mono PB.size))
     | (go_at_call 248;(with_reducible refine (K2.out _).mono ?_);rintro q w3 ⟨rfl,b3⟩;have Q3:E W.heap.size W w3:=Q2.trans (b3.mono Q2.size))
     | (go_at_call 207;(with_reducible refine (KK.out _).mono ?_);rintro q w4 ⟨rfl,b4⟩;have Q4:E W.heap.size W w4:=Q3.trans (b4.mono Q3.size)))
    all_goals
     go_wp2;go_ret2;exact ⟨rfl,HB.out.trans (Q4.mono HB.out.size)⟩
   ·have hX:X=B1++B2++D:=HBE.out;subst hX;have hs1:¬ 9223372036854775807<B1.size+B2.size:=by omega
    have hs2:¬ 9223372036854775807<B1.size+B2.size+D.size:=by omega
    clear HBE z1 z2 z3 z4;go_enter func157,ntmps157
    go_upto_region 1 with fail
    refine zaf (w:=W) HW.out.symm ?_
    go_upto_region 2 with (go_at_call 206;(with_reducible refine KP.out.mono ?_);rintro q w1 ⟨rfl,m1,b1⟩;have hl:=zaD (T:=272) 2 (fv 211) underlying272 m1 (zee _ _);have HB1:=zh b1;clear m1 b1)
    obtain ⟨d0,d1,d2⟩:=KC.out _ HB1.out;clear c0 c1 c2 hl
    go_upto_region 4 with fail
    have PB:=HB1.out.drew;obtain ⟨d0,d1,d2⟩:=KC.out _ PB
    go_region_held3 (fun w'=>w'.cell? ⟨w.heap.size,0,A⟩=f (y J ix)∧w'.cell? ⟨w.heap.size,1,A⟩=f (y J tm)∧w'.cell? ⟨w.heap.size,2,A⟩=f (G D)) (first|exact ⟨d0,d1,d2⟩|exact KC.out _ (by assumption)) (first
     | (go_at_call 211;(with_reducible refine (K3.out _).mono ?_);rintro q w2 ⟨rfl,b2⟩;have Q2:E W.heap.size W w2:=PB.trans (b2.mono PB.size))
     | (go_at_call 211;(with_reducible refine (K4.out _).mono ?_);rintro q w3 ⟨rfl,b3⟩;have Q3:E W.heap.size W w3:=Q2.trans (b3.mono Q2.size))
     | (go_at_call 207;(with_reducible refine (KK.out _).mono ?_);rintro q w4 ⟨rfl,b4⟩;have Q4:E W.heap.size W w4:=Q3.trans (b4.mono Q3.size)))
    all_goals
     go_wp2;go_ret2;exact ⟨rfl,HB.out.trans (Q4.mono HB.out.size)⟩
  ·have hO:snO v s=Z:=by
    cases h:snO v s with
    | false=>rfl
    | true=>exact absurd (zdx.1 h).2 hd
   rw [zrl hO,hO];have KC:Hid (∀ W',E W.heap.size W W'→W'.cell? ⟨w.heap.size,0,A⟩=f (y J s.ix)∧W'.cell? ⟨w.heap.size,1,A⟩=f (y J s.tm)∧W'.cell? ⟨w.heap.size,2,A⟩=f (G s.da)):=fun W' hb=>zae ((hb.block _ (zgx HC.out)).trans HC.out);have hdn:(16384:Int)<s.da.size:=by omega
   unfold Sn.c at HW;obtain ⟨ix,tm,D⟩:=s;dsimp only at *;clear hc hB hW hO hbz hi ht ok hd;rcases hv with rfl|rfl
   ·go_enter func157,ntmps157
    go_upto_region 1 with fail
    refine zaf (w:=W) HW.out.symm ?_
    go_upto_region 2 with (go_at_call 206;(with_reducible refine KP.out.mono ?_);rintro q w1 ⟨rfl,m1,b1⟩;have hl:=zaD (T:=272) 1 (fv 248) underlying272 m1 (zed _ _);have HB1:=zh b1;clear m1 b1)
    obtain ⟨d0,d1,d2⟩:=KC.out _ HB1.out;clear hl;go_wp2;go_ret2;exact ⟨rfl,HB.out.trans (HB1.out.mono HB.out.size)⟩
   ·go_enter func157,ntmps157
    go_upto_region 1 with fail
    refine zaf (w:=W) HW.out.symm ?_
    go_upto_region 2 with (go_at_call 206;(with_reducible refine KP.out.mono ?_);rintro q w1 ⟨rfl,m1,b1⟩;have hl:=zaD (T:=272) 2 (fv 211) underlying272 m1 (zee _ _);have HB1:=zh b1;clear m1 b1)
    obtain ⟨d0,d1,d2⟩:=KC.out _ HB1.out;clear hl;go_wp2;go_ret2;exact ⟨rfl,HB.out.trans (HB1.out.mono HB.out.size)⟩
 ·have hO:snO v s=Z:=by
   cases h:snO v s with
   | false=>rfl
   | true=>exact absurd (zdx.1 h).1 hv
  rw [zrl hO,hO];have h1:v≠1:=fun h=>hv (.inl h);have h2:v≠2:=fun h=>hv (.inr h);have KL:=zh (fun (g:Nat) (a b:Value) (W:H) (m:W.heap[g]?=f (.map (two a b) 2))=>zce (T:=272) v underlying272 zeroValue236 m (zkq a b v h1 h2));unfold Sn.c at HW;obtain ⟨ix,tm,D⟩:=s;dsimp only at *;clear hc hB hW hO hbz hi ht ok hv h1 h2;go_enter func157,ntmps157
  go_upto_region 1 with fail
  refine zaf (w:=W) HW.out.symm ?_
  go_upto_region 2 with (go_at_call 206;(with_reducible refine KP.out.mono ?_);rintro q w1 ⟨rfl,m1,b1⟩;have hl:=KL.out _ _ _ _ m1;have HB1:=zh b1;clear m1 b1)
  clear hl;go_wp2;go_ret2;exact ⟨rfl,HB.out.trans (HB1.out.mono HB.out.size)⟩
theorem zo3 (b:ByteArray) (m:Int) (w:H) (hb:b.size≤1099511627776):V U 159 #[G b,y C m] w fun e w'=>e=Y (.bool (decide ((((b.size+63) / 64:Nat):Int)≤m)))∧w=w':=by
 have e1:(((b.size+63) / 64:Nat):Int)=((b.size:Int)+64-1) / 64:=by omega
 have q1:wrap64 ((b.size:Int)+64)=(b.size:Int)+64:=by unfold wrap64;omega
 have q2:wrap64 ((b.size:Int)+64-1)=(b.size:Int)+64-1:=by unfold wrap64;omega
 have q3:wrap64 (((b.size:Int)+64-1).tdiv 64)=((b.size:Int)+64-1) / 64:=by
  rw [Int.tdiv_eq_ediv_of_nonneg (by omega)];unfold wrap64;omega
 rw [e1];clear e1;go_enter func159,ntmps159;go_wp2;go_ret;exact ⟨rfl,rfl⟩
theorem zsF {v:Int} {s:Sn} (ok:s.Ok) (hd:s.da.size≤16384):snO v s=pkO v (snB v s)∧snS v s=pkS v (snB v s):=by
 have hz:=zdZ v s ok
 have h:snO v s=pkO v (snB v s):=by
  unfold snO pkO;rw [ztN hd,ztN (show (snB v s).size≤1048576 by omega)]
 refine ⟨h,?_⟩;unfold snS pkS;rw [←h]
theorem zs2 {a b:Int} (h:a≠b):(a==b)=Z:=by simpa using h
theorem zmD (v:Int) (s:Sn) (w:H) (ok:s.Ok) :
 V U 112 #[y C v,s.v] w fun e w'=>e=Y (.tuple #[G (snS v s),.bool (snO v s)])∧E w.heap.size w w':=by
 obtain ⟨W,hW⟩:∃ W,W=w.alloc (I s.c 104):=⟨_,rfl⟩;have hB:E w.heap.size w W:=by rw [hW];exact (qc _ w).alloc (ztI _) _
 have hc:W.heap[w.heap.size]?=f (I s.c 104 (0,0)):=by rw [hW];exact ztJ w _
 have HB:=zh hB;have HC:=zh hc;have HW:=zh hW;have hi:=ok.i;have ht:=ok.t;have hbz:=zdZ v s ok;have KC:Hid (∀ W',E W.heap.size W W'→W'.cell? ⟨w.heap.size,0,A⟩=f (y J s.ix)∧W'.cell? ⟨w.heap.size,1,A⟩=f (y J s.tm)∧W'.cell? ⟨w.heap.size,2,A⟩=f (G s.da)):=fun W' hb=>zae ((hb.block _ (zgx HC.out)).trans HC.out)
 by_cases hd:s.da.size≤16384
 ·obtain ⟨e1,e2⟩:=zsF (v:=v) ok hd;have KK:=zh (fun (W:H)=>zcR v (snB v s) W);have HBE:Hid (snB v s=(if v=1 then fxB s.ix 8++fxB s.tm 8++s.da else zaE s.ix++zaE s.tm++s.da)):=rfl;rw [e1,e2];generalize pkS v (snB v s)=Q at *;generalize pkO v (snB v s)=o at *;generalize snB v s=X at *;have K1:=zh (fun (W:H)=>zaO s.ix 8 W hi);have K2:=zh (fun (W:H)=>zaO s.tm 8 W ht);have K3:=zh (fun (W:H)=>zbH s.ix W hi);have K4:=zh (fun (W:H)=>zbH s.tm W ht);have z1:(fxB s.ix 8).size=8:=zac s.ix 8 (by omega);have z2:(fxB s.tm 8).size=8:=zac s.tm 8 (by omega);have z3:=zek s.ix hi;have z4:=zek s.tm ht;obtain ⟨c0,c1,c2⟩:=KC.out W (qc _ _);have hdn:¬ (16384:Int)<s.da.size:=by omega
  generalize fxB s.ix 8=A1 at *;generalize fxB s.tm 8=A2 at *;generalize zaE s.ix=B1 at *;generalize zaE s.tm=B2 at *;unfold Sn.c at HW;obtain ⟨ix,tm,D⟩:=s;dsimp only at *;have hs1:¬ 9223372036854775807<A1.size+A2.size:=by omega
  have hs2:¬ 9223372036854775807<A1.size+A2.size+D.size:=by omega
  have hs3:¬ 9223372036854775807<B1.size+B2.size:=by omega
  have hs4:¬ 9223372036854775807<B1.size+B2.size+D.size:=by omega
  have hB0:=(qc W.heap.size W);clear hc hB hW e1 e2 hbz hi ht ok z1 z2 z3 z4 hd
  by_cases hv:v=1
  ·subst hv;have hX:X=A1++A2++D:=HBE.out;subst hX;clear HBE;go_enter func112,ntmps112
   go_upto_region 1 with fail
   refine zaf (w:=W) HW.out.symm ?_
   go_upto_region 3 with fail
   have PB:=hB0.drew;obtain ⟨d0,d1,d2⟩:=KC.out _ PB
   go_region_held3 (fun w'=>w'.cell? ⟨w.heap.size,0,A⟩=f (y J ix)∧w'.cell? ⟨w.heap.size,1,A⟩=f (y J tm)∧w'.cell? ⟨w.heap.size,2,A⟩=f (G D)) (first|exact ⟨d0,d1,d2⟩|exact KC.out _ (by assumption)) (first
    | (go_at_call 171;(with_reducible refine (K3.out _).mono ?_);rintro q w2 ⟨rfl,b2⟩;have Q2:E W.heap.size W w2:=PB.trans (b2.mono PB.size))
    | (go_at_call 171;(with_reducible refine (K4.out _).mono ?_);rintro q w3 ⟨rfl,b3⟩;have Q3:E W.heap.size W w3:=Q2.trans (b3.mono Q2.size)))
   all_goals
    have P3:=Q3.drew;obtain ⟨f0,f1,f2⟩:=KC.out _ P3;clear c0 c1 c2 d0 d1 d2 b2 b3 Q2 PB
    go_upto_region 5 with fail
    go_region_held3 (fun w'=>w'.cell? ⟨w.heap.size,0,A⟩=f (y J ix)∧w'.cell? ⟨w.heap.size,1,A⟩=f (y J tm)∧w'.cell? ⟨w.heap.size,2,A⟩=f (G D)) (first|exact ⟨f0,f1,f2⟩|exact KC.out _ (by assumption)) (first
     | (go_at_call 172;(with_reducible refine (K1.out _).mono ?_);rintro q w4 ⟨rfl,b4⟩;have Q4:E W.heap.size W w4:=P3.trans (b4.mono P3.size))
     | (go_at_call 172;(with_reducible refine (K2.out _).mono ?_);rintro q w5 ⟨rfl,b5⟩;have Q5:E W.heap.size W w5:=Q4.trans (b5.mono Q4.size)))
    all_goals
     go_wp2_with (go_at_call 173;(with_reducible refine (KK.out _).mono ?_);rintro q w6 ⟨rfl,b6⟩;have Q6:E W.heap.size W w6:=Q5.trans (b6.mono Q5.size))
     go_ret2;exact ⟨rfl,HB.out.trans (Q6.mono HB.out.size)⟩
  ·have hX:X=B1++B2++D:=by rw [HBE.out,if_neg hv]
   subst hX;have hv1:(v==1)=Z:=zs2 hv;clear HBE hv;go_enter func112,ntmps112
   go_upto_region 1 with fail
   refine zaf (w:=W) HW.out.symm ?_
   go_upto_region 3 with fail
   have PB:=hB0.drew;obtain ⟨d0,d1,d2⟩:=KC.out _ PB
   go_region_held3 (fun w'=>w'.cell? ⟨w.heap.size,0,A⟩=f (y J ix)∧w'.cell? ⟨w.heap.size,1,A⟩=f (y J tm)∧w'.cell? ⟨w.heap.size,2,A⟩=f (G D)) (first|exact ⟨d0,d1,d2⟩|exact KC.out _ (by assumption)) (first
    | (go_at_call 171;(with_reducible refine (K3.out _).mono ?_);rintro q w2 ⟨rfl,b2⟩;have Q2:E W.heap.size W w2:=PB.trans (b2.mono PB.size))
    | (go_at_call 171;(with_reducible refine (K4.out _).mono ?_);rintro q w3 ⟨rfl,b3⟩;have Q3:E W.heap.size W w3:=Q2.trans (b3.mono Q2.size)))
   all_goals
    go_wp2_with (go_at_call 173;(with_reducible refine (KK.out _).mono ?_);rintro q w6 ⟨rfl,b6⟩;have Q6:E W.heap.size W w6:=Q3.trans (b6.mono Q3.size))
    go_ret2;exact ⟨rfl,HB.out.trans (Q6.mono HB.out.size)⟩
 ·have hO:snO v s=Z:=by
   cases h:snO v s with
   | false=>rfl
   | true=>exact absurd (zdx.1 h).2 hd
  rw [zrl hO,hO];obtain ⟨c0,c1,c2⟩:=KC.out W (qc _ _);have hdn:(16384:Int)<s.da.size:=by omega
  unfold Sn.c at HW;obtain ⟨ix,tm,D⟩:=s;dsimp only at *;clear hc hB hW hO hbz hi ht ok hd;go_enter func112,ntmps112
  go_upto_region 1 with fail
  refine zaf (w:=W) HW.out.symm ?_;go_wp2;go_ret2;exact ⟨rfl,HB.out⟩
def onA (n:Nat) (at_ m:Int):Bool:=decide (0≤at_)&&(decide (1≤m)&&decide (m≤(n:Int)-at_))
theorem zfu {n:Nat} {at_ m:Int}:onA n at_ m=O↔0≤at_∧1≤m∧m≤(n:Int)-at_:=by
 unfold onA
 simp
theorem zmv (g:Nat) (L:List Nat) (d:St) (at_ m:Int) (w:H) (h:Dv w g L d) (ha:at_≤9223372036854775807) :
 V U 158 #[ptr g,y C at_,y C m] w fun e w'=>e=Y (.bool (onA d.n at_ m))∧w=w':=by
 have n2:=h.1.n2;have KD:=zh (zdD g L d w h);have q1:0≤at_→wrap64 ((d.n:Int)-at_)=(d.n:Int)-at_:=fun h0=>by unfold wrap64;omega
 unfold onA;obtain ⟨n,hn⟩:∃ n,n=d.n:=⟨_,rfl⟩;rw [←hn] at KD q1 ⊢;clear hn n2 h;unfold ptr at *
 by_cases h0:0≤at_
 ·have q2:=q1 h0
  by_cases h1:1≤m
  ·clear q1;rw [ztN h0,ztN h1,zt8,zt8];go_enter func158,ntmps158
   go_wp2_with (go_at_call 39;(with_reducible refine KD.out.mono ?_);rintro q w1 ⟨rfl,rfl⟩)
   go_ret;exact ⟨rfl,rfl⟩
  ·clear q1;rw [ztN h0,ztM h1];have h1':m<1:=by omega
   go_enter func158,ntmps158
   go_wp2_with fail
   go_ret;exact ⟨rfl,rfl⟩
 ·clear q1;rw [ztM h0];have h0':at_<0:=by omega
  go_enter func158,ntmps158
  go_wp2_with fail
  go_ret;exact ⟨rfl,rfl⟩
theorem zaY (B gr:Nat) (L:List Nat) (d:St) (at_ m:Int) (w:H) (h:Rf w B gr L d) (ha:at_≤9223372036854775807) :
 V U 113 #[ptr gr,y C at_,y C m] w fun e w'=>e=Y (.bool (onA d.n at_ m))∧w=w':=by
 have n2:=h.1.n2;obtain ⟨g1,k1,g2,k2,g3,k3,rfl,hA⟩:=RAt.of_rf h;have q0:=hA.c 0;change w.cell? ⟨gr,0,A⟩=f (.slice (f ⟨g1,0,A⟩) d.n k1) at q0;have q1:0≤at_→wrap64 ((d.n:Int)-at_)=(d.n:Int)-at_:=fun h0=>by unfold wrap64;omega
 unfold onA;obtain ⟨n,hn⟩:∃ n,n=d.n:=⟨_,rfl⟩;rw [←hn] at q0 q1 ⊢;clear hn n2 h hA;unfold ptr at *
 by_cases h0:0≤at_
 ·have q2:=q1 h0
  by_cases h1:1≤m
  ·clear q1;rw [ztN h0,ztN h1,zt8,zt8]
   by_cases h2:at_<n
   ·go_enter func113,ntmps113;go_wp2;go_ret;exact ⟨rfl,rfl⟩
   ·have h3:¬ m≤(n:Int)-at_:=by omega
    have h2':(n:Int)≤at_:=by omega
    rw [ztM h3];go_enter func113,ntmps113;go_wp2;go_ret;exact ⟨rfl,rfl⟩
  ·clear q1;rw [ztN h0,ztM h1];have h1':m<1:=by omega
   go_enter func113,ntmps113
   go_wp2_with fail
   go_ret;exact ⟨rfl,rfl⟩
 ·clear q1;rw [ztM h0];have h0':at_<0:=by omega
  go_enter func113,ntmps113
  go_wp2_with fail
  go_ret;exact ⟨rfl,rfl⟩
theorem zh1 (F:Nat) (hF:F=162∨F=180) (a b c:Value) (til:Nat) (P:Nat→H→Prop) (R:Int→H→Prop) (w:H) (hto:til≤1099511627776) (h0:P 0 w)
 (hs:∀ k w1,k<til→P k w1→V U F #[y C k,a,b,c] w1 fun e w'=>∃ z:Int,e=Y (y C z)∧(z=0→P (k+1) w')∧(z≠0→R z w')) :
 V U 161 #[y C til,.func (.func F) #[] #[a,b,c]] w fun e w'=>∃ z:Int,e=Y (y C z)∧(z=0→P til w')∧(z≠0→R z w'):=by
 have HS:=zh hs;have H0:=zh h0;clear hs h0;rcases hF with rfl|rfl
 all_goals
  go_enter func161,ntmps161;go_wp2
  go_loopw [8] (fun i wr=>∃ k:Nat,i=y C k∧k≤til∧Hid (P k wr)) (fun i _=>til-(Go.RowKit.intOf i).toNat)
  case atStart=>exact ⟨0,rfl,ztO _,H0⟩
  case round =>
   obtain ⟨k,rfl,hk2,hP⟩:=hrel
   by_cases hlt:k<til
   ·have t1:decide ((k:Int)<(til:Int))=O:=ztN (by omega);have K:=zh (HS.out k wr hlt hP.out)
    go_upto_region 5 with fail
    refine K.out.mono ?_;rintro q w1 ⟨z,rfl,hz0,hz1⟩;clear K hP
    by_cases hz:z=0
    ·have Z0:Hid (P (k+1) w1):=hz0 hz;clear hz0 hz1;subst hz;go_wp2
     go_roundw
     case rel=>exact ⟨k+1,by go_num,by omega,Z0⟩
     case measure=>simp [Go.RowKit.intOf];omega
    ·have Z1:=zh (hz1 hz);clear hz0 hz1;have e1:(z==0)=Z:=zs2 hz;have e2:(z != 0)=O:=by unfold bne;rw [e1];rfl
     go_wp2;go_ret;exact ⟨z,rfl,fun h=>absurd h hz,fun _=>Z1.out⟩
   ·have hkt:k=til:=by omega
    subst hkt;have t1:decide ((k:Int)<(k:Int))=Z:=ztM (by omega);go_wp2;go_ret;exact ⟨0,rfl,fun _=>hP.out,fun h=>absurd rfl h⟩
theorem zo4 (g:Nat) (L:List Nat) (d:St) (b5 b6 b7 at_ k:Nat) (l:List UInt8) (w:H) (h:Dv w g L d) (h5:w.heap[b5]?=f (I #[ptr g] 24 (0,0))) (h6:w.heap[b6]?=f (I #[y C at_] 3 (0,0)))
 (h7:w.heap[b7]?=f (I #[G (txt l)] 9 (0,0))) (hk:k*64+64≤l.length) (hl:l.length≤1099511627776) (hf:at_≤1099511627776) :
 V U 162 #[y C k,ptr b5,ptr b6,ptr b7] w fun e w'=>e=Y (y C (d.write ((at_+k:Nat):Int) ((l.drop (k*64)).take 64)).2)∧zav g L (d.write ((at_+k:Nat):Int) ((l.drop (k*64)).take 64)).1 w w':=by
 have c5:w.drew.cell? ⟨b5,0,A⟩=f (ptr g):=zcr w.drew b5 0 _ 24 (0,0) h5;have c6:w.drew.cell? ⟨b6,0,A⟩=f (y C at_):=zcr w.drew b6 0 _ 3 (0,0) h6;have c7:w.drew.cell? ⟨b7,0,A⟩=f (G (txt l)):=zcr w.drew b7 0 _ 9 (0,0) h7;have hd:Dv w.drew g L d:=h.below (qc _ w).drew;have KW:=zh (zea g L d ((at_+k:Nat):Int) ((l.drop (k*64)).take 64) w.drew hd);rw [show ((at_+k:Nat):Int)=(at_:Int)+k by omega] at KW ⊢;obtain ⟨D,hD⟩:∃ D,D=d.write ((at_:Int)+k) ((l.drop (k*64)).take 64):=⟨_,rfl⟩;rw [←hD] at KW ⊢;have hx:=zlh l (k*64) (k*64+64) (by omega);obtain ⟨p,hp⟩:∃ p,p=(l.drop (k*64)).take 64:=⟨_,rfl⟩;rw [←hp] at KW hx;have hz:=zah l;obtain ⟨S,hS⟩:∃ S,S=txt l:=⟨_,rfl⟩;rw [←hS] at c7 hx hz;obtain ⟨n,hn⟩:∃ n,n=l.length:=⟨_,rfl⟩;rw [←hn] at hk hl hz;obtain ⟨m,hm⟩:∃ m,m=k*64+64:=⟨_,rfl⟩;rw [←hm] at hx;have hmI:(k:Int)*64+64=(m:Int):=by omega
 have hmn:m≤n:=by omega
 have hkm:k*64≤m:=by omega
 have q1:(m:Int)≤(n:Int):=by omega
 have q2:(k:Int)*64≤(m:Int):=by omega
 have q0:(0:Int)≤(k:Int)*64:=by omega
 have q3:((k:Int)*64).toNat=k*64:=by omega
 have w1:C.wrap (m:Int)=(m:Int):=IntWalk.i64_in _ (by omega);have w2:C.wrap ((at_:Int)+k)=(at_:Int)+k:=IntWalk.i64_in _ (by omega);clear hD hp hS hn hm h h5 h6 h7 hd;unfold ptr at *;go_enter func162,ntmps162
 go_upto_region 2 with fail
 go_region_law (go_simp;go_at_call 69;(with_reducible refine KW.out.mono ?_);rintro q w5 ⟨rfl,hM⟩)
 all_goals
  go_wp2;go_ret;obtain ⟨L',m1,m2,m3⟩:=hM;exact ⟨rfl,L',m1,(zaw.of_below (qc _ w).drew).trans m2,m3⟩
def lpad (b:ByteArray) (m:Nat):List UInt8:=b.data.toList++List.replicate (m*64-b.size) 0
theorem zo5 (b:ByteArray) (m:Nat) (h:b.size≤m*64):(lpad b m).length=m*64:=by
 unfold lpad;rw [zt4,zuu,zug];show b.size+_=_;omega
theorem zo6 (b:ByteArray) (m:Nat):b++zer (m*64-b.size)=txt (lpad b m):=by
 apply ByteArray.ext;apply Array.toList_inj.1;rw [zal];unfold lpad zer
 simp
def arW (d:St) (at_ m v:Int) (s:Sn):St×Int :=
 if snO v s&&onA d.n at_ m then (if ((((snS v s).size+63) / 64:Nat):Int)≤m then wrL at_.toNat (snS v s).data.toList m.toNat 0 d else (d,4)) else (d,1)
theorem zkI (g:Nat) (L:List Nat) (d:St) (b5 b6 b7 a M:Nat) (b:ByteArray) (w W:H) (hw:Dv w g L d) (hb:E w.heap.size w W) (h5:W.heap[b5]?=f (I #[ptr g] 24 (0,0))) (h6:W.heap[b6]?=f (I #[y C a] 3 (0,0)))
 (h7:W.heap[b7]?=f (I #[G (txt (lpad b M))] 9 (0,0))) (l5:w.heap.size≤b5) (l6:w.heap.size≤b6) (l7:w.heap.size≤b7) (hf:b.size≤M*64) (hM:M≤1048576) (ha:a≤1048576) :
 V U 161 #[y C M,.func (.func 162) #[] #[ptr b5,ptr b6,ptr b7]] W fun e w'=>e=Y (y C (wrL a b.data.toList M 0 d).2)∧zav g L (wrL a b.data.toList M 0 d).1 w w':=by
 obtain ⟨T,hT⟩:∃ T,T=wrL a b.data.toList M 0 d:=⟨_,rfl⟩;rw [←hT];have hLw:=hw.lt;have hD:=hw.below hb;have hkW:zaw L w W:=zaw.of_below hb;have hlen:=zo5 b M hf
 refine (zh1 162 (.inl rfl) (ptr b5) (ptr b6) (ptr b7) M
  (fun k w1=>∃ L' d',Dv w1 g L' d'∧zaw L W w1∧zaV W L L'∧wrL a b.data.toList (M-k) k d'=T) (fun z w1=>z=T.2∧zav g L T.1 w w1) W (by omega) ⟨L,d,hD,zaw.refl _ _,zaV.refl _ _,by rw [hT];rfl⟩ ?_).mono ?_
 ·rintro k w1 hk ⟨L1,d1,hD1,hK1,hF1,hw1⟩;have hblk:∀ j o,W.heap[j]?=f o→w.heap.size≤j→w1.heap[j]?=f o:=fun j o h1 h2=>(hK1.block j (zgx h1) fun hm=>by have:=hLw j hm;omega).trans h1
  have hst:wrL a b.data.toList (M-k) k d1=if (d1.write ((a+k:Nat):Int) ((b.data.toList.drop (k*64)).take 64)).2=0 then wrL a b.data.toList (M-(k+1)) (k+1) (d1.write ((a+k:Nat):Int) ((b.data.toList.drop (k*64)).take 64)).1 else d1.write ((a+k:Nat):Int) ((b.data.toList.drop (k*64)).take 64):=by
   rw [show M-k=(M-(k+1))+1 by omega];rfl
  rw [hw1] at hst
  have hpz:d1.write ((a+k:Nat):Int) (((lpad b M).drop (k*64)).take 64)=d1.write ((a+k:Nat):Int) ((b.data.toList.drop (k*64)).take 64) :=
   zhi d1 _ _ _ (by rw [zt5];omega) (by rw [zt5];omega) (ze2 _ _ _)
  have hc:=zo4 g L1 d1 b5 b6 b7 a k (lpad b M) w1 hD1 (hblk _ _ h5 l5) (hblk _ _ h6 l6) (hblk _ _ h7 l7) (by rw [hlen];omega) (by rw [hlen];omega) (by omega);rw [hpz] at hc;refine hc.mono ?_;rintro e w2 ⟨rfl,L2,hD2,hK2,hF2⟩;have hK3:zaw L W w2:=hK1.trans' hK2 hF1;have hF3:zaV W L L2:=hF1.trans hF2 hK1.size;refine ⟨_,rfl,fun hz=>?_,fun hz=>?_⟩
  ·rw [if_pos hz] at hst;exact ⟨L2,_,hD2,hK3,hF3,hst.symm⟩
  ·rw [if_neg hz] at hst;rw [hst];exact ⟨rfl,L2,hD2,hkW.trans hK3,fun k hk=>(hF3 k hk).elim .inl (fun h=>.inr (ztL hb.size h))⟩
 ·rintro e w1 ⟨z,rfl,hz0,hz1⟩
  by_cases hz:z=0
  ·obtain ⟨L1,d1,hD1,hK1,hF1,hw1⟩:=hz0 hz;rw [Nat.sub_self] at hw1;have hT2:T=(d1,0):=hw1.symm;rw [hT2];exact ⟨by rw [hz],L1,hD1,hkW.trans hK1,fun k hk=>(hF1 k hk).elim .inl (fun h=>.inr (ztL hb.size h))⟩
  ·obtain ⟨h1,h2⟩:=hz1 hz;exact ⟨by rw [h1],h2⟩
theorem zkJ (g:Nat) (L:List Nat) (d:St) (at_ m v:Int) (s:Sn) (w:H) (h:Dv w g L d) (ok:s.Ok) (ha:at_≤9223372036854775807) :
 V U 106 #[ptr g,y C at_,y C m,y C v,s.v] w fun e w'=>e=Y (y C (arW d at_ m v s).2)∧zav g L (arW d at_ m v s).1 w w':=by
 obtain ⟨W,hW⟩:∃ W,W=((w.alloc (I #[ptr g] 24)).alloc (I #[y C at_] 3)).alloc (I s.c 43):=⟨_,rfl⟩
 have hB:E w.heap.size w W:=by
  rw [hW];exact (((qc _ w).alloc (ztI _) _).alloc (by simp) _).alloc (by simp;omega) _
 have z5:W.heap[w.heap.size]?=f (I #[ptr g] 24 (0,0)):=by
  rw [hW,ztQ _ _ _ (by simp;omega),ztQ _ _ _ (by simp)];exact ztJ w _
 have z6:W.heap[w.heap.size+1]?=f (I #[y C at_] 3 (0,0)):=by
  rw [hW,ztQ _ _ _ (by simp)]
  have:=ztJ (w.alloc (I #[ptr g] 24)) (I #[y C at_] 3)
  rwa [ztR] at this
 have z9:W.heap[w.heap.size+2]?=f (I s.c 43 (0,0)):=by
  rw [hW]
  have:=ztJ ((w.alloc (I #[ptr g] 24)).alloc (I #[y C at_] 3)) (I s.c 43)
  rwa [ztR,ztR] at this
 have hsz:W.heap.size=w.heap.size+3:=by rw [hW];simp
 obtain ⟨c0,c1,c2⟩:=zae z9;have KP:=zh (zo2 v s W ok);have HB:=zh hB;have HW:=zh hW;have H5:=zh z5;have H6:=zh z6;have HSZ:=zh hsz;have HD:=zh (h.below hB);have HDw:=zh h;have hbz:=zjK v s ok;have KF:=zh (fun (W:H)=>zo3 (snS v s) m W (by omega));have KO:=zh (fun (W:H) (h:Dv W g L d)=>zmv g L d at_ m W h ha);have HN:Hid (d.n≤4096):=h.1.n2;have HA:Hid (arW d at_ m v s=if snO v s&&onA d.n at_ m then (if ((((snS v s).size+63) / 64:Nat):Int)≤m then wrL at_.toNat (snS v s).data.toList m.toNat 0 d else (d,4)) else (d,1)):=rfl;have HM0:Hid (∀ W',E w.heap.size w W'→zav g L d w W'):=fun W' hb=>⟨L,h.below hb,zaw.of_below hb,zaV.refl _ _⟩;obtain ⟨X,hX⟩:∃ X,X=arW d at_ m v s:=⟨_,rfl⟩;rw [←hX] at HA ⊢;obtain ⟨b,hb⟩:∃ b,b=snS v s:=⟨_,rfl⟩;rw [←hb] at KP KF HA hbz;obtain ⟨o,ho⟩:∃ o,o=snO v s:=⟨_,rfl⟩;rw [←ho] at KP HA;obtain ⟨on,hon⟩:∃ x,x=onA d.n at_ m:=⟨_,rfl⟩;have HON:Hid (on=O→0≤at_∧1≤m∧m≤(d.n:Int)-at_):=fun h=>zfu.1 (hon▸h);rw [←hon] at KO HA;have HBZ:=zh hbz;unfold Sn.c at HW;obtain ⟨ix,tm,D⟩:=s;dsimp only at *;clear hB hW z5 z6 z9 hsz hX hb ho hon h ok hbz;unfold ptr at *
 cases o with
 | false =>
   rw [zun] at HA;obtain rfl:X=(d,1):=HA.out;go_enter func106,ntmps106
   go_upto_region 1 with fail
   refine zaf (w:=W) HW.out.symm ?_
   go_wp2_with (go_at_call 157;(with_reducible refine KP.out.mono ?_);rintro q w1 ⟨rfl,b1⟩)
   go_ret;exact ⟨rfl,HM0.out _ ((HB.out.trans (b1.mono HB.out.size)).alloc (ztL HB.out.size b1.size) _)⟩
 | true =>
   rw [zt8] at HA;go_enter func106,ntmps106
   go_upto_region 1 with fail
   refine zaf (w:=W) HW.out.symm ?_;obtain ⟨bb,hbb⟩:∃ bb,bb=w.heap.size+3:=⟨_,rfl⟩
   go_upto_region 2 with (go_at_call 157;(with_reducible refine KP.out.mono ?_);rintro q w1 ⟨rfl,b1⟩)
   obtain ⟨B7,hB7⟩:∃ x,x=w1.heap.size:=⟨_,rfl⟩;obtain ⟨W2,hW2⟩:∃ x,x=w1.alloc (I #[G b] 9):=⟨_,rfl⟩;have b2:E W.heap.size W W2:=by rw [hW2];exact b1.alloc b1.size _
   have HB2:=zh (HB.out.trans (b2.mono HB.out.size));have HL7:Hid (w.heap.size+3≤B7):=by show _≤_;rw [hB7,←HSZ.out];exact b1.size
   have H7:Hid (W2.heap[B7]?=f (I #[G b] 9 (0,0))):=by show _=_;rw [hW2,hB7];exact ztJ w1 _
   have H52:=zh ((b2.block _ (zgx H5.out)).trans H5.out);have H62:=zh ((b2.block _ (zgx H6.out)).trans H6.out);have HD2:Hid (Dv W2 g L d):=HD.out.below b2;have HW2:=zh hW2;have HB7:=zh hB7;rw [←HW2.out,←HB7.out];have e5:W2.cell? ⟨w.heap.size,0,A⟩=f (.pointer (f ⟨g,0,A⟩)):=zcr _ _ 0 _ 24 (0,0) H52.out;have e6:W2.cell? ⟨w.heap.size+1,0,A⟩=f (y C at_):=zcr _ _ 0 _ 3 (0,0) H62.out;have e7:W2.cell? ⟨B7,0,A⟩=f (G b):=zcr _ _ 0 _ 9 (0,0) H7.out;clear b1 b2 hB7 hW2 hbb HW2 HB7 H5 H6 HSZ HB HD KP c0 c1 c2 HW;have K1:=zh (KO.out _ HD2.out)
   cases on with
   | false =>
     obtain rfl:X=(d,1):=HA.out;clear HA HON
     go_wp2_with (go_at_call 158;(with_reducible refine K1.out.mono ?_);rintro q w1 ⟨rfl,rfl⟩)
     go_ret;exact ⟨rfl,HM0.out _ HB2.out⟩
   | true =>
     obtain ⟨h0,h1,h2⟩:=HON.out rfl;have hn:=HN.out;obtain ⟨a,rfl⟩:=ztW h0;obtain ⟨M,rfl⟩:=ztW (show 0≤m by omega)
     by_cases hf:(((b.size+63) / 64:Nat):Int)≤(M:Int)
     ·have hX:X=wrL a b.data.toList M 0 d:=by rw [HA.out,if_pos rfl,if_pos hf,ztV,ztV]
      rw [ztN hf] at KF;obtain ⟨N,hN⟩:∃ N,N=M*64-b.size:=⟨_,rfl⟩;have hNI:(M:Int)*64-b.size=(N:Int):=by omega
      have hbz:=HBZ.out
      have KZ:=zh (fun (W:H)=>(show V U 160 #[G ⟨#[0]⟩,y C (N:Nat)] W fun e w'=>e=Y (G (zer N))∧E W.heap.size W w' from by
       have:=strings_Repeat ⟨#[0]⟩ N W (by omega) (by show 1*N≤_;omega)
       rw [zer_rep] at this;exact this))
      have hT:b++zer N=txt (lpad b M):=by rw [hN];exact zo6 b M
      have hzz:=zer_size N;have hsum:¬ 9223372036854775807<b.size+(zer N).size:=by rw [hzz];omega
      obtain ⟨ZN,hZN⟩:∃ z,z=zer N:=⟨_,rfl⟩;rw [←hZN] at KZ hT hzz hsum;obtain ⟨T,hTT⟩:∃ T,T=b++ZN:=⟨_,rfl⟩;have hl1:wrap64 ((M:Int)*64)=(M:Int)*64:=by unfold wrap64;omega
      have hl2:wrap64 ((M:Int)*64-b.size)=(N:Int):=by rw [hNI];unfold wrap64;omega
      have hl3:C.wrap ((M:Int)*64)=(M:Int)*64:=IntWalk.i64_in _ (by omega);have hl4:C.wrap ((M:Int)*64-b.size)=(N:Int):=by rw [hNI];exact IntWalk.i64_in _ (by omega)
      have HX:=zh hX;have HF64:Hid (b.size≤M*64):=by show _≤_;omega
      have HM64:Hid (M≤1048576):=by show _≤_;omega
      have HA64:Hid (a≤1048576):=by show _≤_;omega
      have HT:=zh hT;have HTT:=zh hTT;have hfz:W2.frozen? ⟨B7,0,A⟩=Z:=zt6 H7.out 0;have hB0:=qc W2.heap.size W2;clear HA HON hf h0 h1 h2 hn hX hN hNI hbz hT hzz hZN hTT
      go_upto_region 6 with (first|(go_at_call 158;(with_reducible refine K1.out.mono ?_);rintro q w1 ⟨rfl,rfl⟩)|(go_at_call 159;(with_reducible refine (KF.out _).mono ?_);rintro q w1 ⟨rfl,rfl⟩))
      go_region_with (first|(go_at_call 160;(with_reducible refine (KZ.out _).mono ?_);rintro q w3 ⟨rfl,b3⟩;have HH3:w3.heap[B7]?=f (I #[G b] 9 (0,0)):=(b3.block _ (zgx H7.out)).trans H7.out;have f3:w3.cell? ⟨B7,0,A⟩=f (G b):=zcr _ _ 0 _ 9 (0,0) HH3;have g3:w3.frozen? ⟨B7,0,A⟩=Z:=zt6 HH3 0))
      all_goals
       obtain ⟨W4,hW4⟩:∃ x,x=w3.setCell ⟨B7,0,A⟩ (G (b++ZN)):=⟨_,rfl⟩;have hh7:W4.heap[B7]?=f (I #[G (txt (lpad b M))] 9 (0,0)):=by rw [hW4,←HT.out];exact heap_setCell_same _ B7 0 _ 9 (G (b++ZN)) HH3
       have hlt7:=(zgx H7.out);have hl7:=HL7.out;have b3':E W2.heap.size W2 w3:=(qc W2.heap.size W2).drew.trans b3;have hb4:E B7 W2 W4:=by rw [hW4];exact (b3'.mono (Nat.le_of_lt hlt7)).setCell (p:=⟨B7,0,A⟩) (ztI _) _
       have hb4':E w.heap.size w W4:=HB2.out.trans (hb4.mono (by omega));have hh5:=(hb4.block _ (show w.heap.size<B7 by omega)).trans H52.out;have hh6:=(hb4.block _ (show w.heap.size+1<B7 by omega)).trans H62.out;have KE:=zh (zkI g L d w.heap.size (w.heap.size+1) B7 a M b w W4 HDw.out hb4' hh5 hh6 hh7 (ztI _) (by omega) (by omega) HF64.out HM64.out HA64.out);rw [←HX.out] at KE;rw [←hW4];clear hh7 hlt7 hl7 hb4 hh5 hh6 b3 b3' hW4 HH3 f3 g3 e5 e6 e7 hb4' hl1 hl2 hl3 hl4 hsum;unfold ptr at *
       go_wp2_with (go_at_call 161;(with_reducible refine KE.out.mono ?_);rintro q w5 ⟨rfl,hM5⟩)
       go_ret;exact ⟨rfl,hM5⟩
     ·obtain rfl:X=(d,4):=by rw [HA.out,if_pos rfl,if_neg hf]
      rw [ztM hf] at KF;clear HA HON hf h0 h1 h2 hn
      go_wp2_with (first|(go_at_call 158;(with_reducible refine K1.out.mono ?_);rintro q w1 ⟨rfl,rfl⟩)|(go_at_call 159;(with_reducible refine (KF.out _).mono ?_);rintro q w1 ⟨rfl,rfl⟩))
      go_ret;exact ⟨rfl,HM0.out _ HB2.out⟩
end Ar
end Go.Proofs.YtidndekacnmihaaGreat
