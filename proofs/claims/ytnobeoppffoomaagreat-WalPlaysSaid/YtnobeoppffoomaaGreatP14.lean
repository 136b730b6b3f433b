/-
  WalPlays: RGet PMs.
  Conditions: named in each theorem.
-/
import Derived.Test.YtnobeoppffoomaaGreatP12
import Derived.Test.YtnobeoppffoomaaGreatP13
import Derived.Test.YtnobeoppffoomaaGreatP06
import Derived.Test.YtnobeoppffoomaaGreatP05
import Derived.Test.YtnobeoppffoomaaGreatP0
set_option linter.unusedVariables false
set_option linter.unusedSimpArgs false
set_option maxHeartbeats 8000000
set_option maxRecDepth 100000
namespace Go.Proofs.YtnobeoppffoomaaGreat
open Go.RowKit
open Vi
theorem gb_set {w0 w:World} {g:Nat} {p:Addr} {v:Value} (h:w0.grownBy w (some g)) (hp:w0.heap.size≤p.block):w0.grownBy (w.setCell p v) (some g):=by
 refine ⟨h.os,h.tape,h.output,by simpa using h.size,fun k hk hg=>?_⟩
 rw [Below.heap_setCell w p v k (by omega)]
 exact h.block k hk hg
theorem gb_all {w0 w:World} {g r:Nat} (E:En) (h:w0.grownBy w (some g)) (hr:w0.heap.size≤r):w0.grownBy (((((((((((w.setCell ⟨r,0,none⟩ (.int .u64 E.term)).setCell ⟨r,1,none⟩ (.int .u64 E.index)).setCell ⟨r,2,none⟩ (.int .i64 E.kind)).setCell ⟨r,3,none⟩ (.int .u64 E.client)).setCell ⟨r,4,none⟩ (.int .u64 E.seq)).setCell ⟨r,5,none⟩ (.int .u64 E.block)).setCell ⟨r,6,none⟩ (.int .u64 E.many)).setCell ⟨r,7,none⟩ (.int .i64 E.node)).setCell ⟨r,8,none⟩ (.int .i64 E.level)).setCell ⟨r,9,none⟩ (.string E.data)).setCell ⟨r,10,none⟩ (.string E.old)) (some g) :=
 gb_set (gb_set (gb_set (gb_set (gb_set (gb_set (gb_set (gb_set (gb_set (gb_set (gb_set h hr) hr) hr) hr) hr) hr) hr) hr) hr) hr) hr
theorem rd_set {T g:Nat} {s:ByteArray} {b:Bool} {w:World} {p:Addr} {v:Value} (h:Rd T g s b w) (hp:p.block≠g):Rd T g s b (w.setCell p v):=by
 unfold Rd at *
 rw [Below.heap_setCell w p v g (fun e=>hp e.symm)]
 exact h
theorem rd_all {T g r:Nat} {s:ByteArray} {b:Bool} {w:World} (E:En) (h:Rd T g s b w) (hr:r≠g):Rd T g s b (((((((((((w.setCell ⟨r,0,none⟩ (.int .u64 E.term)).setCell ⟨r,1,none⟩ (.int .u64 E.index)).setCell ⟨r,2,none⟩ (.int .i64 E.kind)).setCell ⟨r,3,none⟩ (.int .u64 E.client)).setCell ⟨r,4,none⟩ (.int .u64 E.seq)).setCell ⟨r,5,none⟩ (.int .u64 E.block)).setCell ⟨r,6,none⟩ (.int .u64 E.many)).setCell ⟨r,7,none⟩ (.int .i64 E.node)).setCell ⟨r,8,none⟩ (.int .i64 E.level)).setCell ⟨r,9,none⟩ (.string E.data)).setCell ⟨r,10,none⟩ (.string E.old)) :=
 rd_set (rd_set (rd_set (rd_set (rd_set (rd_set (rd_set (rd_set (rd_set (rd_set (rd_set h hr) hr) hr) hr) hr) hr) hr) hr) hr) hr) hr
theorem gb_below {w0 w w1:World} {g:Nat} (h:w0.grownBy w (some g)) (hb:Below w.heap.size w w1):w0.grownBy w1 (some g):=by
 refine ⟨hb.os.trans h.os,hb.tape.trans h.tape,hb.output.trans h.output,Nat.le_trans h.size hb.size,fun k hk hg=>?_⟩
 rw [hb.block k (Nat.lt_of_lt_of_le hk h.size)]
 exact h.block k hk hg
theorem gb_other {w0 w w1:World} {g x:Nat} (h:w0.grownBy w (some g)) (hx:w.grownBy w1 (some x)) (hr:w0.heap.size≤x):w0.grownBy w1 (some g):=by
 refine ⟨hx.os.trans h.os,hx.tape.trans h.tape,hx.output.trans h.output,Nat.le_trans h.size hx.size,fun k hk hg=>?_⟩
 rw [hx.block k (Nat.lt_of_lt_of_le hk h.size) (by simp;omega)]
 exact h.block k hk hg
theorem gb_alloc {w:World} (o:Obj) (row:Option Nat):w.grownBy (w.alloc o) row:=World.grownBy_alloc w o row
theorem rget_no (g:Nat) (s:ByteArray) (bad:Bool) (w:World) (h:Rd 145 g s bad w) (hs:Vi.Sane s bad) (hm:s.size≤281474976710656) (hn:bad=true∨s.size<110) :
 Calls Tryz.prog 94 #[rdp g] w fun q w'=>q=.returned (ev ezz)∧Rd 145 g ⟨#[]⟩ true w'∧w.grownBy w' (some g):=by
 have hlt:=h.lt
 have hT:bytT s 110=⟨#[]⟩:=by
  by_cases h1:s.size<110
  ·have e:hasB s 110=false:=decide_eq_false (by omega)
   unfold bytT;rw [e,if_neg (by decide)]
  ·have hb:bad=true:=by rcases hn with hn|hn;exact hn;exact absurd hn h1
   have:=hs hb
   rw [this] at h1
   exact absurd (by decide) h1
 have hB:(bad||!hasB s 110)=true:=by
  rcases hn with hn|hn
  ·rw [hn];rfl
  ·have e:hasB s 110=false:=decide_eq_false (by omega)
   rw [e];simp
 obtain ⟨W0,hW0⟩:∃ W0,W0=w.alloc (Obj.cells (ec ezz) 28):=⟨_,rfl⟩
 have hr0:W0.heap[w.heap.size]?=some (.cells (ec ezz) 28 (0,0)):=by rw [hW0];exact heap_alloc_new w _
 have hg0:w.grownBy W0 (some g):=by rw [hW0];exact gb_alloc _ _
 have hR0:Rd 145 g s bad W0:=by rw [hW0];exact (Lib.alloc_old w _ g hlt).trans h
 have K:=rbytes_any g s bad 110 W0 hR0 hs hm
 rw [hT,hB] at K
 obtain ⟨X,hX⟩:∃ X,X=bytV s 110:=⟨_,rfl⟩
 rw [←hX] at K
 have HK:=zh K
 have HW0:=zh hW0
 have HR:=zh hr0
 have HG:=zh hg0
 clear hW0 hX K hT hB hR0 hg0 hn hs h hm
 unfold rdp at *
 go_enter Tryz.func94,Tryz.ntmps94
 go_wp2_with (go_at_call 91;rw [←HW0.out];(with_reducible refine HK.out.mono ?_);rintro q w1 ⟨rfl,h1,h2⟩;have c1:=h1.cell1;have HH:=zh h1;have HR1:Hid (w1.heap[w.heap.size]?=some (.cells (ec ezz) 28 (0,0))):=(h2.block _ (zgx HR.out) (by simp;omega)).trans HR.out;have HG1:=zh (HG.out.trans h2);have z0:w1.cell? ⟨w.heap.size,0,none⟩=some (.int .u64 0):=zcr w1 _ 0 _ 28 (0,0) HR1.out;have z1:w1.cell? ⟨w.heap.size,1,none⟩=some (.int .u64 0):=zcr w1 _ 1 _ 28 (0,0) HR1.out;have z2:w1.cell? ⟨w.heap.size,2,none⟩=some (.int .i64 0):=zcr w1 _ 2 _ 28 (0,0) HR1.out;have z3:w1.cell? ⟨w.heap.size,3,none⟩=some (.int .u64 0):=zcr w1 _ 3 _ 28 (0,0) HR1.out;have z4:w1.cell? ⟨w.heap.size,4,none⟩=some (.int .u64 0):=zcr w1 _ 4 _ 28 (0,0) HR1.out;have z5:w1.cell? ⟨w.heap.size,5,none⟩=some (.int .u64 0):=zcr w1 _ 5 _ 28 (0,0) HR1.out;have z6:w1.cell? ⟨w.heap.size,6,none⟩=some (.int .u64 0):=zcr w1 _ 6 _ 28 (0,0) HR1.out;have z7:w1.cell? ⟨w.heap.size,7,none⟩=some (.int .i64 0):=zcr w1 _ 7 _ 28 (0,0) HR1.out;have z8:w1.cell? ⟨w.heap.size,8,none⟩=some (.int .i64 0):=zcr w1 _ 8 _ 28 (0,0) HR1.out;have z9:w1.cell? ⟨w.heap.size,9,none⟩=some (.string ⟨#[]⟩):=zcr w1 _ 9 _ 28 (0,0) HR1.out;have z10:w1.cell? ⟨w.heap.size,10,none⟩=some (.string ⟨#[]⟩):=zcr w1 _ 10 _ 28 (0,0) HR1.out;have fz:∀ i,w1.frozen? ⟨w.heap.size,i,none⟩=false:=fun i=>Md.of HR1.out;clear h1 h2)
 have hlt2:w.heap.size≠g:=by omega
 obtain ⟨WF,hWF⟩:∃ WF,WF=(((((((((((w1.setCell ⟨w.heap.size,0,none⟩ (.int .u64 0)).setCell ⟨w.heap.size,1,none⟩ (.int .u64 0)).setCell ⟨w.heap.size,2,none⟩ (.int .i64 0)).setCell ⟨w.heap.size,3,none⟩ (.int .u64 0)).setCell ⟨w.heap.size,4,none⟩ (.int .u64 0)).setCell ⟨w.heap.size,5,none⟩ (.int .u64 0)).setCell ⟨w.heap.size,6,none⟩ (.int .u64 0)).setCell ⟨w.heap.size,7,none⟩ (.int .i64 0)).setCell ⟨w.heap.size,8,none⟩ (.int .i64 0)).setCell ⟨w.heap.size,9,none⟩ (.string ⟨#[]⟩)).setCell ⟨w.heap.size,10,none⟩ (.string ⟨#[]⟩)):=⟨_,rfl⟩
 rw [←hWF]
 have hblk:WF.heap[w.heap.size]?=some (.cells (ec ezz) 28 (0,0)):=by rw [hWF];exact store_all ezz HR1.out
 have f0:WF.cell? ⟨w.heap.size,0,none⟩=some (.int .u64 0):=zcr WF _ 0 _ 28 (0,0) hblk
 have f1:WF.cell? ⟨w.heap.size,1,none⟩=some (.int .u64 0):=zcr WF _ 1 _ 28 (0,0) hblk
 have f2:WF.cell? ⟨w.heap.size,2,none⟩=some (.int .i64 0):=zcr WF _ 2 _ 28 (0,0) hblk
 have f3:WF.cell? ⟨w.heap.size,3,none⟩=some (.int .u64 0):=zcr WF _ 3 _ 28 (0,0) hblk
 have f4:WF.cell? ⟨w.heap.size,4,none⟩=some (.int .u64 0):=zcr WF _ 4 _ 28 (0,0) hblk
 have f5:WF.cell? ⟨w.heap.size,5,none⟩=some (.int .u64 0):=zcr WF _ 5 _ 28 (0,0) hblk
 have f6:WF.cell? ⟨w.heap.size,6,none⟩=some (.int .u64 0):=zcr WF _ 6 _ 28 (0,0) hblk
 have f7:WF.cell? ⟨w.heap.size,7,none⟩=some (.int .i64 0):=zcr WF _ 7 _ 28 (0,0) hblk
 have f8:WF.cell? ⟨w.heap.size,8,none⟩=some (.int .i64 0):=zcr WF _ 8 _ 28 (0,0) hblk
 have f9:WF.cell? ⟨w.heap.size,9,none⟩=some (.string ⟨#[]⟩):=zcr WF _ 9 _ 28 (0,0) hblk
 have f10:WF.cell? ⟨w.heap.size,10,none⟩=some (.string ⟨#[]⟩):=zcr WF _ 10 _ 28 (0,0) hblk
 exact bodyPost_ret (v:=ev ezz) (by simp [results,Tryz.results94,go_sem,f0,f1,f2,f3,f4,f5,f6,f7,f8,f9,f10]) rfl ⟨rfl,by rw [hWF];exact rd_all ezz HH.out hlt2,by rw [hWF];exact gb_all ezz HG1.out (Nat.le_refl _)⟩
structure Rq (w0:World) (g x:Nat) (T S:ByteArray) (a:Nat) (w:World):Prop where
 hr:Rd 145 g T false w
 hx:Rd 145 x (sk S a) false w
 res:w.heap[w0.heap.size]?=some (.cells (ec ezz) 28 (0,0))
 fr:w0.grownBy w (some g)
 lg:g<w0.heap.size
 lx:w0.heap.size<x
section
variable {w0 w w1:World} {g x:Nat} {T S:ByteArray} {a:Nat}
theorem Rq.step {b:Nat} (h:Rq w0 g x T S a w) (hx:Rd 145 x (sk S b) false w1) (hf:w.grownBy w1 (some x)):Rq w0 g x T S b w1:=by
 have h1:=h.lg
 have h2:=h.lx
 exact ⟨h.hr.grown hf (by simp;omega),hx,(hf.block _ (zgx h.res) (by simp;omega)).trans h.res,gb_other h.fr hf (by omega),h.lg,h.lx⟩
theorem Rq.below (h:Rq w0 g x T S a w) (hb:Below w.heap.size w w1):Rq w0 g x T S a w1 :=
 ⟨h.hr.below hb h.hr.lt,h.hx.below hb h.hx.lt,(hb.block _ (zgx h.res)).trans h.res,gb_below h.fr hb,h.lg,h.lx⟩
end
theorem rq_fix (w0:World) (g x:Nat) (T S:ByteArray) (a k:Nat) (kk:Int) (w:World) (h:Rq w0 g x T S a w) (hkk:kk=(k:Int)) (hk:k≤8) (ha:a+k≤S.size) (hm:S.size≤281474976710656) :
 Calls Tryz.prog 89 #[rdp x,.int .i64 kk] w fun q w'=>q=.returned (.int .u64 (fixV (sk S a) kk))∧Rq w0 g x T S (a+k) w'∧w.grownBy w' (some x):=by
 subst hkk
 have hf:=fix_yes (sk S a) k hk (by rw [sk_size];omega)
 refine (rfixedr_any x (sk S a) false k w h.hx (by intro e;cases e) (by rw [sk_size];omega)).mono fun q w' ⟨h1,h2,h3⟩=>⟨h1,?_,h3⟩
 rw [hf.2.1,hf.2.2,sk_sk] at h2
 exact h.step h2 h3
theorem rq_byt (w0:World) (g x:Nat) (T S:ByteArray) (a k:Nat) (kk:Int) (w:World) (h:Rq w0 g x T S a w) (hkk:kk=(k:Int)) (ha:a+k≤S.size) (hm:S.size≤281474976710656) :
 Calls Tryz.prog 91 #[rdp x,.int .i64 kk] w fun q w'=>q=.returned (.string (bytV (sk S a) kk))∧Rq w0 g x T S (a+k) w'∧w.grownBy w' (some x):=by
 subst hkk
 have hf:=byt_yes (sk S a) k (by rw [sk_size];omega)
 refine (rbytes_any x (sk S a) false k w h.hx (by intro e;cases e) (by rw [sk_size];omega)).mono fun q w' ⟨h1,h2,h3⟩=>⟨h1,?_,h3⟩
 rw [hf.2.1,hf.2.2,sk_sk] at h2
 exact h.step h2 h3
theorem fixV_lt (s:ByteArray) (k:Nat) (hk:k≤8):fixV s k<256 ^ k:=by
 unfold fixV
 split
 ·rw [Int.toNat_natCast];exact be_take_lt (nums s) (nums_getD_lt s) k
 ·exact Nat.pow_pos (by omega)
theorem ok_of (a b c d e f g h i:Nat) (D:ByteArray) (ha:a<18446744073709551616) (hb:b<18446744073709551616) (hc:c<256) (hd:d<18446744073709551616) (he:e<18446744073709551616) (hf:f<4294967296) (hg:g<4294967296) (hh:h<256) (hi:i<256) (hD:D.size≤66) :
 (⟨a,b,c,d,e,f,g,h,i,D,⟨#[]⟩⟩:En).Ok∧((c:Nat):Int)≤255∧0≤((c:Nat):Int)∧((h:Nat):Int)≤255∧0≤((h:Nat):Int)∧((i:Nat):Int)≤255∧0≤((i:Nat):Int):=by
 refine ⟨?_,by omega,by omega,by omega,by omega,by omega,by omega⟩
 constructor
 all_goals dsimp only
 all_goals first|omega|exact Nat.zero_le _
theorem ren_ok (S:ByteArray) (hS:S.size=110):(ren S).Ok∧(ren S).kind≤255∧0≤(ren S).kind∧(ren S).node≤255∧0≤(ren S).node∧(ren S).level≤255∧0≤(ren S).level:=by
 have h0:=fixV_lt S 1 (by omega)
 have h1:=fixV_lt (t1 S) 8 (by omega)
 have h2:=fixV_lt (t2 S) 8 (by omega)
 have h3:=fixV_lt (t3 S) 8 (by omega)
 have h4:=fixV_lt (t4 S) 8 (by omega)
 have h5:=fixV_lt (t5 S) 4 (by omega)
 have h6:=fixV_lt (t6 S) 4 (by omega)
 have h7:=fixV_lt (t7 S) 1 (by omega)
 have h8:=fixV_lt (t8 S) 1 (by omega)
 rw [show (256:Nat) ^ 1=256 from by decide] at h0 h7 h8
 rw [show (256:Nat) ^ 4=4294967296 from by decide] at h5 h6
 rw [show (256:Nat) ^ 8=18446744073709551616 from by decide] at h1 h2 h3 h4
 exact ok_of _ _ _ _ _ _ _ _ _ _ h1 h2 h0 h3 h4 h5 h6 h7 h8 (by rw [ByteArray.size_extract];exact Nat.le_trans (Nat.sub_le _ _) (Nat.le_trans (Nat.min_le_left _ _) (Nat.min_le_right _ _)))
theorem rget_yes (g:Nat) (s:ByteArray) (w:World) (h:Rd 145 g s false w) (hm:s.size≤281474976710656) (hn:110≤s.size) :
 Calls Tryz.prog 94 #[rdp g] w fun q w'=>q=.returned (ev (getE s))∧Rd 145 g (getT s) (!getO s) w'∧w.grownBy w' (some g):=by
 have hlt:=h.lt
 have hby:=byt_yes s 110 hn
 obtain ⟨S,hS⟩:∃ S,S=s.extract 0 110:=⟨_,rfl⟩
 have hSs:S.size=110:=by rw [hS,ByteArray.size_extract];omega
 obtain ⟨W0,hW0⟩:∃ W0,W0=w.alloc (Obj.cells (ec ezz) 28):=⟨_,rfl⟩
 have hr0:W0.heap[w.heap.size]?=some (.cells (ec ezz) 28 (0,0)):=by rw [hW0];exact heap_alloc_new w _
 have hg0:w.grownBy W0 (some g):=by rw [hW0];exact gb_alloc _ _
 have hs0:W0.heap.size=w.heap.size+1:=by rw [hW0];simp
 have hR0:Rd 145 g s false W0:=by rw [hW0];exact (Lib.alloc_old w _ g hlt).trans h
 have K:=rbytes_any g s false 110 W0 hR0 (by intro e;cases e) hm
 have b1:bytV s 110=S:=by rw [hS];exact hby.1
 have b2:bytT s 110=sk s 110:=hby.2.1
 have b3:hasB s 110=true:=hby.2.2
 rw [b1,b2,b3] at K
 have hren:=ren_iff s hn
 rw [←hS] at hren
 obtain ⟨E,hE⟩:∃ E,E=ren S:=⟨_,rfl⟩
 have hEok:E.Ok:=by rw [hE];exact (ren_ok S hSs).1
 have hEb:E.kind≤255∧0≤E.kind∧E.node≤255∧0≤E.node∧E.level≤255∧0≤E.level:=by rw [hE];exact (ren_ok S hSs).2
 obtain ⟨u1,u2,u3,u4,u5,u6,u7,u8,u9,u10,_⟩:=t_all S (by omega)
 obtain ⟨D,hD⟩:∃ D,D=bytV (sk S 44) 66:=⟨_,rfl⟩
 obtain ⟨n,hnn⟩:∃ n,n=fixV (sk S 43) 1:=⟨_,rfl⟩
 rw [←hE] at hren
 have KP:=zh (fun (W:World)=>rput_any5 E W hEok)
 have y0:((fixV (sk S 0) 1:Nat):Int)=E.kind:=by rw [hE,sk_zero];rfl
 have y1:((fixV (sk S 1) 8:Nat):Int)=E.term:=by rw [hE,←u1];rfl
 have y2:((fixV (sk S 9) 8:Nat):Int)=E.index:=by rw [hE,←u2];rfl
 have y3:((fixV (sk S 17) 8:Nat):Int)=E.client:=by rw [hE,←u3];rfl
 have y4:((fixV (sk S 25) 8:Nat):Int)=E.seq:=by rw [hE,←u4];rfl
 have y5:((fixV (sk S 33) 4:Nat):Int)=E.block:=by rw [hE,←u5];rfl
 have y6:((fixV (sk S 37) 4:Nat):Int)=E.many:=by rw [hE,←u6];rfl
 have y7:((fixV (sk S 41) 1:Nat):Int)=E.node:=by rw [hE,←u7];rfl
 have y8:((fixV (sk S 42) 1:Nat):Int)=E.level:=by rw [hE,←u8];rfl
 have y9:E.data=D.extract 0 (min n 66):=by rw [hE,hD,hnn];show (bytV (t10 S) 66).extract 0 (min (fixV (t9 S) 1) 66)=_;rw [u10,u9]
 have y10:E.old=⟨#[]⟩:=by rw [hE];rfl
 have hn256:n<256:=by rw [hnn];exact fixV_lt (sk S 43) 1 (by omega)
 have hDs:D.size=66:=by rw [hD,show ((66:Int))=((66:Nat):Int) from rfl,(byt_yes _ 66 (by rw [sk_size];omega)).1,ByteArray.size_extract,sk_size];omega
 have hmS:S.size≤281474976710656:=by omega
 have K0:=zh (fun (x:Nat) (W:World) (h:Rq w g x (sk s 110) S 0 W)=>(rq_fix w g x (sk s 110) S 0 1 1 W h rfl (by omega) (by omega) hmS).mono fun q w' ⟨h1,h2,h3⟩=>(⟨by rw [h1,y0],h2,h3⟩:q=Ending.returned (.int .u64 E.kind)∧Rq w g x (sk s 110) S 1 w'∧W.grownBy w' (some x)))
 have K1:=zh (fun (x:Nat) (W:World) (h:Rq w g x (sk s 110) S 1 W)=>(rq_fix w g x (sk s 110) S 1 8 8 W h rfl (by omega) (by omega) hmS).mono fun q w' ⟨h1,h2,h3⟩=>(⟨by rw [h1,y1],h2,h3⟩:q=Ending.returned (.int .u64 E.term)∧Rq w g x (sk s 110) S 9 w'∧W.grownBy w' (some x)))
 have K2:=zh (fun (x:Nat) (W:World) (h:Rq w g x (sk s 110) S 9 W)=>(rq_fix w g x (sk s 110) S 9 8 8 W h rfl (by omega) (by omega) hmS).mono fun q w' ⟨h1,h2,h3⟩=>(⟨by rw [h1,y2],h2,h3⟩:q=Ending.returned (.int .u64 E.index)∧Rq w g x (sk s 110) S 17 w'∧W.grownBy w' (some x)))
 have K3:=zh (fun (x:Nat) (W:World) (h:Rq w g x (sk s 110) S 17 W)=>(rq_fix w g x (sk s 110) S 17 8 8 W h rfl (by omega) (by omega) hmS).mono fun q w' ⟨h1,h2,h3⟩=>(⟨by rw [h1,y3],h2,h3⟩:q=Ending.returned (.int .u64 E.client)∧Rq w g x (sk s 110) S 25 w'∧W.grownBy w' (some x)))
 have K4:=zh (fun (x:Nat) (W:World) (h:Rq w g x (sk s 110) S 25 W)=>(rq_fix w g x (sk s 110) S 25 8 8 W h rfl (by omega) (by omega) hmS).mono fun q w' ⟨h1,h2,h3⟩=>(⟨by rw [h1,y4],h2,h3⟩:q=Ending.returned (.int .u64 E.seq)∧Rq w g x (sk s 110) S 33 w'∧W.grownBy w' (some x)))
 have K5:=zh (fun (x:Nat) (W:World) (h:Rq w g x (sk s 110) S 33 W)=>(rq_fix w g x (sk s 110) S 33 4 4 W h rfl (by omega) (by omega) hmS).mono fun q w' ⟨h1,h2,h3⟩=>(⟨by rw [h1,y5],h2,h3⟩:q=Ending.returned (.int .u64 E.block)∧Rq w g x (sk s 110) S 37 w'∧W.grownBy w' (some x)))
 have K6:=zh (fun (x:Nat) (W:World) (h:Rq w g x (sk s 110) S 37 W)=>(rq_fix w g x (sk s 110) S 37 4 4 W h rfl (by omega) (by omega) hmS).mono fun q w' ⟨h1,h2,h3⟩=>(⟨by rw [h1,y6],h2,h3⟩:q=Ending.returned (.int .u64 E.many)∧Rq w g x (sk s 110) S 41 w'∧W.grownBy w' (some x)))
 have K7:=zh (fun (x:Nat) (W:World) (h:Rq w g x (sk s 110) S 41 W)=>(rq_fix w g x (sk s 110) S 41 1 1 W h rfl (by omega) (by omega) hmS).mono fun q w' ⟨h1,h2,h3⟩=>(⟨by rw [h1,y7],h2,h3⟩:q=Ending.returned (.int .u64 E.node)∧Rq w g x (sk s 110) S 42 w'∧W.grownBy w' (some x)))
 have K8:=zh (fun (x:Nat) (W:World) (h:Rq w g x (sk s 110) S 42 W)=>(rq_fix w g x (sk s 110) S 42 1 1 W h rfl (by omega) (by omega) hmS).mono fun q w' ⟨h1,h2,h3⟩=>(⟨by rw [h1,y8],h2,h3⟩:q=Ending.returned (.int .u64 E.level)∧Rq w g x (sk s 110) S 43 w'∧W.grownBy w' (some x)))
 have K9:=zh (fun (x:Nat) (W:World) (h:Rq w g x (sk s 110) S 43 W)=>(rq_fix w g x (sk s 110) S 43 1 1 W h rfl (by omega) (by omega) hmS).mono fun q w' ⟨h1,h2,h3⟩=>(⟨by rw [h1,hnn.symm],h2,h3⟩:q=Ending.returned (.int .u64 (n:Int))∧Rq w g x (sk s 110) S 44 w'∧W.grownBy w' (some x)))
 have K66:=zh (fun (x:Nat) (W:World) (h:Rq w g x (sk s 110) S 44 W)=>(rq_byt w g x (sk s 110) S 44 66 66 W h rfl (by omega) hmS).mono fun q w' ⟨h1,h2,h3⟩=>(⟨h1.trans (by rw [hD]),h2,h3⟩:q=Ending.returned (.string D)∧Rq w g x (sk s 110) S 110 w'∧W.grownBy w' (some x)))
 have KN:=zh (fun (W:World)=>rnew_any S W)
 have HK:=zh K
 have HW0:=zh hW0
 have HR:=zh hr0
 have HG:=zh hg0
 have HE:=zh hren
 have HS0:=zh hs0
 have w1k:IntKind.i64.wrap E.kind=E.kind:=IntWalk.i64_in _ (by omega)
 have w1n:IntKind.i64.wrap E.node=E.node:=IntWalk.i64_in _ (by omega)
 have w1l:IntKind.i64.wrap E.level=E.level:=IntWalk.i64_in _ (by omega)
 have w1z:IntKind.i64.wrap (n:Int)=(n:Int):=IntWalk.i64_in _ (by omega)
 have Y9:=zh y9
 have Y10:=zh y10
 have HDS:=zh hDs
 obtain ⟨g0,hg0'⟩:∃ q,q=getO s:=⟨_,rfl⟩
 clear hW0 hr0 hg0 hs0 hR0 K hby b1 b2 b3 hE hEok hEb u1 u2 u3 u4 u5 u6 u7 u8 u9 u10 hD hnn y0 y1 y2 y3 y4 y5 y6 y7 y8 y9 y10 hmS hS hSs hDs hren h hm hn
 unfold rdp at *
 go_enter Tryz.func94,Tryz.ntmps94
 go_upto_region 6 with (first
  | (go_at_call 91;rw [←HW0.out];(with_reducible refine HK.out.mono ?_);rintro q w1 ⟨rfl,h1,h2⟩;have c1:=h1.cell1;have HR1:=zh h1;have HG1:=zh h2;clear h1 h2)
  | (go_at_call 88;(with_reducible refine (KN.out _).mono ?_);rintro q w2 ⟨rfl,hw2⟩;have Q0:Rq w g w1.heap.size (sk s 110) S 0 w2:=⟨by rw [hw2];exact (Lib.alloc_old w1 _ g (by have:=HG1.out.size;have:=HS0.out;omega)).trans HR1.out,by rw [sk_zero,hw2];exact Rd.new w1 145 S false,by rw [hw2];exact (Lib.alloc_old w1 _ _ (by have:=HG1.out.size;have:=HS0.out;omega)).trans ((HG1.out.block _ (zgx HR.out) (by simp;omega)).trans HR.out),by rw [hw2];exact gb_below (HG.out.trans HG1.out) ((Below.refl _ _).alloc (Nat.le_refl _) _),hlt,by have:=HG1.out.size;have:=HS0.out;omega⟩;clear hw2)
  | (go_at_call 89;(with_reducible refine (K0.out _ _ Q0).mono ?_);rintro q w3 ⟨rfl,Q1,_⟩)
  | (go_at_call 89;(with_reducible refine (K1.out _ _ Q1).mono ?_);rintro q w4 ⟨rfl,Q2,_⟩)
  | (go_at_call 89;(with_reducible refine (K2.out _ _ Q2).mono ?_);rintro q w5 ⟨rfl,Q3,_⟩)
  | (go_at_call 89;(with_reducible refine (K3.out _ _ Q3).mono ?_);rintro q w6 ⟨rfl,Q4,_⟩)
  | (go_at_call 89;(with_reducible refine (K4.out _ _ Q4).mono ?_);rintro q w7 ⟨rfl,Q5,_⟩)
  | (go_at_call 89;(with_reducible refine (K5.out _ _ Q5).mono ?_);rintro q w8 ⟨rfl,Q6,_⟩)
  | (go_at_call 89;(with_reducible refine (K6.out _ _ Q6).mono ?_);rintro q w9 ⟨rfl,Q7,_⟩)
  | (go_at_call 89;(with_reducible refine (K7.out _ _ Q7).mono ?_);rintro q w10 ⟨rfl,Q8,_⟩)
  | (go_at_call 89;(with_reducible refine (K8.out _ _ Q8).mono ?_);rintro q w11 ⟨rfl,Q9,_⟩))
 obtain ⟨q,hq⟩:∃ q,q=min n 66:=⟨_,rfl⟩
 have hq66:q≤66:=by omega
 have HMIN:Hid ((min (n:Int) 66).toNat=q):=by show _=_;omega
 have hDs:D.size=66:=HDS.out
 have HQ:=zh hq
 obtain ⟨W11,hW11⟩:∃ W11,W11=w11.alloc (Obj.cells #[.int .u64 E.term,.int .u64 E.index,.int .i64 E.kind,.int .u64 E.client,.int .u64 E.seq,.int .u64 E.block,.int .u64 E.many,.int .i64 E.node,.int .i64 E.level,.string ⟨#[]⟩,.string ⟨#[]⟩] 28):=⟨_,rfl⟩
 rw [←hW11]
 have Q11:Rq w g w1.heap.size (sk s 110) S 43 W11:=by rw [hW11];exact Q9.below ((Below.refl _ _).alloc (Nat.le_refl _) _)
 have Y11:W11.heap[w11.heap.size]?=some (.cells #[.int .u64 E.term,.int .u64 E.index,.int .i64 E.kind,.int .u64 E.client,.int .u64 E.seq,.int .u64 E.block,.int .u64 E.many,.int .i64 E.node,.int .i64 E.level,.string ⟨#[]⟩,.string ⟨#[]⟩] 28 (0,0)):=by rw [hW11];exact heap_alloc_new w11 _
 obtain ⟨y,hy⟩:∃ y,y=w11.heap.size:=⟨_,rfl⟩
 have hxy:w1.heap.size<y:=by rw [hy];exact Q9.hx.lt
 rw [←hy] at Y11 ⊢
 have HYY:=zh Y11
 clear hq hW11 hy Q0 Q1 Q2 Q3 Q4 Q5 Q6 Q7 Q8 Q9 Y11 K0 K1 K2 K3 K4 K5 K6 K7 K8 KN HK HW0 HR HG c1
 go_upto_region 8 with (first
  | (go_at_call 89;(with_reducible refine (K9.out _ _ Q11).mono ?_);rintro q' w12 ⟨rfl,Q12,h12⟩;have HY12:Hid (w12.heap[y]?=some (.cells #[.int .u64 E.term,.int .u64 E.index,.int .i64 E.kind,.int .u64 E.client,.int .u64 E.seq,.int .u64 E.block,.int .u64 E.many,.int .i64 E.node,.int .i64 E.level,.string ⟨#[]⟩,.string ⟨#[]⟩] 28 (0,0))):=(h12.block _ (zgx HYY.out) (by simp;omega)).trans HYY.out;clear h12)
  | (go_at_call 91;(with_reducible refine (K66.out _ _ Q12).mono ?_);rintro q' w13 ⟨rfl,Q13,h13⟩;have HY13:Hid (w13.heap[y]?=some (.cells #[.int .u64 E.term,.int .u64 E.index,.int .i64 E.kind,.int .u64 E.client,.int .u64 E.seq,.int .u64 E.block,.int .u64 E.many,.int .i64 E.node,.int .i64 E.level,.string ⟨#[]⟩,.string ⟨#[]⟩] 28 (0,0))):=(h13.block _ (zgx HY12.out) (by simp;omega)).trans HY12.out;clear h13;have cy9:w13.cell? ⟨y,9,none⟩=some (.string ⟨#[]⟩):=zcr w13 _ 9 _ 28 (0,0) HY13.out;have fy9:w13.frozen? ⟨y,9,none⟩=false:=Md.of HY13.out))
 obtain ⟨W14,hW14⟩:∃ W14,W14=w13.setCell ⟨y,9,none⟩ (.string (D.extract 0 (min (n:Int) 66).toNat)):=⟨_,rfl⟩
 rw [←hW14]
 rw [HMIN.out] at hW14
 have HYE:Hid (W14.heap[y]?=some (.cells (ec E) 28 (0,0))):=by
  have h:=set_blk HY13.out 9 (.string (D.extract 0 q))
  rw [←hW14] at h
  show _=_
  rw [h]
  simp [Y9.out,Y10.out,HQ.out]
 have hgx:=Q13.lg
 have hxl:=Q13.lx
 have HR14:Hid (Rd 145 g (sk s 110) false W14):=by rw [hW14];exact rd_set Q13.hr (by simp;omega)
 have HZ14:Hid (W14.heap[w.heap.size]?=some (.cells (ec ezz) 28 (0,0))):=by
  show _=_
  rw [hW14,Below.heap_setCell _ _ _ _ (by simp;omega)]
  exact Q13.res
 have HG14:Hid (w.grownBy W14 (some g)):=by rw [hW14];exact gb_set Q13.fr (by simp;omega)
 clear hW14 Q11 Q12 Q13 HYY HY12 HY13 cy9 fy9 K9 K66
 have y0:W14.cell? ⟨y,0,none⟩=some (.int .u64 E.term):=zcr W14 _ 0 _ 28 (0,0) HYE.out
 have y1:W14.cell? ⟨y,1,none⟩=some (.int .u64 E.index):=zcr W14 _ 1 _ 28 (0,0) HYE.out
 have y2:W14.cell? ⟨y,2,none⟩=some (.int .i64 E.kind):=zcr W14 _ 2 _ 28 (0,0) HYE.out
 have y3:W14.cell? ⟨y,3,none⟩=some (.int .u64 E.client):=zcr W14 _ 3 _ 28 (0,0) HYE.out
 have y4:W14.cell? ⟨y,4,none⟩=some (.int .u64 E.seq):=zcr W14 _ 4 _ 28 (0,0) HYE.out
 have y5:W14.cell? ⟨y,5,none⟩=some (.int .u64 E.block):=zcr W14 _ 5 _ 28 (0,0) HYE.out
 have y6:W14.cell? ⟨y,6,none⟩=some (.int .u64 E.many):=zcr W14 _ 6 _ 28 (0,0) HYE.out
 have y7:W14.cell? ⟨y,7,none⟩=some (.int .i64 E.node):=zcr W14 _ 7 _ 28 (0,0) HYE.out
 have y8:W14.cell? ⟨y,8,none⟩=some (.int .i64 E.level):=zcr W14 _ 8 _ 28 (0,0) HYE.out
 have y9:W14.cell? ⟨y,9,none⟩=some (.string E.data):=zcr W14 _ 9 _ 28 (0,0) HYE.out
 have y10:W14.cell? ⟨y,10,none⟩=some (.string E.old):=zcr W14 _ 10 _ 28 (0,0) HYE.out
 obtain ⟨mb,hmb⟩:∃ mb,mb=mayB E:=⟨_,rfl⟩
 obtain ⟨P,hP⟩:∃ P,P=putS E:=⟨_,rfl⟩
 rw [←hmb,←hP] at KP
 obtain ⟨eq,heq⟩:∃ eq,eq=(P.toList==S.toList):=⟨_,rfl⟩
 have hgo:Hid (getO s=(mb&&eq)):=by
  show _=_
  rw [←HE.out.1,heq,beq_nums,hP,←hmb]
  unfold putS
  rw [←hmb]
  cases mb<;>rfl
 have hEe:Hid (mb=true→eq=true→getE s=E):=by
  intro h1 h2
  have h3:getO s=true:=by rw [hgo.out,h1,h2];rfl
  unfold getE
  rw [if_pos h3,HE.out.2 h3]
 have heq':(P.toList==S.toList)=eq:=heq.symm
 have r1:=HR14.out
 clear hmb hP heq HE
 cases mb with
 | false =>
   go_wp2_with (first
    | (go_at_call 83;(with_reducible refine (KP.out _).mono ?_);rintro q' w15 ⟨rfl,hb15⟩;have R15:=r1.below hb15 r1.lt;have KF:=rfail_any g _ _ w15 R15;unfold rdp at KF;have HR15:Hid (w15.heap[w.heap.size]?=some (.cells (ec ezz) 28 (0,0))):=(hb15.block _ (zgx HZ14.out)).trans HZ14.out;have HG15:=zh (gb_below HG14.out hb15))
    | (go_at_call 121;(with_reducible refine KF.mono ?_);rintro q' w16 ⟨rfl,h16,g16⟩;have HR16:Hid (w16.heap[w.heap.size]?=some (.cells (ec ezz) 28 (0,0))):=(g16.block _ (zgx HR15.out) (by simp;omega)).trans HR15.out;have HG16:=zh (HG15.out.trans g16);have z0:w16.cell? ⟨w.heap.size,0,none⟩=some (.int .u64 0):=zcr w16 _ 0 _ 28 (0,0) HR16.out;have z1:w16.cell? ⟨w.heap.size,1,none⟩=some (.int .u64 0):=zcr w16 _ 1 _ 28 (0,0) HR16.out;have z2:w16.cell? ⟨w.heap.size,2,none⟩=some (.int .i64 0):=zcr w16 _ 2 _ 28 (0,0) HR16.out;have z3:w16.cell? ⟨w.heap.size,3,none⟩=some (.int .u64 0):=zcr w16 _ 3 _ 28 (0,0) HR16.out;have z4:w16.cell? ⟨w.heap.size,4,none⟩=some (.int .u64 0):=zcr w16 _ 4 _ 28 (0,0) HR16.out;have z5:w16.cell? ⟨w.heap.size,5,none⟩=some (.int .u64 0):=zcr w16 _ 5 _ 28 (0,0) HR16.out;have z6:w16.cell? ⟨w.heap.size,6,none⟩=some (.int .u64 0):=zcr w16 _ 6 _ 28 (0,0) HR16.out;have z7:w16.cell? ⟨w.heap.size,7,none⟩=some (.int .i64 0):=zcr w16 _ 7 _ 28 (0,0) HR16.out;have z8:w16.cell? ⟨w.heap.size,8,none⟩=some (.int .i64 0):=zcr w16 _ 8 _ 28 (0,0) HR16.out;have z9:w16.cell? ⟨w.heap.size,9,none⟩=some (.string ⟨#[]⟩):=zcr w16 _ 9 _ 28 (0,0) HR16.out;have z10:w16.cell? ⟨w.heap.size,10,none⟩=some (.string ⟨#[]⟩):=zcr w16 _ 10 _ 28 (0,0) HR16.out;have fz:∀ i,w16.frozen? ⟨w.heap.size,i,none⟩=false:=fun i=>Md.of HR16.out))
   have hlt2:w.heap.size≠g:=by omega
   have e1:getO s=false:=hgo.out
   have e2:getE s=ezz:=by unfold getE;rw [e1];rfl
   have e3:getT s=⟨#[]⟩:=by unfold getT;rw [e1];rfl
   rw [e1,e2,e3]
   obtain ⟨WF,hWF⟩:∃ WF,WF=(((((((((((w16.setCell ⟨w.heap.size,0,none⟩ (.int .u64 0)).setCell ⟨w.heap.size,1,none⟩ (.int .u64 0)).setCell ⟨w.heap.size,2,none⟩ (.int .i64 0)).setCell ⟨w.heap.size,3,none⟩ (.int .u64 0)).setCell ⟨w.heap.size,4,none⟩ (.int .u64 0)).setCell ⟨w.heap.size,5,none⟩ (.int .u64 0)).setCell ⟨w.heap.size,6,none⟩ (.int .u64 0)).setCell ⟨w.heap.size,7,none⟩ (.int .i64 0)).setCell ⟨w.heap.size,8,none⟩ (.int .i64 0)).setCell ⟨w.heap.size,9,none⟩ (.string ⟨#[]⟩)).setCell ⟨w.heap.size,10,none⟩ (.string ⟨#[]⟩)):=⟨_,rfl⟩
   rw [←hWF]
   have hblk:WF.heap[w.heap.size]?=some (.cells (ec ezz) 28 (0,0)):=by rw [hWF];exact store_all ezz HR16.out
   have f0:WF.cell? ⟨w.heap.size,0,none⟩=some (.int .u64 0):=zcr WF _ 0 _ 28 (0,0) hblk
   have f1:WF.cell? ⟨w.heap.size,1,none⟩=some (.int .u64 0):=zcr WF _ 1 _ 28 (0,0) hblk
   have f2:WF.cell? ⟨w.heap.size,2,none⟩=some (.int .i64 0):=zcr WF _ 2 _ 28 (0,0) hblk
   have f3:WF.cell? ⟨w.heap.size,3,none⟩=some (.int .u64 0):=zcr WF _ 3 _ 28 (0,0) hblk
   have f4:WF.cell? ⟨w.heap.size,4,none⟩=some (.int .u64 0):=zcr WF _ 4 _ 28 (0,0) hblk
   have f5:WF.cell? ⟨w.heap.size,5,none⟩=some (.int .u64 0):=zcr WF _ 5 _ 28 (0,0) hblk
   have f6:WF.cell? ⟨w.heap.size,6,none⟩=some (.int .u64 0):=zcr WF _ 6 _ 28 (0,0) hblk
   have f7:WF.cell? ⟨w.heap.size,7,none⟩=some (.int .i64 0):=zcr WF _ 7 _ 28 (0,0) hblk
   have f8:WF.cell? ⟨w.heap.size,8,none⟩=some (.int .i64 0):=zcr WF _ 8 _ 28 (0,0) hblk
   have f9:WF.cell? ⟨w.heap.size,9,none⟩=some (.string ⟨#[]⟩):=zcr WF _ 9 _ 28 (0,0) hblk
   have f10:WF.cell? ⟨w.heap.size,10,none⟩=some (.string ⟨#[]⟩):=zcr WF _ 10 _ 28 (0,0) hblk
   exact bodyPost_ret (v:=ev ezz) (by simp [results,Tryz.results94,go_sem,f0,f1,f2,f3,f4,f5,f6,f7,f8,f9,f10]) rfl ⟨rfl,by rw [hWF];exact rd_all ezz h16 hlt2,by rw [hWF];exact gb_all ezz HG16.out (Nat.le_refl _)⟩
 | true =>
   cases eq with
   | false =>
     go_wp2_with (first
      | (go_at_call 83;(with_reducible refine (KP.out _).mono ?_);rintro q' w15 ⟨rfl,hb15⟩;have R15:=r1.below hb15 r1.lt;have KF:=rfail_any g _ _ w15 R15;unfold rdp at KF;have HR15:Hid (w15.heap[w.heap.size]?=some (.cells (ec ezz) 28 (0,0))):=(hb15.block _ (zgx HZ14.out)).trans HZ14.out;have HG15:=zh (gb_below HG14.out hb15))
      | (go_at_call 121;(with_reducible refine KF.mono ?_);rintro q' w16 ⟨rfl,h16,g16⟩;have HR16:Hid (w16.heap[w.heap.size]?=some (.cells (ec ezz) 28 (0,0))):=(g16.block _ (zgx HR15.out) (by simp;omega)).trans HR15.out;have HG16:=zh (HG15.out.trans g16);have z0:w16.cell? ⟨w.heap.size,0,none⟩=some (.int .u64 0):=zcr w16 _ 0 _ 28 (0,0) HR16.out;have z1:w16.cell? ⟨w.heap.size,1,none⟩=some (.int .u64 0):=zcr w16 _ 1 _ 28 (0,0) HR16.out;have z2:w16.cell? ⟨w.heap.size,2,none⟩=some (.int .i64 0):=zcr w16 _ 2 _ 28 (0,0) HR16.out;have z3:w16.cell? ⟨w.heap.size,3,none⟩=some (.int .u64 0):=zcr w16 _ 3 _ 28 (0,0) HR16.out;have z4:w16.cell? ⟨w.heap.size,4,none⟩=some (.int .u64 0):=zcr w16 _ 4 _ 28 (0,0) HR16.out;have z5:w16.cell? ⟨w.heap.size,5,none⟩=some (.int .u64 0):=zcr w16 _ 5 _ 28 (0,0) HR16.out;have z6:w16.cell? ⟨w.heap.size,6,none⟩=some (.int .u64 0):=zcr w16 _ 6 _ 28 (0,0) HR16.out;have z7:w16.cell? ⟨w.heap.size,7,none⟩=some (.int .i64 0):=zcr w16 _ 7 _ 28 (0,0) HR16.out;have z8:w16.cell? ⟨w.heap.size,8,none⟩=some (.int .i64 0):=zcr w16 _ 8 _ 28 (0,0) HR16.out;have z9:w16.cell? ⟨w.heap.size,9,none⟩=some (.string ⟨#[]⟩):=zcr w16 _ 9 _ 28 (0,0) HR16.out;have z10:w16.cell? ⟨w.heap.size,10,none⟩=some (.string ⟨#[]⟩):=zcr w16 _ 10 _ 28 (0,0) HR16.out;have fz:∀ i,w16.frozen? ⟨w.heap.size,i,none⟩=false:=fun i=>Md.of HR16.out))
     have hlt2:w.heap.size≠g:=by omega
     have e1:getO s=false:=hgo.out
     have e2:getE s=ezz:=by unfold getE;rw [e1];rfl
     have e3:getT s=⟨#[]⟩:=by unfold getT;rw [e1];rfl
     rw [e1,e2,e3]
     obtain ⟨WF,hWF⟩:∃ WF,WF=(((((((((((w16.setCell ⟨w.heap.size,0,none⟩ (.int .u64 0)).setCell ⟨w.heap.size,1,none⟩ (.int .u64 0)).setCell ⟨w.heap.size,2,none⟩ (.int .i64 0)).setCell ⟨w.heap.size,3,none⟩ (.int .u64 0)).setCell ⟨w.heap.size,4,none⟩ (.int .u64 0)).setCell ⟨w.heap.size,5,none⟩ (.int .u64 0)).setCell ⟨w.heap.size,6,none⟩ (.int .u64 0)).setCell ⟨w.heap.size,7,none⟩ (.int .i64 0)).setCell ⟨w.heap.size,8,none⟩ (.int .i64 0)).setCell ⟨w.heap.size,9,none⟩ (.string ⟨#[]⟩)).setCell ⟨w.heap.size,10,none⟩ (.string ⟨#[]⟩)):=⟨_,rfl⟩
     rw [←hWF]
     have hblk:WF.heap[w.heap.size]?=some (.cells (ec ezz) 28 (0,0)):=by rw [hWF];exact store_all ezz HR16.out
     have f0:WF.cell? ⟨w.heap.size,0,none⟩=some (.int .u64 0):=zcr WF _ 0 _ 28 (0,0) hblk
     have f1:WF.cell? ⟨w.heap.size,1,none⟩=some (.int .u64 0):=zcr WF _ 1 _ 28 (0,0) hblk
     have f2:WF.cell? ⟨w.heap.size,2,none⟩=some (.int .i64 0):=zcr WF _ 2 _ 28 (0,0) hblk
     have f3:WF.cell? ⟨w.heap.size,3,none⟩=some (.int .u64 0):=zcr WF _ 3 _ 28 (0,0) hblk
     have f4:WF.cell? ⟨w.heap.size,4,none⟩=some (.int .u64 0):=zcr WF _ 4 _ 28 (0,0) hblk
     have f5:WF.cell? ⟨w.heap.size,5,none⟩=some (.int .u64 0):=zcr WF _ 5 _ 28 (0,0) hblk
     have f6:WF.cell? ⟨w.heap.size,6,none⟩=some (.int .u64 0):=zcr WF _ 6 _ 28 (0,0) hblk
     have f7:WF.cell? ⟨w.heap.size,7,none⟩=some (.int .i64 0):=zcr WF _ 7 _ 28 (0,0) hblk
     have f8:WF.cell? ⟨w.heap.size,8,none⟩=some (.int .i64 0):=zcr WF _ 8 _ 28 (0,0) hblk
     have f9:WF.cell? ⟨w.heap.size,9,none⟩=some (.string ⟨#[]⟩):=zcr WF _ 9 _ 28 (0,0) hblk
     have f10:WF.cell? ⟨w.heap.size,10,none⟩=some (.string ⟨#[]⟩):=zcr WF _ 10 _ 28 (0,0) hblk
     exact bodyPost_ret (v:=ev ezz) (by simp [results,Tryz.results94,go_sem,f0,f1,f2,f3,f4,f5,f6,f7,f8,f9,f10]) rfl ⟨rfl,by rw [hWF];exact rd_all ezz h16 hlt2,by rw [hWF];exact gb_all ezz HG16.out (Nat.le_refl _)⟩
   | true =>
     have hEq:=zh (hEe.out rfl rfl)
     go_wp2_with (first
      | (go_at_call 83;(with_reducible refine (KP.out _).mono ?_);rintro q' w15 ⟨rfl,hb15⟩;have R15:=r1.below hb15 r1.lt;have HR15:Hid (w15.heap[w.heap.size]?=some (.cells (ec ezz) 28 (0,0))):=(hb15.block _ (zgx HZ14.out)).trans HZ14.out;have HY15:Hid (w15.heap[y]?=some (.cells (ec E) 28 (0,0))):=(hb15.block _ (zgx HYE.out)).trans HYE.out;have HG15:=zh (gb_below HG14.out hb15);have z0:w15.cell? ⟨w.heap.size,0,none⟩=some (.int .u64 0):=zcr w15 _ 0 _ 28 (0,0) HR15.out;have z1:w15.cell? ⟨w.heap.size,1,none⟩=some (.int .u64 0):=zcr w15 _ 1 _ 28 (0,0) HR15.out;have z2:w15.cell? ⟨w.heap.size,2,none⟩=some (.int .i64 0):=zcr w15 _ 2 _ 28 (0,0) HR15.out;have z3:w15.cell? ⟨w.heap.size,3,none⟩=some (.int .u64 0):=zcr w15 _ 3 _ 28 (0,0) HR15.out;have z4:w15.cell? ⟨w.heap.size,4,none⟩=some (.int .u64 0):=zcr w15 _ 4 _ 28 (0,0) HR15.out;have z5:w15.cell? ⟨w.heap.size,5,none⟩=some (.int .u64 0):=zcr w15 _ 5 _ 28 (0,0) HR15.out;have z6:w15.cell? ⟨w.heap.size,6,none⟩=some (.int .u64 0):=zcr w15 _ 6 _ 28 (0,0) HR15.out;have z7:w15.cell? ⟨w.heap.size,7,none⟩=some (.int .i64 0):=zcr w15 _ 7 _ 28 (0,0) HR15.out;have z8:w15.cell? ⟨w.heap.size,8,none⟩=some (.int .i64 0):=zcr w15 _ 8 _ 28 (0,0) HR15.out;have z9:w15.cell? ⟨w.heap.size,9,none⟩=some (.string ⟨#[]⟩):=zcr w15 _ 9 _ 28 (0,0) HR15.out;have z10:w15.cell? ⟨w.heap.size,10,none⟩=some (.string ⟨#[]⟩):=zcr w15 _ 10 _ 28 (0,0) HR15.out;have p0:w15.cell? ⟨y,0,none⟩=some (.int .u64 E.term):=zcr w15 _ 0 _ 28 (0,0) HY15.out;have p1:w15.cell? ⟨y,1,none⟩=some (.int .u64 E.index):=zcr w15 _ 1 _ 28 (0,0) HY15.out;have p2:w15.cell? ⟨y,2,none⟩=some (.int .i64 E.kind):=zcr w15 _ 2 _ 28 (0,0) HY15.out;have p3:w15.cell? ⟨y,3,none⟩=some (.int .u64 E.client):=zcr w15 _ 3 _ 28 (0,0) HY15.out;have p4:w15.cell? ⟨y,4,none⟩=some (.int .u64 E.seq):=zcr w15 _ 4 _ 28 (0,0) HY15.out;have p5:w15.cell? ⟨y,5,none⟩=some (.int .u64 E.block):=zcr w15 _ 5 _ 28 (0,0) HY15.out;have p6:w15.cell? ⟨y,6,none⟩=some (.int .u64 E.many):=zcr w15 _ 6 _ 28 (0,0) HY15.out;have p7:w15.cell? ⟨y,7,none⟩=some (.int .i64 E.node):=zcr w15 _ 7 _ 28 (0,0) HY15.out;have p8:w15.cell? ⟨y,8,none⟩=some (.int .i64 E.level):=zcr w15 _ 8 _ 28 (0,0) HY15.out;have p9:w15.cell? ⟨y,9,none⟩=some (.string E.data):=zcr w15 _ 9 _ 28 (0,0) HY15.out;have p10:w15.cell? ⟨y,10,none⟩=some (.string E.old):=zcr w15 _ 10 _ 28 (0,0) HY15.out;have fz:∀ i,w15.frozen? ⟨w.heap.size,i,none⟩=false:=fun i=>Md.of HR15.out))
     have hlt2:w.heap.size≠g:=by omega
     have e1:getO s=true:=hgo.out
     have e2:getE s=E:=hEq.out
     have e3:getT s=sk s 110:=by unfold getT;rw [e1];rfl
     rw [e1,e2,e3]
     obtain ⟨WF,hWF⟩:∃ WF,WF=(((((((((((w15.setCell ⟨w.heap.size,0,none⟩ (.int .u64 E.term)).setCell ⟨w.heap.size,1,none⟩ (.int .u64 E.index)).setCell ⟨w.heap.size,2,none⟩ (.int .i64 E.kind)).setCell ⟨w.heap.size,3,none⟩ (.int .u64 E.client)).setCell ⟨w.heap.size,4,none⟩ (.int .u64 E.seq)).setCell ⟨w.heap.size,5,none⟩ (.int .u64 E.block)).setCell ⟨w.heap.size,6,none⟩ (.int .u64 E.many)).setCell ⟨w.heap.size,7,none⟩ (.int .i64 E.node)).setCell ⟨w.heap.size,8,none⟩ (.int .i64 E.level)).setCell ⟨w.heap.size,9,none⟩ (.string E.data)).setCell ⟨w.heap.size,10,none⟩ (.string E.old)):=⟨_,rfl⟩
     rw [←hWF]
     have hblk:WF.heap[w.heap.size]?=some (.cells (ec E) 28 (0,0)):=by rw [hWF];exact store_all E HR15.out
     have f0:WF.cell? ⟨w.heap.size,0,none⟩=some (.int .u64 E.term):=zcr WF _ 0 _ 28 (0,0) hblk
     have f1:WF.cell? ⟨w.heap.size,1,none⟩=some (.int .u64 E.index):=zcr WF _ 1 _ 28 (0,0) hblk
     have f2:WF.cell? ⟨w.heap.size,2,none⟩=some (.int .i64 E.kind):=zcr WF _ 2 _ 28 (0,0) hblk
     have f3:WF.cell? ⟨w.heap.size,3,none⟩=some (.int .u64 E.client):=zcr WF _ 3 _ 28 (0,0) hblk
     have f4:WF.cell? ⟨w.heap.size,4,none⟩=some (.int .u64 E.seq):=zcr WF _ 4 _ 28 (0,0) hblk
     have f5:WF.cell? ⟨w.heap.size,5,none⟩=some (.int .u64 E.block):=zcr WF _ 5 _ 28 (0,0) hblk
     have f6:WF.cell? ⟨w.heap.size,6,none⟩=some (.int .u64 E.many):=zcr WF _ 6 _ 28 (0,0) hblk
     have f7:WF.cell? ⟨w.heap.size,7,none⟩=some (.int .i64 E.node):=zcr WF _ 7 _ 28 (0,0) hblk
     have f8:WF.cell? ⟨w.heap.size,8,none⟩=some (.int .i64 E.level):=zcr WF _ 8 _ 28 (0,0) hblk
     have f9:WF.cell? ⟨w.heap.size,9,none⟩=some (.string E.data):=zcr WF _ 9 _ 28 (0,0) hblk
     have f10:WF.cell? ⟨w.heap.size,10,none⟩=some (.string E.old):=zcr WF _ 10 _ 28 (0,0) hblk
     exact bodyPost_ret (v:=ev E) (by simp [results,Tryz.results94,go_sem,f0,f1,f2,f3,f4,f5,f6,f7,f8,f9,f10]) rfl ⟨rfl,by rw [hWF];exact rd_all E R15 hlt2,by rw [hWF];exact gb_all E HG15.out (Nat.le_refl _)⟩
theorem rget_any (g:Nat) (s:ByteArray) (bad:Bool) (w:World) (h:Rd 145 g s bad w) (hs:Vi.Sane s bad) (hm:s.size≤281474976710656) :
 Calls Tryz.prog 94 #[rdp g] w fun q w'=>q=.returned (ev (getE s))∧Rd 145 g (getT s) (bad||!getO s) w'∧w.grownBy w' (some g):=by
 by_cases hn:bad=false∧110≤s.size
 ·obtain ⟨rfl,hn⟩:=hn
  rw [Bool.false_or]
  exact rget_yes g s w h hm hn
 ·have ho:getO s=false:=by
   cases hh:getO s with
   | false=>rfl
   | true =>
     have h1:=(getO_size hh).1
     cases bad with
     | false=>exact absurd ⟨rfl,h1⟩ hn
     | true =>
       rw [hs rfl] at h1
       exact absurd h1 (by decide)
  have e2:getE s=ezz:=by unfold getE;rw [ho];rfl
  have e3:getT s=⟨#[]⟩:=by unfold getT;rw [ho];rfl
  rw [ho,e2,e3,Bool.not_false,Bool.or_true]
  refine rget_no g s bad w h hs hm ?_
  cases bad with
  | true=>exact .inl rfl
  | false=>exact .inr (by have:¬ 110≤s.size:=fun e=>hn ⟨rfl,e⟩;omega)
end Go.Proofs.YtnobeoppffoomaaGreat
namespace Go.Proofs.YtnobeoppffoomaaGreat
open Go.RowKit
open Vi
def u1 (s:ByteArray):ByteArray:=fixT s 1
def u2 (s:ByteArray):ByteArray:=fixT (u1 s) 1
def u3 (s:ByteArray):ByteArray:=fixT (u2 s) 1
def u4 (s:ByteArray):ByteArray:=fixT (u3 s) 8
def u5 (s:ByteArray):ByteArray:=fixT (u4 s) 8
def u6 (s:ByteArray):ByteArray:=fixT (u5 s) 8
def u7 (s:ByteArray):ByteArray:=fixT (u6 s) 8
def u8 (s:ByteArray):ByteArray:=fixT (u7 s) 8
def u9 (s:ByteArray):ByteArray:=fixT (u8 s) 1
def u10 (s:ByteArray):ByteArray:=fixT (u9 s) 1
def mY (s:ByteArray):Nat:=fixV (u8 s) 1
end Go.Proofs.YtnobeoppffoomaaGreat
