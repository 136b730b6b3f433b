/-
  FrameCodes: part G08.
  Conditions: named in each theorem.
-/
import Derived.Deep.CutRange
import Derived.Test.YtpdbeijfchmlgaaGreatZ0
import Derived.Test.YtpdbeijfchmlgaaGreatG00
import Derived.Test.YtpdbeijfchmlgaaGreatG06
import Derived.Test.YtpdbeijfchmlgaaGreatG07
set_option linter.unusedVariables false
set_option linter.unusedSimpArgs false
set_option maxHeartbeats 16000000
set_option maxRecDepth 100000
namespace Go.Proofs.YtpdbeijfchmlgaaGreat
open Go.RowKit
theorem lim_facts {L:ByteArray} {c n lo hi:Int}:lim L c n lo hi=true↔((hasL L c=true→lo≤n∧n≤hi)∧(hasL L c=false→n=0)):=by
 unfold lim
 cases hasL L c<;>simp
structure Asked (e:En):Prop where
 f:fb e.kind=true
 t:1≤e.term
 i:1≤e.index
 c1:hasL (fl e.kind) 99=true→1≤e.client
 c0:hasL (fl e.kind) 99=false→e.client=0
 s0:hasL (fl e.kind) 99=false→e.seq=0
 b1:e.block≤4294967295
 b0:hasL (fl e.kind) 98=false→e.block=0
 m1:e.many≤4294967295
 m0:hasL (fl e.kind) 109=false→e.many=0
 n1:hasL (fl e.kind) 110=true→1≤e.node∧e.node≤7
 n0:hasL (fl e.kind) 110=false→e.node=0
 l1:hasL (fl e.kind) 108=true→1≤e.level∧e.level≤2
 l0:hasL (fl e.kind) 108=false→e.level=0
 d1:(e.data.size:Int)≤64
 d0:hasL (fl e.kind) 100=false→(e.data.size:Int)=0
 o1:(e.old.size:Int)≤64
 o0:hasL (fl e.kind) 111=false→(e.old.size:Int)=0
theorem both {b:Bool} {P:Prop} (h1:b=true→P) (h2:b=false→P):P:=by cases b;exact h2 rfl;exact h1 rfl
theorem asked_iff (e:En) (ok:e.Ok):rightB e=true↔Asked e:=by
 obtain ⟨t0,t1,i0,i1,k0,k1,c0,c1,s0,s1,b0,b1,m0,m1,n0,n1,l0,l1,d1,o1⟩:=ok;unfold rightB asks;simp only [List.all_cons,List.all_nil,id,Bool.and_true,Bool.and_eq_true,decide_eq_true_eq,lim_facts,IntKind.wrap_u64];constructor
 ·rintro ⟨a0,a1,a2,a3,a4,a5,a6,a7,a8,a9,a10⟩;constructor
  ·exact a0
  ·exact a1
  ·exact a2
  ·exact fun h=>(a3.1 h).1
  ·exact a3.2
  ·exact a4.2
  ·exact both (fun h=>(a5.1 h).2) (fun h=>by have:=a5.2 h;omega)
  ·exact a5.2
  ·exact both (fun h=>(a6.1 h).2) (fun h=>by have:=a6.2 h;omega)
  ·exact a6.2
  ·exact fun h=>by have:=a7.1 h;omega
  ·exact fun h=>by have:=a7.2 h;omega
  ·exact fun h=>by have:=a8.1 h;omega
  ·exact fun h=>by have:=a8.2 h;omega
  ·exact both (fun h=>by have:=a9.1 h;omega) (fun h=>by have:=a9.2 h;omega)
  ·exact fun h=>by have:=a9.2 h;omega
  ·exact both (fun h=>by have:=a10.1 h;omega) (fun h=>by have:=a10.2 h;omega)
  ·exact fun h=>by have:=a10.2 h;omega
 ·intro A;have A1:=A.d1;have A2:=A.o1;have A3:=A.b1;have A4:=A.m1;refine ⟨A.f,A.t,A.i,⟨fun h=>⟨A.c1 h,c1⟩,A.c0⟩,⟨fun h=>⟨s0,s1⟩,A.s0⟩,⟨fun h=>⟨b0,A.b1⟩,A.b0⟩,⟨fun h=>⟨m0,A.m1⟩,A.m0⟩,⟨fun h=>by have:=A.n1 h;omega,fun h=>by have:=A.n0 h;omega⟩,⟨fun h=>by have:=A.l1 h;omega,fun h=>by have:=A.l0 h;omega⟩,⟨fun h=>by omega,fun h=>by have:=A.d0 h;omega⟩,⟨fun h=>by omega,fun h=>by have:=A.o0 h;omega⟩⟩
end Go.Proofs.YtpdbeijfchmlgaaGreat
namespace Go.Proofs.YtpdbeijfchmlgaaGreat
open Go.RowKit
theorem not_asked {e:En} (ok:e.Ok) (h:¬ Asked e):rightB e=false:=by
 rw [Bool.eq_false_iff];exact fun h1=>h ((asked_iff e ok).1 h1)
theorem toList_nil (s:ByteArray):s.toList=[]↔(s.size:Int)=0:=by
 rw [ByteArray.toList_eq]
 show s.data.toList=[]↔(s.data.size:Int)=0
 rw [←Array.length_toList,←List.length_eq_zero_iff];omega
theorem asked_close {e:En} (ok:e.Ok) {b:Bool} (f:fb e.kind=true) (t:1≤e.term) (i:1≤e.index) (d:(e.data.size:Int)≤64) (o:(e.old.size:Int)≤64) (bl:e.block<4294967296) (m:e.many<4294967296)
 (F4:(hasL (fl e.kind) 99=true→1≤e.client)∧(hasL (fl e.kind) 99=false→e.client=0∧e.seq=0))
 (F6:(hasL (fl e.kind) 98=false→e.block=0)∧(hasL (fl e.kind) 109=false→e.many=0)∧(hasL (fl e.kind) 100=false→(e.data.size:Int)=0)∧(hasL (fl e.kind) 111=false→(e.old.size:Int)=0))
 (F8:(hasL (fl e.kind) 110=true→1≤e.node∧e.node≤7)∧(hasL (fl e.kind) 110=false→e.node=0))
 (hl:b=true↔((hasL (fl e.kind) 108=true→1≤e.level∧e.level≤2)∧(hasL (fl e.kind) 108=false→e.level=0))):b=rightB e:=by
 rw [Bool.eq_iff_iff,asked_iff e ok,hl];constructor
 ·rintro ⟨l1,l0⟩;exact ⟨f,t,i,F4.1,fun h=>(F4.2 h).1,fun h=>(F4.2 h).2,by omega,F6.1,by omega,F6.2.1,F8.1,F8.2,l1,l0,d,F6.2.2.1,o,F6.2.2.2⟩
 ·intro A;exact ⟨A.l1,A.l0⟩
structure Qx (B:Nat) (e:En) (w:World) (P:Prop) (b:Bool) (wx:World):Prop where
 no:b=true→¬ Asked e
 yes:b=false→P
 bx:Bx B e 24 wx
 be:Below B w wx
theorem drew_on {B:Nat} {w wx:World} (h:Below B w wx):Below B w wx.drew:=⟨h.os,h.tape,h.output,h.size,h.block⟩
theorem drewN_on {B:Nat} {w wx:World} (n:Nat) (h:Below B w wx):Below B w (wx.drewN n):=⟨h.os,h.tape,h.output,h.size,h.block⟩
theorem bx_drewN {B:Nat} {e:En} {wx:World} (n:Nat) (h:Bx B e 24 wx):Bx B e 24 (wx.drewN n):=⟨h.bx⟩
theorem bx_drew {B:Nat} {e:En} {wx:World} (h:Bx B e 24 wx):Bx B e 24 wx.drew:=⟨h.bx⟩
theorem rright_any (e:En) (w:World) (ok:e.Ok) :
 Calls Tryz.prog 65 #[ev e] w fun r w'=>r=.returned (.bool (rightB e))∧Below w.heap.size w w':=by
 have hs:(fl e.kind).size≤140737488355328:=by have:=fl_size e.kind;omega
 have hd1:=ok.d1;have ho1:=ok.o1
 have HF:Hid (∀ W:World,Bx w.heap.size e 24 W→Below w.heap.size w W→Calls Tryz.prog 27 #[.int .i64 e.kind] W fun r w'=>r=.returned (.tuple #[.string (fl e.kind),.bool (fb e.kind)])∧Bx w.heap.size e 24 w'∧Below w.heap.size w w') :=
  fun W g1 g2=>(rfields_any e.kind W).mono fun r w' ⟨h1,h2⟩=>⟨h1,g1.below h2,g2.trans (h2.mono g2.size)⟩
 have HH:Hid (∀ (c:Int) (W:World),Calls Tryz.prog 127 #[.string (fl e.kind),.int .u8 c] W fun r w'=>r=.returned (.bool (hasL (fl e.kind) c))∧w'=W) :=
  fun c W=>(has_any _ c W hs).mono fun r w' ⟨h1,h2⟩=>⟨h1,h2.symm⟩
 have hb0:Below w.heap.size w (w.alloc (Obj.cells (ec e) 24)):=zba;have hbx:Bx w.heap.size e 24 (w.alloc (Obj.cells (ec e) 24)):=⟨heap_alloc_new w _⟩;have d2:=hbx.cell 2;simp only [ec,List.getElem?_toArray,List.getElem?_cons_succ,List.getElem?_cons_zero] at d2;have HB:=zh hb0;have HX:=zh hbx;have OK:=zh ok;have k1:=ok.c0;have k2:=ok.s0;have k3:=ok.b0;have k4:=ok.m0;clear hb0 hbx ok
 go_enter Tryz.func65,Tryz.ntmps65
 go_wp2_with (first
  | (go_at_call 27;(with_reducible refine (HF.out _ HX.out HB.out).mono ?_);rintro r w1 ⟨rfl,hx1,hb1⟩;have c0:=hx1.cell 0;have c1:=hx1.cell 1;have c3:=hx1.cell 3;have c4:=hx1.cell 4;have c5:=hx1.cell 5;have c6:=hx1.cell 6;have c7:=hx1.cell 7;have c8:=hx1.cell 8;have c9:=hx1.cell 9;have c10:=hx1.cell 10;simp only [ec,List.getElem?_toArray,List.getElem?_cons_succ,List.getElem?_cons_zero] at c0 c1 c3 c4 c5 c6 c7 c8 c9 c10))
 all_goals try (go_ret;exact ⟨ret_bool (not_asked OK.out (fun A=>by have A1:=A.f;have A2:=A.t;have A3:=A.i;have A4:=A.b1;have A5:=A.m1;have A6:=A.d1;have A7:=A.o1;first|omega|simp_all)).symm,by assumption⟩)
 go_cut [60] from 45 to 60 (fun s wx=>∃ b:Bool,s=.bool b∧Qx w.heap.size e w ((hasL (fl e.kind) 99=true→1≤e.client)∧(hasL (fl e.kind) 99=false→e.client=0∧e.seq=0)) b wx)
 case first =>
  rcases hC:hasL (fl e.kind) 99 with _|_<;>rcases hp:decide (0<e.client) with _|_<;>rcases hq:decide (0<e.seq) with _|_
  all_goals
   go_quiet ((go_at_call 127;exact Calls.quiet_of_same (HH.out _ _)))
   go_wp2
   go_meet
   have hp':=hp;have hq':=hq;simp only [decide_eq_false_iff_not,decide_eq_true_eq] at hp' hq';refine ⟨_,rfl,⟨?_,?_,by first|assumption|exact bx_drew (by assumption)|exact bx_drewN _ (by assumption),by first|assumption|exact drew_on (by assumption)|exact drewN_on _ (by assumption)⟩⟩
   ·intro hb A;have A1:=A.c1;have A2:=A.c0;have A3:=A.s0
    simp [hC] at A1 A2 A3 hb<;>omega
   ·intro hb;constructor<;>intro h<;>simp_all<;>omega
 case rest =>
  obtain ⟨b,rfl,hq4⟩:=hcut;have hx2:=hq4.bx;have hb2:=hq4.be;have N4:=zh hq4.no;have Y4:=zh hq4.yes;clear hq4;have e5:=hx2.cell 5;have e6:=hx2.cell 6;have e7:=hx2.cell 7;have e8:=hx2.cell 8;have e9:=hx2.cell 9;have e10:=hx2.cell 10;simp only [ec,List.getElem?_toArray,List.getElem?_cons_succ,List.getElem?_cons_zero] at e5 e6 e7 e8 e9 e10
  cases b with
  | true =>
    have NA:=zh (not_asked OK.out (N4.out rfl));clear N4 Y4;go_wp2;go_ret;exact ⟨ret_bool NA.out.symm,hb2⟩
  | false =>
    have F4:=zh (Y4.out rfl);clear N4 Y4
    go_upto_region 6 with fail
    go_cut [98] from 61 to 98 (fun s wx=>∃ b:Bool,s=.bool b∧Qx w.heap.size e w ((hasL (fl e.kind) 98=false→e.block=0)∧(hasL (fl e.kind) 109=false→e.many=0)∧(hasL (fl e.kind) 100=false→(e.data.size:Int)=0)∧(hasL (fl e.kind) 111=false→(e.old.size:Int)=0)) b wx)
    case first =>
     go_wp2_with (go_at_call 127;(with_reducible refine (HH.out _ _).mono ?_);rintro r w' ⟨rfl,rfl⟩)
     all_goals
      go_meet
      refine ⟨_,rfl,⟨?_,?_,hx2,hb2⟩⟩
      ·intro hb A;have A1:=A.b0;have A2:=A.m0;have A3:=A.d0;have A4:=A.o0;have T1:=toList_nil e.data;have T2:=toList_nil e.old
       simp_all<;>omega
      ·intro hb;have T1:=toList_nil e.data;have T2:=toList_nil e.old;refine ⟨fun h=>?_,fun h=>?_,fun h=>?_,fun h=>?_⟩<;>simp_all<;>omega
    case rest =>
     obtain ⟨b,rfl,hq6⟩:=hcut;have hx3:=hq6.bx;have hb3:=hq6.be;have N6:=zh hq6.no;have Y6:=zh hq6.yes;clear hq6;have f7:=hx3.cell 7;have f8:=hx3.cell 8;simp only [ec,List.getElem?_toArray,List.getElem?_cons_succ,List.getElem?_cons_zero] at f7 f8
     cases b with
     | true =>
       have NA:=zh (not_asked OK.out (N6.out rfl));clear N6 Y6;go_wp2;go_ret;exact ⟨ret_bool NA.out.symm,hb3⟩
     | false =>
       have F6:=zh (Y6.out rfl);clear N6 Y6
       go_upto_region 8 with fail
       go_cut [120] from 99 to 120 (fun s wx=>∃ b:Bool,s=.bool b∧Qx w.heap.size e w ((hasL (fl e.kind) 110=true→1≤e.node∧e.node≤7)∧(hasL (fl e.kind) 110=false→e.node=0)) b wx)
       case first =>
        go_wp2_with (go_at_call 127;(with_reducible refine (HH.out _ _).mono ?_);rintro r w' ⟨rfl,rfl⟩)
        all_goals
         go_meet
         refine ⟨_,rfl,⟨?_,?_,hx3,hb3⟩⟩
         ·intro hb A;have A1:=A.n1;have A2:=A.n0
          simp_all<;>omega
         ·intro hb;refine ⟨fun h=>?_,fun h=>?_⟩<;>simp_all<;>omega
       case rest =>
        obtain ⟨b,rfl,hq8⟩:=hcut;have hx4:=hq8.bx;have hb4:=hq8.be;have N8:=zh hq8.no;have Y8:=zh hq8.yes;clear hq8;have g8:=hx4.cell 8;simp only [ec,List.getElem?_toArray,List.getElem?_cons_succ,List.getElem?_cons_zero] at g8
        cases b with
        | true =>
          have NA:=zh (not_asked OK.out (N8.out rfl));clear N8 Y8;go_wp2;go_ret;exact ⟨ret_bool NA.out.symm,hb4⟩
        | false =>
          have F8:=zh (Y8.out rfl);clear N8 Y8
          go_wp2_with (go_at_call 127;(with_reducible refine (HH.out _ _).mono ?_);rintro r w' ⟨rfl,rfl⟩)
          all_goals
           go_ret;refine ⟨ret_bool ?_,hb4⟩;refine asked_close OK.out (by assumption) (by omega) (by omega) (by omega) (by omega) (by omega) (by omega) F4.out F6.out F8.out ?_;clear HF HH d2 HB HX OK F4 F6 F8
           first|(simp_all;done)|(simp_all;omega)|(constructor<;>simp_all<;>omega)
end Go.Proofs.YtpdbeijfchmlgaaGreat
namespace Go.Proofs.YtpdbeijfchmlgaaGreat
open Go.RowKit
theorem cut64_size (s:ByteArray) (hs:s.size≤140737488351232):(cut64 s).size≤64:=by
 unfold cut64;rw [ByteArray.size_extract];omega
theorem lim_yes {L:ByteArray} {c n lo hi:Int} (hh:hasL L c=true) (h1:lo≤n) (h2:n≤hi):lim L c n lo hi=true:=by
 unfold lim;rw [if_pos hh,decide_eq_true h1,decide_eq_true h2];rfl
theorem lim_zero {L:ByteArray} {c n lo hi:Int} (hh:hasL L c=false) (h:n=0):lim L c n lo hi=true:=by
 unfold lim;rw [if_neg (by rw [hh];simp),h];rfl
theorem lim_if {L:ByteArray} {c lo hi:Int} {n:Int} (h1:lo≤n) (h2:n≤hi):lim L c (if hasL L c then n else 0) lo hi=true:=by
 cases hh:hasL L c with
 | true=>rw [if_pos rfl];exact lim_yes hh h1 h2
 | false=>rw [if_neg (by simp)];exact lim_zero hh rfl
theorem lim_ifw {L:ByteArray} {c lo hi:Int} {n:Int} (h0:0≤n) (h9:n≤9) (h1:lo≤n) (h2:n≤hi):lim L c (IntKind.u64.wrap (if hasL L c then n else 0)) lo hi=true:=by
 cases hh:hasL L c with
 | true=>rw [if_pos rfl,u64_id h0 (by omega)];exact lim_yes hh h1 h2
 | false=>rw [if_neg (by simp)];exact lim_zero hh rfl
theorem lim_ifs {L:ByteArray} {c:Int} {x:ByteArray} (h:x.size≤64):lim L c (IntKind.u64.wrap (((if hasL L c then x else ⟨#[]⟩:ByteArray).size:Nat):Int)) 0 64=true:=by
 cases hh:hasL L c with
 | true=>rw [if_pos rfl,u64_id (by omega) (by omega)];exact lim_yes hh (by omega) (by omega)
 | false=>rw [if_neg (by simp)];exact lim_zero hh rfl
theorem mk_right (e:En) (hd:e.data.size≤140737488351232) (ho:e.old.size≤140737488351232):rightB (mk e)=true:=by
 have r0:=Int.emod_nonneg e.kind (show (12:Int)≠0 by omega);have r1:=Int.emod_lt_of_pos e.kind (show (0:Int)<12 by omega);have k1:=cut64_size e.data hd;have k2:=cut64_size e.old ho;have hfb:fb (e.kind % 12)=true:=decide_eq_true (by omega)
 have w1:∀ (n m:Int),0<m→m≤7→1≤IntKind.u64.wrap n % m+1∧IntKind.u64.wrap n % m+1≤m:=fun n m h h'=>by
  have h1:=Int.emod_nonneg (IntKind.u64.wrap n) (show m≠0 by omega);have h2:=Int.emod_lt_of_pos (IntKind.u64.wrap n) h;omega
 have wn:=w1 e.node 7 (by omega) (by omega);have wl:=w1 e.level 2 (by omega) (by omega);have nt:1≤e.term % 1000+1:=by have:=Int.emod_nonneg e.term (show (1000:Int)≠0 by omega);omega
 have ni:1≤e.index % 1000+1:=by have:=Int.emod_nonneg e.index (show (1000:Int)≠0 by omega);omega
 have c1:=Int.emod_nonneg e.client (show (5:Int)≠0 by omega);have c2:=Int.emod_lt_of_pos e.client (show (0:Int)<5 by omega);have q1:=Int.emod_nonneg e.seq (show (9:Int)≠0 by omega);have q2:=Int.emod_lt_of_pos e.seq (show (0:Int)<9 by omega);have b1:=Int.emod_nonneg e.block (show (9:Int)≠0 by omega);have b2:=Int.emod_lt_of_pos e.block (show (0:Int)<9 by omega);have m1:=Int.emod_nonneg e.many (show (9:Int)≠0 by omega);have m2:=Int.emod_lt_of_pos e.many (show (0:Int)<9 by omega);unfold rightB asks;rw [List.all_eq_true];intro x hx;simp only [List.mem_cons,List.not_mem_nil,or_false] at hx
 rcases hx with rfl|rfl|rfl|rfl|rfl|rfl|rfl|rfl|rfl|rfl|rfl
 ·exact hfb
 ·exact decide_eq_true nt
 ·exact decide_eq_true ni
 ·exact lim_if (L:=fl (e.kind % 12)) (c:=99) (n:=e.client % 5+1) (by omega) (by omega)
 ·exact lim_if (L:=fl (e.kind % 12)) (c:=99) (n:=e.seq % 9) (by omega) (by omega)
 ·exact lim_if (L:=fl (e.kind % 12)) (c:=98) (n:=e.block % 9) (by omega) (by omega)
 ·exact lim_if (L:=fl (e.kind % 12)) (c:=109) (n:=e.many % 9) (by omega) (by omega)
 ·exact lim_ifw (L:=fl (e.kind % 12)) (c:=110) (n:=IntKind.u64.wrap e.node % 7+1) (by omega) (by omega) wn.1 wn.2
 ·exact lim_ifw (L:=fl (e.kind % 12)) (c:=108) (n:=IntKind.u64.wrap e.level % 2+1) (by omega) (by omega) wl.1 wl.2
 ·exact lim_ifs (L:=fl (e.kind % 12)) (c:=100) (x:=cut64 e.data) k1
 ·exact lim_ifs (L:=fl (e.kind % 12)) (c:=111) (x:=cut64 e.old) k2
theorem ite_bound {p:Prop} [Decidable p] {a:Int} (h:0≤a∧a≤9):0≤(if p then a else 0)∧(if p then a else 0)≤9:=by
 split
 ·exact h
 ·omega
theorem mk_facts (e:En) (ok:e.Ok):(mk e).Ok∧rightB (mk e)=true∧(mk e).data.size≤64∧(mk e).old.size≤64∧0≤(mk e).node∧(mk e).node≤9:=by
 have r0:=Int.emod_nonneg e.kind (show (12:Int)≠0 by omega);have r1:=Int.emod_lt_of_pos e.kind (show (0:Int)<12 by omega);have k1:=cut64_size e.data ok.d1;have k2:=cut64_size e.old ok.o1;have w1:∀ (n m:Int),0<m→0≤IntKind.u64.wrap n % m∧IntKind.u64.wrap n % m<m:=fun n m h=>⟨Int.emod_nonneg _ (by omega),Int.emod_lt_of_pos _ h⟩;have wn:=w1 e.node 7 (by omega);have wl:=w1 e.level 2 (by omega);have g1:=Int.emod_nonneg e.term (show (1000:Int)≠0 by omega);have g2:=Int.emod_lt_of_pos e.term (show (0:Int)<1000 by omega);have g3:=Int.emod_nonneg e.index (show (1000:Int)≠0 by omega);have g4:=Int.emod_lt_of_pos e.index (show (0:Int)<1000 by omega);have c1:=Int.emod_nonneg e.client (show (5:Int)≠0 by omega);have c2:=Int.emod_lt_of_pos e.client (show (0:Int)<5 by omega);have q1:=Int.emod_nonneg e.seq (show (9:Int)≠0 by omega);have q2:=Int.emod_lt_of_pos e.seq (show (0:Int)<9 by omega);have b1:=Int.emod_nonneg e.block (show (9:Int)≠0 by omega);have b2:=Int.emod_lt_of_pos e.block (show (0:Int)<9 by omega);have m1:=Int.emod_nonneg e.many (show (9:Int)≠0 by omega);have m2:=Int.emod_lt_of_pos e.many (show (0:Int)<9 by omega);have hdat:(mk e).data.size≤64:=by show ((if _ then cut64 e.data else ⟨#[]⟩:ByteArray)).size≤64;split;exact k1;decide
 have hold:(mk e).old.size≤64:=by show ((if _ then cut64 e.old else ⟨#[]⟩:ByteArray)).size≤64;split;exact k2;decide
 have hn2:0≤IntKind.u64.wrap e.node % 7+1∧IntKind.u64.wrap e.node % 7+1≤9:=by omega
 have hl2:0≤IntKind.u64.wrap e.level % 2+1∧IntKind.u64.wrap e.level % 2+1≤9:=by omega
 have hn:0≤(mk e).node∧(mk e).node≤9:=ite_bound hn2;have hl:0≤(mk e).level∧(mk e).level≤9:=ite_bound hl2;refine ⟨?_,mk_right e ok.d1 ok.o1,hdat,hold,hn.1,hn.2⟩;constructor
 all_goals first
  | exact Int.le_trans (by omega) hn.1
  | exact Int.le_trans hn.2 (by omega)
  | exact Int.le_trans (by omega) hl.1
  | exact Int.le_trans hl.2 (by omega)
  | exact Nat.le_trans hdat (by omega)
  | exact Nat.le_trans hold (by omega)
  | (unfold mk part;dsimp only;omega)
  | (unfold mk part;dsimp only;split<;>omega)
end Go.Proofs.YtpdbeijfchmlgaaGreat
namespace Go.Proofs.YtpdbeijfchmlgaaGreat
open Go.RowKit
open Vi
structure Few_b (e:En):Prop where
 k0:0≤e.kind
 k1:e.kind≤11
 n0:0≤e.node
 n1:e.node≤7
 l0:0≤e.level
 l1:e.level≤2
 d:e.data.size≤64
 o:e.old.size≤64
 b:e.block≤4294967295
 m:e.many≤4294967295
theorem few_of_b {e:En} (ok:e.Ok) (h:rightB e=true):Few_b e:=by
 have A:=(asked_iff e ok).1 h;have f:0≤e.kind∧e.kind≤11:=of_decide_eq_true A.f;have hd:=A.d1;have ho:=A.o1;refine ⟨f.1,f.2,?_,?_,?_,?_,by omega,by omega,A.b1,A.m1⟩
 ·exact both (fun h=>by have:=A.n1 h;omega) (fun h=>by have:=A.n0 h;omega)
 ·exact both (fun h=>by have:=A.n1 h;omega) (fun h=>by have:=A.n0 h;omega)
 ·exact both (fun h=>by have:=A.l1 h;omega) (fun h=>by have:=A.l0 h;omega)
 ·exact both (fun h=>by have:=A.l1 h;omega) (fun h=>by have:=A.l0 h;omega)
def nb (v:Int):ByteArray:=if v=0 then ⟨#[]⟩ else putB v.toNat
def tb (d:ByteArray):ByteArray:=if d.size=0 then ⟨#[]⟩ else putB d.size++d
theorem nb_size0 (v:Int):(nb v).size=0↔v=0:=by
 unfold nb
 by_cases h:v=0
 ·rw [if_pos h];exact ⟨fun _=>h,fun _=>rfl⟩
 ·rw [if_neg h]
  have:=putB_pos_b v.toNat
  exact ⟨fun e=>by omega,fun e=>absurd e h⟩
theorem size0 (d:ByteArray):d.size=0↔d=⟨#[]⟩:=by
 constructor
 ·intro h;exact ByteArray.ext (Array.eq_empty_of_size_eq_zero h)
 ·rintro rfl;rfl
theorem tb_size0 (d:ByteArray):(tb d).size=0↔d=⟨#[]⟩:=by
 unfold tb
 by_cases h:d.size=0
 ·rw [if_pos h];exact ⟨fun _=>(size0 d).1 h,fun _=>rfl⟩
 ·rw [if_neg h,ByteArray.size_append]
  have:=putB_pos_b d.size
  exact ⟨fun e=>by omega,fun e=>absurd ((size0 d).2 e) h⟩
theorem nb_emp (v:Int):nb v=ByteArray.empty↔v=0:=by rw [←nb_size0];exact (size0 _).symm
theorem tb_emp (d:ByteArray):tb d=ByteArray.empty↔d=⟨#[]⟩:=by rw [←tb_size0];exact (size0 _).symm
def fP:Nat→En→ByteArray
 | 1,X=>nb X.kind
 | 2,X=>nb X.term
 | 3,X=>nb X.index
 | 4,X=>nb X.client
 | 5,X=>nb X.seq
 | 6,X=>nb X.block
 | 7,X=>nb X.many
 | 8,X=>nb X.node
 | 9,X=>nb X.level
 | 10,X=>tb X.data
 | 11,X=>tb X.old
 | _,_=>⟨#[]⟩
def setN:Nat→En→Nat→En
 | 1,E,v=>{ E with kind:=IntKind.i64.wrap v }
 | 2,E,v=>{ E with term:=v }
 | 3,E,v=>{ E with index:=v }
 | 4,E,v=>{ E with client:=v }
 | 5,E,v=>{ E with seq:=v }
 | 6,E,v=>{ E with block:=v }
 | 7,E,v=>{ E with many:=v }
 | 8,E,v=>{ E with node:=IntKind.i64.wrap v }
 | 9,E,v=>{ E with level:=IntKind.i64.wrap v }
 | _,E,_=>E
def setR:Nat→En→Nat→En
 | 1,E,v=>{ E with kind:=((v % 1000:Nat):Int) }
 | 8,E,v=>{ E with node:=((v % 1000:Nat):Int) }
 | 9,E,v=>{ E with level:=((v % 1000:Nat):Int) }
 | t,E,v=>setN t E v
def setT:Nat→En→ByteArray→En
 | 10,E,d=>{ E with data:=d }
 | 11,E,d=>{ E with old:=d }
 | _,E,_=>E
def cutE (X:En) (k:Nat):En :=
 { term:=if 2≤k then X.term else 0,index:=if 3≤k then X.index else 0,kind:=if 1≤k then X.kind else 0,client:=if 4≤k then X.client else 0,seq:=if 5≤k then X.seq else 0,block:=if 6≤k then X.block else 0,many:=if 7≤k then X.many else 0,node:=if 8≤k then X.node else 0,level:=if 9≤k then X.level else 0,data:=if 10≤k then X.data else ⟨#[]⟩,old:=if 11≤k then X.old else ⟨#[]⟩ }
def fS (t:Nat) (E:En) (T:ByteArray):En×ByteArray×Bool :=
 if t≤9 then (setN t E (varV T),if varV T=0 then ⟨#[]⟩ else varT T,varO T&&decide (varV T≠0))
 else (setT t E (texV T),if (texV T).size=0 then ⟨#[]⟩ else texT T,texO T&&decide ((texV T).size≠0))
def fR (t:Nat) (E:En) (T:ByteArray):En×ByteArray×Bool :=
 if t=10∨t=11 then (setT t E (texV T),texT T,texO T)
 else if t≤9 then (setR t E (varV T),varT T,varO T)
 else (E,⟨#[]⟩,false)
abbrev eF:Fmt En:={ P:=fP,S:=fS,cut:=cutE,ok:=fun X=>X.Ok∧Few_b X }
theorem tag_cases {t:Nat} (h1:1≤t) (h2:t≤11):t=1∨t=2∨t=3∨t=4∨t=5∨t=6∨t=7∨t=8∨t=9∨t=10∨t=11:=by omega
theorem e_cuts:eF.Cuts where
 c11 X:=by
  show cutE X 11=X
  unfold cutE
  simp
 cc X a b h:=by
  show cutE (cutE X a) b=cutE X a
  unfold cutE;simp only [En.mk.injEq];refine ⟨?_,?_,?_,?_,?_,?_,?_,?_,?_,?_,?_⟩<;>(repeat' split)<;>first|rfl|omega
 cc' X a b h:=by
  show cutE (cutE X a) b=cutE X b
  unfold cutE;simp only [En.mk.injEq];refine ⟨?_,?_,?_,?_,?_,?_,?_,?_,?_,?_,?_⟩<;>(repeat' split)<;>first|rfl|omega
 skip X t ok h1 h2:=by
  show (fP t X).size=0↔cutE X t=cutE X (t-1)
  rcases tag_cases h1 h2 with rfl|rfl|rfl|rfl|rfl|rfl|rfl|rfl|rfl|rfl|rfl<;>simp [fP,cutE,nb_emp,tb_emp]
theorem S_num {t:Nat} (ht:t≤9) (E:En) (v:Int) (h0:v≠0) (h1:0≤v) (h2:v≤18446744073709551615) (T:ByteArray):fS t E (nb v++T)=(setN t E v.toNat,T,true):=by
 obtain ⟨v1,v2,v3⟩:=var_put_b v.toNat (by omega) T;have hne:v.toNat≠0:=by omega
 unfold fS nb;rw [if_pos ht,if_neg h0,v1,v2,v3,if_neg hne,decide_eq_true hne];rfl
theorem R_num {t:Nat} (ht:t≤9) (E:En) (v:Int) (h0:v≠0) (h1:0≤v) (h2:v≤18446744073709551615) (T:ByteArray):fR t E (nb v++T)=(setR t E v.toNat,T,true):=by
 obtain ⟨v1,v2,v3⟩:=var_put_b v.toNat (by omega) T;unfold fR nb;rw [if_neg (by omega),if_pos ht,if_neg h0,v1,v2,v3]
theorem S_tex {t:Nat} (ht:9<t) (E:En) (d:ByteArray) (h0:d.size≠0) (h2:d.size≤281474976710656) (T:ByteArray):fS t E (tb d++T)=(setT t E d,T,true):=by
 obtain ⟨v1,v2,v3⟩:=tex_put d T (by omega);unfold fS tb;rw [if_neg (by omega),if_neg h0,append_assoc3,v1,v2,v3,if_neg h0,decide_eq_true h0];rfl
theorem R_tex {t:Nat} (ht:t=10∨t=11) (E:En) (d:ByteArray) (h0:d.size≠0) (h2:d.size≤281474976710656) (T:ByteArray):fR t E (tb d++T)=(setT t E d,T,true):=by
 obtain ⟨v1,v2,v3⟩:=tex_put d T (by omega);unfold fR tb;rw [if_pos ht,if_neg h0,append_assoc3,v1,v2,v3]
theorem w64 {v:Int} (h0:0≤v) (h1:v≤1000):IntKind.i64.wrap (max v 0)=v:=by
 rw [show max v 0=v by omega];exact IntWalk.i64_in _ (by omega)
theorem e_bounds {X:En} (ok:X.Ok) (fw:Few_b X):(0≤X.kind∧X.kind≤1000)∧(0≤X.term∧X.term≤18446744073709551615)∧(0≤X.index∧X.index≤18446744073709551615)∧(0≤X.client∧X.client≤18446744073709551615)∧(0≤X.seq∧X.seq≤18446744073709551615)∧(0≤X.block∧X.block≤18446744073709551615)∧(0≤X.many∧X.many≤18446744073709551615)∧(0≤X.node∧X.node≤1000)∧(0≤X.level∧X.level≤1000)∧X.data.size≤64∧X.old.size≤64:=by
 have k1:=fw.k1;have n1:=fw.n1;have l1:=fw.l1;have b1:=fw.b;have m1:=fw.m;exact ⟨⟨fw.k0,by omega⟩,⟨ok.t0,ok.t1⟩,⟨ok.i0,ok.i1⟩,⟨ok.c0,ok.c1⟩,⟨ok.s0,ok.s1⟩,⟨ok.b0,by omega⟩,⟨ok.m0,by omega⟩,⟨fw.n0,by omega⟩,⟨fw.l0,by omega⟩,fw.d,fw.o⟩
theorem nb_ne {v:Int} (h:(nb v).size≠0):v≠0:=fun e=>h ((nb_size0 v).2 e)
theorem tb_ne {d:ByteArray} (h:(tb d).size≠0):d.size≠0:=fun e=>h ((tb_size0 d).2 ((size0 d).1 e))
theorem e_put:eF.Put fS:=by
 intro X t T ⟨ok,fw⟩ h1 h2 hz
 show fS t (cutE X (t-1)) (fP t X++T)=(cutE X t,T,true)
 have hz:(fP t X).size≠0:=hz;obtain ⟨a1,a2,a3,a4,a5,a6,a7,a8,a9,a10,a11⟩:=e_bounds ok fw
 rcases tag_cases h1 h2 with rfl|rfl|rfl|rfl|rfl|rfl|rfl|rfl|rfl|rfl|rfl
 ·refine (S_num (by omega) _ X.kind (nb_ne hz) a1.1 (by omega) T).trans ?_
  simp [setN,cutE,w64 a1.1 a1.2]
 ·refine (S_num (by omega) _ X.term (nb_ne hz) a2.1 a2.2 T).trans ?_
  simp [setN,cutE];omega
 ·refine (S_num (by omega) _ X.index (nb_ne hz) a3.1 a3.2 T).trans ?_
  simp [setN,cutE];omega
 ·refine (S_num (by omega) _ X.client (nb_ne hz) a4.1 a4.2 T).trans ?_
  simp [setN,cutE];omega
 ·refine (S_num (by omega) _ X.seq (nb_ne hz) a5.1 a5.2 T).trans ?_
  simp [setN,cutE];omega
 ·refine (S_num (by omega) _ X.block (nb_ne hz) a6.1 a6.2 T).trans ?_
  simp [setN,cutE];omega
 ·refine (S_num (by omega) _ X.many (nb_ne hz) a7.1 a7.2 T).trans ?_
  simp [setN,cutE];omega
 ·refine (S_num (by omega) _ X.node (nb_ne hz) a8.1 (by omega) T).trans ?_
  simp [setN,cutE,w64 a8.1 a8.2]
 ·refine (S_num (by omega) _ X.level (nb_ne hz) a9.1 (by omega) T).trans ?_
  simp [setN,cutE,w64 a9.1 a9.2]
 ·refine (S_tex (by omega) _ X.data (tb_ne hz) (by omega) T).trans ?_
  simp [setT,cutE]
 ·refine (S_tex (by omega) _ X.old (tb_ne hz) (by omega) T).trans ?_
  simp [setT,cutE]
theorem e_rput:eF.Put fR:=by
 intro X t T ⟨ok,fw⟩ h1 h2 hz
 show fR t (cutE X (t-1)) (fP t X++T)=(cutE X t,T,true)
 have hz:(fP t X).size≠0:=hz;have k1:=fw.k1;have n1:=fw.n1;have l1:=fw.l1;obtain ⟨a1,a2,a3,a4,a5,a6,a7,a8,a9,a10,a11⟩:=e_bounds ok fw
 rcases tag_cases h1 h2 with rfl|rfl|rfl|rfl|rfl|rfl|rfl|rfl|rfl|rfl|rfl
 ·refine (R_num (by omega) _ X.kind (nb_ne hz) a1.1 (by omega) T).trans ?_
  simp [setR,setN,cutE];omega
 ·refine (R_num (by omega) _ X.term (nb_ne hz) a2.1 a2.2 T).trans ?_
  simp [setR,setN,cutE];omega
 ·refine (R_num (by omega) _ X.index (nb_ne hz) a3.1 a3.2 T).trans ?_
  simp [setR,setN,cutE];omega
 ·refine (R_num (by omega) _ X.client (nb_ne hz) a4.1 a4.2 T).trans ?_
  simp [setR,setN,cutE];omega
 ·refine (R_num (by omega) _ X.seq (nb_ne hz) a5.1 a5.2 T).trans ?_
  simp [setR,setN,cutE];omega
 ·refine (R_num (by omega) _ X.block (nb_ne hz) a6.1 a6.2 T).trans ?_
  simp [setR,setN,cutE];omega
 ·refine (R_num (by omega) _ X.many (nb_ne hz) a7.1 a7.2 T).trans ?_
  simp [setR,setN,cutE];omega
 ·refine (R_num (by omega) _ X.node (nb_ne hz) a8.1 (by omega) T).trans ?_
  simp [setR,setN,cutE];omega
 ·refine (R_num (by omega) _ X.level (nb_ne hz) a9.1 (by omega) T).trans ?_
  simp [setR,setN,cutE];omega
 ·refine (R_tex (.inl rfl) _ X.data (tb_ne hz) (by omega) T).trans ?_
  simp [setT,cutE]
 ·refine (R_tex (.inr rfl) _ X.old (tb_ne hz) (by omega) T).trans ?_
  simp [setT,cutE]
theorem cut_setN {t:Nat} (h1:1≤t) (h2:t≤9) (E:En) (v:Nat):cutE (setN t E v) t=setN t (cutE E (t-1)) v∧cutE (setN t E v) (t-1)=cutE E (t-1):=by
 rcases tag_cases h1 (by omega) with rfl|rfl|rfl|rfl|rfl|rfl|rfl|rfl|rfl|rfl|rfl<;>first|omega|simp [setN,cutE]
theorem cut_setT {t:Nat} (h1:t=10∨t=11) (E:En) (d:ByteArray):cutE (setT t E d) t=setT t (cutE E (t-1)) d∧cutE (setT t E d) (t-1)=cutE E (t-1):=by
 rcases h1 with rfl|rfl<;>simp [setT,cutE]
theorem e_stay:eF.Stay:=by
 intro t E T h1 h2 hE
 show cutE (fS t E T).1 t=(fS t E T).1
 have hE:cutE E (t-1)=E:=hE;unfold fS
 by_cases ht:t≤9
 ·rw [if_pos ht]
  show cutE (setN t E (varV T)) t=setN t E (varV T)
  rw [(cut_setN h1 ht E _).1,hE]
 ·rw [if_neg ht]
  show cutE (setT t E (texV T)) t=setT t E (texV T)
  rw [(cut_setT (by omega) E _).1,hE]
theorem wrap_back {n:Nat} {v:Int} (hn:n<18446744073709551616) (h:IntKind.i64.wrap (n:Int)=v) (h0:0≤v):(n:Int)=v:=by
 rw [IntKind.wrap_i64] at h;omega
theorem val_of {t:Nat} (h1:1≤t) (h2:t≤9) {X E:En} {n:Nat} (ok:X.Ok) (fw:Few_b X) (hn:n<18446744073709551616) (h0:n≠0) (h:setN t E n=cutE X t):fP t X=putB n:=by
 obtain ⟨a1,a2,a3,a4,a5,a6,a7,a8,a9,a10,a11⟩:=e_bounds ok fw
 have fin:∀ v:Int,(n:Int)=v→nb v=putB n:=by
  intro v hv;unfold nb;rw [if_neg (by omega),←hv,Int.toNat_natCast]
 rcases tag_cases h1 (by omega) with rfl|rfl|rfl|rfl|rfl|rfl|rfl|rfl|rfl|rfl|rfl
 ·have e:=congrArg En.kind h
  simp [setN,cutE] at e
  exact fin _ (wrap_back hn e a1.1)
 ·have e:=congrArg En.term h
  simp [setN,cutE] at e
  exact fin _ e
 ·have e:=congrArg En.index h
  simp [setN,cutE] at e
  exact fin _ e
 ·have e:=congrArg En.client h
  simp [setN,cutE] at e
  exact fin _ e
 ·have e:=congrArg En.seq h
  simp [setN,cutE] at e
  exact fin _ e
 ·have e:=congrArg En.block h
  simp [setN,cutE] at e
  exact fin _ e
 ·have e:=congrArg En.many h
  simp [setN,cutE] at e
  exact fin _ e
 ·have e:=congrArg En.node h
  simp [setN,cutE] at e
  exact fin _ (wrap_back hn e a8.1)
 ·have e:=congrArg En.level h
  simp [setN,cutE] at e
  exact fin _ (wrap_back hn e a9.1)
 ·omega
 ·omega
theorem e_sound:eF.Sound:=by
 intro X t E T T2 ⟨ok,fw⟩ h1 h2 h hE;have hE:cutE E (t-1)=E:=hE;have h:fS t E T=(cutE X t,T2,true):=h
 show T=fP t X++T2∧(fP t X).size≠0∧cutE X (t-1)=E
 unfold fS at h
 have hback:∀ Y:En,Y=cutE X t→cutE Y (t-1)=cutE E (t-1)→cutE X (t-1)=E:=by
  intro Y hY hYE;have h4:=e_cuts.cc' X t (t-1) (by omega);have h4:cutE (cutE X t) (t-1)=cutE X (t-1):=h4;rw [←h4,←hY,hYE,hE]
 by_cases ht:t≤9
 ·rw [if_pos ht] at h;have e1:setN t E (varV T)=cutE X t:=congrArg (·.1) h;have e2:(if varV T=0 then (⟨#[]⟩:ByteArray) else varT T)=T2:=congrArg (·.2.1) h;have e3:(varO T&&decide (varV T≠0))=true:=congrArg (·.2.2) h;rw [Bool.and_eq_true,decide_eq_true_eq] at e3;rw [if_neg e3.2] at e2;have hv:=val_of h1 ht ok fw (varV_lt T) e3.2 e1;have hs:=var_sound_b T e3.1;rw [e2] at hs;refine ⟨by rw [hv];exact hs.symm,?_,hback _ e1 (cut_setN h1 ht E _).2⟩;rw [hv]
  have:=putB_pos_b (varV T)
  omega
 ·rw [if_neg ht] at h;have e1:setT t E (texV T)=cutE X t:=congrArg (·.1) h;have e2:(if (texV T).size=0 then (⟨#[]⟩:ByteArray) else texT T)=T2:=congrArg (·.2.1) h;have e3:(texO T&&decide ((texV T).size≠0))=true:=congrArg (·.2.2) h;rw [Bool.and_eq_true,decide_eq_true_eq] at e3;rw [if_neg e3.2] at e2;have htt:t=10∨t=11:=by omega
  have hv:fP t X=tb (texV T):=by
   rcases htt with rfl|rfl
   ·have e:=congrArg En.data e1
    simp [setT,cutE] at e
    show tb X.data=_
    rw [←e]
   ·have e:=congrArg En.old e1
    simp [setT,cutE] at e
    show tb X.old=_
    rw [←e]
  have hs:=tex_sound T e3.1;rw [e2] at hs;have htb:tb (texV T)=putB (texV T).size++texV T:=by unfold tb;rw [if_neg e3.2]
  refine ⟨by rw [hv,htb,append_assoc3];exact hs.symm,?_,hback _ e1 (cut_setT htt E _).2⟩;rw [hv,htb,ByteArray.size_append]
  have:=putB_pos_b (texV T).size
  omega
abbrev ezz0:En:=⟨0,0,0,0,0,0,0,0,0,⟨#[]⟩,⟨#[]⟩⟩
def eR (s:ByteArray) (b:Bool):En×ByteArray×Bool:=pk eF 12 0 ezz0 s b
def eRr (s:ByteArray) (b:Bool):En×ByteArray×Bool:=rk fR 12 ezz0 s b
def sbE (X:En):ByteArray:=secB eF X
theorem cut_zero (X:En):cutE X 0=ezz0:=by unfold cutE;simp
theorem eR_put {X:En} (ok:X.Ok) (fw:Few_b X) (r:ByteArray):eR (sbE X++r) false=(X,r,false)∧eRr (sbE X++r) false=(X,r,false):=by
 have h1:=pk_put e_cuts e_put (X:=X) ⟨ok,fw⟩ r 11 12 0 (by omega) (by omega) (by omega);have h2:=rk_put e_cuts e_rput (X:=X) ⟨ok,fw⟩ r 11 12 (by omega) (by omega);rw [show 11-11=0 from rfl] at h1 h2;have hz:eF.cut X 0=ezz0:=cut_zero X;rw [hz] at h1 h2;unfold eR eRr sbE;rw [secB_enc];exact ⟨h1,h2⟩
theorem eR_sound {X:En} (ok:X.Ok) (fw:Few_b X) {s r:ByteArray} {b:Bool} (h:eR s b=(X,r,false)):b=false∧s=sbE X++r:=by
 have h1:=pk_sound e_cuts e_stay e_sound (X:=X) ⟨ok,fw⟩ (T':=r) 12 0 ezz0 s b (by omega) (by omega) (cut_zero _) h;unfold sbE;rw [secB_enc];exact ⟨h1.1,h1.2.2⟩
end Go.Proofs.YtpdbeijfchmlgaaGreat
