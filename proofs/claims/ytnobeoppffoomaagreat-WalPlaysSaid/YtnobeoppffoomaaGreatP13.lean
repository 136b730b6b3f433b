/-
  WalPlays: RR RPut.
  Conditions: named in each theorem.
-/
import Derived.Test.YtnobeoppffoomaaGreatP05
import Derived.Test.YtnobeoppffoomaaGreatP06
import Derived.Deep.CutRange
import Derived.Test.YtnobeoppffoomaaGreatP12
import Derived.Lib.ItoaMem
import Derived.Test.YtnobeoppffoomaaGreatP0
set_option linter.unusedVariables false
set_option linter.unusedSimpArgs false
set_option maxHeartbeats 8000000
set_option maxRecDepth 100000
namespace Go.Proofs.YtnobeoppffoomaaGreat
open Go.RowKit
theorem not_asked {e:En} (ok:e.Ok) (h:¬ Asked e):rightB e=false:=by
 rw [Bool.eq_false_iff]
 exact fun h1=>h ((asked_iff e ok).1 h1)
theorem toList_nil (s:ByteArray):s.toList=[]↔(s.size:Int)=0:=by
 rw [ByteArray.toList_eq]
 show s.data.toList=[]↔(s.data.size:Int)=0
 rw [←Array.length_toList,←List.length_eq_zero_iff]
 omega
theorem asked_close {e:En} (ok:e.Ok) {b:Bool} (f:fb e.kind=true) (t:1≤e.term) (i:1≤e.index) (d:(e.data.size:Int)≤64) (o:(e.old.size:Int)≤64) (bl:e.block<4294967296) (m:e.many<4294967296)
 (F4:(hasL (fl e.kind) 99=true→1≤e.client)∧(hasL (fl e.kind) 99=false→e.client=0∧e.seq=0))
 (F6:(hasL (fl e.kind) 98=false→e.block=0)∧(hasL (fl e.kind) 109=false→e.many=0)∧(hasL (fl e.kind) 100=false→(e.data.size:Int)=0)∧(hasL (fl e.kind) 111=false→(e.old.size:Int)=0))
 (F8:(hasL (fl e.kind) 110=true→1≤e.node∧e.node≤7)∧(hasL (fl e.kind) 110=false→e.node=0))
 (hl:b=true↔((hasL (fl e.kind) 108=true→1≤e.level∧e.level≤2)∧(hasL (fl e.kind) 108=false→e.level=0))):b=rightB e:=by
 rw [Bool.eq_iff_iff,asked_iff e ok,hl]
 constructor
 ·rintro ⟨l1,l0⟩
  exact ⟨f,t,i,F4.1,fun h=>(F4.2 h).1,fun h=>(F4.2 h).2,by omega,F6.1,by omega,F6.2.1,F8.1,F8.2,l1,l0,d,F6.2.2.1,o,F6.2.2.2⟩
 ·intro A
  exact ⟨A.l1,A.l0⟩
structure Qx (B:Nat) (e:En) (w:World) (P:Prop) (b:Bool) (wx:World):Prop where
 no:b=true→¬ Asked e
 yes:b=false→P
 bx:Bx B e 28 wx
 be:Below B w wx
theorem drew_on {B:Nat} {w wx:World} (h:Below B w wx):Below B w wx.drew:=⟨h.os,h.tape,h.output,h.size,h.block⟩
theorem drewN_on {B:Nat} {w wx:World} (n:Nat) (h:Below B w wx):Below B w (wx.drewN n):=⟨h.os,h.tape,h.output,h.size,h.block⟩
theorem bx_drewN {B:Nat} {e:En} {wx:World} (n:Nat) (h:Bx B e 28 wx):Bx B e 28 (wx.drewN n):=⟨h.bx⟩
theorem bx_drew {B:Nat} {e:En} {wx:World} (h:Bx B e 28 wx):Bx B e 28 wx.drew:=⟨h.bx⟩
theorem rright_any (e:En) (w:World) (ok:e.Ok) :
 Calls Tryz.prog 112 #[ev e] w fun r w'=>r=.returned (.bool (rightB e))∧Below w.heap.size w w':=by
 have hs:(fl e.kind).size≤140737488355328:=by have:=fl_size e.kind;omega
 have hd1:=ok.d1
 have ho1:=ok.o1
 have HF:Hid (∀ W:World,Bx w.heap.size e 28 W→Below w.heap.size w W→Calls Tryz.prog 34 #[.int .i64 e.kind] W fun r w'=>r=.returned (.tuple #[.string (fl e.kind),.bool (fb e.kind)])∧Bx w.heap.size e 28 w'∧Below w.heap.size w w') :=
  fun W g1 g2=>(rfields_any e.kind W).mono fun r w' ⟨h1,h2⟩=>⟨h1,g1.below h2,g2.trans (h2.mono g2.size)⟩
 have HH:Hid (∀ (c:Int) (W:World),Calls Tryz.prog 153 #[.string (fl e.kind),.int .u8 c] W fun r w'=>r=.returned (.bool (hasL (fl e.kind) c))∧w'=W) :=
  fun c W=>(has_any _ c W hs).mono fun r w' ⟨h1,h2⟩=>⟨h1,h2.symm⟩
 have hb0:Below w.heap.size w (w.alloc (Obj.cells (ec e) 28)):=(Below.refl _ _).alloc (Nat.le_refl _) _
 have hbx:Bx w.heap.size e 28 (w.alloc (Obj.cells (ec e) 28)):=⟨heap_alloc_new w _⟩
 have d2:=hbx.cell 2
 simp only [ec,List.getElem?_toArray,List.getElem?_cons_succ,List.getElem?_cons_zero] at d2
 have HB:=zh hb0
 have HX:=zh hbx
 have OK:=zh ok
 have k1:=ok.c0
 have k2:=ok.s0
 have k3:=ok.b0
 have k4:=ok.m0
 clear hb0 hbx ok
 go_enter Tryz.func112,Tryz.ntmps112
 go_wp2_with (first
  | (go_at_call 34;(with_reducible refine (HF.out _ HX.out HB.out).mono ?_);rintro r w1 ⟨rfl,hx1,hb1⟩;have c0:=hx1.cell 0;have c1:=hx1.cell 1;have c3:=hx1.cell 3;have c4:=hx1.cell 4;have c5:=hx1.cell 5;have c6:=hx1.cell 6;have c7:=hx1.cell 7;have c8:=hx1.cell 8;have c9:=hx1.cell 9;have c10:=hx1.cell 10;simp only [ec,List.getElem?_toArray,List.getElem?_cons_succ,List.getElem?_cons_zero] at c0 c1 c3 c4 c5 c6 c7 c8 c9 c10))
 all_goals try (go_ret;exact ⟨ret_bool (not_asked OK.out (fun A=>by have A1:=A.f;have A2:=A.t;have A3:=A.i;have A4:=A.b1;have A5:=A.m1;have A6:=A.d1;have A7:=A.o1;first|omega|simp_all)).symm,by assumption⟩)
 go_cut [60] from 45 to 60 (fun s wx=>∃ b:Bool,s=.bool b∧Qx w.heap.size e w ((hasL (fl e.kind) 99=true→1≤e.client)∧(hasL (fl e.kind) 99=false→e.client=0∧e.seq=0)) b wx)
 case first =>
  rcases hC:hasL (fl e.kind) 99 with _|_<;>rcases hp:decide (0<e.client) with _|_<;>rcases hq:decide (0<e.seq) with _|_
  all_goals
   go_quiet ((go_at_call 153;exact Calls.quiet_of_same (HH.out _ _)))
   go_wp2
   go_meet
   have hp':=hp
   have hq':=hq
   simp only [decide_eq_false_iff_not,decide_eq_true_eq] at hp' hq'
   refine ⟨_,rfl,⟨?_,?_,by first|assumption|exact bx_drew (by assumption)|exact bx_drewN _ (by assumption),by first|assumption|exact drew_on (by assumption)|exact drewN_on _ (by assumption)⟩⟩
   ·intro hb A
    have A1:=A.c1
    have A2:=A.c0
    have A3:=A.s0
    simp [hC] at A1 A2 A3 hb<;>omega
   ·intro hb;constructor<;>intro h<;>simp_all<;>omega
 case rest =>
  obtain ⟨b,rfl,hq4⟩:=hcut
  have hx2:=hq4.bx
  have hb2:=hq4.be
  have N4:=zh hq4.no
  have Y4:=zh hq4.yes
  clear hq4
  have e5:=hx2.cell 5
  have e6:=hx2.cell 6
  have e7:=hx2.cell 7
  have e8:=hx2.cell 8
  have e9:=hx2.cell 9
  have e10:=hx2.cell 10
  simp only [ec,List.getElem?_toArray,List.getElem?_cons_succ,List.getElem?_cons_zero] at e5 e6 e7 e8 e9 e10
  cases b with
  | true =>
    have NA:=zh (not_asked OK.out (N4.out rfl))
    clear N4 Y4
    go_wp2
    go_ret
    exact ⟨ret_bool NA.out.symm,hb2⟩
  | false =>
    have F4:=zh (Y4.out rfl)
    clear N4 Y4
    go_upto_region 6 with fail
    go_cut [98] from 61 to 98 (fun s wx=>∃ b:Bool,s=.bool b∧Qx w.heap.size e w ((hasL (fl e.kind) 98=false→e.block=0)∧(hasL (fl e.kind) 109=false→e.many=0)∧(hasL (fl e.kind) 100=false→(e.data.size:Int)=0)∧(hasL (fl e.kind) 111=false→(e.old.size:Int)=0)) b wx)
    case first =>
     go_wp2_with (go_at_call 153;(with_reducible refine (HH.out _ _).mono ?_);rintro r w' ⟨rfl,rfl⟩)
     all_goals
      go_meet
      refine ⟨_,rfl,⟨?_,?_,hx2,hb2⟩⟩
      ·intro hb A
       have A1:=A.b0
       have A2:=A.m0
       have A3:=A.d0
       have A4:=A.o0
       have T1:=toList_nil e.data
       have T2:=toList_nil e.old
       simp_all<;>omega
      ·intro hb
       have T1:=toList_nil e.data
       have T2:=toList_nil e.old
       refine ⟨fun h=>?_,fun h=>?_,fun h=>?_,fun h=>?_⟩<;>simp_all<;>omega
    case rest =>
     obtain ⟨b,rfl,hq6⟩:=hcut
     have hx3:=hq6.bx
     have hb3:=hq6.be
     have N6:=zh hq6.no
     have Y6:=zh hq6.yes
     clear hq6
     have f7:=hx3.cell 7
     have f8:=hx3.cell 8
     simp only [ec,List.getElem?_toArray,List.getElem?_cons_succ,List.getElem?_cons_zero] at f7 f8
     cases b with
     | true =>
       have NA:=zh (not_asked OK.out (N6.out rfl))
       clear N6 Y6
       go_wp2
       go_ret
       exact ⟨ret_bool NA.out.symm,hb3⟩
     | false =>
       have F6:=zh (Y6.out rfl)
       clear N6 Y6
       go_upto_region 8 with fail
       go_cut [120] from 99 to 120 (fun s wx=>∃ b:Bool,s=.bool b∧Qx w.heap.size e w ((hasL (fl e.kind) 110=true→1≤e.node∧e.node≤7)∧(hasL (fl e.kind) 110=false→e.node=0)) b wx)
       case first =>
        go_wp2_with (go_at_call 153;(with_reducible refine (HH.out _ _).mono ?_);rintro r w' ⟨rfl,rfl⟩)
        all_goals
         go_meet
         refine ⟨_,rfl,⟨?_,?_,hx3,hb3⟩⟩
         ·intro hb A
          have A1:=A.n1
          have A2:=A.n0
          simp_all<;>omega
         ·intro hb
          refine ⟨fun h=>?_,fun h=>?_⟩<;>simp_all<;>omega
       case rest =>
        obtain ⟨b,rfl,hq8⟩:=hcut
        have hx4:=hq8.bx
        have hb4:=hq8.be
        have N8:=zh hq8.no
        have Y8:=zh hq8.yes
        clear hq8
        have g8:=hx4.cell 8
        simp only [ec,List.getElem?_toArray,List.getElem?_cons_succ,List.getElem?_cons_zero] at g8
        cases b with
        | true =>
          have NA:=zh (not_asked OK.out (N8.out rfl))
          clear N8 Y8
          go_wp2
          go_ret
          exact ⟨ret_bool NA.out.symm,hb4⟩
        | false =>
          have F8:=zh (Y8.out rfl)
          clear N8 Y8
          go_wp2_with (go_at_call 153;(with_reducible refine (HH.out _ _).mono ?_);rintro r w' ⟨rfl,rfl⟩)
          all_goals
           go_ret
           refine ⟨ret_bool ?_,hb4⟩
           refine asked_close OK.out (by assumption) (by omega) (by omega) (by omega) (by omega) (by omega) (by omega) F4.out F6.out F8.out ?_
           clear HF HH d2 HB HX OK F4 F6 F8
           first|(simp_all;done)|(simp_all;omega)|(constructor<;>simp_all<;>omega)
end Go.Proofs.YtnobeoppffoomaaGreat
namespace Go.Proofs.YtnobeoppffoomaaGreat
open Go.RowKit
theorem rnum_any (v k:Int) (w:World) (hv:0≤v∧v≤18446744073709551615) :
 Calls Tryz.prog 113 #[.int .u64 v,.int .i64 k] w fun q w'=>q=.returned (.string (fN v k))∧Below w.heap.size w w':=by
 obtain ⟨n,rfl⟩:=Int.eq_ofNat_of_zero_le hv.1
 have K:=zh (rfixed_any n k w (by omega))
 go_enter Tryz.func113,Tryz.ntmps113
 go_wp2_with (go_at_call 116;(with_reducible refine K.out.mono ?_);rintro q w1 ⟨rfl,hb⟩)
 go_ret
 exact ⟨rfl,hb⟩
structure Bq (w0:World) (e:En) (w:World):Prop where
 bx:Bx w0.heap.size e 28 w
 be:Below w0.heap.size w0 w
 sz:w0.heap.size≤w.heap.size
theorem Bq.on {w0 w w1:World} {e:En} (h:Bq w0 e w) (hb:Below w.heap.size w w1):Bq w0 e w1:=⟨h.bx.below hb,h.be.trans (hb.mono h.sz),Nat.le_trans h.sz hb.size⟩
theorem Bq.drew {w0 w:World} {e:En} (h:Bq w0 e w):Bq w0 e w.drew:=⟨⟨h.bx.bx⟩,h.be.drew,h.sz⟩
theorem Bq.all {w0 w:World} {e:En} (h:Bq w0 e w):Bq w0 e w∧w.cell? ⟨w0.heap.size,0,none⟩=some (.int .u64 e.term)∧w.cell? ⟨w0.heap.size,1,none⟩=some (.int .u64 e.index)∧w.cell? ⟨w0.heap.size,2,none⟩=some (.int .i64 e.kind)∧w.cell? ⟨w0.heap.size,3,none⟩=some (.int .u64 e.client)∧w.cell? ⟨w0.heap.size,4,none⟩=some (.int .u64 e.seq)∧w.cell? ⟨w0.heap.size,5,none⟩=some (.int .u64 e.block)∧w.cell? ⟨w0.heap.size,6,none⟩=some (.int .u64 e.many)∧w.cell? ⟨w0.heap.size,7,none⟩=some (.int .i64 e.node)∧w.cell? ⟨w0.heap.size,8,none⟩=some (.int .i64 e.level)∧w.cell? ⟨w0.heap.size,9,none⟩=some (.string e.data):=⟨h,h.bx.cell 0,h.bx.cell 1,h.bx.cell 2,h.bx.cell 3,h.bx.cell 4,h.bx.cell 5,h.bx.cell 6,h.bx.cell 7,h.bx.cell 8,h.bx.cell 9⟩
theorem zmk (m:Nat) (W:World) (hm:m≤66):(Instr.makeSlice 68 (.int .i64 m) (.int .i64 m)).run Tryz.prog W=.ok (.slice (some ⟨W.heap.size,0,none⟩) m m) (W.alloc (.cells (Lib.byteCells (List.replicate m 0)).toArray 5)):=by
 obtain ⟨i0,hi0,hz0,hz1,hz2⟩:=info_parts Tryz.info5
 have h1:=run_make (P:=Tryz.prog) W 68 5 i0 (.int .u8 0) Tryz.underlying68 hi0 hz0 .i64 .i64 m m (by omega) (by omega) (by rw [hz2];omega) (by omega)
 have e:madeCells (Value.int .u8 0).cells ((m:Int).toNat*i0.size)=(Lib.byteCells (List.replicate m 0)).toArray:=by
  rw [hz1]
  apply Array.ext'
  have h2:=toList_madeCells_one (Value.int .u8 0) m
  have h3:((m:Int).toNat*1)=m:=by omega
  rw [h3]
  show (madeCells #[Value.int IntKind.u8 0] m).toList=_
  rw [h2]
  simp [Lib.byteCells]
 rw [e] at h1
 exact h1
theorem zcv (m g:Nat) (W:World) (h:W.heap[g]?=some (.cells (Lib.byteCells (List.replicate m 0)).toArray 5 (0,0))):(convert 68 9 (.slice (some ⟨g,0,none⟩) m m)).run Tryz.prog W=.ok (.string (zer m)) W:=by
 have h:=run_convert_bytes_back (P:=Tryz.prog) W 68 9 5 ⟨g,0,none⟩ m (List.replicate m 0) Tryz.underlying68 Tryz.underlying5 Tryz.underlying9 (fun j hj=>by
  rw [Lib.add_plain,zcr W g _ _ 5 (0,0) h,Nat.zero_add,List.getElem?_toArray]
  unfold Lib.byteCells
  rw [List.getElem?_map,List.getElem?_eq_getElem hj]
  rfl)
 simp only [List.length_replicate] at h
 exact h
theorem rput_any5 (e:En) (w:World) (ok:e.Ok) :
 Calls Tryz.prog 83 #[ev e] w fun q w'=>q=.returned (.tuple #[.string (putS e),.bool (mayB e)])∧Below w.heap.size w w':=by
 obtain ⟨W0,hW0⟩:∃ W0,W0=w.alloc (Obj.cells (ec e) 28):=⟨_,rfl⟩
 have S0:Bq w e W0:=by
  rw [hW0]
  exact ⟨⟨heap_alloc_new w _⟩,(Below.refl _ _).alloc (Nat.le_refl _) _,by simp⟩
 have KR:=zh (fun (W:World) (h:Bq w e W)=>(rright_any e W ok).mono fun q w' ⟨h1,h2⟩=>And.intro h1 (h.on h2).all)
 have KL:=zh (fun (W:World) (h:Bq w e W)=>(rlevel_any e W).mono fun q w' ⟨h1,h2⟩=>And.intro h1 (h.on h2).all)
 have KN:=zh (fun (v k:Int) (W:World) (hv:0≤v∧v≤18446744073709551615) (h:Bq w e W)=>(rnum_any v k W hv).mono fun q w' ⟨h1,h2⟩=>And.intro h1 (h.on h2).all)
 have HW0:=zh hW0
 have S1:=S0.all
 rw [hW0] at S1
 obtain ⟨S,c0,c1,c2,c3,c4,c5,c6,c7,c8,c9⟩:=S1
 rw [←hW0] at S
 clear hW0 S0
 cases hr:rightB e with
 | false =>
   rw [hr] at KR
   have HM:Hid (mayB e=false):=by show _=_;unfold mayB;rw [hr];rfl
   have HP:Hid (putS e=⟨#[]⟩):=by show _=_;unfold putS;rw [HM.out];rfl
   clear hr
   go_enter Tryz.func83,Tryz.ntmps83
   go_wp2_with (first
    | (go_at_call 112;rw [←HW0.out];(with_reducible refine (KR.out _ S).mono ?_);rintro q w1 ⟨rfl,T,d0,d1,d2,d3,d4,d5,d6,d7,d8,d9⟩))
   go_ret2
   exact ⟨ret_pair HP.out.symm HM.out.symm,T.be⟩
 | true =>
   have fw:=few_of ok hr
   have hk1:IntKind.u64.wrap e.kind=e.kind:=IntWalk.u64_in _ (by have:=fw.k0;have:=fw.k1;omega)
   have hk2:IntKind.u64.wrap e.node=e.node:=IntWalk.u64_in _ (by have:=fw.n0;have:=fw.n1;omega)
   have hk3:IntKind.u64.wrap e.level=e.level:=IntWalk.u64_in _ (by have:=fw.l0;have:=fw.l1;omega)
   have hk4:IntKind.u64.wrap (e.data.size:Int)=(e.data.size:Int):=IntWalk.u64_in _ (by have:=fw.d;omega)
   have q1:0≤e.kind∧e.kind≤18446744073709551615:=by have:=fw.k0;have:=fw.k1;omega
   have q2:0≤e.node∧e.node≤18446744073709551615:=by have:=fw.n0;have:=fw.n1;omega
   have q3:0≤e.level∧e.level≤18446744073709551615:=by have:=fw.l0;have:=fw.l1;omega
   have q4:0≤(e.data.size:Int)∧(e.data.size:Int)≤18446744073709551615:=by have:=fw.d;omega
   have q5:0≤e.term∧e.term≤18446744073709551615:=⟨ok.t0,ok.t1⟩
   have q6:0≤e.index∧e.index≤18446744073709551615:=⟨ok.i0,ok.i1⟩
   have q7:0≤e.client∧e.client≤18446744073709551615:=⟨ok.c0,ok.c1⟩
   have q8:0≤e.seq∧e.seq≤18446744073709551615:=⟨ok.s0,ok.s1⟩
   have q9:0≤e.block∧e.block≤18446744073709551615:=⟨ok.b0,ok.b1⟩
   have qa:0≤e.many∧e.many≤18446744073709551615:=⟨ok.m0,ok.m1⟩
   obtain ⟨m,hm⟩:∃ m,m=66-e.data.size:=⟨_,rfl⟩
   have hmi:IntKind.i64.wrap ((66:Int)-e.data.size)=(m:Int):=(IntWalk.i64_in _ (by have:=fw.d;omega)).trans (by have:=fw.d;omega)
   have hm66:m≤66:=by omega
   have hd64:e.data.size≤64:=fw.d
   have HMM:=zh hm
   rw [hr] at KR
   clear hm
   by_cases hl:lvl e.kind=2
   ·rw [hl] at KL
    have HM:Hid (mayB e=false):=by show _=_;unfold mayB;rw [hr,hl];rfl
    have HP:Hid (putS e=⟨#[]⟩):=by show _=_;unfold putS;rw [HM.out];rfl
    clear hr fw hl
    go_enter Tryz.func83,Tryz.ntmps83
    go_wp2_with (first
     | (go_at_call 112;rw [←HW0.out];(with_reducible refine (KR.out _ S).mono ?_);rintro q w1 ⟨rfl,T,d0,d1,d2,d3,d4,d5,d6,d7,d8,d9⟩;have z10:=T.bx.cell 10)
     | (go_at_call 63;(with_reducible refine (KL.out _ T).mono ?_);rintro q w2 ⟨rfl,U,f0,f1,f2,f3,f4,f5,f6,f7,f8,f9⟩))
    go_ret2
    exact ⟨ret_pair HP.out.symm HM.out.symm,U.be⟩
   ·have hl1:lvl e.kind=1:=by
     unfold lvl at hl ⊢
     by_cases h11:e.kind=11
     ·rw [if_pos h11] at hl;exact absurd rfl hl
     ·rw [if_neg h11]
    rw [hl1] at KL
    have HM:Hid (mayB e=true):=by show _=_;unfold mayB;rw [hr,hl1];rfl
    have HP:Hid (putS e=pb e):=by show _=_;unfold putS;rw [HM.out];rfl
    clear hr fw hl hl1
    go_enter Tryz.func83,Tryz.ntmps83
    go_upto_region 4 with (first
     | (go_at_call 112;rw [←HW0.out];(with_reducible refine (KR.out _ S).mono ?_);rintro q w1 ⟨rfl,T,d0,d1,d2,d3,d4,d5,d6,d7,d8,d9⟩;have z10:=T.bx.cell 10)
     | (go_at_call 63;(with_reducible refine (KL.out _ T).mono ?_);rintro q w2 ⟨rfl,U,f0,f1,f2,f3,f4,f5,f6,f7,f8,f9⟩))
    have mk:=zmk m w2.drew hm66
    have cv:=zcv m w2.heap.size (w2.alloc (.cells (Lib.byteCells (List.replicate m 0)).toArray 5)).drew (heap_alloc_new w2 _)
    have V0:=zh ((U.on ((Below.refl _ w2).alloc (Nat.le_refl _) _)).drew:Bq w e (w2.alloc (.cells (Lib.byteCells (List.replicate m 0)).toArray 5)).drew)
    have va9:(w2.alloc (.cells (Lib.byteCells (List.replicate m 0)).toArray 5)).drew.cell? ⟨w.heap.size,9,none⟩=some (.string e.data):=V0.out.bx.cell 9
    have hzl:¬ 9223372036854775807<e.data.size+(zer m).size:=by rw [zer_size];omega
    obtain ⟨M,hM⟩:∃ M,M=(Lib.byteCells (List.replicate m 0)).toArray:=⟨_,rfl⟩
    rw [←hM] at mk cv V0 va9
    clear S T c0 d0 c1 d1 c2 d2 c3 d3 c4 d4 c5 d5 c6 d6 c7 d7 c8 d8 c9 d9 z10 hM
    go_region
    go_wp2_with fail
    have V1:=V0.out.drew
    clear U f0 f1 f2 f3 f4 f5 f6 f7 f8 f9 mk cv
    obtain ⟨W3,hW3⟩:∃ W3,W3=(w2.alloc (.cells M 5)).drew:=⟨_,rfl⟩
    rw [←hW3] at V0 V1 ⊢
    have V2:=V0.out.all
    obtain ⟨V,g0,g1,g2,g3,g4,g5,g6,g7,g8,g9⟩:=V2
    obtain ⟨D,hD⟩:∃ D,D=e.data++zer m:=⟨_,rfl⟩
    have hDs:D.size=66:=by rw [hD,ByteArray.size_append,zer_size,HMM.out];omega
    rw [←hD]
    have HD:=zh hD
    have n1:∀ v,(fN v 1).size=1:=fun v=>fN_size v 1 (by omega) (by omega)
    have n8:∀ v,(fN v 8).size=8:=fun v=>fN_size v 8 (by omega) (by omega)
    have n4:∀ v,(fN v 4).size=4:=fun v=>fN_size v 4 (by omega) (by omega)
    clear hW3 hD va9 hzl
    go_region_held3 (fun w'=>w'.cell? ⟨w.heap.size,0,none⟩=some (.int .u64 e.term)∧w'.cell? ⟨w.heap.size,1,none⟩=some (.int .u64 e.index)∧w'.cell? ⟨w.heap.size,2,none⟩=some (.int .i64 e.kind)∧w'.cell? ⟨w.heap.size,3,none⟩=some (.int .u64 e.client)∧w'.cell? ⟨w.heap.size,4,none⟩=some (.int .u64 e.seq)∧w'.cell? ⟨w.heap.size,5,none⟩=some (.int .u64 e.block)∧w'.cell? ⟨w.heap.size,6,none⟩=some (.int .u64 e.many)∧w'.cell? ⟨w.heap.size,7,none⟩=some (.int .i64 e.node)∧w'.cell? ⟨w.heap.size,8,none⟩=some (.int .i64 e.level)∧w'.cell? ⟨w.heap.size,9,none⟩=some (.string e.data)) (first|exact ⟨g0,g1,g2,g3,g4,g5,g6,g7,g8,g9⟩|(refine ⟨?_,?_,?_,?_,?_,?_,?_,?_,?_,?_⟩<;>assumption)) (first
     | (go_at_call 113;(with_reducible refine (KN.out _ _ _ (by assumption) (by assumption)).mono ?_);rintro q w6 ⟨rfl,X,p0,p1,p2,p3,p4,p5,p6,p7,p8,p9⟩))
    go_wp2_with fail
    go_ret2
    refine ⟨ret_pair ?_ HM.out.symm,X.be⟩
    rw [HP.out]
    unfold pb
    rw [←HMM.out,HD.out]
end Go.Proofs.YtnobeoppffoomaaGreat
