/-
  FrameCodes: part G47.
  Conditions: named in each theorem.
-/
import Derived.Test.YtpdbeijfchmlgaaGreatZ0
import Derived.Test.YtpdbeijfchmlgaaGreatG11
set_option linter.unusedVariables false
set_option linter.unusedSimpArgs false
set_option maxHeartbeats 16000000
set_option maxRecDepth 100000
namespace Go.Proofs.YtpdbeijfchmlgaaGreat
open Go.RowKit
theorem msame_len {a b:Ms} (h:a.n≠b.n):msameB a b=false:=by
 unfold msameB;rw [entsB_len h]
 simp
theorem msame_pre {a b:Ms} (h:preB a.es b.es a.n=false):msameB a b=false:=by
 unfold msameB entsB;rw [h]
 simp
theorem msame_eq {a b:Ms} (hn:a.n=b.n) (h:preB a.es b.es a.n=true):msameB a b=(scalB a b).all id:=by
 unfold msameB entsB;rw [h,decide_eq_true hn]
 simp
theorem rmsame_any (a b:Ms) (w:World) (hx:Ents w.heap.size a.A a.n a.es w) (hy:Ents w.heap.size b.A b.n b.es w) (hn:(a.n:Int)≤9223372036854775807) (hn':(b.n:Int)≤9223372036854775807) :
 Calls Tryz.prog 17 #[mv a,mv b] w fun r w'=>r=.returned (.bool (msameB a b))∧Below w.heap.size w w':=by
 obtain ⟨W,hW⟩:∃ W,W=(w.alloc (Obj.cells (mc a) 29)).alloc (Obj.cells (mc b) 29):=⟨_,rfl⟩;have hD:Dm w a b W:=hW▸Dm.start w a b hx hy;have HD:=zh hD;have HW:=zh hW;have HLa:=zh hx.len;have HLb:=zh hy.len;have x9:W.cell? ⟨w.heap.size,9,none⟩=some (.slice a.A a.n a.c):=hD.x.cell 9;have y9:W.cell? ⟨w.heap.size+1,9,none⟩=some (.slice b.A b.n b.c):=hD.y.cell 9;clear hW hD hx hy
 by_cases hnn:a.n=b.n
 ·have HNN:=zh hnn;have g1:((a.n:Int) != (b.n:Int))=false:=by rw [hnn];simp
  have g2:(a.n:Int)=(b.n:Int):=by rw [hnn]
  clear hnn
  go_enter Tryz.func17,Tryz.ntmps17
  go_upto_region 1 with fail
  rw [←HW.out]
  go_wp2_with fail
  go_loopw [5] (fun i wr=>∃ k:Nat,k≤a.n∧i=.int .i64 k∧Hid (preB a.es b.es k=true)∧Dm w a b wr) (fun i _=>a.n-(intOf i).toNat)
  case atStart=>exact ⟨0,Nat.zero_le _,rfl,rfl,HD.out⟩
  case round =>
   obtain ⟨k,hk,rfl,HI,hr⟩:=hrel;clear HD x9 y9;have x9:wr.cell? ⟨w.heap.size,9,none⟩=some (.slice a.A a.n a.c):=hr.x.cell 9;have y9:wr.cell? ⟨w.heap.size+1,9,none⟩=some (.slice b.A b.n b.c):=hr.y.cell 9
   by_cases hlt:k<a.n
   ·have hltb:k<b.n:=by rw [←HNN.out];exact hlt
    obtain ⟨e,he⟩:∃ e,a.es[k]?=some e:=⟨_,List.getElem?_eq_getElem (by rw [HLa.out];exact hlt)⟩;obtain ⟨f,hf⟩:∃ f,b.es[k]?=some f:=⟨_,List.getElem?_eq_getElem (by rw [HLb.out];exact hltb)⟩;obtain ⟨p,hA,hB,hc⟩:=hr.ex.at_ k e he;obtain ⟨p',hA',hB',hc'⟩:=hr.ey.at_ k f hf;have hst:Hid (preB a.es b.es (k+1)=(preB a.es b.es k&&sameB e f)):=preB_step a.es b.es k e f he hf;have d0:wr.cell? (p.add (k*11))=some (.int .u64 e.term):=hc 0 (by omega);have d1:wr.cell? ⟨(p.add (k*11)).block,(p.add (k*11)).off+1,none⟩=some (.int .u64 e.index):=hc 1 (by omega);have d2:wr.cell? ⟨(p.add (k*11)).block,(p.add (k*11)).off+2,none⟩=some (.int .i64 e.kind):=hc 2 (by omega);have d3:wr.cell? ⟨(p.add (k*11)).block,(p.add (k*11)).off+3,none⟩=some (.int .u64 e.client):=hc 3 (by omega);have d4:wr.cell? ⟨(p.add (k*11)).block,(p.add (k*11)).off+4,none⟩=some (.int .u64 e.seq):=hc 4 (by omega);have d5:wr.cell? ⟨(p.add (k*11)).block,(p.add (k*11)).off+5,none⟩=some (.int .u64 e.block):=hc 5 (by omega);have d6:wr.cell? ⟨(p.add (k*11)).block,(p.add (k*11)).off+6,none⟩=some (.int .u64 e.many):=hc 6 (by omega);have d7:wr.cell? ⟨(p.add (k*11)).block,(p.add (k*11)).off+7,none⟩=some (.int .i64 e.node):=hc 7 (by omega);have d8:wr.cell? ⟨(p.add (k*11)).block,(p.add (k*11)).off+8,none⟩=some (.int .i64 e.level):=hc 8 (by omega);have d9:wr.cell? ⟨(p.add (k*11)).block,(p.add (k*11)).off+9,none⟩=some (.string e.data):=hc 9 (by omega);have d10:wr.cell? ⟨(p.add (k*11)).block,(p.add (k*11)).off+10,none⟩=some (.string e.old):=hc 10 (by omega);have f0:wr.cell? (p'.add (k*11))=some (.int .u64 f.term):=hc' 0 (by omega);have f1:wr.cell? ⟨(p'.add (k*11)).block,(p'.add (k*11)).off+1,none⟩=some (.int .u64 f.index):=hc' 1 (by omega);have f2:wr.cell? ⟨(p'.add (k*11)).block,(p'.add (k*11)).off+2,none⟩=some (.int .i64 f.kind):=hc' 2 (by omega);have f3:wr.cell? ⟨(p'.add (k*11)).block,(p'.add (k*11)).off+3,none⟩=some (.int .u64 f.client):=hc' 3 (by omega);have f4:wr.cell? ⟨(p'.add (k*11)).block,(p'.add (k*11)).off+4,none⟩=some (.int .u64 f.seq):=hc' 4 (by omega);have f5:wr.cell? ⟨(p'.add (k*11)).block,(p'.add (k*11)).off+5,none⟩=some (.int .u64 f.block):=hc' 5 (by omega);have f6:wr.cell? ⟨(p'.add (k*11)).block,(p'.add (k*11)).off+6,none⟩=some (.int .u64 f.many):=hc' 6 (by omega);have f7:wr.cell? ⟨(p'.add (k*11)).block,(p'.add (k*11)).off+7,none⟩=some (.int .i64 f.node):=hc' 7 (by omega);have f8:wr.cell? ⟨(p'.add (k*11)).block,(p'.add (k*11)).off+8,none⟩=some (.int .i64 f.level):=hc' 8 (by omega);have f9:wr.cell? ⟨(p'.add (k*11)).block,(p'.add (k*11)).off+9,none⟩=some (.string f.data):=hc' 9 (by omega);have f10:wr.cell? ⟨(p'.add (k*11)).block,(p'.add (k*11)).off+10,none⟩=some (.string f.old):=hc' 10 (by omega);have hne:=fun W=>neq_entry e f W;have HR:=zh hr;rw [hA] at x9;rw [hA'] at y9;clear hr hc hc' hA hA' hB hB' he hf
    cases hs:sameB e f with
    | true =>
      rw [hs] at hst hne;have H2:Hid (preB a.es b.es (k+1)=true):=by show _=_;rw [hst.out,HI.out];rfl
      clear hs
      go_wp2_with fail
      go_quiet (fail)
      go_wp2
      go_roundw
      case rel=>exact ⟨k+1,by omega,by go_num,H2,HR.out.on ⟨rfl,rfl,rfl,Nat.le_refl _,fun _ _=>rfl⟩⟩
      case measure=>simp [intOf];omega
    | false =>
      rw [hs] at hst hne;have H2:Hid (msameB a b=false):=msame_pre (preB_stop (k:=k+1) (by rw [hst.out,HI.out];rfl) (by omega) HLa.out (by rw [HNN.out];exact HLb.out));clear hs
      go_wp2_with fail
      go_quiet (fail)
      go_wp2;go_ret;exact ⟨ret_bool H2.out.symm,(HR.out.on (w1:=wr.drewN _) ⟨rfl,rfl,rfl,Nat.le_refl _,fun _ _=>rfl⟩).be⟩
   ·have hkn:k=a.n:=by omega
    have hE:Hid (msameB a b=(scalB a b).all id):=by
     have h:=HI.out;rw [hkn] at h;exact msame_eq HNN.out h
    have r0:wr.cell? ⟨w.heap.size,0,none⟩=some (.int .i64 a.kind):=hr.x.cell 0;have r1:wr.cell? ⟨w.heap.size,1,none⟩=some (.int .i64 a.frm):=hr.x.cell 1;have r2:wr.cell? ⟨w.heap.size,2,none⟩=some (.int .i64 a.dst):=hr.x.cell 2;have r3:wr.cell? ⟨w.heap.size,3,none⟩=some (.int .u64 a.term):=hr.x.cell 3;have r4:wr.cell? ⟨w.heap.size,4,none⟩=some (.int .u64 a.index):=hr.x.cell 4;have r5:wr.cell? ⟨w.heap.size,5,none⟩=some (.int .u64 a.prev):=hr.x.cell 5;have r6:wr.cell? ⟨w.heap.size,6,none⟩=some (.int .u64 a.commit):=hr.x.cell 6;have r7:wr.cell? ⟨w.heap.size,7,none⟩=some (.int .u64 a.mark):=hr.x.cell 7;have r8:wr.cell? ⟨w.heap.size,8,none⟩=some (.bool a.ok):=hr.x.cell 8;have r10:wr.cell? ⟨w.heap.size,10,none⟩=some (.string a.snap):=hr.x.cell 10;have t0:wr.cell? ⟨w.heap.size+1,0,none⟩=some (.int .i64 b.kind):=hr.y.cell 0;have t1:wr.cell? ⟨w.heap.size+1,1,none⟩=some (.int .i64 b.frm):=hr.y.cell 1;have t2:wr.cell? ⟨w.heap.size+1,2,none⟩=some (.int .i64 b.dst):=hr.y.cell 2;have t3:wr.cell? ⟨w.heap.size+1,3,none⟩=some (.int .u64 b.term):=hr.y.cell 3;have t4:wr.cell? ⟨w.heap.size+1,4,none⟩=some (.int .u64 b.index):=hr.y.cell 4;have t5:wr.cell? ⟨w.heap.size+1,5,none⟩=some (.int .u64 b.prev):=hr.y.cell 5;have t6:wr.cell? ⟨w.heap.size+1,6,none⟩=some (.int .u64 b.commit):=hr.y.cell 6;have t7:wr.cell? ⟨w.heap.size+1,7,none⟩=some (.int .u64 b.mark):=hr.y.cell 7;have t8:wr.cell? ⟨w.heap.size+1,8,none⟩=some (.bool b.ok):=hr.y.cell 8;have t10:wr.cell? ⟨w.heap.size+1,10,none⟩=some (.string b.snap):=hr.y.cell 10;have HR:=zh hr;obtain ⟨q0,hq0⟩:∃ q,q=(a.kind==b.kind):=⟨_,rfl⟩;have hz0:=hq0.symm;obtain ⟨q1,hq1⟩:∃ q,q=(a.frm==b.frm):=⟨_,rfl⟩;have hz1:=hq1.symm;obtain ⟨q2,hq2⟩:∃ q,q=(a.dst==b.dst):=⟨_,rfl⟩;have hz2:=hq2.symm;obtain ⟨q3,hq3⟩:∃ q,q=(a.term==b.term):=⟨_,rfl⟩;have hz3:=hq3.symm;obtain ⟨q4,hq4⟩:∃ q,q=(a.index==b.index):=⟨_,rfl⟩;have hz4:=hq4.symm;obtain ⟨q5,hq5⟩:∃ q,q=(a.prev==b.prev):=⟨_,rfl⟩;have hz5:=hq5.symm;obtain ⟨q6,hq6⟩:∃ q,q=(a.commit==b.commit):=⟨_,rfl⟩;have hz6:=hq6.symm;obtain ⟨q7,hq7⟩:∃ q,q=(a.mark==b.mark):=⟨_,rfl⟩;have hz7:=hq7.symm;obtain ⟨q8,hq8⟩:∃ q,q=(a.ok==b.ok):=⟨_,rfl⟩;have hz8:=hq8.symm;obtain ⟨q9,hq9⟩:∃ q,q=(a.snap.toList==b.snap.toList):=⟨_,rfl⟩;have hz9:=hq9.symm
    have hE2:Hid (msameB a b=(q0&&(q1&&(q2&&(q3&&(q4&&(q5&&(q6&&(q7&&(q8&&q9)))))))))):=by
     show _=_
     rw [hE.out,hq0,hq1,hq2,hq3,hq4,hq5,hq6,hq7,hq8,hq9];unfold scalB;simp only [List.all_cons,List.all_nil,id,Bool.and_true]
    clear hr hE hq0 hq1 hq2 hq3 hq4 hq5 hq6 hq7 hq8 hq9
    cases q0 with
    | false =>
      go_wp2;go_ret;exact ⟨ret_bool (by rw [hE2.out];simp),HR.out.be⟩
    | true =>
      cases q1 with
      | false =>
        go_wp2;go_ret;exact ⟨ret_bool (by rw [hE2.out];simp),HR.out.be⟩
      | true =>
        cases q2 with
        | false =>
          go_wp2;go_ret;exact ⟨ret_bool (by rw [hE2.out];simp),HR.out.be⟩
        | true =>
          cases q3 with
          | false =>
            go_wp2;go_ret;exact ⟨ret_bool (by rw [hE2.out];simp),HR.out.be⟩
          | true =>
            cases q4 with
            | false =>
              go_wp2;go_ret;exact ⟨ret_bool (by rw [hE2.out];simp),HR.out.be⟩
            | true =>
              cases q5 with
              | false =>
                go_wp2;go_ret;exact ⟨ret_bool (by rw [hE2.out];simp),HR.out.be⟩
              | true =>
                cases q6 with
                | false =>
                  go_wp2;go_ret;exact ⟨ret_bool (by rw [hE2.out];simp),HR.out.be⟩
                | true =>
                  cases q7 with
                  | false =>
                    go_wp2;go_ret;exact ⟨ret_bool (by rw [hE2.out];simp),HR.out.be⟩
                  | true =>
                    cases q8 with
                    | false =>
                      go_wp2;go_ret;exact ⟨ret_bool (by rw [hE2.out];simp),HR.out.be⟩
                    | true =>
                      cases q9 with
                      | false =>
                        go_wp2;go_ret;exact ⟨ret_bool (by rw [hE2.out];simp),HR.out.be⟩
                      | true =>
                        go_wp2;go_ret;exact ⟨ret_bool (by rw [hE2.out];simp),HR.out.be⟩
 ·have H2:Hid (msameB a b=false):=msame_len hnn;have g1:¬ (a.n:Int)=(b.n:Int):=by omega
  have g2:((a.n:Int)==(b.n:Int))=false:=beqF g1;have g3:((a.n:Int) != (b.n:Int))=true:=by simp only [bne,g2];rfl
  clear hnn
  go_enter Tryz.func17,Tryz.ntmps17
  go_upto_region 1 with fail
  rw [←HW.out];go_wp2;go_ret;exact ⟨ret_bool H2.out.symm,HD.out.be⟩
end Go.Proofs.YtpdbeijfchmlgaaGreat
