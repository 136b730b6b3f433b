/-
  FrameCodes: part G33.
  Conditions: named in each theorem.
-/
import Derived.Test.YtpdbeijfchmlgaaGreatZ0
import Derived.Test.YtpdbeijfchmlgaaGreatG49
import Derived.Test.YtpdbeijfchmlgaaGreatG19
import Derived.Test.YtpdbeijfchmlgaaGreatG29
import Derived.Test.YtpdbeijfchmlgaaGreatG32
set_option linter.unusedVariables false
set_option linter.unusedSimpArgs false
set_option maxHeartbeats 16000000
set_option maxRecDepth 100000
namespace Go.Proofs.YtpdbeijfchmlgaaGreat.D
open Go.RowKit
open Vi
theorem rdn_le2 (t:Nat) (P:ByteArray) (B:Nat) (ht:t<12) (h:P.size≤B):(rdn t P).size≤10+B:=by
 unfold rdn
 split
 ·exact Nat.zero_le _
 ·rw [ByteArray.size_append]
  have:=putB_le t (by omega)
  omega
section
theorem rtext3_any (t:Nat) (d:ByteArray) (w:World) (ht:t<12) (hd:d.size≤16384) :
 Calls Tryz.prog 69 #[.int .u64 t,.string d] w fun e w'=>e=.returned (.string (rdn t (tb d)))∧Below w.heap.size w w':=by
 by_cases h0:d.size=0
 ·have hde:=(size0 d).1 h0;subst hde;have e0:rdn t (tb ⟨#[]⟩)=⟨#[]⟩:=rfl;rw [e0];clear e0 h0
  go_enter Tryz.func69,Tryz.ntmps69
  go_wp2;go_ret;exact ⟨rfl,Below.refl _ _⟩
 ·have e0:rdn t (tb d)=putB t++(putB d.size++d):=by
   have e1:tb d=putB d.size++d:=by unfold tb;rw [if_neg h0]
   have:=putB_pos_b d.size
   unfold rdn;rw [e1,if_neg (by rw [ByteArray.size_append];omega)]
  have h2:¬ d=ByteArray.empty:=fun e=>h0 (by rw [e];rfl)
  have h3:¬ d.toList=[]:=by
   rw [Lib.toList_data];intro e
   have:=congrArg List.length e
   exact h0 (by simpa using this)
  have h6:d.toList.isEmpty=false:=by
   cases hq:d.toList with
   | nil=>exact absurd hq h3
   | cons a l=>rfl
  have k1:=putB_le t (by omega);have k2:=putB_le d.size (by omega);have K1:=zh (fun W=>rput_any t W (by omega));have K2:=zh (fun W=>rtext_any d W (by omega));rw [e0];clear e0 h0 ht;have hsz:¬ 9223372036854775807<(putB t).size+(putB d.size++d).size:=by rw [ByteArray.size_append];omega
  have hsz2:¬ 9223372036854775807<(putB t).size+((putB d.size).size+d.size):=by omega
  go_enter Tryz.func69,Tryz.ntmps69
  go_wp2_with fail
  refine (K1.out _).mono ?_;rintro e w1 ⟨rfl,b1⟩
  go_wp2_with fail
  refine (K2.out _).mono ?_;rintro e w2 ⟨rfl,b2⟩;go_wp2;go_ret;exact ⟨rfl,b1.trans (b2.mono b1.size)⟩
end
theorem wide_pl {m:Ms} (h:m.Wide):m.pl.Wide:=⟨h.k0,h.k1,h.f0,h.f1,h.o0,h.o1,h.t0,h.t1,h.i0,h.i1,h.p0,h.p1,h.c0,h.c1,h.m0,h.m1,h.s1,h.eo⟩
theorem wide_at {X:Mp} (h:X.Wide) (A:Option Addr) (c:Nat) (hn:(X.es.length:Int)≤9223372036854775807):(X.at_ A c).Wide:=⟨h.k0,h.k1,h.f0,h.f1,h.o0,h.o1,h.t0,h.t1,h.i0,h.i1,h.p0,h.p1,h.c0,h.c1,h.m0,h.m1,h.s1,hn,h.eo⟩
theorem mfew_of {m:Ms} (wd:m.Wide) (hl:m.es.length=m.n) (h:mrightB m=true):MFew m.pl:=by
 unfold mrightB at h;simp only [Bool.and_eq_true,Bool.not_eq_true'] at h;obtain ⟨h1,h2⟩:=h
 have hes:∀ e∈m.es,rightB e=true:=by
  intro e he;unfold hasWrong at h2;rw [List.any_eq_false] at h2
  simpa using h2 e he
 have A:=(mask_iff m wd).1 h1;have f:1≤m.kind∧m.kind≤10:=of_decide_eq_true A.k;have q1:=A.n64;have q2:=A.s;have q3:m.pl.es.length=m.n:=hl;have q4:m.pl.snap.size=m.snap.size:=rfl;exact ⟨f.1,f.2,A.f1,A.f7,A.o1,A.o7,by omega,by omega,hes⟩
def putX (m:Ms):ByteArray:=if mrightB m then sbM m.pl else ⟨#[]⟩
theorem nb_bit (b:Bool):nb (bitI b)=fb1 b:=by cases b<;>rfl
theorem es_tail (es:List En):rdn 11 (nb (es.length:Int))++catE es=rdn 11 (eb es):=by
 by_cases h:es.length=0
 ·have he:=List.eq_nil_of_length_eq_zero h;subst he;rfl
 ·have e1:nb (es.length:Int)=putB es.length:=by unfold nb;rw [if_neg (by omega),Int.toNat_natCast]
  have e2:eb es=putB es.length++catE es:=by unfold eb;rw [if_neg h]
  have hp:=putB_pos_b es.length;unfold rdn;rw [e1,e2,if_neg (by omega),if_neg (by rw [ByteArray.size_append];omega),append_assoc3]
theorem sbM_eq (m:Ms):sbM m.pl=rdn 1 (nb m.kind)++rdn 2 (nb m.frm)++rdn 3 (nb m.dst)++rdn 4 (nb m.term)++rdn 5 (nb m.index)++rdn 6 (nb m.prev)++rdn 7 (nb m.commit)++rdn 8 (nb m.mark)++rdn 9 (fb1 m.ok)++rdn 10 (tb m.snap)++rdn 11 (nb (m.es.length:Int))++catE m.es++⟨#[0]⟩:=by
 have h0:putB 0=⟨#[0]⟩:=by unfold putB;rw [put_small 0 (by omega)];rfl
 unfold sbM secB;rw [h0];have hs:∀ k,secU mF m.pl (k+1)=secU mF m.pl k++rdn (k+1) (mP (k+1) m.pl):=fun k=>rfl;have h00:secU mF m.pl 0=⟨#[]⟩:=rfl;have ht:=es_tail m.es;rw [append_assoc3 _ (rdn 11 (nb (m.es.length:Int))) (catE m.es),ht];rw [hs 10,hs 9,hs 8,hs 7,hs 6,hs 5,hs 4,hs 3,hs 2,hs 1,hs 0,h00,empty_app_b];rfl
structure Bm (w0:World) (m:Ms) (w:World):Prop where
 k:w.heap[w0.heap.size]?=some (.cells (mc m) 29 (0,0))
 en:Ents w0.heap.size m.A m.n m.es w
 be:Below w0.heap.size w0 w
theorem Bm.on {w0 w w1:World} {m:Ms} (h:Bm w0 m w) (hb:Below w.heap.size w w1):Bm w0 m w1 :=
 ⟨(hb.block _ (zgx h.k)).trans h.k,h.en.below (hb.mono h.be.size),h.be.trans (hb.mono h.be.size)⟩
theorem Bm.all {w w':World} {m:Ms} (h:Bm w m w'):Bm w m w'∧w'.cell? ⟨w.heap.size,0,none⟩=some (.int .i64 m.kind)∧w'.cell? ⟨w.heap.size,1,none⟩=some (.int .i64 m.frm)∧w'.cell? ⟨w.heap.size,2,none⟩=some (.int .i64 m.dst)∧w'.cell? ⟨w.heap.size,3,none⟩=some (.int .u64 m.term)∧w'.cell? ⟨w.heap.size,4,none⟩=some (.int .u64 m.index)∧w'.cell? ⟨w.heap.size,5,none⟩=some (.int .u64 m.prev)∧w'.cell? ⟨w.heap.size,6,none⟩=some (.int .u64 m.commit)∧w'.cell? ⟨w.heap.size,7,none⟩=some (.int .u64 m.mark)∧w'.cell? ⟨w.heap.size,8,none⟩=some (.bool m.ok)∧w'.cell? ⟨w.heap.size,9,none⟩=some (.slice m.A m.n m.c)∧w'.cell? ⟨w.heap.size,10,none⟩=some (.string m.snap) :=
 ⟨h,zcr w' _ 0 _ 29 (0,0) h.k,zcr w' _ 1 _ 29 (0,0) h.k,zcr w' _ 2 _ 29 (0,0) h.k,zcr w' _ 3 _ 29 (0,0) h.k,zcr w' _ 4 _ 29 (0,0) h.k,zcr w' _ 5 _ 29 (0,0) h.k,zcr w' _ 6 _ 29 (0,0) h.k,zcr w' _ 7 _ 29 (0,0) h.k,zcr w' _ 8 _ 29 (0,0) h.k,zcr w' _ 9 _ 29 (0,0) h.k,zcr w' _ 10 _ 29 (0,0) h.k⟩
theorem Bm.start {w:World} {m:Ms} (hE:Ents w.heap.size m.A m.n m.es w):Bm w m (w.alloc (Obj.cells (mc m) 29)) :=
 ⟨heap_alloc_new w _,hE.below zba,zba⟩
theorem rputM_any (m:Ms) (w:World) (hE:Ents w.heap.size m.A m.n m.es w) (wd:m.Wide) :
 Calls Tryz.prog 36 #[mv m] w fun q w'=>q=.returned (.tuple #[.string (putX m),.bool (mrightB m)])∧Below w.heap.size w w':=by
 obtain ⟨W0,hW0⟩:∃ W0,W0=w.alloc (Obj.cells (mc m) 29):=⟨_,rfl⟩;have S0:Bm w m W0:=by rw [hW0];exact Bm.start hE
 have KR:=zh (fun (W:World) (h:Bm w m W)=>(rmright_any m W (h.en.mr h.be.size) wd).mono fun q w' ⟨h1,h2⟩=>And.intro h1 (h.on h2).all);have HW:=zh hW0;have HP:Hid (putX m=if mrightB m then sbM m.pl else ⟨#[]⟩):=rfl;have S1:=zh S0;have HLEN:=zh hE.len;have WD:=zh wd;clear hW0 S0 hE wd;obtain ⟨rb,hrb⟩:∃ rb,rb=mrightB m:=⟨_,rfl⟩;rw [←hrb] at KR HP ⊢
 cases rb with
 | false =>
   have HEq:Hid (putX m=⟨#[]⟩):=HP.out;clear hrb
   go_enter Tryz.func36,Tryz.ntmps36
   go_wp2_with fail
   rw [←HW.out];refine (KR.out _ S1.out).mono ?_;rintro q w1 ⟨rfl,T,_⟩;go_wp2;go_ret2;exact ⟨ret_pair_b HEq.out.symm rfl,T.be⟩
 | true =>
   have fw:=mfew_of WD.out HLEN.out hrb.symm;have ok2_b:=wide_pl WD.out;have HEq:Hid (putX m=rdn 1 (nb m.kind)++rdn 2 (nb m.frm)++rdn 3 (nb m.dst)++rdn 4 (nb m.term)++rdn 5 (nb m.index)++rdn 6 (nb m.prev)++rdn 7 (nb m.commit)++rdn 8 (nb m.mark)++rdn 9 (fb1 m.ok)++rdn 10 (tb m.snap)++rdn 11 (nb (m.es.length:Int))++catE m.es++⟨#[0]⟩):=HP.out.trans (sbM_eq m);have HEN:Hid (∀ e∈m.es,e.Ok∧rightB e=true):=fun e he=>⟨WD.out.eo e he,fw.r e he⟩;obtain ⟨a1,a2,a3,a4,a5,a6,a7,a8⟩:=m_bounds ok2_b fw;have a1:0≤m.kind∧m.kind≤999:=a1;have a2:0≤m.frm∧m.frm≤999:=a2;have a3:0≤m.dst∧m.dst≤999:=a3;have a4:0≤m.term∧m.term≤18446744073709551615:=a4;have a5:0≤m.index∧m.index≤18446744073709551615:=a5;have a6:0≤m.prev∧m.prev≤18446744073709551615:=a6;have a7:0≤m.commit∧m.commit≤18446744073709551615:=a7;have a8:0≤m.mark∧m.mark≤18446744073709551615:=a8;have a10:m.snap.size≤16384:=fw.s;have a11:m.n≤64:=by have h:m.es.length≤64:=fw.n;have:=HLEN.out;omega
   have hk1:IntKind.u64.wrap m.kind=m.kind:=IntWalk.u64_in _ (by omega);have hk2:IntKind.u64.wrap m.frm=m.frm:=IntWalk.u64_in _ (by omega);have hk3:IntKind.u64.wrap m.dst=m.dst:=IntWalk.u64_in _ (by omega);have hk4:IntKind.u64.wrap (m.n:Int)=(m.n:Int):=IntWalk.u64_in _ (by omega)
   have KN:Hid (∀ (t:Nat) (tt v:Int) (W:World),tt=(t:Int)→t<12→(0≤v∧v≤18446744073709551615)→Bm w m W→Calls Tryz.prog 68 #[.int .u64 tt,.int .u64 v] W fun q w'=>q=.returned (.string (rdn t (nb v)))∧Bm w m w'∧w'.cell? ⟨w.heap.size,0,none⟩=some (.int .i64 m.kind)∧w'.cell? ⟨w.heap.size,1,none⟩=some (.int .i64 m.frm)∧w'.cell? ⟨w.heap.size,2,none⟩=some (.int .i64 m.dst)∧w'.cell? ⟨w.heap.size,3,none⟩=some (.int .u64 m.term)∧w'.cell? ⟨w.heap.size,4,none⟩=some (.int .u64 m.index)∧w'.cell? ⟨w.heap.size,5,none⟩=some (.int .u64 m.prev)∧w'.cell? ⟨w.heap.size,6,none⟩=some (.int .u64 m.commit)∧w'.cell? ⟨w.heap.size,7,none⟩=some (.int .u64 m.mark)∧w'.cell? ⟨w.heap.size,8,none⟩=some (.bool m.ok)∧w'.cell? ⟨w.heap.size,9,none⟩=some (.slice m.A m.n m.c)∧w'.cell? ⟨w.heap.size,10,none⟩=some (.string m.snap)):=by
    intro t tt v W htt ht hv hW;subst htt;obtain ⟨n,rfl⟩:=Int.eq_ofNat_of_zero_le hv.1;exact (rnumber_any t n W ht (by omega)).mono fun q w' ⟨h1,h2⟩=>⟨h1,(hW.on h2).all⟩
   have KT:Hid (∀ (t:Nat) (tt:Int) (d:ByteArray) (W:World),tt=(t:Int)→t<12→d.size≤16384→Bm w m W→Calls Tryz.prog 69 #[.int .u64 tt,.string d] W fun q w'=>q=.returned (.string (rdn t (tb d)))∧Bm w m w'∧w'.cell? ⟨w.heap.size,0,none⟩=some (.int .i64 m.kind)∧w'.cell? ⟨w.heap.size,1,none⟩=some (.int .i64 m.frm)∧w'.cell? ⟨w.heap.size,2,none⟩=some (.int .i64 m.dst)∧w'.cell? ⟨w.heap.size,3,none⟩=some (.int .u64 m.term)∧w'.cell? ⟨w.heap.size,4,none⟩=some (.int .u64 m.index)∧w'.cell? ⟨w.heap.size,5,none⟩=some (.int .u64 m.prev)∧w'.cell? ⟨w.heap.size,6,none⟩=some (.int .u64 m.commit)∧w'.cell? ⟨w.heap.size,7,none⟩=some (.int .u64 m.mark)∧w'.cell? ⟨w.heap.size,8,none⟩=some (.bool m.ok)∧w'.cell? ⟨w.heap.size,9,none⟩=some (.slice m.A m.n m.c)∧w'.cell? ⟨w.heap.size,10,none⟩=some (.string m.snap)):=fun t tt d W htt ht hd hW=>htt▸(rtext3_any t d W ht hd).mono fun q w' ⟨h1,h2⟩=>⟨h1,(hW.on h2).all⟩;have KE:Hid (∀ (e:En) (W:World),e.Ok∧rightB e=true→Bm w m W→Calls Tryz.prog 29 #[ev e] W fun q w'=>q=.returned (.tuple #[.string (sbE e),.bool true])∧Bm w m w'):=fun e W he hW=>(rputE_any e W he.1).mono fun q w' ⟨h1,h2⟩=>⟨by rw [h1,he.2];unfold putS_b;rw [if_pos he.2],hW.on h2⟩;have q1:0≤m.kind∧m.kind≤18446744073709551615:=by omega
   have q2:0≤m.frm∧m.frm≤18446744073709551615:=by omega
   have q3:0≤m.dst∧m.dst≤18446744073709551615:=by omega
   have q11:0≤(m.n:Int)∧(m.n:Int)≤18446744073709551615:=by omega
   obtain ⟨yb,hyb⟩:∃ yb,yb=m.ok:=⟨_,rfl⟩;rw [←nb_bit,←hyb] at HEq;have HYB:=zh hyb;clear HP hrb fw ok2_b hyb
   go_enter Tryz.func36,Tryz.ntmps36
   go_wp2_with fail
   rw [←HW.out];refine (KR.out _ S1.out).mono ?_;rintro q w1 ⟨rfl,T,d0,d1,d2,d3,d4,d5,d6,d7,d8,d9,d10⟩;have d8':w1.cell? ⟨w.heap.size,8,none⟩=some (.bool yb):=by rw [HYB.out];exact d8
   clear KR S1
   cases yb with
   | false =>
     have q9:0≤(0:Int)∧(0:Int)≤18446744073709551615:=by omega
     have l1:=rdn_le2 1 (nb m.kind) 10 (by omega) (nb_le _ (by omega));have l2:=rdn_le2 2 (nb m.frm) 10 (by omega) (nb_le _ (by omega));have l3:=rdn_le2 3 (nb m.dst) 10 (by omega) (nb_le _ (by omega));have l4:=rdn_le2 4 (nb m.term) 10 (by omega) (nb_le _ (by omega));have l5:=rdn_le2 5 (nb m.index) 10 (by omega) (nb_le _ (by omega));have l6:=rdn_le2 6 (nb m.prev) 10 (by omega) (nb_le _ (by omega));have l7:=rdn_le2 7 (nb m.commit) 10 (by omega) (nb_le _ (by omega));have l8:=rdn_le2 8 (nb m.mark) 10 (by omega) (nb_le _ (by omega));have l9:=rdn_le2 9 (nb (0:Int)) 10 (by omega) (nb_le _ (by omega));have l10:=rdn_le2 10 (tb m.snap) 16400 (by omega) (by unfold tb;split;exact Nat.zero_le _;rw [ByteArray.size_append];have:=putB_le m.snap.size (by omega);omega);have l11:=rdn_le2 11 (nb (m.n:Int)) 10 (by omega) (nb_le _ (by omega));have y1:¬ 9223372036854775807<(rdn 1 (nb m.kind)).size+(rdn 2 (nb m.frm)).size:=by omega
     have y2:¬ 9223372036854775807<(rdn 1 (nb m.kind)).size+(rdn 2 (nb m.frm)).size+(rdn 3 (nb m.dst)).size:=by omega
     have y3:¬ 9223372036854775807<(rdn 1 (nb m.kind)).size+(rdn 2 (nb m.frm)).size+(rdn 3 (nb m.dst)).size+(rdn 4 (nb m.term)).size:=by omega
     have y4:¬ 9223372036854775807<(rdn 1 (nb m.kind)).size+(rdn 2 (nb m.frm)).size+(rdn 3 (nb m.dst)).size+(rdn 4 (nb m.term)).size+(rdn 5 (nb m.index)).size:=by omega
     have y5:¬ 9223372036854775807<(rdn 1 (nb m.kind)).size+(rdn 2 (nb m.frm)).size+(rdn 3 (nb m.dst)).size+(rdn 4 (nb m.term)).size+(rdn 5 (nb m.index)).size+(rdn 6 (nb m.prev)).size:=by omega
     have y6:¬ 9223372036854775807<(rdn 1 (nb m.kind)).size+(rdn 2 (nb m.frm)).size+(rdn 3 (nb m.dst)).size+(rdn 4 (nb m.term)).size+(rdn 5 (nb m.index)).size+(rdn 6 (nb m.prev)).size+(rdn 7 (nb m.commit)).size:=by omega
     have y7:¬ 9223372036854775807<(rdn 1 (nb m.kind)).size+(rdn 2 (nb m.frm)).size+(rdn 3 (nb m.dst)).size+(rdn 4 (nb m.term)).size+(rdn 5 (nb m.index)).size+(rdn 6 (nb m.prev)).size+(rdn 7 (nb m.commit)).size+(rdn 8 (nb m.mark)).size:=by omega
     have y8:¬ 9223372036854775807<(rdn 1 (nb m.kind)).size+(rdn 2 (nb m.frm)).size+(rdn 3 (nb m.dst)).size+(rdn 4 (nb m.term)).size+(rdn 5 (nb m.index)).size+(rdn 6 (nb m.prev)).size+(rdn 7 (nb m.commit)).size+(rdn 8 (nb m.mark)).size+(rdn 9 (nb (0:Int))).size:=by omega
     have y9:¬ 9223372036854775807<(rdn 1 (nb m.kind)).size+(rdn 2 (nb m.frm)).size+(rdn 3 (nb m.dst)).size+(rdn 4 (nb m.term)).size+(rdn 5 (nb m.index)).size+(rdn 6 (nb m.prev)).size+(rdn 7 (nb m.commit)).size+(rdn 8 (nb m.mark)).size+(rdn 9 (nb (0:Int))).size+(rdn 10 (tb m.snap)).size:=by omega
     have y10:¬ 9223372036854775807<(rdn 1 (nb m.kind)).size+(rdn 2 (nb m.frm)).size+(rdn 3 (nb m.dst)).size+(rdn 4 (nb m.term)).size+(rdn 5 (nb m.index)).size+(rdn 6 (nb m.prev)).size+(rdn 7 (nb m.commit)).size+(rdn 8 (nb m.mark)).size+(rdn 9 (nb (0:Int))).size+(rdn 10 (tb m.snap)).size+(rdn 11 (nb (m.n:Int))).size:=by omega
     have HEq2:Hid (putX m=rdn 1 (nb m.kind)++rdn 2 (nb m.frm)++rdn 3 (nb m.dst)++rdn 4 (nb m.term)++rdn 5 (nb m.index)++rdn 6 (nb m.prev)++rdn 7 (nb m.commit)++rdn 8 (nb m.mark)++rdn 9 (nb (0:Int))++rdn 10 (tb m.snap)++rdn 11 (nb (m.n:Int))++catE m.es++⟨#[0]⟩):=by
      have h:=HEq.out;rw [HLEN.out] at h;exact h
     obtain ⟨y,hy⟩:∃ y,y=rdn 1 (nb m.kind)++rdn 2 (nb m.frm)++rdn 3 (nb m.dst)++rdn 4 (nb m.term)++rdn 5 (nb m.index)++rdn 6 (nb m.prev)++rdn 7 (nb m.commit)++rdn 8 (nb m.mark)++rdn 9 (nb (0:Int))++rdn 10 (tb m.snap)++rdn 11 (nb (m.n:Int)):=⟨_,rfl⟩
     have hys:y.size≤20000:=by
      rw [hy];simp only [ByteArray.size_append];omega
     have HY:=zh hy;have HYS:=zh hys;clear hy hys l1 l2 l3 l4 l5 l6 l7 l8 l9 l10 l11 d8 HEq
     go_upto_region 7 with fail
     have Td:Bm w m w1.drew:=T.on (Below.refl _ w1).drew
     go_region_held3 (fun w'=>w'.cell? ⟨w.heap.size,0,none⟩=some (.int .i64 m.kind)∧w'.cell? ⟨w.heap.size,1,none⟩=some (.int .i64 m.frm)∧w'.cell? ⟨w.heap.size,2,none⟩=some (.int .i64 m.dst)∧w'.cell? ⟨w.heap.size,3,none⟩=some (.int .u64 m.term)∧w'.cell? ⟨w.heap.size,4,none⟩=some (.int .u64 m.index)∧w'.cell? ⟨w.heap.size,5,none⟩=some (.int .u64 m.prev)∧w'.cell? ⟨w.heap.size,6,none⟩=some (.int .u64 m.commit)∧w'.cell? ⟨w.heap.size,7,none⟩=some (.int .u64 m.mark)∧w'.cell? ⟨w.heap.size,8,none⟩=some (.bool m.ok)∧w'.cell? ⟨w.heap.size,9,none⟩=some (.slice m.A m.n m.c)∧w'.cell? ⟨w.heap.size,10,none⟩=some (.string m.snap)) (first|exact ⟨d0,d1,d2,d3,d4,d5,d6,d7,d8,d9,d10⟩|(refine ⟨?_,?_,?_,?_,?_,?_,?_,?_,?_,?_,?_⟩<;>first|assumption|(rw [←HYB.out];assumption))) (first
      | (go_at_call 68;(with_reducible refine (KN.out 1 1 m.kind _ (by decide) (by decide) q1 Td).mono ?_);rintro q x1 ⟨rfl,X1,x1_0,x1_1,x1_2,x1_3,x1_4,x1_5,x1_6,x1_7,x1_8,x1_9,x1_10⟩)
      | (go_at_call 68;(with_reducible refine (KN.out 2 2 m.frm _ (by decide) (by decide) q2 X1).mono ?_);rintro q x2 ⟨rfl,X2,x2_0,x2_1,x2_2,x2_3,x2_4,x2_5,x2_6,x2_7,x2_8,x2_9,x2_10⟩)
      | (go_at_call 68;(with_reducible refine (KN.out 3 3 m.dst _ (by decide) (by decide) q3 X2).mono ?_);rintro q x3 ⟨rfl,X3,x3_0,x3_1,x3_2,x3_3,x3_4,x3_5,x3_6,x3_7,x3_8,x3_9,x3_10⟩)
      | (go_at_call 68;(with_reducible refine (KN.out 4 4 m.term _ (by decide) (by decide) a4 X3).mono ?_);rintro q x4 ⟨rfl,X4,x4_0,x4_1,x4_2,x4_3,x4_4,x4_5,x4_6,x4_7,x4_8,x4_9,x4_10⟩)
      | (go_at_call 68;(with_reducible refine (KN.out 5 5 m.index _ (by decide) (by decide) a5 X4).mono ?_);rintro q x5 ⟨rfl,X5,x5_0,x5_1,x5_2,x5_3,x5_4,x5_5,x5_6,x5_7,x5_8,x5_9,x5_10⟩)
      | (go_at_call 68;(with_reducible refine (KN.out 6 6 m.prev _ (by decide) (by decide) a6 X5).mono ?_);rintro q x6 ⟨rfl,X6,x6_0,x6_1,x6_2,x6_3,x6_4,x6_5,x6_6,x6_7,x6_8,x6_9,x6_10⟩)
      | (go_at_call 68;(with_reducible refine (KN.out 7 7 m.commit _ (by decide) (by decide) a7 X6).mono ?_);rintro q x7 ⟨rfl,X7,x7_0,x7_1,x7_2,x7_3,x7_4,x7_5,x7_6,x7_7,x7_8,x7_9,x7_10⟩)
      | (go_at_call 68;(with_reducible refine (KN.out 8 8 m.mark _ (by decide) (by decide) a8 X7).mono ?_);rintro q x8 ⟨rfl,X8,x8_0,x8_1,x8_2,x8_3,x8_4,x8_5,x8_6,x8_7,x8_8,x8_9,x8_10⟩)
      | (go_at_call 68;(with_reducible refine (KN.out 9 9 0 _ (by decide) (by decide) q9 X8).mono ?_);rintro q x9 ⟨rfl,X9,x9_0,x9_1,x9_2,x9_3,x9_4,x9_5,x9_6,x9_7,x9_8,x9_9,x9_10⟩)
      | (go_at_call 69;(with_reducible refine (KT.out 10 10 m.snap _ (by decide) (by decide) a10 X9).mono ?_);rintro q x10 ⟨rfl,X10,x10_0,x10_1,x10_2,x10_3,x10_4,x10_5,x10_6,x10_7,x10_8,x10_9,x10_10⟩)
      | (go_at_call 68;(with_reducible refine (KN.out 11 11 (m.n:Int) _ (by decide) (by decide) q11 X10).mono ?_);rintro q x11 ⟨rfl,X11,x11_0,x11_1,x11_2,x11_3,x11_4,x11_5,x11_6,x11_7,x11_8,x11_9,x11_10⟩))
     clear KN KT y1 y2 y3 y4 y5 y6 y7 y8 y9 y10
     go_wp2_with fail
     have HX:=zh X11;clear X1 X2 X3 X4 X5 X6 X7 X8 X9 X10 X11 x1_0 x1_1 x1_2 x1_3 x1_4 x1_5 x1_6 x1_7 x1_8 x1_9 x1_10 x2_0 x2_1 x2_2 x2_3 x2_4 x2_5 x2_6 x2_7 x2_8 x2_9 x2_10 x3_0 x3_1 x3_2 x3_3 x3_4 x3_5 x3_6 x3_7 x3_8 x3_9 x3_10 x4_0 x4_1 x4_2 x4_3 x4_4 x4_5 x4_6 x4_7 x4_8 x4_9 x4_10 x5_0 x5_1 x5_2 x5_3 x5_4 x5_5 x5_6 x5_7 x5_8 x5_9 x5_10 x6_0 x6_1 x6_2 x6_3 x6_4 x6_5 x6_6 x6_7 x6_8 x6_9 x6_10 x7_0 x7_1 x7_2 x7_3 x7_4 x7_5 x7_6 x7_7 x7_8 x7_9 x7_10 x8_0 x8_1 x8_2 x8_3 x8_4 x8_5 x8_6 x8_7 x8_8 x8_9 x8_10 x9_0 x9_1 x9_2 x9_3 x9_4 x9_5 x9_6 x9_7 x9_8 x9_9 x9_10 x10_0 x10_1 x10_2 x10_3 x10_4 x10_5 x10_6 x10_7 x10_8 x10_9 x10_10 x11_0 x11_1 x11_2 x11_3 x11_4 x11_5 x11_6 x11_7 x11_8 x11_9 x11_10 d0 d1 d2 d3 d4 d5 d6 d7 d9 d10 d8' Td T
     go_loopw [6,7] (fun sv i wr=>∃ k:Nat,k≤m.n∧i=.int .i64 k∧sv=.string (y++catE (m.es.take k))∧Bm w m wr) (fun _ i _=>m.n-(intOf i).toNat)
     case atStart =>
      refine ⟨0,Nat.zero_le _,rfl,?_,HX.out⟩;rw [List.take_zero,HY.out]
      show _=Value.string (_++⟨#[]⟩)
      congr 1
      apply ByteArray.ext;simp
     case round =>
      obtain ⟨k,hk,rfl,rfl,hr⟩:=hrel;clear HX;have c9:wr.cell? ⟨w.heap.size,9,none⟩=some (.slice m.A m.n m.c):=zcr wr _ 9 _ 29 (0,0) hr.k
      have hcs:(catE (m.es.take k)).size≤64000:=by
       have h:=catE_le (m.es.take k) (fun x hx=>HEN.out x (List.mem_of_mem_take hx));have h2:(m.es.take k).length≤64:=by rw [List.length_take];omega
       omega
      have hys:(y++catE (m.es.take k)).size≤84000:=by rw [ByteArray.size_append];have:=HYS.out;omega
      by_cases hlt:k<m.n
      ·obtain ⟨e,he⟩:∃ e,m.es[k]?=some e:=⟨_,List.getElem?_eq_getElem (by rw [HLEN.out];exact hlt)⟩;obtain ⟨a,hA,hBl,hc⟩:=hr.en.at_ k e he;have hef:=HEN.out e (List.mem_of_getElem? he)
       have hst:Hid (y++catE (m.es.take k)++sbE e=y++catE (m.es.take (k+1))):=by
        show _=_
        rw [show m.es.take (k+1)=m.es.take k++[e] by rw [List.take_add_one,he];rfl,catE_snoc,append_assoc3]
       have hfw:=few_of_b hef.1 hef.2;have hsl:=sbE_le hef.1 hfw;have KE2:=zh (fun (W:World) (h:Bm w m W)=>KE.out e W hef h);have d0:wr.cell? (a.add (k*11))=some (.int .u64 e.term):=hc 0 (by omega);have d1:wr.cell? ⟨(a.add (k*11)).block,(a.add (k*11)).off+1,none⟩=some (.int .u64 e.index):=hc 1 (by omega);have d2:wr.cell? ⟨(a.add (k*11)).block,(a.add (k*11)).off+2,none⟩=some (.int .i64 e.kind):=hc 2 (by omega);have d3:wr.cell? ⟨(a.add (k*11)).block,(a.add (k*11)).off+3,none⟩=some (.int .u64 e.client):=hc 3 (by omega);have d4:wr.cell? ⟨(a.add (k*11)).block,(a.add (k*11)).off+4,none⟩=some (.int .u64 e.seq):=hc 4 (by omega);have d5:wr.cell? ⟨(a.add (k*11)).block,(a.add (k*11)).off+5,none⟩=some (.int .u64 e.block):=hc 5 (by omega);have d6:wr.cell? ⟨(a.add (k*11)).block,(a.add (k*11)).off+6,none⟩=some (.int .u64 e.many):=hc 6 (by omega);have d7:wr.cell? ⟨(a.add (k*11)).block,(a.add (k*11)).off+7,none⟩=some (.int .i64 e.node):=hc 7 (by omega);have d8:wr.cell? ⟨(a.add (k*11)).block,(a.add (k*11)).off+8,none⟩=some (.int .i64 e.level):=hc 8 (by omega);have d9:wr.cell? ⟨(a.add (k*11)).block,(a.add (k*11)).off+9,none⟩=some (.string e.data):=hc 9 (by omega);have d10:wr.cell? ⟨(a.add (k*11)).block,(a.add (k*11)).off+10,none⟩=some (.string e.old):=hc 10 (by omega);have HR:=zh hr;have HAA:=zh hA;rw [hA] at c9;obtain ⟨z,hz⟩:∃ z,z=y++catE (m.es.take k):=⟨_,rfl⟩;rw [←hz] at hys hst ⊢;have hov:¬ 9223372036854775807<z.size+(sbE e).size:=by omega
       obtain ⟨se,hse⟩:∃ se,se=sbE e:=⟨_,rfl⟩;rw [←hse] at hst hov KE2;clear hr hc hA hBl hef hfw hsl he hcs hz hse KE hys
       go_wp2_with fail
       refine (KE2.out _ HR.out).mono ?_;rintro q w4 ⟨rfl,h4⟩;go_wp2
       go_roundw
       case rel=>exact ⟨k+1,by omega,by go_num,by rw [hst.out],h4⟩
       case measure=>simp [intOf];omega
      ·have hkn:k=m.n:=by omega
       have htk:m.es.take k=m.es:=List.take_of_length_le (by rw [HLEN.out];omega);rw [htk] at hys ⊢;have HR:=zh hr;obtain ⟨z,hz⟩:∃ z,z=y++catE m.es:=⟨_,rfl⟩;have HZ:Hid (putX m=z++⟨#[0]⟩):=by show _=_;rw [hz,HY.out];exact HEq2.out
       rw [←hz] at hys ⊢;have hov:¬ 9223372036854775807<z.size+1:=by omega
       clear hr htk hcs KE hz
       go_wp2_with fail
       refine bodyPost_ret (v:=.tuple #[.string (z++⟨#[0]⟩),.bool true]) (by simp [results,Tryz.results36,go_sem]) rfl ?_;exact ⟨ret_pair_b HZ.out.symm rfl,HR.out.be⟩
   | true =>
     have q9:0≤(1:Int)∧(1:Int)≤18446744073709551615:=by omega
     have l1:=rdn_le2 1 (nb m.kind) 10 (by omega) (nb_le _ (by omega));have l2:=rdn_le2 2 (nb m.frm) 10 (by omega) (nb_le _ (by omega));have l3:=rdn_le2 3 (nb m.dst) 10 (by omega) (nb_le _ (by omega));have l4:=rdn_le2 4 (nb m.term) 10 (by omega) (nb_le _ (by omega));have l5:=rdn_le2 5 (nb m.index) 10 (by omega) (nb_le _ (by omega));have l6:=rdn_le2 6 (nb m.prev) 10 (by omega) (nb_le _ (by omega));have l7:=rdn_le2 7 (nb m.commit) 10 (by omega) (nb_le _ (by omega));have l8:=rdn_le2 8 (nb m.mark) 10 (by omega) (nb_le _ (by omega));have l9:=rdn_le2 9 (nb (1:Int)) 10 (by omega) (nb_le _ (by omega));have l10:=rdn_le2 10 (tb m.snap) 16400 (by omega) (by unfold tb;split;exact Nat.zero_le _;rw [ByteArray.size_append];have:=putB_le m.snap.size (by omega);omega);have l11:=rdn_le2 11 (nb (m.n:Int)) 10 (by omega) (nb_le _ (by omega));have y1:¬ 9223372036854775807<(rdn 1 (nb m.kind)).size+(rdn 2 (nb m.frm)).size:=by omega
     have y2:¬ 9223372036854775807<(rdn 1 (nb m.kind)).size+(rdn 2 (nb m.frm)).size+(rdn 3 (nb m.dst)).size:=by omega
     have y3:¬ 9223372036854775807<(rdn 1 (nb m.kind)).size+(rdn 2 (nb m.frm)).size+(rdn 3 (nb m.dst)).size+(rdn 4 (nb m.term)).size:=by omega
     have y4:¬ 9223372036854775807<(rdn 1 (nb m.kind)).size+(rdn 2 (nb m.frm)).size+(rdn 3 (nb m.dst)).size+(rdn 4 (nb m.term)).size+(rdn 5 (nb m.index)).size:=by omega
     have y5:¬ 9223372036854775807<(rdn 1 (nb m.kind)).size+(rdn 2 (nb m.frm)).size+(rdn 3 (nb m.dst)).size+(rdn 4 (nb m.term)).size+(rdn 5 (nb m.index)).size+(rdn 6 (nb m.prev)).size:=by omega
     have y6:¬ 9223372036854775807<(rdn 1 (nb m.kind)).size+(rdn 2 (nb m.frm)).size+(rdn 3 (nb m.dst)).size+(rdn 4 (nb m.term)).size+(rdn 5 (nb m.index)).size+(rdn 6 (nb m.prev)).size+(rdn 7 (nb m.commit)).size:=by omega
     have y7:¬ 9223372036854775807<(rdn 1 (nb m.kind)).size+(rdn 2 (nb m.frm)).size+(rdn 3 (nb m.dst)).size+(rdn 4 (nb m.term)).size+(rdn 5 (nb m.index)).size+(rdn 6 (nb m.prev)).size+(rdn 7 (nb m.commit)).size+(rdn 8 (nb m.mark)).size:=by omega
     have y8:¬ 9223372036854775807<(rdn 1 (nb m.kind)).size+(rdn 2 (nb m.frm)).size+(rdn 3 (nb m.dst)).size+(rdn 4 (nb m.term)).size+(rdn 5 (nb m.index)).size+(rdn 6 (nb m.prev)).size+(rdn 7 (nb m.commit)).size+(rdn 8 (nb m.mark)).size+(rdn 9 (nb (1:Int))).size:=by omega
     have y9:¬ 9223372036854775807<(rdn 1 (nb m.kind)).size+(rdn 2 (nb m.frm)).size+(rdn 3 (nb m.dst)).size+(rdn 4 (nb m.term)).size+(rdn 5 (nb m.index)).size+(rdn 6 (nb m.prev)).size+(rdn 7 (nb m.commit)).size+(rdn 8 (nb m.mark)).size+(rdn 9 (nb (1:Int))).size+(rdn 10 (tb m.snap)).size:=by omega
     have y10:¬ 9223372036854775807<(rdn 1 (nb m.kind)).size+(rdn 2 (nb m.frm)).size+(rdn 3 (nb m.dst)).size+(rdn 4 (nb m.term)).size+(rdn 5 (nb m.index)).size+(rdn 6 (nb m.prev)).size+(rdn 7 (nb m.commit)).size+(rdn 8 (nb m.mark)).size+(rdn 9 (nb (1:Int))).size+(rdn 10 (tb m.snap)).size+(rdn 11 (nb (m.n:Int))).size:=by omega
     have HEq2:Hid (putX m=rdn 1 (nb m.kind)++rdn 2 (nb m.frm)++rdn 3 (nb m.dst)++rdn 4 (nb m.term)++rdn 5 (nb m.index)++rdn 6 (nb m.prev)++rdn 7 (nb m.commit)++rdn 8 (nb m.mark)++rdn 9 (nb (1:Int))++rdn 10 (tb m.snap)++rdn 11 (nb (m.n:Int))++catE m.es++⟨#[0]⟩):=by
      have h:=HEq.out;rw [HLEN.out] at h;exact h
     obtain ⟨y,hy⟩:∃ y,y=rdn 1 (nb m.kind)++rdn 2 (nb m.frm)++rdn 3 (nb m.dst)++rdn 4 (nb m.term)++rdn 5 (nb m.index)++rdn 6 (nb m.prev)++rdn 7 (nb m.commit)++rdn 8 (nb m.mark)++rdn 9 (nb (1:Int))++rdn 10 (tb m.snap)++rdn 11 (nb (m.n:Int)):=⟨_,rfl⟩
     have hys:y.size≤20000:=by
      rw [hy];simp only [ByteArray.size_append];omega
     have HY:=zh hy;have HYS:=zh hys;clear hy hys l1 l2 l3 l4 l5 l6 l7 l8 l9 l10 l11 d8 HEq
     go_upto_region 7 with fail
     have Td:Bm w m w1.drew:=T.on (Below.refl _ w1).drew
     go_region_held3 (fun w'=>w'.cell? ⟨w.heap.size,0,none⟩=some (.int .i64 m.kind)∧w'.cell? ⟨w.heap.size,1,none⟩=some (.int .i64 m.frm)∧w'.cell? ⟨w.heap.size,2,none⟩=some (.int .i64 m.dst)∧w'.cell? ⟨w.heap.size,3,none⟩=some (.int .u64 m.term)∧w'.cell? ⟨w.heap.size,4,none⟩=some (.int .u64 m.index)∧w'.cell? ⟨w.heap.size,5,none⟩=some (.int .u64 m.prev)∧w'.cell? ⟨w.heap.size,6,none⟩=some (.int .u64 m.commit)∧w'.cell? ⟨w.heap.size,7,none⟩=some (.int .u64 m.mark)∧w'.cell? ⟨w.heap.size,8,none⟩=some (.bool m.ok)∧w'.cell? ⟨w.heap.size,9,none⟩=some (.slice m.A m.n m.c)∧w'.cell? ⟨w.heap.size,10,none⟩=some (.string m.snap)) (first|exact ⟨d0,d1,d2,d3,d4,d5,d6,d7,d8,d9,d10⟩|(refine ⟨?_,?_,?_,?_,?_,?_,?_,?_,?_,?_,?_⟩<;>first|assumption|(rw [←HYB.out];assumption))) (first
      | (go_at_call 68;(with_reducible refine (KN.out 1 1 m.kind _ (by decide) (by decide) q1 Td).mono ?_);rintro q x1 ⟨rfl,X1,x1_0,x1_1,x1_2,x1_3,x1_4,x1_5,x1_6,x1_7,x1_8,x1_9,x1_10⟩)
      | (go_at_call 68;(with_reducible refine (KN.out 2 2 m.frm _ (by decide) (by decide) q2 X1).mono ?_);rintro q x2 ⟨rfl,X2,x2_0,x2_1,x2_2,x2_3,x2_4,x2_5,x2_6,x2_7,x2_8,x2_9,x2_10⟩)
      | (go_at_call 68;(with_reducible refine (KN.out 3 3 m.dst _ (by decide) (by decide) q3 X2).mono ?_);rintro q x3 ⟨rfl,X3,x3_0,x3_1,x3_2,x3_3,x3_4,x3_5,x3_6,x3_7,x3_8,x3_9,x3_10⟩)
      | (go_at_call 68;(with_reducible refine (KN.out 4 4 m.term _ (by decide) (by decide) a4 X3).mono ?_);rintro q x4 ⟨rfl,X4,x4_0,x4_1,x4_2,x4_3,x4_4,x4_5,x4_6,x4_7,x4_8,x4_9,x4_10⟩)
      | (go_at_call 68;(with_reducible refine (KN.out 5 5 m.index _ (by decide) (by decide) a5 X4).mono ?_);rintro q x5 ⟨rfl,X5,x5_0,x5_1,x5_2,x5_3,x5_4,x5_5,x5_6,x5_7,x5_8,x5_9,x5_10⟩)
      | (go_at_call 68;(with_reducible refine (KN.out 6 6 m.prev _ (by decide) (by decide) a6 X5).mono ?_);rintro q x6 ⟨rfl,X6,x6_0,x6_1,x6_2,x6_3,x6_4,x6_5,x6_6,x6_7,x6_8,x6_9,x6_10⟩)
      | (go_at_call 68;(with_reducible refine (KN.out 7 7 m.commit _ (by decide) (by decide) a7 X6).mono ?_);rintro q x7 ⟨rfl,X7,x7_0,x7_1,x7_2,x7_3,x7_4,x7_5,x7_6,x7_7,x7_8,x7_9,x7_10⟩)
      | (go_at_call 68;(with_reducible refine (KN.out 8 8 m.mark _ (by decide) (by decide) a8 X7).mono ?_);rintro q x8 ⟨rfl,X8,x8_0,x8_1,x8_2,x8_3,x8_4,x8_5,x8_6,x8_7,x8_8,x8_9,x8_10⟩)
      | (go_at_call 68;(with_reducible refine (KN.out 9 9 1 _ (by decide) (by decide) q9 X8).mono ?_);rintro q x9 ⟨rfl,X9,x9_0,x9_1,x9_2,x9_3,x9_4,x9_5,x9_6,x9_7,x9_8,x9_9,x9_10⟩)
      | (go_at_call 69;(with_reducible refine (KT.out 10 10 m.snap _ (by decide) (by decide) a10 X9).mono ?_);rintro q x10 ⟨rfl,X10,x10_0,x10_1,x10_2,x10_3,x10_4,x10_5,x10_6,x10_7,x10_8,x10_9,x10_10⟩)
      | (go_at_call 68;(with_reducible refine (KN.out 11 11 (m.n:Int) _ (by decide) (by decide) q11 X10).mono ?_);rintro q x11 ⟨rfl,X11,x11_0,x11_1,x11_2,x11_3,x11_4,x11_5,x11_6,x11_7,x11_8,x11_9,x11_10⟩))
     clear KN KT y1 y2 y3 y4 y5 y6 y7 y8 y9 y10
     go_wp2_with fail
     have HX:=zh X11;clear X1 X2 X3 X4 X5 X6 X7 X8 X9 X10 X11 x1_0 x1_1 x1_2 x1_3 x1_4 x1_5 x1_6 x1_7 x1_8 x1_9 x1_10 x2_0 x2_1 x2_2 x2_3 x2_4 x2_5 x2_6 x2_7 x2_8 x2_9 x2_10 x3_0 x3_1 x3_2 x3_3 x3_4 x3_5 x3_6 x3_7 x3_8 x3_9 x3_10 x4_0 x4_1 x4_2 x4_3 x4_4 x4_5 x4_6 x4_7 x4_8 x4_9 x4_10 x5_0 x5_1 x5_2 x5_3 x5_4 x5_5 x5_6 x5_7 x5_8 x5_9 x5_10 x6_0 x6_1 x6_2 x6_3 x6_4 x6_5 x6_6 x6_7 x6_8 x6_9 x6_10 x7_0 x7_1 x7_2 x7_3 x7_4 x7_5 x7_6 x7_7 x7_8 x7_9 x7_10 x8_0 x8_1 x8_2 x8_3 x8_4 x8_5 x8_6 x8_7 x8_8 x8_9 x8_10 x9_0 x9_1 x9_2 x9_3 x9_4 x9_5 x9_6 x9_7 x9_8 x9_9 x9_10 x10_0 x10_1 x10_2 x10_3 x10_4 x10_5 x10_6 x10_7 x10_8 x10_9 x10_10 x11_0 x11_1 x11_2 x11_3 x11_4 x11_5 x11_6 x11_7 x11_8 x11_9 x11_10 d0 d1 d2 d3 d4 d5 d6 d7 d9 d10 d8' Td T
     go_loopw [6,7] (fun sv i wr=>∃ k:Nat,k≤m.n∧i=.int .i64 k∧sv=.string (y++catE (m.es.take k))∧Bm w m wr) (fun _ i _=>m.n-(intOf i).toNat)
     case atStart =>
      refine ⟨0,Nat.zero_le _,rfl,?_,HX.out⟩;rw [List.take_zero,HY.out]
      show _=Value.string (_++⟨#[]⟩)
      congr 1
      apply ByteArray.ext;simp
     case round =>
      obtain ⟨k,hk,rfl,rfl,hr⟩:=hrel;clear HX;have c9:wr.cell? ⟨w.heap.size,9,none⟩=some (.slice m.A m.n m.c):=zcr wr _ 9 _ 29 (0,0) hr.k
      have hcs:(catE (m.es.take k)).size≤64000:=by
       have h:=catE_le (m.es.take k) (fun x hx=>HEN.out x (List.mem_of_mem_take hx));have h2:(m.es.take k).length≤64:=by rw [List.length_take];omega
       omega
      have hys:(y++catE (m.es.take k)).size≤84000:=by rw [ByteArray.size_append];have:=HYS.out;omega
      by_cases hlt:k<m.n
      ·obtain ⟨e,he⟩:∃ e,m.es[k]?=some e:=⟨_,List.getElem?_eq_getElem (by rw [HLEN.out];exact hlt)⟩;obtain ⟨a,hA,hBl,hc⟩:=hr.en.at_ k e he;have hef:=HEN.out e (List.mem_of_getElem? he)
       have hst:Hid (y++catE (m.es.take k)++sbE e=y++catE (m.es.take (k+1))):=by
        show _=_
        rw [show m.es.take (k+1)=m.es.take k++[e] by rw [List.take_add_one,he];rfl,catE_snoc,append_assoc3]
       have hfw:=few_of_b hef.1 hef.2;have hsl:=sbE_le hef.1 hfw;have KE2:=zh (fun (W:World) (h:Bm w m W)=>KE.out e W hef h);have d0:wr.cell? (a.add (k*11))=some (.int .u64 e.term):=hc 0 (by omega);have d1:wr.cell? ⟨(a.add (k*11)).block,(a.add (k*11)).off+1,none⟩=some (.int .u64 e.index):=hc 1 (by omega);have d2:wr.cell? ⟨(a.add (k*11)).block,(a.add (k*11)).off+2,none⟩=some (.int .i64 e.kind):=hc 2 (by omega);have d3:wr.cell? ⟨(a.add (k*11)).block,(a.add (k*11)).off+3,none⟩=some (.int .u64 e.client):=hc 3 (by omega);have d4:wr.cell? ⟨(a.add (k*11)).block,(a.add (k*11)).off+4,none⟩=some (.int .u64 e.seq):=hc 4 (by omega);have d5:wr.cell? ⟨(a.add (k*11)).block,(a.add (k*11)).off+5,none⟩=some (.int .u64 e.block):=hc 5 (by omega);have d6:wr.cell? ⟨(a.add (k*11)).block,(a.add (k*11)).off+6,none⟩=some (.int .u64 e.many):=hc 6 (by omega);have d7:wr.cell? ⟨(a.add (k*11)).block,(a.add (k*11)).off+7,none⟩=some (.int .i64 e.node):=hc 7 (by omega);have d8:wr.cell? ⟨(a.add (k*11)).block,(a.add (k*11)).off+8,none⟩=some (.int .i64 e.level):=hc 8 (by omega);have d9:wr.cell? ⟨(a.add (k*11)).block,(a.add (k*11)).off+9,none⟩=some (.string e.data):=hc 9 (by omega);have d10:wr.cell? ⟨(a.add (k*11)).block,(a.add (k*11)).off+10,none⟩=some (.string e.old):=hc 10 (by omega);have HR:=zh hr;have HAA:=zh hA;rw [hA] at c9;obtain ⟨z,hz⟩:∃ z,z=y++catE (m.es.take k):=⟨_,rfl⟩;rw [←hz] at hys hst ⊢;have hov:¬ 9223372036854775807<z.size+(sbE e).size:=by omega
       obtain ⟨se,hse⟩:∃ se,se=sbE e:=⟨_,rfl⟩;rw [←hse] at hst hov KE2;clear hr hc hA hBl hef hfw hsl he hcs hz hse KE hys
       go_wp2_with fail
       refine (KE2.out _ HR.out).mono ?_;rintro q w4 ⟨rfl,h4⟩;go_wp2
       go_roundw
       case rel=>exact ⟨k+1,by omega,by go_num,by rw [hst.out],h4⟩
       case measure=>simp [intOf];omega
      ·have hkn:k=m.n:=by omega
       have htk:m.es.take k=m.es:=List.take_of_length_le (by rw [HLEN.out];omega);rw [htk] at hys ⊢;have HR:=zh hr;obtain ⟨z,hz⟩:∃ z,z=y++catE m.es:=⟨_,rfl⟩;have HZ:Hid (putX m=z++⟨#[0]⟩):=by show _=_;rw [hz,HY.out];exact HEq2.out
       rw [←hz] at hys ⊢;have hov:¬ 9223372036854775807<z.size+1:=by omega
       clear hr htk hcs KE hz
       go_wp2_with fail
       refine bodyPost_ret (v:=.tuple #[.string (z++⟨#[0]⟩),.bool true]) (by simp [results,Tryz.results36,go_sem]) rfl ?_;exact ⟨ret_pair_b HZ.out.symm rfl,HR.out.be⟩
end Go.Proofs.YtpdbeijfchmlgaaGreat.D
