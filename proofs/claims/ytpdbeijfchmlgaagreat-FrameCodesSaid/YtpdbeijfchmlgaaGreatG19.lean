/-
  FrameCodes: part G19.
  Conditions: named in each theorem.
-/
import Derived.Test.YtpdbeijfchmlgaaGreatZ0
import Derived.Test.YtpdbeijfchmlgaaGreatG00
import Derived.Test.YtpdbeijfchmlgaaGreatG08
import Derived.Test.YtpdbeijfchmlgaaGreatG11
import Derived.Test.YtpdbeijfchmlgaaGreatG12
import Derived.Test.YtpdbeijfchmlgaaGreatG13
import Derived.Test.YtpdbeijfchmlgaaGreatG14
import Derived.Test.YtpdbeijfchmlgaaGreatG15
import Derived.Test.YtpdbeijfchmlgaaGreatG16
set_option linter.unusedVariables false
set_option linter.unusedSimpArgs false
set_option maxHeartbeats 16000000
set_option maxRecDepth 100000
namespace Go.Proofs.YtpdbeijfchmlgaaGreat
open Go.RowKit
theorem mfl_size0 (r:Int):(mfl r).size≤5:=by
 unfold mfl
 repeat' split
 all_goals decide
structure Tm (w0:World) (m:Ms) (w:World):Prop where
 bx:By w0.heap.size m 29 w
 en:Ents w.heap.size m.A m.n m.es w
 be:Below w0.heap.size w0 w
theorem Tm.on {w0 w w1:World} {m:Ms} (h:Tm w0 m w) (hb:Below w.heap.size w w1):Tm w0 m w1:=⟨h.bx.below hb,(h.en.below hb).mr hb.size,h.be.trans (hb.mono h.be.size)⟩
theorem Tm.drew {w0 w:World} {m:Ms} (h:Tm w0 m w):Tm w0 m w.drew:=⟨⟨h.bx.bx⟩,h.en.below (Below.refl _ w).drew,h.be.drew⟩
structure MAsk (m:Ms):Prop where
 k:mfb m.kind=true
 f1:1≤m.frm
 f7:m.frm≤7
 o1:1≤m.dst
 o7:m.dst≤7
 n64:(m.n:Int)≤64
 s:(m.snap.size:Int)≤16384
 i:hasL (mfl m.kind) 105=false→m.index=0
 p:hasL (mfl m.kind) 112=false→m.prev=0
 t:hasL (mfl m.kind) 116=false→m.commit=0
 r:hasL (mfl m.kind) 107=false→m.mark=0
 y:hasL (mfl m.kind) 121=false→m.ok=false
 e:hasL (mfl m.kind) 101=false→(m.n:Int)=0
 z:hasL (mfl m.kind) 115=false→(m.snap.size:Int)=0
theorem bitI_zero (b:Bool):bitI b=0↔b=false:=by cases b<;>simp [bitI]
theorem bitI_le (b:Bool):0≤bitI b∧bitI b≤1:=by cases b<;>simp [bitI]
theorem mask_iff (m:Ms) (h:m.Wide):masksB m=true↔MAsk m:=by
 have w1:IntKind.u64.wrap (m.n:Int)=m.n:=u64_id (by omega) h.n1;have w2:IntKind.u64.wrap (m.snap.size:Int)=m.snap.size:=u64_id (by omega) (by have:=h.s1;omega);have b1:=bitI_le m.ok;have b2:=bitI_zero m.ok;have i0:=h.i0;have i1:=h.i1;have p0:=h.p0;have p1:=h.p1;have c0:=h.c0;have c1:=h.c1;have m0:=h.m0;have m1:=h.m1;unfold masksB masks;simp only [List.all_cons,List.all_nil,id,Bool.and_true,Bool.and_eq_true,decide_eq_true_eq,lim_facts,w1,w2];constructor
 ·rintro ⟨hk,⟨hf1,hf7⟩,⟨ho1,ho7⟩,⟨hi,hi'⟩,⟨hp,hp'⟩,⟨ht,ht'⟩,⟨hr,hr'⟩,⟨hy,hy'⟩,⟨he,he'⟩,⟨hz,hz'⟩⟩;refine ⟨hk,hf1,hf7,ho1,ho7,?_,?_,hi',hp',ht',hr',fun q=>b2.1 (hy' q),he',hz'⟩
  ·cases q:hasL (mfl m.kind) 101
   ·have:=he' q;omega
   ·exact (he q).2
  ·cases q:hasL (mfl m.kind) 115
   ·have:=hz' q;omega
   ·exact (hz q).2
 ·intro A;refine ⟨A.k,⟨A.f1,A.f7⟩,⟨A.o1,A.o7⟩,⟨fun _=>⟨i0,i1⟩,A.i⟩,⟨fun _=>⟨p0,p1⟩,A.p⟩,⟨fun _=>⟨c0,c1⟩,A.t⟩,⟨fun _=>⟨m0,m1⟩,A.r⟩,⟨fun _=>b1,fun q=>b2.2 (A.y q)⟩,⟨fun _=>⟨by omega,A.n64⟩,A.e⟩,⟨fun _=>⟨by omega,A.s⟩,A.z⟩⟩
theorem mnot_ask {m:Ms} (h:m.Wide) (hn:¬ MAsk m):mrightB m=false:=by
 have:masksB m=false:=by
  cases q:masksB m with
  | false=>rfl
  | true=>exact absurd ((mask_iff m h).1 q) hn
 unfold mrightB;rw [this];rfl
theorem mwrong {m:Ms} {k:Nat} {e:En} (he:m.es[k]?=some e) (hr:rightB e=false):mrightB m=false:=by
 have:hasWrong m.es=true:=by
  unfold hasWrong;rw [List.any_eq_true];exact ⟨e,List.mem_of_getElem? he,by rw [hr];rfl⟩
 unfold mrightB;rw [this]
 simp
theorem mask_right {m:Ms} (h:m.Wide) (A:MAsk m) (hw:hasWrong m.es=false):mrightB m=true:=by
 unfold mrightB;rw [(mask_iff m h).2 A,hw];rfl
theorem mclose {m:Ms} (h:m.Wide) (hk:mfb m.kind=true) (F1:(1≤m.frm∧m.frm≤7)∧(1≤m.dst∧m.dst≤7)∧(m.n:Int)≤64∧(m.snap.size:Int)≤16384)
 (F2:(hasL (mfl m.kind) 105=false→m.index=0)∧(hasL (mfl m.kind) 112=false→m.prev=0)∧(hasL (mfl m.kind) 116=false→m.commit=0)∧(hasL (mfl m.kind) 107=false→m.mark=0)) (hw:hasWrong m.es=false)
 {b:Bool} (hb:b=true↔((hasL (mfl m.kind) 121=false→m.ok=false)∧(hasL (mfl m.kind) 101=false→(m.n:Int)=0)∧(hasL (mfl m.kind) 115=false→(m.snap.size:Int)=0))):b=mrightB m:=by
 cases b with
 | true =>
   have h3:=hb.1 rfl;exact (mask_right h ⟨hk,F1.1.1,F1.1.2,F1.2.1.1,F1.2.1.2,F1.2.2.1,F1.2.2.2,F2.1,F2.2.1,F2.2.2.1,F2.2.2.2,h3.1,h3.2.1,h3.2.2⟩ hw).symm
 | false =>
   refine (mnot_ask h fun A=>?_).symm
   have:=hb.2 ⟨A.y,A.e,A.z⟩
   cases this
theorem wrong_step {es:List En} {k:Nat} {e:En} (he:es[k]?=some e) (h:hasWrong (es.take k)=false) (hr:rightB e=true):hasWrong (es.take (k+1))=false:=by
 have h1:es.take (k+1)=es.take k++[e]:=by rw [List.take_add_one,he];rfl
 unfold hasWrong at h ⊢;rw [h1,List.any_append,h]
 simp [hr]
theorem rmright_any (m:Ms) (w:World) (hE:Ents w.heap.size m.A m.n m.es w) (wd:m.Wide) :
 Calls Tryz.prog 77 #[mv m] w fun r w'=>r=.returned (.bool (mrightB m))∧Below w.heap.size w w':=by
 obtain ⟨wr,hW⟩:∃ wr,wr=w.alloc (Obj.cells (mc m) 29):=⟨_,rfl⟩;have hb0:Below w.heap.size w wr:=by rw [hW];exact zba
 have hbx:By w.heap.size m 29 wr:=⟨by rw [hW];exact heap_alloc_new w _⟩;have H0:Hid (Tm w m wr):=⟨hbx,(hE.below hb0).mr hb0.size,hb0⟩;have KF:=zh (fun (W:World) (h:Tm w m W)=>(rmfields_any m.kind W).mono fun r w1 ⟨hr,hb⟩=>And.intro hr (h.on hb));have KE:=zh (fun (e:En) (he:e∈m.es) (W:World) (h:Tm w m W)=>(rright_any e W (wd.eo e he)).mono fun r w1 ⟨hr,hb⟩=>And.intro hr (h.on hb));have KH:=zh (fun (c:Int) (W:World)=>has_any (mfl m.kind) c W (by have:=mfl_size0 m.kind;omega));have WD:=zh wd;have HLE:=zh hE.len;have HW:=zh hW;have hn1:=wd.n1;have i0:=wd.i0;have p0:=wd.p0;have c0':=wd.c0;have m0:=wd.m0;clear wd hE hb0 hbx
 go_enter Tryz.func77,Tryz.ntmps77
 go_wp2_with (go_at_call 34;(fail))
 rw [←hW];clear hW
 with_reducible refine (KF.out _ H0.out).mono ?_
 rintro r w1 ⟨rfl,h1⟩;have c1:w1.cell? ⟨w.heap.size,1,none⟩=some (.int .i64 m.frm):=h1.bx.cell 1;have c2:w1.cell? ⟨w.heap.size,2,none⟩=some (.int .i64 m.dst):=h1.bx.cell 2;have c9:w1.cell? ⟨w.heap.size,9,none⟩=some (.slice m.A m.n m.c):=h1.bx.cell 9;have c10:w1.cell? ⟨w.heap.size,10,none⟩=some (.string m.snap):=h1.bx.cell 10
 cases hmf:mfb m.kind with
 | false =>
   have NA:=zh (mnot_ask WD.out (fun A=>by rw [A.k] at hmf;cases hmf));have HH1:=zh h1;clear hmf h1;go_wp2;go_ret;exact ⟨ret_bool NA.out.symm,HH1.out.be⟩
 | true =>
   have HMF:=zh hmf;clear hmf
   go_upto_region 2 with fail
   go_cut [46] from 13 to 46 (fun s wx=>∃ b:Bool,s=.bool b∧wx=w1∧Hid (b=true→¬ MAsk m)∧Hid (b=false→(1≤m.frm∧m.frm≤7)∧(1≤m.dst∧m.dst≤7)∧(m.n:Int)≤64∧(m.snap.size:Int)≤16384))
   case first =>
    go_wp2_with fail
    all_goals
     go_meet
     refine ⟨_,rfl,rfl,fun hb A=>?_,fun hb=>?_⟩
     ·have A2:=A.f1;have A3:=A.f7;have A4:=A.o1;have A5:=A.o7;have A6:=A.n64;have A7:=A.s
      first|omega|(simp_all;done)|(simp_all;omega)
     ·first|(simp at hb;done)|(simp at hb;refine ⟨⟨?_,?_⟩,⟨?_,?_⟩,?_,?_⟩<;>omega)|(have hb2:=of_decide_eq_false hb;refine ⟨⟨?_,?_⟩,⟨?_,?_⟩,?_,?_⟩<;>omega)|(refine ⟨⟨?_,?_⟩,⟨?_,?_⟩,?_,?_⟩<;>omega)
   case rest =>
    obtain ⟨b,rfl,rfl,N1,Y1⟩:=hcut;clear c1 c2 c9 c10
    cases b with
    | true =>
      have NA:=zh (mnot_ask WD.out (N1.out rfl));clear N1 Y1;go_wp2;go_ret;exact ⟨ret_bool NA.out.symm,h1.be⟩
    | false =>
      have F1:=zh (Y1.out rfl);have HH1:=zh h1;clear N1 Y1 h1
      go_wp2_with fail
      go_loopw [5] (fun i wr=>∃ k:Nat,k≤m.n∧i=.int .i64 k∧Hid (hasWrong (m.es.take k)=false)∧Tm w m wr) (fun i _=>m.n-(intOf i).toNat)
      case atStart=>exact ⟨0,Nat.zero_le _,rfl,rfl,HH1.out⟩
      case round =>
       obtain ⟨k,hk,rfl,HI,hr⟩:=hrel;clear HH1;have x9:wr.cell? ⟨w.heap.size,9,none⟩=some (.slice m.A m.n m.c):=hr.bx.cell 9
       by_cases hlt:k<m.n
       ·obtain ⟨y,hy⟩:∃ y,m.es[k]?=some y:=⟨_,List.getElem?_eq_getElem (by rw [HLE.out];exact hlt)⟩;obtain ⟨a,hA,hB,hc⟩:=hr.en.at_ k y hy;have d0:wr.cell? (a.add (k*11))=some (.int .u64 y.term):=hc 0 (by omega);have d1:wr.cell? ⟨(a.add (k*11)).block,(a.add (k*11)).off+1,none⟩=some (.int .u64 y.index):=hc 1 (by omega);have d2:wr.cell? ⟨(a.add (k*11)).block,(a.add (k*11)).off+2,none⟩=some (.int .i64 y.kind):=hc 2 (by omega);have d3:wr.cell? ⟨(a.add (k*11)).block,(a.add (k*11)).off+3,none⟩=some (.int .u64 y.client):=hc 3 (by omega);have d4:wr.cell? ⟨(a.add (k*11)).block,(a.add (k*11)).off+4,none⟩=some (.int .u64 y.seq):=hc 4 (by omega);have d5:wr.cell? ⟨(a.add (k*11)).block,(a.add (k*11)).off+5,none⟩=some (.int .u64 y.block):=hc 5 (by omega);have d6:wr.cell? ⟨(a.add (k*11)).block,(a.add (k*11)).off+6,none⟩=some (.int .u64 y.many):=hc 6 (by omega);have d7:wr.cell? ⟨(a.add (k*11)).block,(a.add (k*11)).off+7,none⟩=some (.int .i64 y.node):=hc 7 (by omega);have d8:wr.cell? ⟨(a.add (k*11)).block,(a.add (k*11)).off+8,none⟩=some (.int .i64 y.level):=hc 8 (by omega);have d9:wr.cell? ⟨(a.add (k*11)).block,(a.add (k*11)).off+9,none⟩=some (.string y.data):=hc 9 (by omega);have d10:wr.cell? ⟨(a.add (k*11)).block,(a.add (k*11)).off+10,none⟩=some (.string y.old):=hc 10 (by omega);have K14:=zh (KE.out y (List.mem_of_getElem? hy) wr hr);have HY:=zh hy;rw [hA] at x9;clear hr hc hA hB hy
        cases hq:rightB y with
        | true =>
          have H2:Hid (hasWrong (m.es.take (k+1))=false):=wrong_step HY.out HI.out hq;rw [hq] at K14;clear hq
          go_wp2_with (go_at_call 65;(with_reducible refine K14.out.mono ?_);rintro r w2 ⟨rfl,h2⟩)
          go_roundw
          case rel=>exact ⟨k+1,by omega,by go_num,H2,h2⟩
          case measure=>simp [intOf];omega
        | false =>
          have NA:=zh (mwrong HY.out hq);rw [hq] at K14;clear hq
          go_wp2_with (go_at_call 65;(with_reducible refine K14.out.mono ?_);rintro r w2 ⟨rfl,h2⟩)
          go_ret;exact ⟨ret_bool NA.out.symm,h2.be⟩
       ·have hfin:Hid (hasWrong m.es=false):=by
         have h:=HI.out;rw [List.take_of_length_le (by rw [HLE.out];omega)] at h;exact h
        have g4:wr.cell? ⟨w.heap.size,4,none⟩=some (.int .u64 m.index):=hr.bx.cell 4;have g5:wr.cell? ⟨w.heap.size,5,none⟩=some (.int .u64 m.prev):=hr.bx.cell 5;have g6:wr.cell? ⟨w.heap.size,6,none⟩=some (.int .u64 m.commit):=hr.bx.cell 6;have g7:wr.cell? ⟨w.heap.size,7,none⟩=some (.int .u64 m.mark):=hr.bx.cell 7;have g8:wr.cell? ⟨w.heap.size,8,none⟩=some (.bool m.ok):=hr.bx.cell 8;have g10:wr.cell? ⟨w.heap.size,10,none⟩=some (.string m.snap):=hr.bx.cell 10;have HR:=zh hr;clear hr
        go_upto_region 10 with fail
        go_cut [99] from 47 to 99 (fun s wx=>∃ b:Bool,s=.bool b∧wx=wr∧Hid (b=true→¬ MAsk m)∧Hid (b=false→(hasL (mfl m.kind) 105=false→m.index=0)∧(hasL (mfl m.kind) 112=false→m.prev=0)∧(hasL (mfl m.kind) 116=false→m.commit=0)∧(hasL (mfl m.kind) 107=false→m.mark=0)))
        case first =>
         go_wp2_with (go_at_call 127;(with_reducible refine (KH.out _ _).mono ?_);rintro r w' ⟨rfl,rfl⟩)
         all_goals
          go_meet
          refine ⟨_,rfl,rfl,fun hb A=>?_,fun hb=>?_⟩
          ·have A1:=A.i;have A2:=A.p;have A3:=A.t;have A4:=A.r
           simp_all<;>omega
          ·refine ⟨fun h=>?_,fun h=>?_,fun h=>?_,fun h=>?_⟩<;>simp_all<;>omega
        case rest =>
         obtain ⟨b,rfl,rfl,N1,Y1⟩:=hcut
         cases b with
         | true =>
           have NA:=zh (mnot_ask WD.out (N1.out rfl));clear N1 Y1;go_wp2;go_ret;exact ⟨ret_bool NA.out.symm,HR.out.be⟩
         | false =>
           have F2:=zh (Y1.out rfl);clear N1 Y1
           go_wp2_with (go_at_call 127;(with_reducible refine (KH.out _ _).mono ?_);rintro r w' ⟨rfl,rfl⟩)
           all_goals
            go_ret;refine ⟨ret_bool ?_,HR.out.be⟩;have TN:=toList_nil m.snap;refine mclose WD.out HMF.out F1.out F2.out hfin.out ?_;clear KF KE KH WD HLE HW H0 HMF F1 F2 hfin HR g4 g5 g6 g7 g8 g10 x9 HI hk hlt hn1 i0 p0 c0' m0
            first|(simp_all;done)|(simp_all;omega)|(constructor<;>simp_all<;>omega)
end Go.Proofs.YtpdbeijfchmlgaaGreat
namespace Go.Proofs.YtpdbeijfchmlgaaGreat
open Go.RowKit
theorem putS_of {m:Ms} (h:mmayB m=true):∀ e∈m.es,mayB e=true:=by
 intro e he;unfold mmayB mrightB at h;simp only [Bool.and_eq_true,Bool.not_eq_true'] at h;obtain ⟨⟨h1,h2⟩,h3⟩:=h;unfold hasWrong at h2;rw [List.any_eq_false] at h2;have hr:rightB e=true:=by simpa using h2 e he
 have hk:¬ e.kind=11:=by
  intro hk
  have hm:mlvl m=2:=by
   unfold mlvl;rw [if_pos];rw [Bool.or_eq_true];exact .inr (List.any_eq_true.2 ⟨e,he,by rw [hk];rfl⟩)
  rw [hm] at h3;exact absurd h3 (by decide)
 unfold mayB lvl;rw [hr,if_neg hk];rfl
theorem rputM_any (m:Ms) (w:World) (hE:Ents w.heap.size m.A m.n m.es w) (wd:m.Wide) :
 Calls Tryz.prog 35 #[mv m] w fun q w'=>q=.returned (.tuple #[.string (putM m),.bool (mmayB m)])∧Below w.heap.size w w':=by
 obtain ⟨W0,hW0⟩:∃ W0,W0=w.alloc (Obj.cells (mc m) 29):=⟨_,rfl⟩;have P0:Pm w m W0:=hW0▸Pm.start hE;obtain ⟨rb,hrb⟩:∃ rb,rb=mrightB m:=⟨_,rfl⟩;obtain ⟨lv,hlv⟩:∃ lv,lv=mlvl m:=⟨_,rfl⟩;have hlo:lv=1∨lv=2:=by have:=mlvl_bounds m;omega
 have KR:=zh (fun (W:World) (h:Pm w m W)=>(rmright_any m W (h.en.mr h.sz) wd).mono fun q w' ⟨h1,h2⟩=>And.intro (show q=Ending.returned (.bool rb) by rw [h1,hrb]) (h.on h2).all);have KL:=zh (fun (W:World) (h:Pm w m W)=>(rmlevel_any m W (h.en.mr h.sz) (wide_n5 wd)).mono fun q w' ⟨h1,h2⟩=>And.intro (show q=Ending.returned (.int .i64 lv) by rw [h1,hlv]) (h.on h2).all);have KN:=zh (fun (v k:Int) (W:World) (hv:0≤v∧v≤18446744073709551615) (h:Pm w m W)=>(rnum_any v k W hv).mono fun q w' ⟨h1,h2⟩=>And.intro h1 (h.on h2).all);have HM:Hid (mmayB m=(rb&&(lv==1))):=by show _=_;unfold mmayB;rw [←hrb,←hlv]
 have HRB:=zh hrb;have P1:=P0.all;have HW0:=zh hW0;rw [hW0] at P1;obtain ⟨S,c0,c1,c2,c3,c4,c5,c6,c7,c8,c9,c10⟩:=P1;rw [←hW0] at S;have HE:=zh hE;have WD:=zh wd;clear hW0 P0 hrb hlv hE wd
 cases rb with
 | false =>
   have HB:Hid (mmayB m=false):=by show _=_;rw [HM.out];rfl
   have HP:Hid (putM m=⟨#[]⟩):=by show _=_;unfold putM;rw [HB.out];rfl
   clear hlo
   go_enter Tryz.func35,Tryz.ntmps35
   go_wp2_with (first
    | (go_at_call 77;rw [←HW0.out];(with_reducible refine (KR.out _ S).mono ?_);rintro q w1 ⟨rfl,T,d0,d1,d2,d3,d4,d5,d6,d7,d8,d9,d10⟩))
   go_ret2;exact ⟨ret_pair HP.out.symm HB.out.symm,T.be⟩
 | true =>
   rcases hlo with rfl|rfl
   ·have HB:Hid (mmayB m=true):=by show _=_;rw [HM.out];rfl
    have HP:Hid (putM m=pbm m):=by show _=_;unfold putM;rw [HB.out];rfl
    have HPS:=zh (putS_of HB.out);have fw:=mfew_of WD.out HRB.out.symm;have q1:0≤m.kind∧m.kind≤18446744073709551615:=⟨fw.k0,by have:=fw.k1;omega⟩;have q2:0≤m.frm∧m.frm≤18446744073709551615:=⟨fw.f0,by have:=fw.f1;omega⟩;have q3:0≤m.dst∧m.dst≤18446744073709551615:=⟨fw.o0,by have:=fw.o1;omega⟩;have q4:0≤m.term∧m.term≤18446744073709551615:=⟨WD.out.t0,WD.out.t1⟩;have q5:0≤m.index∧m.index≤18446744073709551615:=⟨WD.out.i0,WD.out.i1⟩;have q6:0≤m.prev∧m.prev≤18446744073709551615:=⟨WD.out.p0,WD.out.p1⟩;have q7:0≤m.commit∧m.commit≤18446744073709551615:=⟨WD.out.c0,WD.out.c1⟩;have q8:0≤m.mark∧m.mark≤18446744073709551615:=⟨WD.out.m0,WD.out.m1⟩;have hn64:m.n≤64:=fw.n1;have q9:0≤(m.n:Int)∧(m.n:Int)≤18446744073709551615:=by omega
    have qa:0≤(0:Int)∧(0:Int)≤18446744073709551615:=by decide
    have qb:0≤(1:Int)∧(1:Int)≤18446744073709551615:=by decide
    have hs1:m.snap.size≤16384:=fw.s1;have qc:0≤(m.snap.size:Int)∧(m.snap.size:Int)≤18446744073709551615:=by omega
    have hk1:IntKind.u64.wrap m.kind=m.kind:=IntWalk.u64_in _ (by omega);have hk2:IntKind.u64.wrap m.frm=m.frm:=IntWalk.u64_in _ (by omega);have hk3:IntKind.u64.wrap m.dst=m.dst:=IntWalk.u64_in _ (by omega);have hk4:IntKind.u64.wrap (m.n:Int)=(m.n:Int):=IntWalk.u64_in _ (by omega);have hk5:IntKind.u64.wrap (m.snap.size:Int)=(m.snap.size:Int):=IntWalk.u64_in _ (by omega);have n1:∀ v,(fN v 1).size=1:=fun v=>fN_size v 1 (by omega) (by omega);have n8:∀ v,(fN v 8).size=8:=fun v=>fN_size v 8 (by omega) (by omega);have HEN:=zh (fun (k:Nat) (e:En) (he:m.es[k]?=some e)=>And.intro (WD.out.eo e (List.mem_of_getElem? he)) (fw.es e (List.mem_of_getElem? he)));have HLEN:=zh HE.out.len;obtain ⟨ob,hob⟩:∃ ob,ob=m.ok:=⟨_,rfl⟩;have HOB:=zh hob;clear fw hob
    go_enter Tryz.func35,Tryz.ntmps35
    cases ob with
    | true =>
      go_upto_region 7 with (first
       | (go_at_call 77;rw [←HW0.out];(with_reducible refine (KR.out _ S).mono ?_);rintro q w1 ⟨rfl,T,d0,d1,d2,d3,d4,d5,d6,d7,d8,d9,d10⟩)
       | (go_at_call 78;(with_reducible refine (KL.out _ T).mono ?_);rintro q w2 ⟨rfl,U,f0,f1,f2,f3,f4,f5,f6,f7,f8,f9,f10⟩;rw [←HOB.out] at f8))
      clear S T c0 c1 c2 c3 c4 c5 c6 c7 c8 c9 c10 d0 d1 d2 d3 d4 d5 d6 d7 d8 d9 d10;have Ud:Hid (Pm w m w2.drew):=⟨U.k,U.en.below (Below.refl _ w2).drew,U.be.drew,U.sz⟩;obtain ⟨V,g0,g1,g2,g3,g4,g5,g6,g7,g8,g9,g10⟩:=Ud.out.all;clear U f0 f1 f2 f3 f4 f5 f6 f7 f8 f9 f10 g8 g10 KR KL Ud
      go_region_held3 (fun w'=>w'.cell? ⟨w.heap.size,0,none⟩=some (.int .i64 m.kind)∧w'.cell? ⟨w.heap.size,1,none⟩=some (.int .i64 m.frm)∧w'.cell? ⟨w.heap.size,2,none⟩=some (.int .i64 m.dst)∧w'.cell? ⟨w.heap.size,3,none⟩=some (.int .u64 m.term)∧w'.cell? ⟨w.heap.size,4,none⟩=some (.int .u64 m.index)∧w'.cell? ⟨w.heap.size,5,none⟩=some (.int .u64 m.prev)∧w'.cell? ⟨w.heap.size,6,none⟩=some (.int .u64 m.commit)∧w'.cell? ⟨w.heap.size,7,none⟩=some (.int .u64 m.mark)∧w'.cell? ⟨w.heap.size,9,none⟩=some (.slice m.A m.n m.c)) (first|exact ⟨g0,g1,g2,g3,g4,g5,g6,g7,g9⟩|(refine ⟨?_,?_,?_,?_,?_,?_,?_,?_,?_⟩<;>assumption)) (first
       | (go_at_call 67;(with_reducible refine (KN.out _ _ _ (by assumption) (by assumption)).mono ?_);rintro q w6 ⟨rfl,X,p0,p1,p2,p3,p4,p5,p6,p7,p8,p9,p10⟩))
      go_wp2_with fail
      obtain ⟨y,hy⟩:∃ y,y=fN m.kind 1++fN m.frm 1++fN m.dst 1++fN m.term 8++fN m.index 8++fN m.prev 8++fN m.commit 8++fN m.mark 8++fN 1 1++fN m.n 1:=⟨_,rfl⟩;rw [←hy]
      have HYS:Hid (y.size=45):=by
       show _=_
       rw [hy];simp only [ByteArray.size_append,n1,n8]
      have HY:=zh hy;have HX:=zh X;clear hy X p0 p1 p2 p3 p4 p5 p6 p7 p8 p9 p10 n1 n8
      go_loopw [7,6] (fun i s wr=>∃ k:Nat,k≤m.n∧i=.int .i64 k∧s=.string (y++pbs (m.es.take k))∧Pm w m wr) (fun i _ _=>m.n-(intOf i).toNat)
      case atStart =>
       refine ⟨0,Nat.zero_le _,rfl,?_,HX.out⟩;have e0:y++pbs (m.es.take 0)=y:=by rw [List.take_zero];show y++⟨#[]⟩=y;apply ByteArray.ext;simp
       rw [e0]
      case round =>
       obtain ⟨k,hk,rfl,rfl,hr⟩:=hrel
       have hps:(y++pbs (m.es.take k)).size≤20000:=by
        rw [ByteArray.size_append,pbs_size _ (fun e' he'=>by
         obtain ⟨j,hj,hje⟩:=List.getElem_of_mem (List.mem_of_mem_take he');exact (HEN.out j e' (by rw [←hje];exact List.getElem?_eq_getElem hj)).2),List.length_take]
        have:=HYS.out
        omega
       by_cases hlt:k<m.n
       ·obtain ⟨e,he⟩:∃ e,m.es[k]?=some e:=⟨_,List.getElem?_eq_getElem (by rw [HLEN.out];exact hlt)⟩;obtain ⟨a,hA,hBl,hc⟩:=hr.en.at_ k e he;have hef:=HEN.out k e he;have hme:=HPS.out e (List.mem_of_getElem? he)
        have hst:Hid (y++pbs (m.es.take k)++pb e=y++pbs (m.es.take (k+1))):=by
         show _=_
         rw [take_snoc he,pbs_snoc,Vi.append_assoc3]
        obtain ⟨P,hP⟩:∃ P,P=pb e:=⟨_,rfl⟩;obtain ⟨z,hz⟩:∃ z,z=y++pbs (m.es.take k):=⟨_,rfl⟩;have hPs:P.size=110:=by rw [hP];exact pb_size hef.2
        have KE:=zh (fun (W:World) (h:Pm w m W)=>(rput_any5 e W hef.1).mono fun q w' ⟨h1,h2⟩=>And.intro (show q=Ending.returned (.tuple #[.string P,.bool true]) by rw [h1,hme,hP];unfold putS;rw [hme];rfl) (h.on h2));rw [←hz] at hps hst ⊢;rw [←hP] at hst;have r9:wr.cell? ⟨w.heap.size,9,none⟩=some (.slice m.A m.n m.c):=zcr wr _ 9 _ 29 (0,0) hr.k;have d0:wr.cell? (a.add (k*11))=some (.int .u64 e.term):=hc 0 (by omega);have d1:wr.cell? ⟨(a.add (k*11)).block,(a.add (k*11)).off+1,none⟩=some (.int .u64 e.index):=hc 1 (by omega);have d2:wr.cell? ⟨(a.add (k*11)).block,(a.add (k*11)).off+2,none⟩=some (.int .i64 e.kind):=hc 2 (by omega);have d3:wr.cell? ⟨(a.add (k*11)).block,(a.add (k*11)).off+3,none⟩=some (.int .u64 e.client):=hc 3 (by omega);have d4:wr.cell? ⟨(a.add (k*11)).block,(a.add (k*11)).off+4,none⟩=some (.int .u64 e.seq):=hc 4 (by omega);have d5:wr.cell? ⟨(a.add (k*11)).block,(a.add (k*11)).off+5,none⟩=some (.int .u64 e.block):=hc 5 (by omega);have d6:wr.cell? ⟨(a.add (k*11)).block,(a.add (k*11)).off+6,none⟩=some (.int .u64 e.many):=hc 6 (by omega);have d7:wr.cell? ⟨(a.add (k*11)).block,(a.add (k*11)).off+7,none⟩=some (.int .i64 e.node):=hc 7 (by omega);have d8:wr.cell? ⟨(a.add (k*11)).block,(a.add (k*11)).off+8,none⟩=some (.int .i64 e.level):=hc 8 (by omega);have d9:wr.cell? ⟨(a.add (k*11)).block,(a.add (k*11)).off+9,none⟩=some (.string e.data):=hc 9 (by omega);have d10:wr.cell? ⟨(a.add (k*11)).block,(a.add (k*11)).off+10,none⟩=some (.string e.old):=hc 10 (by omega);have HR:=zh hr;rw [hA] at r9;clear hr hc hA hBl hef hme hP hz
        go_wp2_with (go_at_call 28;(with_reducible refine (KE.out _ HR.out).mono ?_);rintro q w3 ⟨rfl,S2⟩)
        go_roundw
        case rel=>exact ⟨k+1,by omega,by go_num,by rw [hst.out],S2⟩
        case measure=>simp [intOf];omega
       ·have hkn:k=m.n:=by omega
        have htk:m.es.take k=m.es:=List.take_of_length_le (by rw [HLEN.out];omega);rw [htk] at hps ⊢;have n4:∀ v,(fN v 4).size=4:=fun v=>fN_size v 4 (by omega) (by omega);obtain ⟨z,hz⟩:∃ z,z=y++pbs m.es:=⟨_,rfl⟩;rw [←hz] at hps ⊢;have HZ:=zh hz;have r9:wr.cell? ⟨w.heap.size,9,none⟩=some (.slice m.A m.n m.c):=zcr wr _ 9 _ 29 (0,0) hr.k;have r10:wr.cell? ⟨w.heap.size,10,none⟩=some (.string m.snap):=zcr wr _ 10 _ 29 (0,0) hr.k;have hrd:Pm w m wr.drew:=⟨hr.k,hr.en.below (Below.refl _ wr).drew,hr.be.drew,hr.sz⟩;have s10:wr.drew.cell? ⟨w.heap.size,10,none⟩=some (.string m.snap):=r10;have h6:¬ 9223372036854775807<z.size+4:=by omega
        have h6':¬ 9223372036854775807<z.size+(fN (m.snap.size:Int) 4).size:=by rw [n4];omega
        have h9:¬ 9223372036854775807<z.size+4+m.snap.size:=by omega
        have h9':¬ 9223372036854775807<(z++fN (m.snap.size:Int) 4).size+m.snap.size:=by rw [ByteArray.size_append,n4];omega
        clear hr hz htk
        go_upto_region 13 with fail
        go_region_held3 (fun w'=>w'.cell? ⟨w.heap.size,10,none⟩=some (.string m.snap)) (first|exact s10|assumption) (first
         | (go_at_call 67;(with_reducible refine (KN.out _ _ _ (by assumption) (by assumption)).mono ?_);rintro q w6 ⟨rfl,X,p0,p1,p2,p3,p4,p5,p6,p7,p8,p9,p10⟩))
        go_wp2_with fail
        go_ret2;refine ⟨ret_pair ?_ HB.out.symm,X.be⟩;rw [HP.out,HZ.out,HY.out];unfold pbm;rw [←HOB.out];rfl
    | false =>
      go_upto_region 7 with (first
       | (go_at_call 77;rw [←HW0.out];(with_reducible refine (KR.out _ S).mono ?_);rintro q w1 ⟨rfl,T,d0,d1,d2,d3,d4,d5,d6,d7,d8,d9,d10⟩)
       | (go_at_call 78;(with_reducible refine (KL.out _ T).mono ?_);rintro q w2 ⟨rfl,U,f0,f1,f2,f3,f4,f5,f6,f7,f8,f9,f10⟩;rw [←HOB.out] at f8))
      clear S T c0 c1 c2 c3 c4 c5 c6 c7 c8 c9 c10 d0 d1 d2 d3 d4 d5 d6 d7 d8 d9 d10;have Ud:Hid (Pm w m w2.drew):=⟨U.k,U.en.below (Below.refl _ w2).drew,U.be.drew,U.sz⟩;obtain ⟨V,g0,g1,g2,g3,g4,g5,g6,g7,g8,g9,g10⟩:=Ud.out.all;clear U f0 f1 f2 f3 f4 f5 f6 f7 f8 f9 f10 g8 g10 KR KL Ud
      go_region_held3 (fun w'=>w'.cell? ⟨w.heap.size,0,none⟩=some (.int .i64 m.kind)∧w'.cell? ⟨w.heap.size,1,none⟩=some (.int .i64 m.frm)∧w'.cell? ⟨w.heap.size,2,none⟩=some (.int .i64 m.dst)∧w'.cell? ⟨w.heap.size,3,none⟩=some (.int .u64 m.term)∧w'.cell? ⟨w.heap.size,4,none⟩=some (.int .u64 m.index)∧w'.cell? ⟨w.heap.size,5,none⟩=some (.int .u64 m.prev)∧w'.cell? ⟨w.heap.size,6,none⟩=some (.int .u64 m.commit)∧w'.cell? ⟨w.heap.size,7,none⟩=some (.int .u64 m.mark)∧w'.cell? ⟨w.heap.size,9,none⟩=some (.slice m.A m.n m.c)) (first|exact ⟨g0,g1,g2,g3,g4,g5,g6,g7,g9⟩|(refine ⟨?_,?_,?_,?_,?_,?_,?_,?_,?_⟩<;>assumption)) (first
       | (go_at_call 67;(with_reducible refine (KN.out _ _ _ (by assumption) (by assumption)).mono ?_);rintro q w6 ⟨rfl,X,p0,p1,p2,p3,p4,p5,p6,p7,p8,p9,p10⟩))
      go_wp2_with fail
      obtain ⟨y,hy⟩:∃ y,y=fN m.kind 1++fN m.frm 1++fN m.dst 1++fN m.term 8++fN m.index 8++fN m.prev 8++fN m.commit 8++fN m.mark 8++fN 0 1++fN m.n 1:=⟨_,rfl⟩;rw [←hy]
      have HYS:Hid (y.size=45):=by
       show _=_
       rw [hy];simp only [ByteArray.size_append,n1,n8]
      have HY:=zh hy;have HX:=zh X;clear hy X p0 p1 p2 p3 p4 p5 p6 p7 p8 p9 p10 n1 n8
      go_loopw [7,6] (fun i s wr=>∃ k:Nat,k≤m.n∧i=.int .i64 k∧s=.string (y++pbs (m.es.take k))∧Pm w m wr) (fun i _ _=>m.n-(intOf i).toNat)
      case atStart =>
       refine ⟨0,Nat.zero_le _,rfl,?_,HX.out⟩;have e0:y++pbs (m.es.take 0)=y:=by rw [List.take_zero];show y++⟨#[]⟩=y;apply ByteArray.ext;simp
       rw [e0]
      case round =>
       obtain ⟨k,hk,rfl,rfl,hr⟩:=hrel
       have hps:(y++pbs (m.es.take k)).size≤20000:=by
        rw [ByteArray.size_append,pbs_size _ (fun e' he'=>by
         obtain ⟨j,hj,hje⟩:=List.getElem_of_mem (List.mem_of_mem_take he');exact (HEN.out j e' (by rw [←hje];exact List.getElem?_eq_getElem hj)).2),List.length_take]
        have:=HYS.out
        omega
       by_cases hlt:k<m.n
       ·obtain ⟨e,he⟩:∃ e,m.es[k]?=some e:=⟨_,List.getElem?_eq_getElem (by rw [HLEN.out];exact hlt)⟩;obtain ⟨a,hA,hBl,hc⟩:=hr.en.at_ k e he;have hef:=HEN.out k e he;have hme:=HPS.out e (List.mem_of_getElem? he)
        have hst:Hid (y++pbs (m.es.take k)++pb e=y++pbs (m.es.take (k+1))):=by
         show _=_
         rw [take_snoc he,pbs_snoc,Vi.append_assoc3]
        obtain ⟨P,hP⟩:∃ P,P=pb e:=⟨_,rfl⟩;obtain ⟨z,hz⟩:∃ z,z=y++pbs (m.es.take k):=⟨_,rfl⟩;have hPs:P.size=110:=by rw [hP];exact pb_size hef.2
        have KE:=zh (fun (W:World) (h:Pm w m W)=>(rput_any5 e W hef.1).mono fun q w' ⟨h1,h2⟩=>And.intro (show q=Ending.returned (.tuple #[.string P,.bool true]) by rw [h1,hme,hP];unfold putS;rw [hme];rfl) (h.on h2));rw [←hz] at hps hst ⊢;rw [←hP] at hst;have r9:wr.cell? ⟨w.heap.size,9,none⟩=some (.slice m.A m.n m.c):=zcr wr _ 9 _ 29 (0,0) hr.k;have d0:wr.cell? (a.add (k*11))=some (.int .u64 e.term):=hc 0 (by omega);have d1:wr.cell? ⟨(a.add (k*11)).block,(a.add (k*11)).off+1,none⟩=some (.int .u64 e.index):=hc 1 (by omega);have d2:wr.cell? ⟨(a.add (k*11)).block,(a.add (k*11)).off+2,none⟩=some (.int .i64 e.kind):=hc 2 (by omega);have d3:wr.cell? ⟨(a.add (k*11)).block,(a.add (k*11)).off+3,none⟩=some (.int .u64 e.client):=hc 3 (by omega);have d4:wr.cell? ⟨(a.add (k*11)).block,(a.add (k*11)).off+4,none⟩=some (.int .u64 e.seq):=hc 4 (by omega);have d5:wr.cell? ⟨(a.add (k*11)).block,(a.add (k*11)).off+5,none⟩=some (.int .u64 e.block):=hc 5 (by omega);have d6:wr.cell? ⟨(a.add (k*11)).block,(a.add (k*11)).off+6,none⟩=some (.int .u64 e.many):=hc 6 (by omega);have d7:wr.cell? ⟨(a.add (k*11)).block,(a.add (k*11)).off+7,none⟩=some (.int .i64 e.node):=hc 7 (by omega);have d8:wr.cell? ⟨(a.add (k*11)).block,(a.add (k*11)).off+8,none⟩=some (.int .i64 e.level):=hc 8 (by omega);have d9:wr.cell? ⟨(a.add (k*11)).block,(a.add (k*11)).off+9,none⟩=some (.string e.data):=hc 9 (by omega);have d10:wr.cell? ⟨(a.add (k*11)).block,(a.add (k*11)).off+10,none⟩=some (.string e.old):=hc 10 (by omega);have HR:=zh hr;rw [hA] at r9;clear hr hc hA hBl hef hme hP hz
        go_wp2_with (go_at_call 28;(with_reducible refine (KE.out _ HR.out).mono ?_);rintro q w3 ⟨rfl,S2⟩)
        go_roundw
        case rel=>exact ⟨k+1,by omega,by go_num,by rw [hst.out],S2⟩
        case measure=>simp [intOf];omega
       ·have hkn:k=m.n:=by omega
        have htk:m.es.take k=m.es:=List.take_of_length_le (by rw [HLEN.out];omega);rw [htk] at hps ⊢;have n4:∀ v,(fN v 4).size=4:=fun v=>fN_size v 4 (by omega) (by omega);obtain ⟨z,hz⟩:∃ z,z=y++pbs m.es:=⟨_,rfl⟩;rw [←hz] at hps ⊢;have HZ:=zh hz;have r9:wr.cell? ⟨w.heap.size,9,none⟩=some (.slice m.A m.n m.c):=zcr wr _ 9 _ 29 (0,0) hr.k;have r10:wr.cell? ⟨w.heap.size,10,none⟩=some (.string m.snap):=zcr wr _ 10 _ 29 (0,0) hr.k;have hrd:Pm w m wr.drew:=⟨hr.k,hr.en.below (Below.refl _ wr).drew,hr.be.drew,hr.sz⟩;have s10:wr.drew.cell? ⟨w.heap.size,10,none⟩=some (.string m.snap):=r10;have h6:¬ 9223372036854775807<z.size+4:=by omega
        have h6':¬ 9223372036854775807<z.size+(fN (m.snap.size:Int) 4).size:=by rw [n4];omega
        have h9:¬ 9223372036854775807<z.size+4+m.snap.size:=by omega
        have h9':¬ 9223372036854775807<(z++fN (m.snap.size:Int) 4).size+m.snap.size:=by rw [ByteArray.size_append,n4];omega
        clear hr hz htk
        go_upto_region 13 with fail
        go_region_held3 (fun w'=>w'.cell? ⟨w.heap.size,10,none⟩=some (.string m.snap)) (first|exact s10|assumption) (first
         | (go_at_call 67;(with_reducible refine (KN.out _ _ _ (by assumption) (by assumption)).mono ?_);rintro q w6 ⟨rfl,X,p0,p1,p2,p3,p4,p5,p6,p7,p8,p9,p10⟩))
        go_wp2_with fail
        go_ret2;refine ⟨ret_pair ?_ HB.out.symm,X.be⟩;rw [HP.out,HZ.out,HY.out];unfold pbm;rw [←HOB.out];rfl
   ·have HB:Hid (mmayB m=false):=by show _=_;rw [HM.out];rfl
    have HP:Hid (putM m=⟨#[]⟩):=by show _=_;unfold putM;rw [HB.out];rfl
    go_enter Tryz.func35,Tryz.ntmps35
    go_wp2_with (first
     | (go_at_call 77;rw [←HW0.out];(with_reducible refine (KR.out _ S).mono ?_);rintro q w1 ⟨rfl,T,d0,d1,d2,d3,d4,d5,d6,d7,d8,d9,d10⟩)
     | (go_at_call 78;(with_reducible refine (KL.out _ T).mono ?_);rintro q w2 ⟨rfl,U,f0,f1,f2,f3,f4,f5,f6,f7,f8,f9,f10⟩))
    go_ret2;exact ⟨ret_pair HP.out.symm HB.out.symm,U.be⟩
end Go.Proofs.YtpdbeijfchmlgaaGreat
namespace Go.Proofs.YtpdbeijfchmlgaaGreat
open Go.RowKit
theorem wide_n {m:Ms} (wd:m.Wide):(m.n:Int)≤9223372036854775807:=by have:=wd.n1;omega
theorem mright_any (m:Ms) (w:World) (hE:Ents w.heap.size m.A m.n m.es w) (hn:(m.n:Int)≤9223372036854775807) (hok:∀ e∈m.es,e.Ok) :
 Calls Tryz.prog 50 #[mv m] w fun r w'=>r=.returned (.bool (mrightB m))∧Below w.heap.size w w':=by
 by_cases h1:1≤m.frm<;>by_cases h2:1≤m.dst
 ·exact mright_11 m w hE hn hok h1 h2
 ·exact mright_10 m w hE hn hok h1 (by omega)
 ·exact mright_01 m w hE hn hok (by omega) h2
 ·exact mright_00 m w hE hn hok (by omega) (by omega)
theorem ents_nil (B:Nat) (A:Option Addr) (w:World):Ents B A 0 [] w:=⟨rfl,fun i e he=>by cases he⟩
def shimO (m:Ms):Bool:=mrightB m&&(decide (mlvl m=1)||(decide (m.kind=9)||decide (m.kind=10)))
def shimM (m:Ms):Ms :=
 if shimO m=false then mzz
 else if m.kind=9 then { mzz with kind:=5,frm:=m.frm,dst:=m.dst,term:=m.term,mark:=m.mark }
 else if m.kind=10 then { mzz with kind:=6,frm:=m.frm,dst:=m.dst,term:=m.term,mark:=m.mark,ok:=true }
 else m
def Like (M m:Ms):Prop:=∃ A c,M={ m with A:=A,c:=c }
def Shimd (m:Ms) (w:World) (q:Ending) (w':World):Prop :=
 ∃ M:Ms,q=.returned (.tuple #[mv M,.bool (shimO m)])∧Ents w'.heap.size M.A M.n M.es w'∧Like M (shimM m)∧Below w.heap.size w w'
theorem like_refl (m:Ms):Like m m:=⟨m.A,m.c,rfl⟩
theorem mlvl9 {m:Ms} (h:m.kind=9):mlvl m=2:=by unfold mlvl;rw [show (m.kind==9)=true by simpa using h];rfl
theorem blk_al {w:World} {k:Nat} {x:Obj} (o:Obj) (h:w.heap[k]?=some x):(w.alloc o).heap[k]?=some x:=(Lib.alloc_old w o k (zgx h)).trans h
theorem shim_end {m M:Ms} {w w':World} {b:Bool} (h1:Ents w'.heap.size M.A M.n M.es w') (h2:Like M (shimM m)) (h3:b=shimO m) (h4:Below w.heap.size w w'):Shimd m w (.returned (.tuple #[mv M,.bool b])) w':=by
 subst h3;exact ⟨M,rfl,h1,h2,h4⟩
theorem mzz_ents (B:Nat) (w:World):Ents B mzz.A mzz.n mzz.es w:=ents_nil B none w
theorem shim_9 (m:Ms) (w:World) (hE:Ents w.heap.size m.A m.n m.es w) (wd:m.Wide) (hr:mrightB m=true) (hk:m.kind=9) :
 Calls Tryz.prog 19 #[mv m] w (Shimd m w):=by
 have hyes:shimO m=true:=by unfold shimO;rw [hr,decide_eq_true hk];simp
 have hM:shimM m=(⟨5,m.frm,m.dst,m.term,0,0,0,m.mark,false,none,0,0,[],⟨#[]⟩⟩:Ms):=by unfold shimM;rw [hyes,if_neg (by decide)];rw [if_pos hk]
 have HYES:=zh hyes;have HMM:=zh hM;obtain ⟨W0,hW0⟩:∃ W0,W0=(w.alloc (Obj.cells (mc m) 29)).alloc (Obj.cells (mc mzz) 29):=⟨_,rfl⟩;have b0:Below w.heap.size w W0:=by rw [hW0];exact zba.alloc (by simp) _
 have k0:W0.heap[w.heap.size]?=some (.cells (mc m) 29 (0,0)):=by rw [hW0];exact blk_al _ (heap_alloc_new w _)
 have k1:W0.heap[w.heap.size+1]?=some (.cells (mc mzz) 29 (0,0)):=by rw [hW0];have h:=heap_alloc_new (w.alloc (Obj.cells (mc m) 29)) (Obj.cells (mc mzz) 29);simpa using h
 have hE0:=(hE.below b0).mr b0.size;have KR:=zh (mright_any m W0 hE0 (wide_n wd) wd.eo);have KL:=zh (fun (W:World) (h:Ents W.heap.size m.A m.n m.es W)=>mlevel_any m W h (wide_n wd));have HW:=zh hW0;have HE:=zh hE0;have HEW:=zh hE;have HB0:=zh b0;have HK0:=zh k0;have HK1:=zh k1;have HWD:=zh wd;clear hW0 b0 k0 k1 hE0;rw [hr] at KR;rw [mlvl9 hk] at KL;have HKD:=zh hk;clear hr hyes hM wd hE hk
 go_enter Tryz.func19,Tryz.ntmps19
 go_upto_region 1 with fail
 rw [←HW.out];obtain ⟨a0,a1,a2,a3,a4,a5,a6,a7,a8,a9,a10⟩:=zmcl (w:=W0) (b:=w.heap.size) (e:=m) HK0.out
 go_wp2_with fail
 refine KR.out.mono ?_;rintro q w1 ⟨rfl,b1⟩;have l0:=(zgx HK0.out);have l1:=(zgx HK1.out);have HM:Hid (w1.heap[w.heap.size]?=some (.cells (mc m) 29 (0,0))):=(b1.block _ l0).trans HK0.out;have HZ:Hid (w1.heap[w.heap.size+1]?=some (.cells (mc mzz) 29 (0,0))):=(b1.block _ l1).trans HK1.out;have HB:Hid (Below w.heap.size w w1):=HB0.out.trans (b1.mono HB0.out.size);have HE1:Hid (Ents w1.heap.size m.A m.n m.es w1):=(HE.out.below b1).mr b1.size;clear b1 l0 l1 a0 a1 a2 a3 a4 a5 a6 a7 a8 a9 a10;obtain ⟨a0,a1,a2,a3,a4,a5,a6,a7,a8,a9,a10⟩:=zmcl (w:=w1) (b:=w.heap.size) (e:=m) HM.out
 go_wp2_with fail
 refine (KL.out _ HE1.out).mono ?_;rintro q w2 ⟨rfl,b2⟩;have HM2:Hid (w2.heap[w.heap.size]?=some (.cells (mc m) 29 (0,0))):=(b2.block _ (zgx HM.out)).trans HM.out;have HZ2:Hid (w2.heap[w.heap.size+1]?=some (.cells (mc mzz) 29 (0,0))):=(b2.block _ (zgx HZ.out)).trans HZ.out;have HB2:Hid (Below w.heap.size w w2):=HB.out.trans (b2.mono HB.out.size);clear b2 HB HZ HM a0 a1 a2 a3 a4 a5 a6 a7 a8 a9 a10;have HM:=HM2;have HZ:=HZ2;have HB:=HB2;clear HM2 HZ2 HB2;have a0:w2.cell? ⟨w.heap.size,0,none⟩=some (.int .i64 9):=by rw [←HKD.out];exact zcr w2 _ 0 _ 29 (0,0) HM.out
 have a1:w2.cell? ⟨w.heap.size,1,none⟩=some (.int .i64 m.frm):=zcr w2 _ 1 _ 29 (0,0) HM.out;have a2:w2.cell? ⟨w.heap.size,2,none⟩=some (.int .i64 m.dst):=zcr w2 _ 2 _ 29 (0,0) HM.out;have a3:w2.cell? ⟨w.heap.size,3,none⟩=some (.int .u64 m.term):=zcr w2 _ 3 _ 29 (0,0) HM.out;have a4:w2.cell? ⟨w.heap.size,4,none⟩=some (.int .u64 m.index):=zcr w2 _ 4 _ 29 (0,0) HM.out;have a5:w2.cell? ⟨w.heap.size,5,none⟩=some (.int .u64 m.prev):=zcr w2 _ 5 _ 29 (0,0) HM.out;have a6:w2.cell? ⟨w.heap.size,6,none⟩=some (.int .u64 m.commit):=zcr w2 _ 6 _ 29 (0,0) HM.out;have a7:w2.cell? ⟨w.heap.size,7,none⟩=some (.int .u64 m.mark):=zcr w2 _ 7 _ 29 (0,0) HM.out;have a8:w2.cell? ⟨w.heap.size,8,none⟩=some (.bool m.ok):=zcr w2 _ 8 _ 29 (0,0) HM.out;have a9:w2.cell? ⟨w.heap.size,9,none⟩=some (.slice m.A m.n m.c):=zcr w2 _ 9 _ 29 (0,0) HM.out;have a10:w2.cell? ⟨w.heap.size,10,none⟩=some (.string m.snap):=zcr w2 _ 10 _ 29 (0,0) HM.out;obtain ⟨z0,z1,z2,z3,z4,z5,z6,z7,z8,z9,z10⟩:=zmzl (w:=w2) (b:=w.heap.size+1) HZ.out;have fz:∀ i,w2.frozen? ⟨w.heap.size+1,i,none⟩=false:=fun i=>Md.of HZ.out;go_wp2;obtain ⟨WF,hWF⟩:∃ WF,WF=wrm w2 (w.heap.size+1) (⟨5,m.frm,m.dst,m.term,0,0,0,m.mark,false,none,0,0,[],⟨#[]⟩⟩:Ms):=⟨_,rfl⟩;have hblk:WF.heap[w.heap.size+1]?=some (.cells (mc (⟨5,m.frm,m.dst,m.term,0,0,0,m.mark,false,none,0,0,[],⟨#[]⟩⟩:Ms)) 29 (0,0)):=by rw [hWF];exact store_allm (⟨5,m.frm,m.dst,m.term,0,0,0,m.mark,false,none,0,0,[],⟨#[]⟩⟩:Ms) HZ.out
 have hbF:Below w.heap.size w WF:=by rw [hWF];exact below_allm (⟨5,m.frm,m.dst,m.term,0,0,0,m.mark,false,none,0,0,[],⟨#[]⟩⟩:Ms) HB.out (by omega)
 have HEF:Hid (∀ A n es,Ents w.heap.size A n es w→Ents WF.heap.size A n es WF):=fun A n es h=>(h.below hbF).mr hbF.size;have HFB:=zh hbF;unfold wrm at hWF;rw [←hWF];have HWF:=zh hWF;clear hWF;have f0:WF.cell? ⟨w.heap.size+1,0,none⟩=some (.int .i64 5):=zcr WF _ 0 _ 29 (0,0) hblk;have f1:WF.cell? ⟨w.heap.size+1,1,none⟩=some (.int .i64 m.frm):=zcr WF _ 1 _ 29 (0,0) hblk;have f2:WF.cell? ⟨w.heap.size+1,2,none⟩=some (.int .i64 m.dst):=zcr WF _ 2 _ 29 (0,0) hblk;have f3:WF.cell? ⟨w.heap.size+1,3,none⟩=some (.int .u64 m.term):=zcr WF _ 3 _ 29 (0,0) hblk;have f4:WF.cell? ⟨w.heap.size+1,4,none⟩=some (.int .u64 0):=zcr WF _ 4 _ 29 (0,0) hblk;have f5:WF.cell? ⟨w.heap.size+1,5,none⟩=some (.int .u64 0):=zcr WF _ 5 _ 29 (0,0) hblk;have f6:WF.cell? ⟨w.heap.size+1,6,none⟩=some (.int .u64 0):=zcr WF _ 6 _ 29 (0,0) hblk;have f7:WF.cell? ⟨w.heap.size+1,7,none⟩=some (.int .u64 m.mark):=zcr WF _ 7 _ 29 (0,0) hblk;have f8:WF.cell? ⟨w.heap.size+1,8,none⟩=some (.bool false):=zcr WF _ 8 _ 29 (0,0) hblk;have f9:WF.cell? ⟨w.heap.size+1,9,none⟩=some (.slice none 0 0):=zcr WF _ 9 _ 29 (0,0) hblk;have f10:WF.cell? ⟨w.heap.size+1,10,none⟩=some (.string ⟨#[]⟩):=zcr WF _ 10 _ 29 (0,0) hblk;exact bodyPost_ret (v:=.tuple #[mv (⟨5,m.frm,m.dst,m.term,0,0,0,m.mark,false,none,0,0,[],⟨#[]⟩⟩:Ms),.bool true]) (by simp [results,Tryz.results19,go_sem,f0,f1,f2,f3,f4,f5,f6,f7,f8,f9,f10]) rfl (shim_end (ents_nil _ _ _) (by rw [HMM.out];exact like_refl _) HYES.out.symm HFB.out)
theorem mzz_wide:mzz.Wide:=by
 constructor<;>first|decide|(intro e he;cases he)
end Go.Proofs.YtpdbeijfchmlgaaGreat
