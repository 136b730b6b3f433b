/-
  WalPlays: WZg.
  Conditions: named in each theorem.
-/
import Derived.Test.YtnobeoppffoomaaGreatP39
import Derived.Test.YtnobeoppffoomaaGreatP33
import Derived.Test.YtnobeoppffoomaaGreatP0
set_option linter.unusedVariables false
set_option linter.unusedSimpArgs false
set_option maxHeartbeats 8000000
set_option maxRecDepth 100000
namespace Go.Proofs.YtnobeoppffoomaaGreat
open Go.RowKit
open Dk
theorem txt_beq (a c:List UInt8):((txt a).toList==(txt c).toList)=decide (a=c):=by
 rw [Lib.toList_data,Lib.toList_data,txt_list,txt_list]
 by_cases h:a=c
 ·rw [h];simp
 ·rw [decide_eq_false h];exact beq_eq_false_iff_ne.2 h
theorem rgzero_any (l:List UInt8) (w:World) (hl:l.length≤64) :
 Calls Tryz.prog 97 #[.string (txt l)] w fun e w'=>e=.returned (.bool (decide (l=List.replicate l.length 0)))∧Below w.heap.size w w':=by
 have hmk:=mk_zeros w l.length (by omega)
 have hcv:=cv_zeros (w.alloc (.cells (Lib.byteCells (zeros l.length)).toArray 5)) w.heap.size l.length (heap_alloc_new w _)
 have B2:=(Below.refl w.heap.size w).alloc (Nat.le_refl _) (.cells (Lib.byteCells (zeros l.length)).toArray 5)
 have hcmp:=txt_beq l (List.replicate l.length 0)
 have hz:zz l.length=txt (List.replicate l.length 0):=rfl
 rw [←hz] at hcmp
 have hs:=txt_size l
 obtain ⟨b,hb⟩:∃ b,b=decide (l=List.replicate l.length 0):=⟨_,rfl⟩
 rw [←hb] at hcmp ⊢
 obtain ⟨m,hm⟩:∃ m,m=l.length:=⟨_,rfl⟩
 rw [←hm] at hmk hcv B2 hcmp hs
 obtain ⟨M,hM⟩:∃ M,M=(Lib.byteCells (zeros m)).toArray:=⟨_,rfl⟩
 rw [←hM] at hmk hcv B2
 obtain ⟨S,hS⟩:∃ S,S=txt l:=⟨_,rfl⟩
 rw [←hS] at hcmp hs ⊢
 obtain ⟨Z,hZ⟩:∃ Z,Z=zz m:=⟨_,rfl⟩
 rw [←hZ] at hcmp hcv
 have HB2:=zh B2
 clear hM hS hZ hb hm hz B2
 cases b
 all_goals
  go_enter Tryz.func97,Tryz.ntmps97
  go_wp2
  go_ret
  exact ⟨rfl,HB2.out⟩
theorem rgwipe_no (B gr:Nat) (L:List Nat) (d:St) (at_ m v u:Int) (w:World) (h:Rf w B gr L d) (ha:at_≤9223372036854775807)
 (hno:onI d.n at_ m v=false∨u<0∨64*m<u) :
 Calls Tryz.prog 53 #[ptr gr,RG at_ m v,.int .i64 u] w fun e w'=>e=.returned (.int .i64 1)∧Below w.heap.size w w':=by
 have n2:=h.1.n2
 obtain ⟨W,hW⟩:∃ W,W=w.alloc (.cells (rgc at_ m v) 112):=⟨_,rfl⟩
 have hB:Below w.heap.size w W:=by rw [hW];exact (Below.refl _ w).alloc (Nat.le_refl _) _
 have hc:W.heap[w.heap.size]?=some (.cells (rgc at_ m v) 112 (0,0)):=by rw [hW];exact heap_alloc_new w _
 have K1:=zh (rgright_any B gr L d at_ m v W (h.below hB) ha)
 have HON:Hid (onI d.n at_ m v=true→1≤m∧m≤4096):=fun h=>by
  obtain ⟨a,k,rfl,rfl,h1,h2⟩:=onI_true h
  have:=(onB_in n2 h1).1
  omega
 have HB:=zh hB
 have HW:=zh hW
 have HC:=zh hc
 obtain ⟨on,hon⟩:∃ b,b=onI d.n at_ m v:=⟨_,rfl⟩
 rw [←hon] at hno
 rw [←hon] at K1 HON
 obtain ⟨c0,c1,c2⟩:=rgc_cellsD hc
 have HNO:=zh hno
 clear hB hc hW h hon hno n2
 unfold ptr at *
 cases on with
 | false =>
   go_enter Tryz.func53,Tryz.ntmps53
   go_upto_region 1 with fail
   refine wp_at (w:=W) HW.out.symm ?_
   go_wp2_with (go_at_call 95;(with_reducible refine K1.out.mono ?_);rintro q w1 ⟨rfl,b1⟩)
   go_ret
   exact ⟨rfl,HB.out.trans (b1.mono HB.out.size)⟩
 | true =>
   obtain ⟨hm1,hm2⟩:=HON.out rfl
   obtain ⟨M,rfl⟩:=Int.eq_ofNat_of_zero_le (show 0≤m by omega)
   have hw:wrap64 (64*(M:Int))=64*(M:Int):=by unfold wrap64;omega
   have hcs:(decide (u<0)=true)∨(decide (u<0)=false∧decide (64*(M:Int)<u)=true):=by
    by_cases h0:u<0
    ·exact .inl (decide_eq_true h0)
    ·refine .inr ⟨decide_eq_false h0,decide_eq_true ?_⟩
     rcases HNO.out with h|h|h
     ·cases h
     ·exact absurd h h0
     ·exact h
   rcases hcs with t0|⟨t0,t1⟩
   all_goals
    go_enter Tryz.func53,Tryz.ntmps53
    go_upto_region 1 with fail
    refine wp_at (w:=W) HW.out.symm ?_
    go_upto_region 2 with (go_at_call 95;(with_reducible refine K1.out.mono ?_);rintro q w1 ⟨rfl,b1⟩)
    have HB1:Hid (Below w.heap.size w w1):=HB.out.trans (b1.mono HB.out.size)
    obtain ⟨e0,e1,e2⟩:=rgc_cellsD ((b1.block _ (zgx HC.out)).trans HC.out)
    clear b1 c0 c1 c2
    go_wp2
    go_ret
    exact ⟨rfl,HB1.out⟩
theorem rgwipe_go (B gr:Nat) (L:List Nat) (d:St) (a M U:Nat) (v:Int) (w:World) (h:Rf w B gr L d) (hon:onB d.n a M v=true) (hU:U≤M*64) :
 Calls Tryz.prog 53 #[ptr gr,RG a M v,.int .i64 U] w fun e w'=>e=.returned (.int .i64 (wipG d a M U).2)∧RMoves B gr L (wipG d a M U).1 w w':=by
 have n2:=h.1.n2
 obtain ⟨hm1,hn1,hv⟩:=onB_in n2 hon
 obtain ⟨W,hW⟩:∃ W,W=w.alloc (.cells (rgc a M v) 112):=⟨_,rfl⟩
 have hB:Below w.heap.size w W:=by rw [hW];exact (Below.refl _ w).alloc (Nat.le_refl _) _
 have hc:W.heap[w.heap.size]?=some (.cells (rgc a M v) 112 (0,0)):=by rw [hW];exact heap_alloc_new w _
 have K1:=zh (rgright_any B gr L d a M v W (h.below hB) (by omega))
 rw [onI_of hon hn1] at K1
 have HM0:Hid (∀ W',Below w.heap.size w W'→RMoves B gr L d w W'):=fun W' hb=>⟨h.below hb,Keep.of_below hb⟩
 have HLT:=zh h.lt
 have HB:=zh hB
 have HW:=zh hW
 have HC:=zh hc
 obtain ⟨c0,c1,c2⟩:=rgc_cellsD hc
 obtain ⟨T,hT⟩:∃ T,T=wiL a U (M-U / 64) (U / 64) d false:=⟨_,rfl⟩
 have hX:wipG d a M U=if T.2.1≠0∨T.2.2=false then (T.1,T.2.1) else T.1.flush:=by rw [hT];rfl
 obtain ⟨X,hXX⟩:∃ X,X=wipG d a M U:=⟨_,rfl⟩
 rw [←hXX] at hX ⊢
 have HX:=zh hX
 have HT:=zh hT
 have hw:wrap64 (64*(M:Int))=64*(M:Int):=by unfold wrap64;omega
 have t0:decide ((U:Int)<0)=false:=decide_eq_false (by omega)
 have t1:decide (64*(M:Int)<(U:Int))=false:=decide_eq_false (by omega)
 have hdv:wrap64 ((U:Int) / 64)=(U:Int) / 64:=by unfold wrap64;omega
 have HBD:Hid (a≤4096∧M≤4096∧U≤M*64):=⟨by omega,by omega,hU⟩
 clear hB hc hW h hX hXX hT hon hv hn1 n2 hm1
 unfold ptr at *
 go_enter Tryz.func53,Tryz.ntmps53
 go_upto_region 1 with fail
 refine wp_at (w:=W) HW.out.symm ?_
 go_upto_region 2 with (go_at_call 95;(with_reducible refine K1.out.mono ?_);rintro q w1 ⟨rfl,b1⟩)
 have HB1:Hid (Below w.heap.size w w1):=HB.out.trans (b1.mono HB.out.size)
 have HC1:Hid (w1.heap[w.heap.size]?=some (.cells (rgc a M v) 112 (0,0))):=(b1.block _ (zgx HC.out)).trans HC.out
 obtain ⟨e0,e1,e2⟩:=rgc_cellsD HC1.out
 clear b1 c0 c1 c2 HB HC K1 HW
 go_upto_region 6 with fail
 simp only [hdv]
 clear hw t0 t1 e0 e1 e2 hdv
 go_loopw [8,9] (fun s i wr=>∃ (k:Nat) (d':St) (b:Bool),i=.int .i64 k∧s=.bool b∧Hid (U / 64≤k∧k≤M)∧Hid (RMoves B gr L d' w wr∧wiL a U (M-k) k d' b=T)∧Hid (wr.heap[w.heap.size]?=some (.cells (rgc a M v) 112 (0,0)))) (fun _ i _=>M-(Go.RowKit.intOf i).toNat)
 case atStart=>exact ⟨U / 64,d,false,by first|rfl|congr 1,rfl,(by have:=HBD.out;exact ⟨Nat.le_refl _,by omega⟩),⟨HM0.out _ HB1.out,HT.out.symm⟩,HC1⟩
 case round =>
  obtain ⟨k,d',b,rfl,rfl,hkk,hP,hcc⟩:=hrel
  obtain ⟨f0,f1,f2⟩:=rgc_cellsD hcc.out
  by_cases hlt:k<M
  ·have t1:decide ((k:Int)<(M:Int))=true:=decide_eq_true (by omega)
   obtain ⟨ham1,ham2,ham3⟩:=HBD.out
   obtain ⟨hk1,hk2⟩:=hkk.out
   have hst:wiL a U (M-k) k d' b=if (wiStep d' a U k).2.1=0 then wiL a U (M-(k+1)) (k+1) (wiStep d' a U k).1 (b||(wiStep d' a U k).2.2) else ((wiStep d' a U k).1,(wiStep d' a U k).2.1,b||(wiStep d' a U k).2.2):=by
    rw [show M-k=(M-(k+1))+1 by omega]
    rfl
   rw [hP.out.2] at hst
   obtain ⟨WS,hWS⟩:∃ x,x=wiStep d' a U k:=⟨_,rfl⟩
   rw [←hWS] at hst
   have HST:=zh hst
   unfold wiStep at hWS
   have KR:=zh (rread_any B gr L d' ((a+k:Nat):Int) wr hP.out.1.1)
   have i1:((a+k:Nat):Int)=(a:Int)+k:=by omega
   have hl2:wrap64 ((a:Int)+k)=(a:Int)+k:=by unfold wrap64;omega
   by_cases hr:d'.refuses ((a+k:Nat):Int)=0
   rotate_left
   ·rw [if_pos hr] at hWS
    obtain ⟨Z,hZ⟩:∃ Z,Z=d'.refuses ((a+k:Nat):Int):=⟨_,rfl⟩
    rw [←hZ,i1] at KR
    rw [←hZ] at hWS hr
    subst hWS
    have hst:=HST.out
    rw [if_neg hr] at hst
    have hX:X=(d',Z):=by
     have:=HX.out
     rw [hst] at this
     rw [this,if_pos (.inl hr)]
    have HP1:=zh hP.out.1
    have t2:(Z==0)=false:=beqF hr
    have t3:(Z != 0)=true:=by unfold bne;rw [t2];rfl
    obtain ⟨RS,hRS⟩:∃ s,s=txt (d'.readS ((a:Int)+k)):=⟨_,rfl⟩
    rw [←hRS] at KR
    subst hX
    clear hr hZ i1 hst HST HX hP hRS ham1 ham2 ham3 hk1 hk2
    unfold ptr at *
    go_wp2_with (go_at_call 96;(with_reducible refine KR.out.mono ?_);rintro q w5 ⟨rfl,rfl⟩)
    go_ret
    exact ⟨rfl,HP1.out⟩
   have e1:d'.readS ((a+k:Nat):Int)=d'.now (a+k):=by unfold St.readS;rw [if_pos hr,Int.toNat_natCast]
   rw [if_neg (fun h=>h hr)] at hWS
   rw [e1,hr,i1] at KR
   have hn64:(d'.now (a+k)).length=64:=hP.out.1.1.1.now _
   obtain ⟨st,hst2⟩:∃ st,st=U-k*64:=⟨_,rfl⟩
   have hstI:max ((U:Int)-64*(k:Int)) (0:Int)=(st:Int):=by omega
   have hst63:st≤63:=by omega
   have hl3:wrap64 (64*(k:Int))=64*(k:Int):=by unfold wrap64;omega
   have hl4:wrap64 ((U:Int)-64*(k:Int))=(U:Int)-64*(k:Int):=by unfold wrap64;omega
   have hkb:k≤4096:=by omega
   rw [←hst2] at hWS
   obtain ⟨nw,hnw⟩:∃ nw,nw=d'.now (a+k):=⟨_,rfl⟩
   rw [←hnw] at hWS KR hn64
   have KW:=zh (fun (W:World) (hW:Rf W B gr L d')=>rwrite_any B gr L d' ((a+k:Nat):Int) (nw.take st) W hW)
   rw [i1] at KW hWS
   have hx1:=txt_drop nw st (by omega)
   have hx2:=txt_take nw st
   rw [hn64] at hx1
   have hs:(txt nw).size=64:=by rw [txt_size];exact hn64
   obtain ⟨S,hS⟩:∃ S,S=txt nw:=⟨_,rfl⟩
   rw [←hS] at KR hx1 hx2 hs
   have hdl:(nw.drop st).length=64-st:=by rw [List.length_drop,hn64]
   have KZ:=zh (fun (W:World)=>rgzero_any (nw.drop st) W (by rw [hdl];omega))
   rw [hdl] at KZ
   rw [←hx1] at KZ
   rw [←hx2] at KW
   have hxs:S.extract st S.size=S.extract st 64:=by rw [hs]
   have q3:(st:Int)≤(S.size:Int):=by rw [hs];omega
   have q1:(st:Int)≤64:=by omega
   obtain ⟨D,hD⟩:∃ D,D=d'.write ((a:Int)+k) (nw.take st):=⟨_,rfl⟩
   rw [←hD] at KW hWS
   have HRW:=zh hP.out.1
   obtain ⟨zb,hzb⟩:∃ z,z=decide (nw.drop st=List.replicate (64-st) 0):=⟨_,rfl⟩
   rw [←hzb] at KZ
   have HWS:Hid (WS=if zb=true then (d',0,false) else (D.1,D.2,true)):=by
    show _=_
    rw [hWS,hzb]
    by_cases hq:nw.drop st=List.replicate (64-st) 0
    ·rw [if_pos hq,decide_eq_true hq,if_pos rfl]
    ·rw [if_neg hq,decide_eq_false hq,if_neg (by decide)]
   have HLB:Hid (w.heap.size<wr.heap.size):=(zgx hcc.out)
   have HK:=zh hk2
   clear hWS hzb hD hx1 hx2 hS hnw hst2 e1 hr i1 hP ham1 ham2 ham3 hk1 hk2 hn64 hdl hst
   unfold ptr at *
   go_upto_region 12 with (go_at_call 96;(with_reducible refine KR.out.mono ?_);rintro q w5 ⟨rfl,rfl⟩)
   have hx0:S.extract 0 st=S.extract 0 st:=rfl
   cases zb with
   | true =>
     have hst:=HST.out
     have hW2:WS=(d',0,false):=by rw [HWS.out];rfl
     rw [hW2,if_pos rfl,Bool.or_false] at hst
     have HST2:=zh hst
     clear hst HST HWS KW hW2
     go_wp2_with (go_at_call 97;(with_reducible refine (KZ.out _).mono ?_);rintro q w6 ⟨rfl,b6⟩)
     go_roundw
     case rel=>exact ⟨k+1,d',b,by go_num,rfl,(by have:=HK.out;have:=hkk.out;exact ⟨by omega,by omega⟩),⟨⟨HRW.out.1.below b6,HRW.out.2.trans (Keep.of_below b6)⟩,HST2.out.symm⟩,(b6.block _ HLB.out).trans hcc.out⟩
     case measure=>have:=HK.out;simp [Go.RowKit.intOf];omega
   | false =>
     have hst:=HST.out
     have hW2:WS=(D.1,D.2,true):=by rw [HWS.out];rfl
     rw [hW2,Bool.or_true] at hst
     have HST2:Hid (T=if D.2=0 then wiL a U (M-(k+1)) (k+1) D.1 true else (D.1,D.2,true)):=hst.symm▸rfl
     clear hst HST HWS hW2
     go_upto_region 13 with (go_at_call 97;(with_reducible refine (KZ.out _).mono ?_);rintro q w6 ⟨rfl,b6⟩)
     have HB6:=zh b6
     have KW6:=zh (KW.out w6.drew ((HRW.out.1.below b6).below (Below.refl _ w6).drew))
     have hc6:Hid (w6.heap[w.heap.size]?=some (.cells (rgc a M v) 112 (0,0))):=(b6.block _ HLB.out).trans hcc.out
     obtain ⟨g0,g1,g2⟩:=rgc_cellsD hc6.out
     have g0d:w6.drew.cell? ⟨w.heap.size,0,none⟩=some (.int .i64 a):=g0
     have hw2:IntKind.i64.wrap ((a:Int)+k)=(a:Int)+k:=IntWalk.i64_in _ (by have:=HBD.out;omega)
     obtain ⟨TT,hTT⟩:∃ x,x=S.extract 0 st:=⟨_,rfl⟩
     rw [←hTT] at KW6
     have hx0:S.extract 0 st=TT:=hTT.symm
     clear b6 KW hTT f0 f1 f2 hl2 hl3 hl4 hstI
     go_upto_region 14 with fail
     go_region_law (go_simp;go_at_call 55;(with_reducible refine KW6.out.mono ?_);rintro q w7 ⟨rfl,hM7⟩)
     all_goals
      have HM7:Hid (RMoves B gr L D.1 w w7):=⟨hM7.1,HRW.out.2.trans ((Keep.of_below HB6.out).trans ((Keep.of_below (Below.refl _ w6).drew).trans hM7.2))⟩
      have HC7:Hid (w7.heap[w.heap.size]?=some (.cells (rgc a M v) 112 (0,0))):=(hM7.2.block _ (Nat.lt_of_lt_of_le HLB.out HB6.out.size) (fun hm=>Nat.lt_irrefl _ (HLT.out _ hm))).trans hc6.out
      obtain ⟨z,hz⟩:∃ z,z=D.2:=⟨_,rfl⟩
      rw [←hz] at HST2 ⊢
      clear hM7 KW6 g0 g1 g2 g0d hw2 hx0
      by_cases hz0:z=0
      ·have hst:=HST2.out
       rw [if_pos hz0] at hst
       have HST3:=zh hst
       subst hz0
       clear hst HST2 hz
       go_wp2
       go_roundw
       case rel=>exact ⟨k+1,D.1,true,by go_num,rfl,(by have:=HK.out;have:=hkk.out;exact ⟨by omega,by omega⟩),⟨HM7.out,HST3.out.symm⟩,HC7⟩
       case measure=>have:=HK.out;simp [Go.RowKit.intOf];omega
      ·have hst:=HST2.out
       rw [if_neg hz0] at hst
       have hX:X=(D.1,z):=by
        have:=HX.out
        rw [hst] at this
        rw [this,if_pos (.inl hz0)]
       have e1:(z==0)=false:=beqF hz0
       have e2:(z != 0)=true:=by unfold bne;rw [e1];rfl
       subst hX
       clear hst HST2 hz HX
       go_wp2
       go_ret
       exact ⟨rfl,HM7.out⟩
  ·have t1:decide ((k:Int)<(M:Int))=false:=decide_eq_false (by omega)
   obtain ⟨h1,h2⟩:=hP.out
   have hkM:k=M:=by have:=hkk.out;omega
   rw [hkM,Nat.sub_self] at h2
   have hT:T=(d',0,b):=h2.symm
   have H1:=zh h1
   clear hkM h2
   cases b with
   | false =>
     have hX:X=(d',0):=by
      have:=HX.out
      rw [hT] at this
      rw [this,if_pos (.inr rfl)]
     subst hX
     clear h1 HX hP hT
     go_wp2
     go_ret
     exact ⟨rfl,H1.out⟩
   | true =>
     have hX:X=d'.flush:=by
      have:=HX.out
      rw [hT] at this
      rw [this,if_neg (by simp)]
     have KF:=zh (rflush_any B gr L d' wr h1.1)
     rw [←hX] at KF
     clear h1 HX hP hT hX
     unfold ptr at *
     go_wp2_with (go_at_call 58;(with_reducible refine KF.out.mono ?_);rintro q w8 ⟨rfl,hM8⟩)
     go_ret
     exact ⟨rfl,hM8.1,H1.out.2.trans hM8.2⟩
end Go.Proofs.YtnobeoppffoomaaGreat
