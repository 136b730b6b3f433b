/-
  WalPlays: WWk.
  Conditions: named in each theorem.
-/
import Derived.Test.YtnobeoppffoomaaGreatP33
import Derived.Test.YtnobeoppffoomaaGreatP02
import Derived.Test.YtnobeoppffoomaaGreatP0
set_option linter.unusedVariables false
set_option linter.unusedSimpArgs false
set_option maxHeartbeats 8000000
set_option maxRecDepth 100000
namespace Go.Proofs.YtnobeoppffoomaaGreat
open Go.RowKit
open Dk
theorem wi_key (g:Nat) (L:List Nat) (d:St) (at_ m U b3 b7:Nat) (v:Int) (w W:World) (T:St×Int×Bool) (hT:T=wiL at_ U (m-U / 64) (U / 64) d false) (hb:Below w.heap.size w W) (h:Dv w g L d) (e3:b3=w.heap.size) (h3:W.heap[b3]?=some (.cells #[ptr g] 42 (0,0)))
 (h4:W.heap[b3+1]?=some (.cells (rgc at_ m v) 40 (0,0))) (h5:W.heap[b3+1+1]?=some (.cells #[.int .i64 U] 3 (0,0))) (h7:W.heap[b7]?=some (.cells #[.bool false] 4 (0,0))) (hb7:b3+1+1<b7) (ha:at_≤1048576) (hm:m≤1048576) (hU:U≤m*64) :
 Calls Tryz.prog 73 #[.int .i64 (U / 64:Nat),.int .i64 m,.func (.func 74) #[] #[ptr b3,ptr (b3+1),ptr (b3+1+1),ptr b7]] W fun e w'=>e=.returned (.int .i64 T.2.1)∧∃ L',Dv w' g L' T.1∧Keep (b7 :: L) W w'∧Fresh W L L'∧w'.heap[b7]?=some (.cells #[.bool T.2.2] 4 (0,0))∧b7∉L':=by
 have hLw:=h.lt
 have hn7:b7∉L:=fun hm=>by have:=hLw _ hm;omega
 have hD:=h.below hb
 refine (each4_any (ptr b3) (ptr (b3+1)) (ptr (b3+1+1)) (ptr b7) (U / 64) m
  (fun k w1=>∃ L' d' b,Dv w1 g L' d'∧Keep (b7 :: L) W w1∧Fresh W L L'∧w1.heap[b7]?=some (.cells #[.bool b] 4 (0,0))∧b7∉L'∧wiL at_ U (m-k) k d' b=T)
  (fun z w1=>z=T.2.1∧∃ L',Dv w1 g L' T.1∧Keep (b7 :: L) W w1∧Fresh W L L'∧w1.heap[b7]?=some (.cells #[.bool T.2.2] 4 (0,0))∧b7∉L') W (by omega) (by omega) ⟨L,d,false,hD,Keep.refl _ _,Fresh.refl _ _,h7,hn7,hT.symm⟩ ?_).mono ?_
 ·rintro k w1 hk0 hk ⟨L1,d1,b,hD1,hK1,hF1,h71,hn1,hw1⟩
  have hst:wiL at_ U (m-k) k d1 b=if (wiStep d1 at_ U k).2.1=0 then wiL at_ U (m-(k+1)) (k+1) (wiStep d1 at_ U k).1 (b||(wiStep d1 at_ U k).2.2) else ((wiStep d1 at_ U k).1,(wiStep d1 at_ U k).2.1,b||(wiStep d1 at_ U k).2.2):=by
   rw [show m-k=(m-(k+1))+1 by omega]
   rfl
  rw [hw1] at hst
  have hbl:∀ j,w.heap.size≤j→j<W.heap.size→j≠b7→w1.heap[j]?=W.heap[j]?:=fun j a1 a2 a3=>hK1.block j a2 fun hm=>by
   rcases List.mem_cons.1 hm with e|hm
   ·exact a3 e
   ·have:=hLw _ hm;omega
  refine (wicl_any g L1 d1 b3 (b3+1) (b3+1+1) b7 at_ U k m v b w1 hD1 ((hbl b3 (by omega) (zgx h3) (by omega)).trans h3) ((hbl (b3+1) (by omega) (zgx h4) (by omega)).trans h4) ((hbl (b3+1+1) (by omega) (zgx h5) (by omega)).trans h5) h71 (by omega) (by omega) hn1 ha (by omega) (by omega) (by omega)).mono ?_
  rintro e w2 ⟨rfl,L2,hD2,hK2,hF2,h72,hn2⟩
  have hF12:Fresh W (b7 :: L) (b7 :: L1):=fun j hj=>by
   rcases List.mem_cons.1 hj with e|hj
   ·exact .inl (by rw [e];simp)
   ·exact (hF1 j hj).elim (fun h=>.inl (List.mem_cons_of_mem _ h)) .inr
  have hK3:Keep (b7 :: L) W w2:=hK1.trans' hK2 hF12
  have hF3:Fresh W L L2:=hF1.trans hF2 hK1.size
  refine ⟨_,rfl,fun hz=>?_,fun hz=>?_⟩
  ·rw [if_pos hz] at hst
   exact ⟨L2,_,_,hD2,hK3,hF3,h72,hn2,hst.symm⟩
  ·rw [if_neg hz] at hst
   rw [hst]
   exact ⟨rfl,L2,hD2,hK3,hF3,h72,hn2⟩
 ·rintro e w1 ⟨z,rfl,hz0,hz1⟩
  by_cases hz:z=0
  ·obtain ⟨L1,d1,b,hD1,hK1,hF1,h71,hn1,hw1⟩:=hz0 hz
   rw [Nat.sub_self] at hw1
   have hT2:T=(d1,0,b):=hw1.symm
   rw [hT2]
   exact ⟨by rw [hz],L1,hD1,hK1,hF1,h71,hn1⟩
  ·obtain ⟨h1,h2⟩:=hz1 hz
   exact ⟨by rw [h1],h2⟩
theorem keep_drop {L:List Nat} {b:Nat} {w W w':World} (hb:Below w.heap.size w W) (hk:Keep (b :: L) W w') (hbw:w.heap.size≤b):Keep L w w' :=
 ⟨hk.os.trans hb.os,hk.tape.trans hb.tape,hk.output.trans hb.output,Nat.le_trans hb.size hk.size,fun k hk1 hk2=>(hk.block k (Nat.lt_of_lt_of_le hk1 hb.size) (fun hm=>by
  rcases List.mem_cons.1 hm with e|hm
  ·omega
  ·exact hk2 hm)).trans (hb.block k hk1)⟩
theorem rwipe_any (g:Nat) (L:List Nat) (d:St) (at_ m:Nat) (v u:Int) (w:World) (h:Dv w g L d) (ha:at_≤1048576) (hm:m≤1048576) :
 Calls Tryz.prog 30 #[ptr g,RG at_ m v,.int .i64 u] w fun e w'=>e=.returned (.int .i64 (wipS d at_ m v u).2)∧Moves g L (wipS d at_ m v u).1 w w':=by
 obtain ⟨W,hW⟩:∃ W,W=((w.alloc (.cells #[ptr g] 42)).alloc (.cells (rgc at_ m v) 40)).alloc (.cells #[.int .i64 u] 3):=⟨_,rfl⟩
 have hB:Below w.heap.size w W:=by rw [hW];exact (((Below.refl _ w).alloc (Nat.le_refl _) _).alloc (by simp) _).alloc (by simp;omega) _
 have hc3:W.heap[w.heap.size]?=some (.cells #[ptr g] 42 (0,0)):=by rw [hW];exact (heap3 w _ _ _).1
 have hc4:W.heap[w.heap.size+1]?=some (.cells (rgc at_ m v) 40 (0,0)):=by rw [hW];exact (heap3 w _ _ _).2.1
 have hc5:W.heap[w.heap.size+1+1]?=some (.cells #[.int .i64 u] 3 (0,0)):=by rw [hW];exact (heap3 w _ _ _).2.2
 have K1:=zh (ron_any g L d at_ m v W (h.below hB) ha hm)
 have K2:=zh (fun W=>rhas_any at_ v u m W hm)
 obtain ⟨WP,hWP⟩:∃ x,x=wipS d at_ m v u:=⟨_,rfl⟩
 rw [←hWP]
 unfold wipS at hWP
 obtain ⟨b1,hb1⟩:∃ b,b=onB d.n at_ m v:=⟨_,rfl⟩
 obtain ⟨b2,hb2⟩:∃ b,b=hasB m u:=⟨_,rfl⟩
 rw [←hb1] at K1 hWP
 rw [←hb2] at K2 hWP
 have fin:Hid (∀ W',Below w.heap.size w W'→Moves g L d w W'):=fun W' hb=>⟨L,h.below hb,Keep.of_below hb,Fresh.refl _ _⟩
 have HB:=zh hB
 have HW:=zh hW
 have H3:=zh hc3
 have H4:=zh hc4
 have H5:=zh hc5
 have HWP:=zh hWP
 have HD:=zh h
 have c3:W.cell? ⟨w.heap.size,0,none⟩=some (ptr g):=zcr W _ 0 _ 42 (0,0) hc3
 have c5:W.cell? ⟨w.heap.size+1+1,0,none⟩=some (.int .i64 u):=zcr W _ 0 _ 3 (0,0) hc5
 obtain ⟨c40,c41,c42⟩:=rgc_cells hc4
 clear hB hW hc3 hc4 hc5 hWP hb1 h
 have hu0:=hb2
 unfold ptr at *
 cases b1 with
 | false =>
   obtain rfl:WP=(d,1):=by rw [HWP.out,if_neg (by simp)]
   clear HWP hb2 hu0
   go_enter Tryz.func30,Tryz.ntmps30
   go_upto_region 1 with fail
   refine wp_at (w:=W) HW.out.symm ?_
   go_wp2_with (go_at_call 64;(with_reducible refine K1.out.mono ?_);rintro q w1 ⟨rfl,b1⟩)
   go_ret
   exact ⟨rfl,fin.out _ (HB.out.trans (b1.mono HB.out.size))⟩
 | true =>
   cases b2 with
   | false =>
     obtain rfl:WP=(d,1):=by rw [HWP.out,if_neg (by simp)]
     clear HWP hb2 hu0
     go_enter Tryz.func30,Tryz.ntmps30
     go_upto_region 1 with fail
     refine wp_at (w:=W) HW.out.symm ?_
     go_wp2_with (first
      | (go_at_call 64;(with_reducible refine K1.out.mono ?_);rintro q w1 ⟨rfl,b1⟩;have HB1:Hid (Below w.heap.size w w1):=HB.out.trans (b1.mono HB.out.size);obtain ⟨e0,e1,e2⟩:=rgc_cells ((b1.block _ (zgx H4.out)).trans H4.out);have e5:w1.cell? ⟨w.heap.size+1+1,0,none⟩=some (.int .i64 u):=zcr w1 _ 0 _ 3 (0,0) ((b1.block _ (zgx H5.out)).trans H5.out);clear b1)
      | (go_at_call 68;(with_reducible refine (K2.out _).mono ?_);rintro q w2 ⟨rfl,b2⟩))
     go_ret
     exact ⟨rfl,fin.out _ (HB1.out.trans (b2.mono HB1.out.size))⟩
   | true =>
     have hu:0≤u∧u≤((m*64:Nat):Int):=of_decide_eq_true hb2.symm
     obtain ⟨U,rfl⟩:=Int.eq_ofNat_of_zero_le hu.1
     have hU:U≤m*64:=by omega
     obtain ⟨T,hT⟩:∃ T,T=wiL at_ U (m-U / 64) (U / 64) d false:=⟨_,rfl⟩
     have HW2:Hid (WP=if T.2.1≠0∨T.2.2=false then (T.1,T.2.1) else T.1.flush):=by
      show _=_
      rw [HWP.out,if_pos ⟨rfl,rfl⟩,Int.toNat_natCast,hT]
      rfl
     have KEY:=zh (fun (W1:World) (b7:Nat) (hb:Below w.heap.size w W1) (h3:W1.heap[w.heap.size]?=some (.cells #[.pointer (some ⟨g,0,none⟩)] 42 (0,0))) (h4:W1.heap[w.heap.size+1]?=some (.cells (rgc at_ m v) 40 (0,0))) (h5:W1.heap[w.heap.size+1+1]?=some (.cells #[.int .i64 U] 3 (0,0))) (h7:W1.heap[b7]?=some (.cells #[.bool false] 4 (0,0))) (hb7:w.heap.size+1+1<b7)=>wi_key g L d at_ m U w.heap.size b7 v w W1 T hT hb HD.out rfl h3 h4 h5 h7 hb7 ha hm hU)
     have KF:=zh (fun (L':List Nat) (W1:World) (h:Dv W1 g L' T.1)=>flush_any g L' T.1 W1 h)
     have i1:((U / 64:Nat):Int)=(U:Int) / 64:=by omega
     rw [i1] at KEY
     clear HWP hb2 hu0 hT i1 hu
     unfold ptr at *
     go_enter Tryz.func30,Tryz.ntmps30
     go_upto_region 1 with fail
     refine wp_at (w:=W) HW.out.symm ?_
     go_upto_region 3 with (first
      | (go_at_call 64;(with_reducible refine K1.out.mono ?_);rintro q w1 ⟨rfl,b1⟩;have HB1:Hid (Below w.heap.size w w1):=HB.out.trans (b1.mono HB.out.size);have H31:Hid (w1.heap[w.heap.size]?=some (.cells #[.pointer (some ⟨g,0,none⟩)] 42 (0,0))):=(b1.block _ (zgx H3.out)).trans H3.out;have H41:Hid (w1.heap[w.heap.size+1]?=some (.cells (rgc at_ m v) 40 (0,0))):=(b1.block _ (zgx H4.out)).trans H4.out;have H51:Hid (w1.heap[w.heap.size+1+1]?=some (.cells #[.int .i64 U] 3 (0,0))):=(b1.block _ (zgx H5.out)).trans H5.out;obtain ⟨e0,e1,e2⟩:=rgc_cells H41.out;have e5:w1.cell? ⟨w.heap.size+1+1,0,none⟩=some (.int .i64 U):=zcr w1 _ 0 _ 3 (0,0) H51.out;clear b1)
      | (go_at_call 68;(with_reducible refine (K2.out _).mono ?_);rintro q w2 ⟨rfl,b2⟩))
     have HB2:Hid (Below w.heap.size w w2):=HB1.out.trans (b2.mono HB1.out.size)
     have H32:Hid (w2.heap[w.heap.size]?=some (.cells #[.pointer (some ⟨g,0,none⟩)] 42 (0,0))):=(b2.block _ (zgx H31.out)).trans H31.out
     have H42:Hid (w2.heap[w.heap.size+1]?=some (.cells (rgc at_ m v) 40 (0,0))):=(b2.block _ (zgx H41.out)).trans H41.out
     have H52:Hid (w2.heap[w.heap.size+1+1]?=some (.cells #[.int .i64 U] 3 (0,0))):=(b2.block _ (zgx H51.out)).trans H51.out
     clear b2 c3 c5 c40 c41 c42 e0 e1 e2 e5
     obtain ⟨P,hP⟩:∃ P,P=w2.heap.size:=⟨_,rfl⟩
     have hPs:w.heap.size+1+1<P:=by rw [hP];exact (zgx H52.out)
     obtain ⟨W3,hW3⟩:∃ W3,W3=w2.alloc (.cells #[.bool false] 4):=⟨_,rfl⟩
     have HB3:Hid (Below w.heap.size w W3):=by show Below _ _ _;rw [hW3];exact HB2.out.alloc HB2.out.size _
     have H33:Hid (W3.heap[w.heap.size]?=some (.cells #[.pointer (some ⟨g,0,none⟩)] 42 (0,0))):=by show _=_;rw [hW3];exact (Lib.alloc_old _ _ _ (zgx H32.out)).trans H32.out
     have H43:Hid (W3.heap[w.heap.size+1]?=some (.cells (rgc at_ m v) 40 (0,0))):=by show _=_;rw [hW3];exact (Lib.alloc_old _ _ _ (zgx H42.out)).trans H42.out
     have H53:Hid (W3.heap[w.heap.size+1+1]?=some (.cells #[.int .i64 U] 3 (0,0))):=by show _=_;rw [hW3];exact (Lib.alloc_old _ _ _ (zgx H52.out)).trans H52.out
     have H73:Hid (W3.heap[P]?=some (.cells #[.bool false] 4 (0,0))):=by show _=_;rw [hW3,hP];exact heap_alloc_new w2 _
     have KK:=zh (KEY.out W3 P HB3.out H33.out H43.out H53.out H73.out hPs)
     have c5:W3.cell? ⟨w.heap.size+1+1,0,none⟩=some (.int .i64 U):=zcr W3 _ 0 _ 3 (0,0) H53.out
     obtain ⟨c40,c41,c42⟩:=rgc_cells H43.out
     go_upto_region 4 with fail
     refine wp_at (w:=W3) hW3.symm ?_
     rw [←hP]
     clear hW3 hP KEY
     go_upto_region 5 with (go_at_call 73;(with_reducible refine KK.out.mono ?_);rintro q w5 ⟨rfl,L5,hD5,hK5,hF5,h75,hn5⟩)
     have HKL:Hid (Keep L w w5):=keep_drop HB3.out hK5 (by omega)
     have HFL:Hid (Fresh w L L5):=fun k hk=>(hF5 k hk).elim .inl (fun h=>.inr (Nat.le_trans HB3.out.size h))
     have HD5:=zh hD5
     have HS5:Hid (w.heap.size≤w5.heap.size):=HKL.out.size
     have h35:w5.heap[w.heap.size]?=some (.cells #[.pointer (some ⟨g,0,none⟩)] 42 (0,0)):=(hK5.block _ (zgx H33.out) (fun hm=>by
      rcases List.mem_cons.1 hm with e|hm
      ·omega
      ·have:=HD.out.lt _ hm;omega)).trans H33.out
     have f3:w5.cell? ⟨w.heap.size,0,none⟩=some (.pointer (some ⟨g,0,none⟩)):=zcr w5 _ 0 _ 42 (0,0) h35
     have f7:w5.cell? ⟨P,0,none⟩=some (.bool T.2.2):=zcr w5 _ 0 _ 4 (0,0) h75
     clear hD5 hK5 hF5 h75 hn5 h35 c40 c41 c42 c5
     obtain ⟨t1,t2,t3⟩:=T
     dsimp only at *
     by_cases hz:t2=0
     rotate_left
     ·have q1:(t2==0)=false:=beqF hz
      have q2:(t2 != 0)=true:=by unfold bne;rw [q1];rfl
      obtain rfl:WP=(t1,t2):=by rw [HW2.out,if_pos (.inl hz)]
      clear hz HW2
      go_wp2
      go_ret
      exact ⟨rfl,L5,HD5.out,HKL.out,HFL.out⟩
     subst hz
     cases t3 with
     | false =>
       obtain rfl:WP=(t1,0):=by rw [HW2.out,if_pos (.inr rfl)]
       clear HW2
       go_wp2
       go_ret
       exact ⟨rfl,L5,HD5.out,HKL.out,HFL.out⟩
     | true =>
       obtain rfl:WP=t1.flush:=by rw [HW2.out,if_neg (by simp)]
       clear HW2
       go_wp2_with (go_at_call 28;(with_reducible refine (KF.out _ _ HD5.out).mono ?_);rintro q w6 ⟨rfl,hM⟩)
       go_ret
       obtain ⟨L6,m1,m2,m3⟩:=hM
       exact ⟨rfl,L6,m1,HKL.out.trans' m2 HFL.out,HFL.out.trans m3 HS5.out⟩
end Go.Proofs.YtnobeoppffoomaaGreat
