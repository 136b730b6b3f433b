/-
  WalPlays: WWi WWj WFi WRe.
  Conditions: named in each theorem.
-/
import Derived.Test.YtnobeoppffoomaaGreatP32
import Derived.Test.YtnobeoppffoomaaGreatP31
import Derived.Test.YtnobeoppffoomaaGreatP0
set_option linter.unusedVariables false
set_option linter.unusedSimpArgs false
set_option maxHeartbeats 8000000
set_option maxRecDepth 100000
namespace Go.Proofs.YtnobeoppffoomaaGreat
open Go.RowKit
open Dk
def wiStep (d:St) (at_ u k:Nat):St×Int×Bool :=
 if d.refuses ((at_+k:Nat):Int)≠0 then (d,d.refuses ((at_+k:Nat):Int),false)
 else if (d.now (at_+k)).drop (u-k*64)=List.replicate (64-(u-k*64)) 0 then (d,0,false)
 else ((d.write ((at_+k:Nat):Int) ((d.now (at_+k)).take (u-k*64))).1,(d.write ((at_+k:Nat):Int) ((d.now (at_+k)).take (u-k*64))).2,true)
theorem txt_drop (l:List UInt8) (k:Nat) (hk:k≤l.length):(txt l).extract k l.length=txt (l.drop k):=by
 apply ByteArray.ext
 apply Array.toList_inj.1
 rw [ByteArray.data_extract,Array.toList_extract,txt_list,txt_list,List.extract_eq_take_drop,List.take_of_length_le (by rw [List.length_drop];omega)]
theorem wicl_any (g:Nat) (L:List Nat) (d:St) (b3 b4 b5 b7 at_ u k:Nat) (m v:Int) (b:Bool) (w:World) (h:Dv w g L d) (h3:w.heap[b3]?=some (.cells #[ptr g] 42 (0,0))) (h4:w.heap[b4]?=some (.cells (rgc at_ m v) 40 (0,0)))
 (h5:w.heap[b5]?=some (.cells #[.int .i64 u] 3 (0,0))) (h7:w.heap[b7]?=some (.cells #[.bool b] 4 (0,0))) (n3:b3≠b7) (n4:b4≠b7) (hL:b7∉L) (ha:at_≤1048576) (hu:u≤67108864) (hk:k≤1048576) (huk:u≤k*64+63) :
 Calls Tryz.prog 74 #[.int .i64 k,ptr b3,ptr b4,ptr b5,ptr b7] w fun e w'=>e=.returned (.int .i64 (wiStep d at_ u k).2.1)∧∃ L',Dv w' g L' (wiStep d at_ u k).1∧Keep (b7 :: L) w w'∧Fresh w L L'∧w'.heap[b7]?=some (.cells #[.bool (b||(wiStep d at_ u k).2.2)] 4 (0,0))∧b7∉L':=by
 have c3:w.cell? ⟨b3,0,none⟩=some (ptr g):=zcr w b3 0 _ 42 (0,0) h3
 have c4:w.cell? ⟨b4,0,none⟩=some (.int .i64 at_):=zcr w b4 0 _ 40 (0,0) h4
 have KR:=zh (read_any g L d ((at_+k:Nat):Int) w h)
 have i1:((at_+k:Nat):Int)=(at_:Int)+(k:Int):=by omega
 have hb7:b7<w.heap.size:=(zgx h7)
 have H3:=zh h3
 have H4:=zh h4
 have H5:=zh h5
 have H7:=zh h7
 have HD:=zh h
 obtain ⟨WS,hWS⟩:∃ x,x=wiStep d at_ u k:=⟨_,rfl⟩
 rw [←hWS]
 unfold wiStep at hWS
 have fin:Hid (∀ W',Below w.heap.size w W'→∃ L',Dv W' g L' d∧Keep (b7 :: L) w W'∧Fresh w L L'∧W'.heap[b7]?=some (.cells #[.bool (b||false)] 4 (0,0))∧b7∉L'):=fun W' hb=>⟨L,h.below hb,Keep.of_below hb,Fresh.refl _ _,by rw [Bool.or_false];exact (hb.block _ hb7).trans h7,hL⟩
 by_cases hr:d.refuses ((at_+k:Nat):Int)=0
 rotate_left
 ·have e1:d.readS ((at_+k:Nat):Int)=[]:=by unfold St.readS;rw [if_neg hr]
  rw [if_pos hr] at hWS
  obtain ⟨Z,hZ⟩:∃ Z,Z=d.refuses ((at_+k:Nat):Int):=⟨_,rfl⟩
  rw [e1,←hZ,i1] at KR
  rw [←hZ] at hWS hr
  subst hWS
  have t1:(Z==0)=false:=beqF hr
  have t2:(Z != 0)=true:=by unfold bne;rw [t1];rfl
  clear hr hZ e1 i1 h h3 h4 h5 h7
  unfold ptr at *
  go_enter Tryz.func74,Tryz.ntmps74
  go_wp2_with (go_at_call 32;(with_reducible refine KR.out.mono ?_);rintro q w1 ⟨rfl,b1⟩)
  go_ret
  exact ⟨rfl,fin.out _ b1⟩
 have e1:d.readS ((at_+k:Nat):Int)=d.now (at_+k):=by unfold St.readS;rw [if_pos hr,Int.toNat_natCast]
 rw [if_neg (fun h=>h hr)] at hWS
 rw [e1,hr,i1] at KR
 have hn64:(d.now (at_+k)).length=64:=h.1.now _
 obtain ⟨st,hst⟩:∃ st,st=u-k*64:=⟨_,rfl⟩
 have hstI:max (0:Int) ((u:Int)-(k:Int)*64)=(st:Int):=by omega
 have hst63:st≤63:=by omega
 rw [←hst] at hWS
 have KW:=zh (fun (W:World) (hW:Dv W g L d)=>write_any g L d ((at_+k:Nat):Int) ((d.now (at_+k)).take st) W hW)
 rw [i1] at KW hWS
 have hx1:=txt_drop (d.now (at_+k)) st (by omega)
 have hx2:=txt_take (d.now (at_+k)) st
 rw [hn64] at hx1
 have hs:(txt (d.now (at_+k))).size=64:=by rw [txt_size];exact hn64
 obtain ⟨S,hS⟩:∃ S,S=txt (d.now (at_+k)):=⟨_,rfl⟩
 rw [←hS] at KR hx1 hx2 hs
 have KZ:=zh (fun (W:World)=>wzeros_any (64-st) W (by omega))
 rw [show ((64-st:Nat):Int)=64-(st:Int) by omega] at KZ
 have hzz:zz (64-st)=txt (List.replicate (64-st) 0):=rfl
 have hbeq:∀ a c:List UInt8,((txt a).toList==(txt c).toList)=decide (a=c):=fun a c=>by
  rw [Lib.toList_data,Lib.toList_data,txt_list,txt_list]
  by_cases h:a=c
  ·rw [h];simp
  ·rw [decide_eq_false h];exact beq_eq_false_iff_ne.2 h
 have hcmp:=hbeq ((d.now (at_+k)).drop st) (List.replicate (64-st) 0)
 rw [←hzz] at hcmp
 rw [←hx2] at KW
 obtain ⟨TD,hTD⟩:∃ x,x=txt ((d.now (at_+k)).drop st):=⟨_,rfl⟩
 obtain ⟨TZ,hTZ⟩:∃ x,x=zz (64-st):=⟨_,rfl⟩
 rw [←hTD] at hx1 hcmp
 rw [←hTZ] at hcmp KZ
 have q1:(st:Int)≤64:=by omega
 have q2:(0:Int)≤(st:Int):=by omega
 have q3:(st:Int)≤(S.size:Int):=by omega
 have hx1s:S.extract st S.size=TD:=by rw [hs];exact hx1
 have w1_:IntKind.i64.wrap ((S.size:Int)-(st:Int))=64-(st:Int):=by rw [hs];exact IntWalk.i64_in _ (by omega)
 have w2_:IntKind.i64.wrap ((64:Int)-(st:Int))=64-(st:Int):=IntWalk.i64_in _ (by omega)
 have w3_:IntKind.i64.wrap ((at_:Int)+(k:Int))=(at_:Int)+(k:Int):=IntWalk.i64_in _ (by omega)
 obtain ⟨X,hX⟩:∃ X,X=d.write ((at_:Int)+(k:Int)) ((d.now (at_+k)).take st):=⟨_,rfl⟩
 rw [←hX] at KW hWS
 obtain ⟨TT,hTT⟩:∃ x,x=S.extract 0 st:=⟨_,rfl⟩
 rw [←hTT] at KW
 have hx0:S.extract 0 st=TT:=hTT.symm
 have HWS:=zh hWS
 have HCMP:=zh hcmp
 have c5:w.cell? ⟨b5,0,none⟩=some (.int .i64 u):=zcr w b5 0 _ 3 (0,0) h5
 clear hTD hTZ hX hTT hS hzz hbeq hcmp hWS hr e1 hst h h3 h4 h5 h7 hn64 i1 hx2
 unfold ptr at *
 go_enter Tryz.func74,Tryz.ntmps74
 go_upto_region 4 with (go_at_call 32;(with_reducible refine KR.out.mono ?_);rintro q w1 ⟨rfl,b1⟩)
 have HB1:=zh b1
 have H31:Hid (w1.heap[b3]?=some (.cells #[.pointer (some ⟨g,0,none⟩)] 42 (0,0))):=(b1.block _ (zgx H3.out)).trans H3.out
 have H41:Hid (w1.heap[b4]?=some (.cells (rgc at_ m v) 40 (0,0))):=(b1.block _ (zgx H4.out)).trans H4.out
 have H71:Hid (w1.heap[b7]?=some (.cells #[.bool b] 4 (0,0))):=(b1.block _ (zgx H7.out)).trans H7.out
 have HD1:=zh (HD.out.below b1)
 have d5:w1.cell? ⟨b5,0,none⟩=some (.int .i64 u):=zcr w1 b5 0 _ 3 (0,0) ((b1.block _ (zgx H5.out)).trans H5.out)
 clear b1 c3 c4 c5
 go_upto_region 5 with fail
 by_cases hz:(d.now (at_+k)).drop st=List.replicate (64-st) 0
 ·have hR:WS=(d,0,false):=by rw [HWS.out,if_pos hz]
  subst hR
  have ht:(TD.toList==TZ.toList)=true:=by rw [HCMP.out,decide_eq_true hz]
  clear hz HWS HCMP d5
  go_region_law (go_simp;go_at_call 38;(with_reducible refine (KZ.out _).mono ?_);rintro q w2 ⟨rfl,b2⟩)
  all_goals
   have HB2:Hid (Below w.heap.size w w2):=HB1.out.drew.trans (b2.mono HB1.out.size)
   clear b2
   go_wp2
   go_ret
   refine ⟨rfl,?_⟩
   have hf:=fin.out _ HB2.out
   rw [Bool.or_false] at hf
   exact hf
 ·have hR:WS=(X.1,X.2,true):=by rw [HWS.out,if_neg hz]
  subst hR
  have ht:(TD.toList==TZ.toList)=false:=by rw [HCMP.out,decide_eq_false hz]
  clear hz HWS HCMP d5
  go_region_law (go_simp;go_at_call 38;(with_reducible refine (KZ.out _).mono ?_);rintro q w2 ⟨rfl,b2⟩)
  all_goals
   have HB2:Hid (Below w.heap.size w w2):=HB1.out.drew.trans (b2.mono HB1.out.size)
   have hB12:Below w1.heap.size w1 w2:=((Below.refl _ w1).drew).trans b2
   have H32:w2.heap[b3]?=some (.cells #[.pointer (some ⟨g,0,none⟩)] 42 (0,0)):=(hB12.block _ (zgx H31.out)).trans H31.out
   have H42:w2.heap[b4]?=some (.cells (rgc at_ m v) 40 (0,0)):=(hB12.block _ (zgx H41.out)).trans H41.out
   have H72:w2.heap[b7]?=some (.cells #[.bool b] 4 (0,0)):=(hB12.block _ (zgx H71.out)).trans H71.out
   have hfz:w2.frozen? ⟨b7,0,none⟩=false:=Lib.frozen_of_heap H72 0
   have hc7:w2.cell? ⟨b7,0,none⟩=some (.bool b):=zcr w2 b7 0 _ 4 (0,0) H72
   have HD2:=zh (HD1.out.below hB12)
   obtain ⟨W8,hW8⟩:∃ W8,W8=w2.setCell ⟨b7,0,none⟩ (.bool true):=⟨_,rfl⟩
   have H38:Hid (W8.heap[b3]?=some (.cells #[.pointer (some ⟨g,0,none⟩)] 42 (0,0))):=by show _=_;rw [hW8,Below.heap_setCell _ _ _ _ n3];exact H32
   have H48:Hid (W8.heap[b4]?=some (.cells (rgc at_ m v) 40 (0,0))):=by show _=_;rw [hW8,Below.heap_setCell _ _ _ _ n4];exact H42
   have H78:Hid (W8.heap[b7]?=some (.cells #[.bool true] 4 (0,0))):=by show _=_;rw [hW8];exact set_blk H72 0 _
   have HD8:Hid (Dv W8.drew g L d):=HD2.out.of_heap (fun j hj=>by rw [hW8];exact Below.heap_setCell _ _ _ _ (fun e=>hL (by rw [←show j=b7 from e];exact hj)))
   have HK8:Hid (Keep (b7 :: L) w W8.drew):=by
    have hk:Keep (b7 :: L) w2 W8:=by rw [hW8];exact Keep.setCell (p:=⟨b7,0,none⟩) (by simp) _
    have:=(Keep.of_below (L:=b7 :: L) HB2.out).trans hk
    exact ⟨this.os,this.tape,this.output,this.size,this.block⟩
   have HS8:Hid (w.heap.size≤W8.drew.heap.size):=HK8.out.size
   have HN7:Hid (b7<W8.heap.size):=(zgx H78.out)
   clear hB12 H32 H42 H72 b2
   go_upto_region 8 with fail
   refine wp_at (w:=W8) hW8.symm ?_
   have f3:W8.drew.cell? ⟨b3,0,none⟩=some (.pointer (some ⟨g,0,none⟩)):=zcr W8.drew b3 0 _ 42 (0,0) H38.out
   have f4:W8.drew.cell? ⟨b4,0,none⟩=some (.int .i64 at_):=zcr W8.drew b4 0 _ 40 (0,0) H48.out
   clear hfz hc7 hW8
   go_region_law (go_simp;go_at_call 29;(with_reducible refine (KW.out _ HD8.out).mono ?_);rintro q w9 ⟨rfl,hM⟩)
   all_goals
    go_wp2
    go_ret
    obtain ⟨L',m1,m2,m3⟩:=hM
    refine ⟨rfl,L',m1,HK8.out.trans (m2.mono (fun x hx=>by simp [hx])),(Fresh.refl w L).trans m3 HS8.out,?_,?_⟩
    ·exact (m2.block _ HN7.out hL).trans H78.out
    ·intro hm7
     rcases m3 _ hm7 with h|h
     ·exact hL h
     ·have:=HN7.out
      have h':W8.heap.size≤b7:=h
      omega
end Go.Proofs.YtnobeoppffoomaaGreat
namespace Go.Proofs.YtnobeoppffoomaaGreat
open Go.RowKit
open Dk
theorem each4_any (a b c f:Value) (fro til:Nat) (P:Nat→World→Prop) (R:Int→World→Prop) (w:World) (hft:fro≤til) (hto:til≤1099511627776) (h0:P fro w)
 (hs:∀ k w1,fro≤k→k<til→P k w1→Calls Tryz.prog 74 #[.int .i64 k,a,b,c,f] w1 fun e w'=>∃ z:Int,e=.returned (.int .i64 z)∧(z=0→P (k+1) w')∧(z≠0→R z w')) :
 Calls Tryz.prog 73 #[.int .i64 fro,.int .i64 til,.func (.func 74) #[] #[a,b,c,f]] w fun e w'=>∃ z:Int,e=.returned (.int .i64 z)∧(z=0→P til w')∧(z≠0→R z w'):=by
 have HS:=zh hs
 have H0:=zh h0
 clear hs h0
 go_enter Tryz.func73,Tryz.ntmps73
 go_wp2
 go_loopw [7] (fun i wr=>∃ k:Nat,i=.int .i64 k∧fro≤k∧k≤til∧Hid (P k wr)) (fun i _=>til-(Go.RowKit.intOf i).toNat)
 case atStart=>exact ⟨fro,rfl,Nat.le_refl _,hft,H0⟩
 case round =>
  obtain ⟨k,rfl,hk1,hk2,hP⟩:=hrel
  by_cases hlt:k<til
  ·have t1:decide ((k:Int)<(til:Int))=true:=decide_eq_true (by omega)
   have K:=zh (HS.out k wr hk1 hlt hP.out)
   go_upto_region 5 with fail
   refine K.out.mono ?_
   rintro q w1 ⟨z,rfl,hz0,hz1⟩
   clear K hP
   by_cases hz:z=0
   ·have Z0:Hid (P (k+1) w1):=hz0 hz
    clear hz0 hz1
    subst hz
    go_wp2
    go_roundw
    case rel=>exact ⟨k+1,by go_num,by omega,by omega,Z0⟩
    case measure=>simp [Go.RowKit.intOf];omega
   ·have Z1:=zh (hz1 hz)
    clear hz0 hz1
    have e1:(z==0)=false:=beqF hz
    have e2:(z != 0)=true:=by unfold bne;rw [e1];rfl
    go_wp2
    go_ret
    exact ⟨z,rfl,fun h=>absurd h hz,fun _=>Z1.out⟩
  ·have hkt:k=til:=by omega
   subst hkt
   have t1:decide ((k:Int)<(k:Int))=false:=decide_eq_false (by omega)
   go_wp2
   go_ret
   exact ⟨0,rfl,fun _=>hP.out,fun h=>absurd rfl h⟩
def wiL (at_ u:Nat):Nat→Nat→St→Bool→St×Int×Bool
 | 0,_,d,b=>(d,0,b)
 | r+1,k,d,b=>if (wiStep d at_ u k).2.1=0 then wiL at_ u r (k+1) (wiStep d at_ u k).1 (b||(wiStep d at_ u k).2.2) else ((wiStep d at_ u k).1,(wiStep d at_ u k).2.1,b||(wiStep d at_ u k).2.2)
def wipG (d:St) (at_ m u:Nat):St×Int :=
 if (wiL at_ u (m-u / 64) (u / 64) d false).2.1≠0∨(wiL at_ u (m-u / 64) (u / 64) d false).2.2=false then ((wiL at_ u (m-u / 64) (u / 64) d false).1,(wiL at_ u (m-u / 64) (u / 64) d false).2.1) else (wiL at_ u (m-u / 64) (u / 64) d false).1.flush
def wipS (d:St) (at_ m:Nat) (v u:Int):St×Int:=if onB d.n at_ m v=true∧hasB m u=true then wipG d at_ m u.toNat else (d,1)
end Go.Proofs.YtnobeoppffoomaaGreat
namespace Go.Proofs.YtnobeoppffoomaaGreat
open Go.RowKit
open Dk
def filS (d:St) (at_ m:Nat) (v:Int) (es:List En):St×Int :=
 if onB d.n at_ m v=true then (if rgE v m 0 es≠0 then (d,rgE v m 0 es) else wrS d at_ ((rgS v m 0 es).data.toList++List.replicate (m*64-(rgS v m 0 es).size) 0)) else (d,1)
theorem zz_list (n:Nat):(zz n).data.toList=List.replicate n 0:=by
 unfold zz
 rw [txt_list]
 rfl
theorem rfill_any (g:Nat) (L:List Nat) (d:St) (at_ m:Nat) (v:Int) (A:Option Addr) (n c:Nat) (es:List En) (w:World) (h:Dv w g L d) (ha:at_≤1048576) (hm:m≤1048576)
 (hE:Ents w.heap.size A n es w) (hn:n≤64) (ok:∀ e∈es,e.Ok) :
 Calls Tryz.prog 26 #[ptr g,RG at_ m v,.slice A n c] w fun e w'=>e=.returned (.int .i64 (filS d at_ m v es).2)∧Moves g L (filS d at_ m v es).1 w w':=by
 obtain ⟨W,hW⟩:∃ W,W=w.alloc (.cells (rgc at_ m v) 40):=⟨_,rfl⟩
 have hB:Below w.heap.size w W:=by rw [hW];exact (Below.refl _ w).alloc (Nat.le_refl _) _
 have hc:W.heap[w.heap.size]?=some (.cells (rgc at_ m v) 40 (0,0)):=by rw [hW];exact heap_alloc_new w _
 have hsz:(rgS v m 0 es).size≤134217728:=by
  have h1:(rcS v (pS v) (pO v) es).size≤es.length*1048663:=by
   unfold rcS
   split
   ·exact rcA_le v (pS v) 1048600 es fun e _=>pS_le v e
   ·exact Nat.zero_le _
  rw [hE.len] at h1
  unfold rgS
  split
  ·omega
  ·exact Nat.zero_le _
 have hfit:rgE v m 0 es=0→(rgS v m 0 es).size≤m*64:=fun h0=>by
  unfold rgE at h0
  unfold rgS
  split
  ·rename_i h1
   rw [Bool.and_eq_true] at h1
   have:=of_decide_eq_true h1.2
   omega
  ·exact Nat.zero_le _
 have K1:=zh (ron_any g L d at_ m v W (h.below hB) ha hm)
 have K2:=zh (fun W=>rsize_any at_ v m W hm)
 have K3:Hid (∀ n:Nat,n≤140737488355328→∀ W,Calls Tryz.prog 38 #[.int .i64 n] W fun q w'=>q=.returned (.string (zz n))∧Below W.heap.size W w'):=fun n hn W=>wzeros_any n W hn
 have K4:Hid (∀ W,Ents W.heap.size A n es W→Calls Tryz.prog 65 #[RG at_ m v,.int .i64 0,.slice A n c] W fun e w'=>e=.returned (.tuple #[.string (rgS v m 0 es),.int .i64 (rgE v m 0 es)])∧Below W.heap.size W w'):=fun W hW=>rgrec_any at_ v m 0 A n c es W hm (by omega) hW hn ok
 have K6:Hid (∀ W,Dv W g L d→rgE v m 0 es=0→Calls Tryz.prog 66 #[RG at_ m v,ptr g,.int .i64 0,.string (rgS v m 0 es++zz (m*64-(rgS v m 0 es).size))] W fun e w'=>e=.returned (.int .i64 (wrS d at_ ((rgS v m 0 es).data.toList++List.replicate (m*64-(rgS v m 0 es).size) 0)).2)∧Moves g L (wrS d at_ ((rgS v m 0 es).data.toList++List.replicate (m*64-(rgS v m 0 es).size) 0)).1 W w'):=fun W hW h0=>by
  have hl:((rgS v m 0 es).data.toList++List.replicate (m*64-(rgS v m 0 es).size) (0:UInt8)).length≤1099511627776:=by
   rw [List.length_append,Array.length_toList,List.length_replicate]
   have h2:(rgS v m 0 es).data.size≤134217728:=hsz
   have h3:m*64-(rgS v m 0 es).size≤67108864:=by omega
   exact Nat.le_trans (Nat.add_le_add h2 h3) (by decide)
  have:=rgw_any g L d at_ 0 m v ((rgS v m 0 es).data.toList++List.replicate (m*64-(rgS v m 0 es).size) 0) W hW ha (by omega) hl
  have e1:txt ((rgS v m 0 es).data.toList++List.replicate (m*64-(rgS v m 0 es).size) 0)=rgS v m 0 es++zz (m*64-(rgS v m 0 es).size):=by
   apply ByteArray.ext
   apply Array.toList_inj.1
   rw [txt_list,ByteArray.data_append,Array.toList_append,zz_list]
  rw [e1] at this
  exact this
 obtain ⟨FS,hFS⟩:∃ x,x=filS d at_ m v es:=⟨_,rfl⟩
 rw [←hFS]
 unfold filS at hFS
 obtain ⟨X,hX⟩:∃ X,X=wrS d at_ ((rgS v m 0 es).data.toList++List.replicate (m*64-(rgS v m 0 es).size) 0):=⟨_,rfl⟩
 rw [←hX] at K6 hFS
 obtain ⟨E,hEq⟩:∃ E,E=rgE v m 0 es:=⟨_,rfl⟩
 rw [←hEq] at K4 K6 hFS hfit
 obtain ⟨S,hS⟩:∃ S,S=rgS v m 0 es:=⟨_,rfl⟩
 rw [←hS] at K4 K6 hsz hfit
 obtain ⟨b1,hb1⟩:∃ b,b=onB d.n at_ m v:=⟨_,rfl⟩
 rw [←hb1] at K1 hFS
 have HD:=zh (h.below hB)
 have HE:=zh ((hE.below hB).mr hB.size)
 have HB:=zh hB
 have HC:=zh hc
 have HW:=zh hW
 have HFS:=zh hFS
 have fin:Hid (∀ W',Below w.heap.size w W'→Moves g L d w W'):=fun W' hb=>⟨L,h.below hb,Keep.of_below hb,Fresh.refl _ _⟩
 obtain ⟨c0,c1,c2⟩:=rgc_cells hc
 clear hB hc hW h hE hX hEq hS hb1 ok hFS
 unfold ptr at *
 cases b1 with
 | false =>
   obtain rfl:FS=(d,1):=HFS.out
   clear HFS hfit
   go_enter Tryz.func26,Tryz.ntmps26
   go_upto_region 1 with fail
   refine wp_at (w:=W) HW.out.symm ?_
   go_wp2_with (go_at_call 64;(with_reducible refine K1.out.mono ?_);rintro q w1 ⟨rfl,b1⟩)
   go_ret
   exact ⟨rfl,fin.out _ (HB.out.trans (b1.mono HB.out.size))⟩
 | true =>
   have HF2:Hid (FS=if E≠0 then (d,E) else X):=HFS.out
   clear HFS
   go_enter Tryz.func26,Tryz.ntmps26
   go_upto_region 1 with fail
   refine wp_at (w:=W) HW.out.symm ?_
   go_upto_region 3 with (go_at_call 64;(with_reducible refine K1.out.mono ?_);rintro q w1 ⟨rfl,b1⟩)
   have HC1:Hid (w1.heap[w.heap.size]?=some (.cells (rgc at_ m v) 40 (0,0))):=(b1.block _ (zgx HC.out)).trans HC.out
   obtain ⟨e0,e1,e2⟩:=rgc_cells HC1.out
   have HB1:Hid (Below w.heap.size w w1):=HB.out.trans (b1.mono HB.out.size)
   have HD1:=zh (HD.out.below b1)
   have HE1:=zh ((HE.out.below b1).mr b1.size)
   clear b1 c0 c1 c2
   go_upto_region 4 with (go_at_call 65;(with_reducible refine (K4.out _ HE1.out).mono ?_);rintro q w4 ⟨rfl,b4⟩)
   have HC4:Hid (w4.heap[w.heap.size]?=some (.cells (rgc at_ m v) 40 (0,0))):=(b4.block _ (zgx HC1.out)).trans HC1.out
   have HB4:Hid (Below w.heap.size w w4):=HB1.out.trans (b4.mono HB1.out.size)
   have HD4:=zh (HD1.out.below b4)
   clear b4 e0 e1 e2
   by_cases hE0:E=0
   rotate_left
   ·have t1:(E==0)=false:=beqF hE0
    have t2:(E != 0)=true:=by unfold bne;rw [t1];rfl
    have hR:FS=(d,E):=by rw [HF2.out,if_pos hE0]
    subst hR
    clear hE0 HF2
    go_wp2
    go_ret
    exact ⟨rfl,fin.out _ HB4.out⟩
   have hR:FS=X:=by rw [HF2.out,if_neg (fun h=>h hE0)]
   have hfs:=hfit hE0
   have K66:=zh (fun W (hW:Dv W g L d)=>K6.out W hW hE0)
   subst hE0 hR
   have K33:=zh (K3.out (m*64-S.size) (by omega))
   rw [show ((m*64-S.size:Nat):Int)=((m*64:Nat):Int)-(S.size:Int) by omega] at K33
   have hzs:(zz (m*64-S.size)).size≤67108864:=by
    have h1:(zz (m*64-S.size)).data.toList.length=m*64-S.size:=by rw [zz_list,List.length_replicate]
    rw [Array.length_toList] at h1
    have h2:(zz (m*64-S.size)).size=(zz (m*64-S.size)).data.size:=rfl
    omega
   obtain ⟨Y,hY⟩:∃ Y,Y=zz (m*64-S.size):=⟨_,rfl⟩
   rw [←hY] at K33 K66 hzs
   obtain ⟨Z,hZ⟩:∃ Z:Int,Z=((m*64:Nat):Int):=⟨_,rfl⟩
   rw [←hZ] at K2 K33
   have hZ2:0≤Z∧Z≤67108864:=by omega
   have hadd:¬ 9223372036854775807<S.size+Y.size:=by omega
   have w1_:IntKind.i64.wrap (Z-(S.size:Int))=Z-(S.size:Int):=IntWalk.i64_in _ (by omega)
   clear hY hZ HF2 hfit K6 K3
   go_upto_region 6 with fail
   have HCd:Hid (w4.drew.heap[w.heap.size]?=some (.cells (rgc at_ m v) 40 (0,0))):=HC4.out
   obtain ⟨e0,e1,e2⟩:=rgc_cells HCd.out
   have HBd:Hid (Below w.heap.size w w4.drew):=HB4.out.drew
   have HDd:Hid (Dv w4.drew g L d):=HD4.out.below (Below.refl _ w4).drew
   go_region_law (first
    | (go_simp;go_at_call 67;(with_reducible refine (K2.out _).mono ?_);rintro q w5 ⟨rfl,b5⟩;have HC5:Hid (w5.heap[w.heap.size]?=some (.cells (rgc at_ m v) 40 (0,0))):=(b5.block _ (zgx HCd.out)).trans HCd.out;obtain ⟨f0,f1,f2⟩:=rgc_cells HC5.out;have HB5:Hid (Below w.heap.size w w5):=HBd.out.trans (b5.mono HBd.out.size);have HD5:=zh (HDd.out.below b5);clear b5)
    | (go_simp;go_at_call 38;(with_reducible refine (K33.out _).mono ?_);rintro q w6 ⟨rfl,b6⟩;have HC6:Hid (w6.heap[w.heap.size]?=some (.cells (rgc at_ m v) 40 (0,0))):=(b6.block _ (zgx HC5.out)).trans HC5.out;obtain ⟨q0,q1,q2⟩:=rgc_cells HC6.out;have HB6:Hid (Below w.heap.size w w6):=HB5.out.trans (b6.mono HB5.out.size);have HD6:=zh (HD5.out.below b6);clear b6)
    | (go_simp;go_at_call 66;(with_reducible refine (K66.out _ HD6.out).mono ?_);rintro q w7 ⟨rfl,hM⟩))
   all_goals
    go_wp2
    go_ret
    obtain ⟨L',m1,m2,m3⟩:=hM
    exact ⟨rfl,L',m1,(Keep.of_below HB6.out).trans m2,(Fresh.refl w L).trans m3 HB6.out.size⟩
end Go.Proofs.YtnobeoppffoomaaGreat
namespace Go.Proofs.YtnobeoppffoomaaGreat
open Go.RowKit
open Dk
theorem rgc_cellsR {w:World} {b:Nat} {a m v:Int} (h:w.heap[b]?=some (.cells (rgc a m v) 40 (0,0))):w.cell? ⟨b,0,none⟩=some (.int .i64 a)∧w.cell? ⟨b,1,none⟩=some (.int .i64 m)∧w.cell? ⟨b,2,none⟩=some (.int .i64 v) :=
 ⟨zcr _ _ 0 _ 40 (0,0) h,zcr _ _ 1 _ 40 (0,0) h,zcr _ _ 2 _ 40 (0,0) h⟩
theorem rcl_any (g:Nat) (L:List Nat) (d:St) (b2 b3 B b at_ k:Nat) (m v:Int) (x:ByteArray) (w:World) (h:Dv w g L d) (h2:w.heap[b2]?=some (.cells #[ptr g] 42 (0,0))) (h3:w.heap[b3]?=some (.cells (rgc at_ m v) 40 (0,0)))
 (hs:Sb B b x w) (hB:B≤w.heap.size) (hx:x.size≤1099511627776) (hk:k≤1048576) (ha:at_≤1048576) :
 Calls Tryz.prog 75 #[.int .i64 k,ptr b2,ptr b3,ptr b] w fun e w'=>e=.returned (.int .i64 (d.refuses ((at_+k:Nat):Int)))∧Sb B b (x++txt (d.readS ((at_+k:Nat):Int))) w'∧Below B w w':=by
 have c2:w.cell? ⟨b2,0,none⟩=some (ptr g):=zcr w b2 0 _ 42 (0,0) h2
 have c3:w.cell? ⟨b3,0,none⟩=some (.int .i64 at_):=zcr w b3 0 _ 40 (0,0) h3
 have KR:=zh (read_any g L d ((at_+k:Nat):Int) w h)
 have i1:((at_+k:Nat):Int)=(at_:Int)+(k:Int):=by omega
 have hrs:(txt (d.readS ((at_+k:Nat):Int))).size≤64:=by
  rw [txt_size]
  unfold St.readS
  split
  ·rw [h.1.now];omega
  ·exact Nat.zero_le _
 rw [i1] at KR hrs ⊢
 obtain ⟨Z,hZ⟩:∃ Z,Z=d.refuses ((at_:Int)+(k:Int)):=⟨_,rfl⟩
 obtain ⟨T,hT⟩:∃ T,T=txt (d.readS ((at_:Int)+(k:Int))):=⟨_,rfl⟩
 rw [←hZ,←hT] at KR ⊢
 rw [←hT] at hrs
 have KW:=zh (fun (W:World) (hW:Sb B b x W) (hb:B≤W.heap.size)=>wstr_any B b x T W hW (by omega) hb)
 have HS:=zh hs
 clear hZ hT i1 hs h h2 h3
 unfold ptr at *
 go_enter Tryz.func75,Tryz.ntmps75
 go_upto_region 2 with (go_at_call 32;(with_reducible refine KR.out.mono ?_);rintro q w1 ⟨rfl,b1⟩)
 have HS1:=zh (HS.out.below b1)
 have HB1:Hid (Below B w w1):=(Below.refl B w).trans (b1.mono hB)
 clear b1
 go_wp2_with (go_at_call 37;(with_reducible refine (KW.out _ HS1.out (Nat.le_trans hB HB1.out.size)).mono ?_);rintro q w2 ⟨rfl,hs2,b2⟩)
 go_ret
 exact ⟨rfl,hs2,HB1.out.trans b2⟩
theorem ownsRow_low'R {w:World} {B B':Nat} {e:TypeId} {size:Nat} {v:Value} {n:Nat} {xs:List Value} (hB:B'≤B) (h:w.ownsRow B e size v n xs):w.ownsRow B' e size v n xs:=by
 obtain ⟨hl,h⟩:=h
 refine ⟨hl,?_⟩
 rcases h with h|⟨g,cap,cur,hv,hb,r⟩
 ·exact .inl h
 ·exact .inr ⟨g,cap,cur,hv,Nat.le_trans hB hb,r⟩
def rdB (d:St) (at_ m:Nat):ByteArray:=txt (catS (fun i=>d.now (at_+i)) m)
theorem catS_len (F:Nat→Sec) (h:∀ i,(F i).length=64):∀ k,(catS F k).length=k*64
 | 0=>rfl
 | k+1=>by rw [catS,List.length_append,catS_len F h k,h];omega
def rdZ (d:St) (at_ m:Nat) (v:Int):Int:=if onB d.n at_ m v then (if d.dead then 7 else 0) else 1
def rdE (d:St) (at_ m:Nat) (v:Int):List En:=if onB d.n at_ m v&&!d.dead then parE qX D.aO v (rdB d at_ m) else []
def rdU (d:St) (at_ m:Nat) (v:Int):Nat:=if onB d.n at_ m v&&!d.dead then parU qX D.aO v (rdB d at_ m) else 0
theorem rrd_any (g:Nat) (L:List Nat) (d:St) (at_ m:Nat) (v:Int) (w:World) (h:Dv w g L d) (ha:at_≤1048576) (hm:m≤1048576) :
 Calls Tryz.prog 31 #[ptr g,RG at_ m v] w fun e w'=>∃ A n c,e=.returned (.tuple #[.slice A n c,.int .i64 (rdU d at_ m v),.int .i64 (rdZ d at_ m v)])∧Le w.heap.size A n c (rdE d at_ m v) w'∧Below w.heap.size w w':=by
 obtain ⟨W,hW⟩:∃ W,W=(w.alloc (.cells #[ptr g] 42)).alloc (.cells (rgc at_ m v) 40):=⟨_,rfl⟩
 have hB:Below w.heap.size w W:=by rw [hW];exact ((Below.refl _ w).alloc (Nat.le_refl _) _).alloc (by simp) _
 have h2:W.heap[w.heap.size]?=some (.cells #[ptr g] 42 (0,0)):=by rw [hW,Lib.alloc_old _ _ _ (by simp)];exact heap_alloc_new w _
 have h3:W.heap[w.heap.size+1]?=some (.cells (rgc at_ m v) 40 (0,0)):=by
  rw [hW]
  have:=heap_alloc_new (w.alloc (.cells #[ptr g] 42)) (.cells (rgc at_ m v) 40)
  rwa [World.size_alloc] at this
 have K1:=zh (ron_any g L d at_ m v W (h.below hB) ha hm)
 have HB:=zh hB
 have HW:=zh hW
 have H2:=zh h2
 have H3:=zh h3
 have HD:=zh h
 have c2:W.cell? ⟨w.heap.size,0,none⟩=some (ptr g):=zcr W _ 0 _ 42 (0,0) h2
 obtain ⟨c3,c4,c5⟩:=rgc_cellsR h3
 clear hB hW h2 h3 h
 cases hon:onB d.n at_ m v with
 | false =>
   have r1:rdU d at_ m v=0:=by unfold rdU;rw [hon];rfl
   have r2:rdZ d at_ m v=1:=by unfold rdZ;rw [hon];rfl
   have r3:rdE d at_ m v=[]:=by unfold rdE;rw [hon];rfl
   rw [r1,r2,r3,show ((0:Nat):Int)=0 from rfl]
   rw [hon] at K1
   clear r1 r2 r3 hon
   unfold ptr at *
   go_enter Tryz.func31,Tryz.ntmps31
   go_upto_region 1 with fail
   refine wp_at (w:=W) HW.out.symm ?_
   go_wp2_with (go_at_call 64;(with_reducible refine K1.out.mono ?_);rintro q w1 ⟨rfl,b1⟩)
   go_ret3
   exact ⟨none,0,0,rfl,Le.nil _ _,HB.out.trans (b1.mono HB.out.size)⟩
 | true =>
   rw [hon] at K1
   obtain ⟨hm1,hmn⟩:1≤m∧at_+m≤d.n:=by
    unfold onB at hon
    rw [Bool.and_eq_true,Bool.and_eq_true] at hon
    have h1:=of_decide_eq_true hon.1.1
    have h2:=of_decide_eq_true hon.2
    exact ⟨h1,by omega⟩
   have hre:∀ k,k<m→d.refuses ((at_+k:Nat):Int)=if d.dead then 7 else 0:=fun k hk=>by
    unfold St.refuses
    split
    ·rfl
    ·rw [if_neg (by omega)]
   have KEY:Hid (∀ W1 b,b=W1.heap.size→Below w.heap.size w W1→W1.heap[w.heap.size]?=some (.cells #[ptr g] 42 (0,0))→W1.heap[w.heap.size+1]?=some (.cells (rgc at_ m v) 40 (0,0)) →
    Calls Tryz.prog 73 #[.int .i64 0,.int .i64 m,.func (.func 75) #[] #[ptr w.heap.size,ptr (w.heap.size+1),ptr b]] (W1.alloc (.cells #[.pointer none,.slice none 0 0] 81)) fun e w'=>e=.returned (.int .i64 (if d.dead then 7 else 0))∧(d.dead=false→Sb b b (rdB d at_ m) w')∧Below b W1 w'):=fun W1 b hb hB1 hc2 hc3=>by
    have hD1:=HD.out.below hB1
    have hbl:Below b W1 (W1.alloc (.cells #[.pointer none,.slice none 0 0] 81)):=(Below.refl b W1).alloc (by omega) _
    have hsz:(W1.alloc (.cells #[.pointer none,.slice none 0 0] 81)).heap.size=b+1:=by rw [World.size_alloc,hb]
    have hs0:Sb b b ⟨#[]⟩ (W1.alloc (.cells #[.pointer none,.slice none 0 0] 81)):=by rw [hb];exact Lib.fresh_isBuilder 81 5 W1
    refine (each3_any 75 (.inr rfl) (ptr w.heap.size) (ptr (w.heap.size+1)) (ptr b) 0 m
     (fun k w1=>(d.dead=true→k=0)∧Sb b b (txt (catS (fun i=>d.now (at_+i)) k)) w1∧Below b W1 w1) (fun z w1=>z=7∧d.dead=true∧Below b W1 w1) _ (Nat.zero_le _) (by omega) ⟨fun _=>rfl,hs0,hbl⟩ ?_).mono ?_
    ·rintro k w1 _ hk ⟨hdk,hsb,hbw⟩
     have hw1:b≤w1.heap.size:=by have:=hbw.size;omega
     have hD2:Dv w1 g L d:=hD1.below (hb▸hbw)
     have hx:(txt (catS (fun i=>d.now (at_+i)) k)).size≤1099511627776:=by
      rw [txt_size,catS_len _ (fun i=>HD.out.1.now _)]
      omega
     refine (rcl_any g L d w.heap.size (w.heap.size+1) b b at_ k m v _ w1 hD2 ((hbw.block _ (by have:=(zgx hc2);omega)).trans hc2) ((hbw.block _ (by have:=(zgx hc3);omega)).trans hc3) hsb hw1 hx (by omega) ha).mono ?_
     rintro e w2 ⟨rfl,hs2,hb2⟩
     rw [hre k hk]
     refine ⟨_,rfl,fun hz=>?_,fun hz=>?_⟩
     ·have hdd:d.dead=false:=by
       cases hd:d.dead with
       | false=>rfl
       | true=>rw [hd] at hz;simp at hz
      refine ⟨fun h=>absurd (hdd.symm.trans h) (by decide),?_,hbw.trans hb2⟩
      have e1:d.readS ((at_+k:Nat):Int)=d.now (at_+k):=by
       unfold St.readS
       rw [hre k hk,hdd]
       simp
       rw [show ((at_:Int)+(k:Int)).toNat=at_+k by omega]
      rw [e1] at hs2
      have e2:txt (catS (fun i=>d.now (at_+i)) k)++txt (d.now (at_+k))=txt (catS (fun i=>d.now (at_+i)) (k+1)):=by
       apply ByteArray.ext
       apply Array.toList_inj.1
       rw [ByteArray.data_append,Array.toList_append,txt_list,txt_list,txt_list,catS]
      rw [e2] at hs2
      exact hs2
     ·have hdd:d.dead=true:=by
       cases hd:d.dead with
       | false=>rw [hd] at hz;simp at hz
       | true=>rfl
      exact ⟨by rw [hdd];rfl,hdd,hbw.trans hb2⟩
    ·rintro e w1 ⟨z,rfl,hz0,hz1⟩
     by_cases hz:z=0
     ·obtain ⟨h1,h2,h3⟩:=hz0 hz
      have hdd:d.dead=false:=by
       cases hd:d.dead with
       | false=>rfl
       | true=>have:=h1 hd;omega
      refine ⟨by rw [hz,hdd];rfl,fun _=>h2,h3⟩
     ·obtain ⟨h1,h2,h3⟩:=hz1 hz
      exact ⟨by rw [h1,h2];rfl,fun h=>absurd (h2.symm.trans h) (by decide),h3⟩
   have KP:=zh (fun (W:World)=>parse_any qX qV D.aO v (rdB d at_ m) W (by unfold rdB;rw [txt_size,catS_len _ (fun i=>HD.out.1.now _)];omega) gets_in)
   have KT:=zh (fun (b:Nat) (W:World) (h:Sb b b (rdB d at_ m) W) (hb:b≤W.heap.size)=>bstr_any b b (rdB d at_ m) W h hb)
   have HRU:Hid (rdU d at_ m v=if d.dead then 0 else parU qX D.aO v (rdB d at_ m)):=by show _=_;unfold rdU;rw [hon];cases d.dead<;>rfl
   have HRE:Hid (rdE d at_ m v=if d.dead then [] else parE qX D.aO v (rdB d at_ m)):=by show _=_;unfold rdE;rw [hon];cases d.dead<;>rfl
   have HRZ:Hid (rdZ d at_ m v=if d.dead then 7 else 0):=by show _=_;unfold rdZ;rw [hon,if_pos rfl]
   obtain ⟨RU,hRU⟩:∃ x,x=rdU d at_ m v:=⟨_,rfl⟩
   obtain ⟨RE,hRE⟩:∃ x,x=rdE d at_ m v:=⟨_,rfl⟩
   obtain ⟨RZ,hRZ⟩:∃ x,x=rdZ d at_ m v:=⟨_,rfl⟩
   obtain ⟨S,hS⟩:∃ S,S=rdB d at_ m:=⟨_,rfl⟩
   obtain ⟨pe,hpe⟩:∃ pe,pe=parE qX D.aO v S:=⟨_,rfl⟩
   obtain ⟨pu,hpu⟩:∃ pu,pu=parU qX D.aO v S:=⟨_,rfl⟩
   rw [←hRU,←hRE,←hRZ]
   rw [←hRU] at HRU
   rw [←hRE] at HRE
   rw [←hRZ] at HRZ
   rw [←hS] at KEY KP KT HRU HRE
   rw [←hpe,←hpu] at KP
   rw [←hpu] at HRU
   rw [←hpe] at HRE
   clear hRU hRE hRZ hS hpe hpu hre hon hmn hm1
   unfold ptr at *
   cases hdd:d.dead with
   | true =>
     rw [hdd] at KEY HRU HRE HRZ
     obtain rfl:RU=0:=HRU.out
     obtain rfl:RE=[]:=HRE.out
     obtain rfl:RZ=7:=HRZ.out
     clear HRU HRE HRZ hdd KP KT
     go_enter Tryz.func31,Tryz.ntmps31
     go_upto_region 1 with fail
     refine wp_at (w:=W) HW.out.symm ?_
     go_upto_region 3 with (go_at_call 64;(with_reducible refine K1.out.mono ?_);rintro q w1 ⟨rfl,b1⟩)
     have HB1:Hid (Below w.heap.size w w1):=HB.out.trans (b1.mono HB.out.size)
     have H21:Hid (w1.heap[w.heap.size]?=some (.cells #[.pointer (some ⟨g,0,none⟩)] 42 (0,0))):=(b1.block _ (zgx H2.out)).trans H2.out
     have H31:Hid (w1.heap[w.heap.size+1]?=some (.cells (rgc at_ m v) 40 (0,0))):=(b1.block _ (zgx H3.out)).trans H3.out
     have KK:=zh (KEY.out w1 w1.heap.size rfl HB1.out H21.out H31.out)
     have f1:(w1.alloc (.cells #[.pointer none,.slice none 0 0] 81)).cell? ⟨w.heap.size+1,1,none⟩=some (.int .i64 m):=(rgc_cellsR ((Lib.alloc_old _ _ _ (zgx H31.out)).trans H31.out)).2.1
     clear b1 c2 c3 c4 c5
     go_wp2_with (go_at_call 73;(with_reducible refine KK.out.mono ?_);rintro q w2 ⟨rfl,_,b2⟩)
     go_ret3
     exact ⟨none,0,0,rfl,Le.nil _ _,HB1.out.trans (b2.mono HB1.out.size)⟩
   | false =>
     rw [hdd] at KEY HRU HRE HRZ
     obtain rfl:RU=pu:=HRU.out
     obtain rfl:RE=pe:=HRE.out
     obtain rfl:RZ=0:=HRZ.out
     clear HRU HRE HRZ hdd
     go_enter Tryz.func31,Tryz.ntmps31
     go_upto_region 1 with fail
     refine wp_at (w:=W) HW.out.symm ?_
     go_upto_region 3 with (go_at_call 64;(with_reducible refine K1.out.mono ?_);rintro q w1 ⟨rfl,b1⟩)
     have HB1:Hid (Below w.heap.size w w1):=HB.out.trans (b1.mono HB.out.size)
     have H21:Hid (w1.heap[w.heap.size]?=some (.cells #[.pointer (some ⟨g,0,none⟩)] 42 (0,0))):=(b1.block _ (zgx H2.out)).trans H2.out
     have H31:Hid (w1.heap[w.heap.size+1]?=some (.cells (rgc at_ m v) 40 (0,0))):=(b1.block _ (zgx H3.out)).trans H3.out
     have KK:=zh (KEY.out w1 w1.heap.size rfl HB1.out H21.out H31.out)
     have f1:(w1.alloc (.cells #[.pointer none,.slice none 0 0] 81)).cell? ⟨w.heap.size+1,1,none⟩=some (.int .i64 m):=(rgc_cellsR ((Lib.alloc_old _ _ _ (zgx H31.out)).trans H31.out)).2.1
     clear b1 c2 c3 c4 c5
     go_upto_region 7 with (go_at_call 73;(with_reducible refine KK.out.mono ?_);rintro q w2 ⟨rfl,hs2,b2⟩)
     have HS2:Hid (Sb w1.heap.size w1.heap.size S w2.drew):=(show Sb w1.heap.size w1.heap.size S w2 from hs2 trivial).below (Below.refl _ w2).drew
     have HB2:Hid (Below w1.heap.size w1 w2.drew):=b2.drew
     have HC2:Hid (w2.drew.heap[w.heap.size+1]?=some (.cells (rgc at_ m v) 40 (0,0))):=(HB2.out.block _ (zgx H31.out)).trans H31.out
     have f2:w2.drew.cell? ⟨w.heap.size+1,2,none⟩=some (.int .i64 v):=(rgc_cellsR HC2.out).2.2
     clear hs2 b2 f1
     go_region_law (first
      | (go_simp;go_at_call 41;(with_reducible refine (KT.out _ _ HS2.out HB2.out.size).mono ?_);rintro q w4 ⟨rfl,b4⟩;have HB4:Hid (Below w1.heap.size w1 w4):=HB2.out.trans b4;have f4:w4.cell? ⟨w.heap.size+1,2,none⟩=some (.int .i64 v):=(rgc_cellsR ((HB4.out.block _ (zgx H31.out)).trans H31.out)).2.2;clear b4)
      | (go_simp;go_at_call 15;(with_reducible refine (KP.out _).mono ?_);rintro q w5 ⟨A5,n5,c5',rfl,hL5,b5⟩))
     all_goals
      go_wp2
      go_ret3
      exact ⟨A5,n5,c5',rfl,⟨ownsRow_low'R (Nat.le_trans HB1.out.size HB4.out.size) hL5.own,hL5.len⟩,HB1.out.trans ((HB4.out.trans (b5.mono HB4.out.size)).mono HB1.out.size)⟩
end Go.Proofs.YtnobeoppffoomaaGreat
