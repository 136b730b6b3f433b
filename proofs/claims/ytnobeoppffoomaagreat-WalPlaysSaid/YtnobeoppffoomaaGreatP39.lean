/-
  WalPlays: WZe.
  Conditions: named in each theorem.
-/
import Derived.Test.YtnobeoppffoomaaGreatP38
import Derived.Test.YtnobeoppffoomaaGreatP0
set_option linter.unusedVariables false
set_option linter.unusedSimpArgs false
set_option maxHeartbeats 8000000
set_option maxRecDepth 100000
namespace Go.Proofs.YtnobeoppffoomaaGreat
open Go.RowKit
open Dk
theorem wrS_dead {d:St} (f:Nat) {l:List UInt8} (hd:d.dead=true) (hl:0<l.length):wrS d f l=(d,7):=by
 have hw:∀ (i:Int) (s:List UInt8),d.write i s=(d,7):=fun i s=>by
  unfold St.write
  rw [refuses_deadx hd,if_pos (by decide)]
 unfold wrS
 obtain ⟨r,hr⟩:∃ r,(l.length+63) / 64=r+1:=⟨(l.length+63) / 64-1,by omega⟩
 rw [hr,wrL,hw,if_neg (by simp)]
theorem addG_go (d:St) (hok:d.Ok) (a M U:Nat) (v:Int) (es:List En) (hn:a+M≤d.n) (ho:rcO v (pO v) es=true) (hf:U+(rcS v (pS v) (pO v) es).size≤M*64) (hx:rcS v (pS v) (pO v) es≠⟨#[]⟩) :
 addG d a M v U es=if d.dead then (d,0,7) else if (wrS d (a+U / 64) ((d.now (a+U / 64)).take (U % 64)++(rcS v (pS v) (pO v) es).data.toList)).2≠0 then ((wrS d (a+U / 64) ((d.now (a+U / 64)).take (U % 64)++(rcS v (pS v) (pO v) es).data.toList)).1,0,(wrS d (a+U / 64) ((d.now (a+U / 64)).take (U % 64)++(rcS v (pS v) (pO v) es).data.toList)).2)
  else ((wrS d (a+U / 64) ((d.now (a+U / 64)).take (U % 64)++(rcS v (pS v) (pO v) es).data.toList)).1,((U+(rcS v (pS v) (pO v) es).size:Nat):Int),0):=by
 have hle:((rcS v (pS v) (pO v) es).size:Int)≤((M*64:Nat):Int)-U:=by omega
 have hE:rgE v M U es=0:=by unfold rgE;rw [if_pos ho,if_pos hle]
 have hS:rgS v M U es=rcS v (pS v) (pO v) es:=by unfold rgS;rw [ho,decide_eq_true hle];rfl
 obtain ⟨x,hxx⟩:∃ x,x=rcS v (pS v) (pO v) es:=⟨_,rfl⟩
 rw [←hxx] at hf hx hS ⊢
 have hx0:0<x.data.toList.length:=by
  rcases Nat.eq_zero_or_pos x.data.toList.length with h|h
  ·exact absurd (ByteArray.ext (Array.toList_inj.1 (List.eq_nil_of_length_eq_zero h))) hx
  ·exact h
 have hxs:x.data.toList.length=x.size:=Array.length_toList
 have hr:d.refuses ((a+U / 64:Nat):Int)=if d.dead then 7 else 0:=refuses_in hn (by omega)
 unfold addG
 rw [hE,hS,if_neg (by simp),if_neg hx]
 cases hd:d.dead with
 | true =>
   by_cases h0:U % 64=0
   ·have hz:ahZ d a U=0:=by unfold ahZ;rw [if_pos h0]
    have hl:ahL d a U=[]:=by unfold ahL;rw [if_pos h0]
    rw [hz,hl,if_neg (by simp),List.nil_append,wrS_dead _ hd hx0]
    rfl
   ·have hz:ahZ d a U=7:=by unfold ahZ;rw [if_neg h0,hr,hd];rfl
    rw [hz,if_pos (by decide)]
    rfl
 | false =>
   have hz:ahZ d a U=0:=by
    unfold ahZ
    split
    ·rfl
    ·rw [hr,hd];rfl
   have hl:ahL d a U=(d.now (a+U / 64)).take (U % 64):=by
    unfold ahL
    split
    ·rename_i h0;rw [h0,List.take_zero]
    ·rw [hr,hd];rfl
   have hlen:((d.now (a+U / 64)).take (U % 64)).length=U % 64:=by rw [List.length_take,hok.now];omega
   rw [hz,hl,hlen,if_neg (by simp),show a+(U-U % 64) / 64=a+U / 64 by omega]
   rfl
theorem ext_cut (b:ByteArray) (k:Nat):b.extract (64*k) (min (64*k+64) b.size)=txt ((b.data.toList.drop (k*64)).take 64):=by
 have hl:b.data.toList.length=b.size:=Array.length_toList
 apply ByteArray.ext
 apply Array.toList_inj.1
 rw [ByteArray.data_extract,Array.toList_extract,txt_list,List.extract_eq_take_drop,show 64*k=k*64 by omega,List.take_eq_take_iff,List.length_drop]
 omega
theorem rgadd_go (B gr:Nat) (L:List Nat) (d:St) (a M U:Nat) (v:Int) (A:Option Addr) (n c:Nat) (es:List En) (w:World) (h:Rf w B gr L d)
 (hE:Ents w.heap.size A n es w) (hn:n≤64) (ok:∀ e∈es,e.Ok) (hon:onB d.n a M v=true) (hU:U≤M*64) (hbg:¬ (v=1∧U % 64≠0)) (hO:rcO v (pO v) es=true) :
 Calls Tryz.prog 59 #[ptr gr,RG a M v,.int .i64 U,.slice A n c] w fun e w'=>e=.returned (.tuple #[.int .i64 (addG d a M v U es).2.1,.int .i64 (addG d a M v U es).2.2])∧RMoves B gr L (addG d a M v U es).1 w w':=by
 have n2:=h.1.n2
 obtain ⟨hm1,hn1,hv⟩:=onB_in n2 hon
 obtain ⟨W,hW⟩:∃ W,W=w.alloc (.cells (rgc a M v) 112):=⟨_,rfl⟩
 have hB:Below w.heap.size w W:=by rw [hW];exact (Below.refl _ w).alloc (Nat.le_refl _) _
 have hc:W.heap[w.heap.size]?=some (.cells (rgc a M v) 112 (0,0)):=by rw [hW];exact heap_alloc_new w _
 have K1:=zh (rgright_any B gr L d a M v W (h.below hB) (by omega))
 rw [onI_of hon hn1] at K1
 have HE:=zh ((hE.below hB).mr hB.size)
 have K2:=zh (fun (W:World) (hW:Ents W.heap.size A n es W)=>rrecords_any v (pS v) (pO v) A n c es W hW hn (fun e _=>Nat.le_trans (pS_le v e) (by omega)) (rputs_in v es ok))
 rw [hO] at K2
 have hsz:(rcS v (pS v) (pO v) es).size≤134217728:=by
  have h1:(rcS v (pS v) (pO v) es).size≤es.length*1048663:=by
   unfold rcS
   split
   ·exact rcA_le v (pS v) 1048600 es fun e _=>pS_le v e
   ·exact Nat.zero_le _
  rw [hE.len] at h1
  omega
 have HGO:Hid (U+(rcS v (pS v) (pO v) es).size≤M*64→rcS v (pS v) (pO v) es≠⟨#[]⟩→addG d a M v U es=_):=fun h1 h2=>addG_go d h.1 a M U v es hn1 hO h1 h2
 have HG1:Hid (¬ U+(rcS v (pS v) (pO v) es).size≤M*64→addG d a M v U es=(d,0,4)):=fun h1=>by
  have e1:rgE v M U es=4:=by unfold rgE;rw [if_pos hO,if_neg (by omega)]
  unfold addG
  rw [e1,if_pos (by decide)]
 have HG2:Hid (U+(rcS v (pS v) (pO v) es).size≤M*64→rcS v (pS v) (pO v) es=⟨#[]⟩→addG d a M v U es=(d,(U:Int),0)):=fun h1 h2=>by
  have e1:rgE v M U es=0:=by unfold rgE;rw [if_pos hO,if_pos (by omega)]
  have e2:rgS v M U es=⟨#[]⟩:=by
   unfold rgS
   rw [h2]
   split<;>rfl
  unfold addG
  rw [e1,e2,if_neg (by simp),if_pos rfl]
 have HN:Hid (a+M≤d.n∧d.n≤4096):=⟨hn1,n2⟩
 have HNW:=zh (h.1.now (a+U / 64))
 have HM0:Hid (∀ W',Below w.heap.size w W'→RMoves B gr L d w W'):=fun W' hb=>⟨h.below hb,Keep.of_below hb⟩
 have HLT:=zh h.lt
 have HB:=zh hB
 have HW:=zh hW
 have HC:=zh hc
 have HR:=zh (h.below hB)
 obtain ⟨X,hX⟩:∃ X,X=addG d a M v U es:=⟨_,rfl⟩
 rw [←hX] at HGO HG1 HG2 ⊢
 obtain ⟨x,hx⟩:∃ x,x=rcS v (pS v) (pO v) es:=⟨_,rfl⟩
 rw [←hx] at K2 HGO HG1 HG2 hsz
 obtain ⟨c0,c1,c2⟩:=rgc_cellsD hc
 have hw:wrap64 (64*(M:Int))=64*(M:Int):=by unfold wrap64;omega
 have t0:decide ((U:Int)<0)=false:=decide_eq_false (by omega)
 have t1:decide (64*(M:Int)<(U:Int))=false:=decide_eq_false (by omega)
 have hvv:(v=1∧((U:Int) % 64==0)=true)∨(v==1)=false:=by
  by_cases h:v=1
  ·left
   refine ⟨h,?_⟩
   have:U % 64=0:=Nat.eq_zero_of_not_pos fun h2=>hbg ⟨h,by omega⟩
   rw [show (U:Int) % 64=((U % 64:Nat):Int) by omega,this]
   rfl
  ·right;exact beqF h
 have HBD:Hid (a≤4096∧M≤4096∧U≤M*64):=⟨by omega,by omega,hU⟩
 clear hB hc hW h hE ok hx hX hon hbg hO hv hn1 n2 hm1
 unfold ptr at *
 rcases hvv with ⟨rfl,t2⟩|t2
 all_goals
  go_enter Tryz.func59,Tryz.ntmps59
  go_upto_region 1 with fail
  refine wp_at (w:=W) HW.out.symm ?_
  go_upto_region 2 with (go_at_call 95;(with_reducible refine K1.out.mono ?_);rintro q w1 ⟨rfl,b1⟩)
  have HB1:Hid (Below w.heap.size w w1):=HB.out.trans (b1.mono HB.out.size)
  have HE1:=zh ((HE.out.below b1).mr b1.size)
  have HC1:Hid (w1.heap[w.heap.size]?=some (.cells (rgc a M _) 112 (0,0))):=(b1.block _ (zgx HC.out)).trans HC.out
  obtain ⟨e0,e1,e2⟩:=rgc_cellsD HC1.out
  have HR1:=zh (HR.out.below b1)
  clear b1 c0 c1 c2
  go_upto_region 3 with (go_at_call 13;(with_reducible refine (K2.out _ HE1.out).mono ?_);rintro q w2 ⟨rfl,b2⟩)
  have HB2:Hid (Below w.heap.size w w2):=HB1.out.trans (b2.mono HB1.out.size)
  have HC2:Hid (w2.heap[w.heap.size]?=some (.cells (rgc a M _) 112 (0,0))):=(b2.block _ (zgx HC1.out)).trans HC1.out
  obtain ⟨f0,f1,f2⟩:=rgc_cellsD HC2.out
  have HR2:=zh (HR1.out.below b2)
  clear b2 e0 e1 e2 HB HB1 HC HC1 HR HR1 HE HE1 K1 K2 HW
  go_upto_region 5 with fail
  obtain ⟨hb1,hb2,hb3⟩:=HBD.out
  have hl1:wrap64 ((U:Int)+(x.size:Int))=(U:Int)+(x.size:Int):=by unfold wrap64;omega
  by_cases hf:U+x.size≤M*64
  rotate_left
  ·obtain rfl:X=(d,0,4):=HG1.out hf
   have t3:decide (64*(M:Int)<(U:Int)+(x.size:Int))=true:=decide_eq_true (by omega)
   clear hf hb1 hb2 hb3 HGO HG1 HG2
   go_wp2
   go_ret2
   exact ⟨rfl,HM0.out _ HB2.out⟩
  have t3:decide (64*(M:Int)<(U:Int)+(x.size:Int))=false:=decide_eq_false (by omega)
  by_cases hx0:x=⟨#[]⟩
  ·obtain rfl:X=(d,(U:Int),0):=HG2.out hf hx0
   have t4:x.toList.isEmpty=true:=by rw [Lib.toList_data,hx0];rfl
   clear hf hb1 hb2 hb3 HGO HG1 HG2 hx0
   go_wp2
   go_ret2
   exact ⟨rfl,HM0.out _ HB2.out⟩
  have HX:=zh (HGO.out hf hx0)
  have t4:x.toList.isEmpty=false:=by
   rw [Lib.toList_data,List.isEmpty_eq_false_iff]
   intro e
   exact hx0 (ByteArray.ext (Array.toList_inj.1 e))
  have hxz:0<x.size:=by
   rcases Nat.eq_zero_or_pos x.size with h|h
   ·exact absurd (ByteArray.ext (Array.toList_inj.1 (List.eq_nil_of_length_eq_zero (Array.length_toList.trans h)))) hx0
   ·exact h
  have HUM:Hid (U / 64<M):=by show _<_;omega
  have KR:=zh (rread_any B gr L d ((a+U / 64:Nat):Int) w2 HR2.out)
  rw [refuses_in HN.out.1 HUM.out] at KR
  rw [show ((a+U / 64:Nat):Int)=(a:Int)+(U:Int) / 64 by omega] at KR
  have HBX:Hid (x.size≤134217728∧U+x.size≤M*64):=⟨hsz,hf⟩
  have hl3:wrap64 ((U:Int) / 64)=(U:Int) / 64:=by unfold wrap64;omega
  have hl2:wrap64 ((a:Int)+(U:Int) / 64)=(a:Int)+(U:Int) / 64:=by unfold wrap64;omega
  clear hf hb1 hb2 hb3 HGO HG1 HG2 hsz
  cases hdd:d.dead with
  | true =>
    rw [hdd,if_pos rfl] at KR
    have hX:=HX.out
    rw [hdd,if_pos rfl] at hX
    subst hX
    obtain ⟨RS,hRS⟩:∃ s,s=txt (d.readS ((a:Int)+(U:Int) / 64)):=⟨_,rfl⟩
    rw [←hRS] at KR
    clear hRS HX hdd
    unfold ptr at *
    go_wp2_with (go_at_call 96;(with_reducible refine KR.out.mono ?_);rintro q w5 ⟨rfl,rfl⟩)
    go_ret2
    exact ⟨rfl,HM0.out _ HB2.out⟩
  | false =>
    have hrs:=readS_in HN.out.1 HUM.out hdd
    rw [show ((a+U / 64:Nat):Int)=(a:Int)+(U:Int) / 64 by omega] at hrs
    rw [hdd,if_neg (by decide),hrs] at KR
    have hX:=HX.out
    rw [hdd,if_neg (by decide)] at hX
    have hS:=HNW.out
    obtain ⟨nw,hnw⟩:∃ nw,nw=d.now (a+U / 64):=⟨_,rfl⟩
    rw [←hnw] at KR hX hS
    have hcut:=txt_take nw (U % 64)
    have hzs:(txt nw).size=64:=by rw [txt_size];exact hS
    have hT:txt (nw.take (U % 64))++x=txt (nw.take (U % 64)++x.data.toList):=by
     apply ByteArray.ext
     apply Array.toList_inj.1
     rw [ByteArray.data_append,Array.toList_append,txt_list,txt_list]
    obtain ⟨T,hTT⟩:∃ T,T=nw.take (U % 64)++x.data.toList:=⟨_,rfl⟩
    rw [←hTT] at hT hX
    have hTl:T.length=U % 64+x.size:=by rw [hTT,List.length_append,List.length_take,hS,Array.length_toList];show _+x.size=_;omega
    have hpz:(txt (nw.take (U % 64))).size=U % 64:=by rw [txt_size,List.length_take,hS];omega
    obtain ⟨S,hSS⟩:∃ S,S=txt nw:=⟨_,rfl⟩
    rw [←hSS] at KR hcut hzs
    obtain ⟨P,hP⟩:∃ P,P=txt (nw.take (U % 64)):=⟨_,rfl⟩
    rw [←hP] at hcut hpz hT
    have q1:((U:Int) % 64).toNat=U % 64:=by omega
    have q2:(U:Int) % 64≤(S.size:Int):=by omega
    have q3:(0:Int)≤(U:Int) % 64:=by omega
    have hadd:¬ 9223372036854775807<P.size+x.size:=by have:=HBX.out;omega
    have HX2:=zh hX
    have HTL:=zh hTl
    clear hX hTl hTT hnw hS hSS hP HX hdd hrs HNW
    unfold ptr at *
    go_upto_region 13 with (go_at_call 96;(with_reducible refine KR.out.mono ?_);rintro q w5 ⟨rfl,rfl⟩)
    obtain ⟨b,hb⟩:∃ b,b=P++x:=⟨_,rfl⟩
    rw [←hb] at hT
    have hbl:b.data.toList=T:=by rw [hT,txt_list]
    have hbz:b.size=U % 64+x.size:=by rw [hT,txt_size];exact HTL.out
    go_upto_region 14 with fail
    rw [←hb]
    have HX3:Hid (X=if (wrL (a+U / 64) b.data.toList ((b.size+63) / 64) 0 d).2≠0 then ((wrL (a+U / 64) b.data.toList ((b.size+63) / 64) 0 d).1,0,(wrL (a+U / 64) b.data.toList ((b.size+63) / 64) 0 d).2) else ((wrL (a+U / 64) b.data.toList ((b.size+63) / 64) 0 d).1,((U+x.size:Nat):Int),0)):=by
     have e:wrS d (a+U / 64) T=wrL (a+U / 64) b.data.toList ((b.size+63) / 64) 0 d:=by
      unfold wrS
      rw [hbl,show T.length=b.size by rw [←hbl];exact Array.length_toList]
     rw [←e]
     exact HX2.out
    obtain ⟨X0,hX0⟩:∃ X0,X0=wrL (a+U / 64) b.data.toList ((b.size+63) / 64) 0 d:=⟨_,rfl⟩
    rw [←hX0] at HX3
    obtain ⟨R,hR⟩:∃ R,R=(b.size+63) / 64:=⟨_,rfl⟩
    rw [←hR] at hX0
    have HX0:=zh hX0
    have HRB:Hid (R=(b.size+63) / 64∧b.size≤134217791∧U+x.size≤M*64∧x.size≤134217728):=by
     have:=HBX.out
     exact ⟨hR,by omega,this.2,this.1⟩
    clear hb hbl hbz hT hX0 hR HX2 HTL HBX KR hcut hzs hpz q1 q2 q3 hadd hl2 hl3 t3 t4 t0 t1 t2 hw f1 f2 f0
    obtain ⟨Fi,hFi⟩:∃ Fi:Int,Fi=(U:Int) / 64:=⟨_,rfl⟩
    rw [←hFi]
    have HFI:Hid (((a+U / 64:Nat):Int)=(a:Int)+Fi∧0≤Fi∧Fi≤4096):=by
     have:=HBD.out
     exact ⟨by omega,by omega,by omega⟩
    clear hFi
    go_wp2_with fail
    go_loopw [17] (fun i wr=>∃ (k:Nat) (d':St),i=.int .i64 k∧k≤R∧Hid (RMoves B gr L d' w wr∧wrL (a+U / 64) b.data.toList (R-k) k d'=X0)∧Hid (wr.heap[w.heap.size]?=some (.cells (rgc a M _) 112 (0,0)))) (fun i _=>R-(Go.RowKit.intOf i).toNat)
    case atStart=>exact ⟨0,d,rfl,Nat.zero_le _,⟨HM0.out _ HB2.out,HX0.out.symm⟩,HC2⟩
    case round =>
     obtain ⟨k,d',rfl,hk,hP,hcc⟩:=hrel
     obtain ⟨f0,f1,f2⟩:=rgc_cellsD hcc.out
     by_cases hlt:k<R
     ·have hr:=HRB.out
      have hfi:=HFI.out
      have t1:decide (64*(k:Int)<(b.size:Int))=true:=decide_eq_true (by omega)
      have ham1:=HBD.out.1
      have hst:wrL (a+U / 64) b.data.toList (R-k) k d'=if (d'.write ((a+U / 64+k:Nat):Int) ((b.data.toList.drop (k*64)).take 64)).2=0 then wrL (a+U / 64) b.data.toList (R-(k+1)) (k+1) (d'.write ((a+U / 64+k:Nat):Int) ((b.data.toList.drop (k*64)).take 64)).1 else d'.write ((a+U / 64+k:Nat):Int) ((b.data.toList.drop (k*64)).take 64):=by
       rw [show R-k=(R-(k+1))+1 by omega]
       rfl
      rw [hP.out.2] at hst
      have HST:=zh hst
      have hx:=ext_cut b k
      have KW:=zh (rwrite_any B gr L d' ((a+U / 64+k:Nat):Int) ((b.data.toList.drop (k*64)).take 64) wr.drew (hP.out.1.1.below (Below.refl _ wr).drew))
      rw [←hx] at KW
      rw [show ((a+U / 64+k:Nat):Int)=(a:Int)+Fi+k by omega] at KW HST
      obtain ⟨DD,hDD⟩:∃ D,D=d'.write ((a:Int)+Fi+k) ((b.data.toList.drop (k*64)).take 64):=⟨_,rfl⟩
      rw [←hDD] at KW HST
      obtain ⟨r,hr2⟩:∃ r,r=min (64*k+64) b.size:=⟨_,rfl⟩
      rw [←hr2] at KW
      have hm2:min (64*(k:Int)+64) (b.size:Int)=(r:Int):=by omega
      have hpr:64*(k:Int)≤(r:Int):=by omega
      have hp0:(0:Int)≤64*(k:Int):=by omega
      have hpn:(64*(k:Int)).toNat=64*k:=by omega
      have hrb:(r:Int)≤(b.size:Int):=by omega
      have hl1:IntKind.i64.wrap ((a:Int)+Fi)=(a:Int)+Fi:=IntWalk.i64_in _ (by omega)
      have hl2:IntKind.i64.wrap ((a:Int)+Fi+k)=(a:Int)+Fi+k:=IntWalk.i64_in _ (by omega)
      have hl3:IntKind.i64.wrap (64*(k:Int))=64*(k:Int):=IntWalk.i64_in _ (by omega)
      have hl4:IntKind.i64.wrap (64*(k:Int)+64)=64*(k:Int)+64:=IntWalk.i64_in _ (by omega)
      have g0:wr.drew.cell? ⟨w.heap.size,0,none⟩=some (.int .i64 a):=f0
      have HLB:Hid (w.heap.size<wr.heap.size):=(zgx hcc.out)
      clear hst hx hDD hr2 ham1 hr hfi
      unfold ptr at *
      go_upto_region 17 with fail
      go_region_law (go_simp;go_at_call 55;(with_reducible refine KW.out.mono ?_);rintro q w5 ⟨rfl,hM5⟩)
      all_goals
       have HM5:Hid (RMoves B gr L DD.1 w w5):=⟨hM5.1,hP.out.1.2.trans ((Keep.of_below (Below.refl _ wr).drew).trans hM5.2)⟩
       have HC5:Hid (w5.heap[w.heap.size]?=some (.cells (rgc a M _) 112 (0,0))):=(hM5.2.block _ HLB.out (fun hm=>Nat.lt_irrefl _ (HLT.out _ hm))).trans hcc.out
       obtain ⟨z,hz⟩:∃ z,z=DD.2:=⟨_,rfl⟩
       rw [←hz] at HST ⊢
       clear hM5 hP KW hm2 hpr hp0 hpn hrb hl1 hl2 hl3 hl4 g0 f0 f1 f2 hcc
       by_cases hz0:z=0
       ·have hst:=HST.out
        rw [if_pos hz0] at hst
        have HST2:=zh hst
        have hkk:(k:Int)≤4194304:=by have:=HRB.out;omega
        subst hz0
        clear hst HST hz
        go_wp2
        go_roundw
        case rel=>exact ⟨k+1,DD.1,by go_num,by omega,⟨HM5.out,HST2.out.symm⟩,HC5⟩
        case measure=>simp [Go.RowKit.intOf];omega
       ·have hst:=HST.out
        rw [if_neg hz0] at hst
        have hX:X=(DD.1,0,z):=by rw [HX3.out,hst,if_pos (by rw [←hz];exact hz0),hz]
        have e1:(z==0)=false:=beqF hz0
        have e2:(z != 0)=true:=by unfold bne;rw [e1];rfl
        subst hX
        clear hst HST hz HX3
        go_wp2
        go_ret2
        exact ⟨rfl,HM5.out⟩
     ·have hr:=HRB.out
      have hkm:k=R:=by omega
      have t1:decide (64*(k:Int)<(b.size:Int))=false:=decide_eq_false (by omega)
      have hl3:wrap64 (64*(k:Int))=64*(k:Int):=by unfold wrap64;omega
      obtain ⟨h1,h2⟩:=hP.out
      rw [hkm,Nat.sub_self] at h2
      have hX0:X0=(d',0):=h2.symm
      have hX:X=(d',((U+x.size:Nat):Int),0):=by rw [HX3.out,hX0];rfl
      rw [show ((U+x.size:Nat):Int)=(U:Int)+(x.size:Int) by omega] at hX
      have H1:=zh h1
      subst hX
      clear h1 h2 HX3 hP hX0 hr f0 f1 f2 hcc HX0 hkm hlt hk
      go_wp2
      go_ret2
      exact ⟨rfl,H1.out⟩
end Go.Proofs.YtnobeoppffoomaaGreat
