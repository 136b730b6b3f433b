/-
  FrameCodes: part G38.
  Conditions: named in each theorem.
-/
import Derived.Deep.CutRange
import Derived.Test.YtpdbeijfchmlgaaGreatZ0
import Derived.Test.YtpdbeijfchmlgaaGreatG37
set_option linter.unusedVariables false
set_option linter.unusedSimpArgs false
set_option maxHeartbeats 16000000
set_option maxRecDepth 100000
namespace Go.Proofs.YtpdbeijfchmlgaaGreat.D
open Go.RowKit
open Vi
section
variable (w0:World) (g q:Nat) (E:Mp) (A:Option Addr) (c:Nat) (T:ByteArray) (b:Bool) (w:World)
theorem mtake11_any (r n a:Nat) (h:Ty w0 g q E A c T false w) (hr0:w0.heap[r]?=some (.cells #[.func (.func 151) #[] #[]] 176 (0,0))) (hn0:w0.heap[n]?=some (.cells #[.func (.func 149) #[] #[]] 174 (0,0))) (ha0:w0.heap[a]?=some (.cells #[.func (.func 148) #[] #[]] 173 (0,0))) :
 Calls Tryz.prog 185 #[.pointer (some ⟨q,0,none⟩),.pointer (some ⟨g,0,none⟩),.pointer (some ⟨r,0,none⟩),.pointer (some ⟨n,0,none⟩),.pointer (some ⟨a,0,none⟩)] w fun e w'=>e=.returned (.tuple #[])∧∃ A' c',Ty w0 g q (mS 11 E T).1 A' c' (mS 11 E T).2.1 (!(mS 11 E T).2.2) w':=by
 have HAT:=zh (mat11_any q);have HN:=zh hn0;have HA:=zh ha0;have cr:w.cell? ⟨r,0,none⟩=some (.func (.func 151) #[] #[]):=h.at_ hr0 (by decide);have HH:=zh h;obtain ⟨es,hes⟩:∃ es,es=rdE T:=⟨_,rfl⟩
 have KR:Hid (∀ W r',W.cell? ⟨r',0,none⟩=some (.pointer (some ⟨g,0,none⟩))→r'≠g→w.heap.size≤W.heap.size→Ty w0 g q E A c T false W→Calls Tryz.prog 186 #[.pointer (some ⟨r',0,none⟩)] W fun e w'=>∃ A' c',e=.returned (.slice A' es.length c')∧Ty w0 g q E A c (rdT T) (!rdO T) w'∧Ents w'.heap.size A' es.length es w'∧(∀ a,A'=some a→w0.heap.size≤a.block∧a.block≠q)):=by
  intro W r' hc hrg hsz hW;refine (readE_any g T r' W hc hrg hW.hr hW.sz).mono ?_;rintro e w' ⟨A',c',h1,h2,h3,h4,h5⟩;have hq:=(zgx HH.out.al);have hfs:=HH.out.fr.size;rw [hes];exact ⟨A',c',h1,hW.step h4 h5 (rdT_le T) (rdT_sane T),h2,fun a ha=>⟨by have:=h3 a ha;omega,by have:=h3 a ha;omega⟩⟩
 have HMK:=zh (mkE_any g);have HC:=zh (mS11 E T);rw [←hes] at HC
 have HRG:Hid (w.heap.size≠g):=by
  show _≠_
  have:=h.hr.lt
  omega
 clear hr0 hn0 ha0 h hes
 by_cases h0:es.length=0
 ·rw [HC.out.1 h0];have hnil:=List.eq_nil_of_length_eq_zero h0;clear HC h0;subst hnil
  go_enter Tryz.func185,Tryz.ntmps185
  go_wp2_with fail
  refine (HMK.out _).mono ?_;rintro e w1 ⟨rfl,rfl⟩
  go_wp2_with fail
  refine (KR.out _ _ (zcr _ _ 0 _ 112 (0,0) (heap_alloc_new w _)) HRG.out (by simp) (HH.out.call zba)).mono ?_;rintro e w2 ⟨A',c',rfl,h2,hE2,hp2⟩;have cn:w2.cell? ⟨n,0,none⟩=some (.func (.func 149) #[] #[]):=h2.at_ HN.out (by decide);have H2:=zh h2;clear h2 hE2
  go_wp2_with fail
  refine (noE_yes A' c' _).mono ?_;rintro e w2' ⟨rfl,rfl⟩
  go_wp2_with fail
  refine (ty_fail w0 g q E A c _ _ w2 H2.out).mono ?_;rintro e w3 ⟨rfl,h3⟩;have H3:=zh h3;clear h3;have ca:w3.cell? ⟨a,0,none⟩=some (.func (.func 148) #[] #[]):=H3.out.at_ HA.out (by decide);have cq:w3.cell? ⟨q,9,none⟩=some (.slice A E.es.length c):=H3.out.cell 9;have fq:=H3.out.fz 9
  go_wp2_with fail
  refine (HAT.out _).mono ?_;rintro e w4 ⟨rfl,rfl⟩;go_wp2;go_end0;refine ⟨rfl,A',c',?_⟩;rw [Bool.not_false];exact H3.out.ents (es:=[]) ⟨rfl,fun i e he=>by cases he⟩ hp2
 ·rw [HC.out.2 h0];have KZ:=zh (fun A' c' W=>noE_no A' es.length c' W h0);clear HC h0
  go_enter Tryz.func185,Tryz.ntmps185
  go_wp2_with fail
  refine (HMK.out _).mono ?_;rintro e w1 ⟨rfl,rfl⟩
  go_wp2_with fail
  refine (KR.out _ _ (zcr _ _ 0 _ 112 (0,0) (heap_alloc_new w _)) HRG.out (by simp) (HH.out.call zba)).mono ?_;rintro e w2 ⟨A',c',rfl,h2,hE2,hp2⟩;have cn:w2.cell? ⟨n,0,none⟩=some (.func (.func 149) #[] #[]):=h2.at_ HN.out (by decide);have H2:=zh h2;have HE2:=zh hE2;clear h2 hE2
  go_wp2_with fail
  refine (KZ.out A' c' _).mono ?_;rintro e w2' ⟨rfl,rfl⟩;have ca:w2.cell? ⟨a,0,none⟩=some (.func (.func 148) #[] #[]):=H2.out.at_ HA.out (by decide);have cq:w2.cell? ⟨q,9,none⟩=some (.slice A E.es.length c):=H2.out.cell 9;have fq:=H2.out.fz 9
  go_wp2_with fail
  refine (HAT.out _).mono ?_;rintro e w4 ⟨rfl,rfl⟩;go_wp2;go_end0;exact ⟨rfl,A',c',H2.out.ents HE2.out hp2⟩
end
theorem setM_wide {t:Nat} {E:Mp} {v:Nat} (h:E.Wide) (hv:v<18446744073709551616):(setM t E v).Wide:=by
 have hw:-9223372036854775808≤IntKind.i64.wrap (v:Int)∧IntKind.i64.wrap (v:Int)≤9223372036854775807:=by rw [IntKind.wrap_i64];omega
 obtain ⟨h1,h2⟩:=hw;obtain ⟨a1,a2,a3,a4,a5,a6,a7,a8,a9,a10,a11,a12,a13,a14,a15,a16,a17,a18⟩:=h;unfold setM
 split<;>(constructor<;>(try dsimp only)<;>first|assumption|omega)
theorem setM_es (t:Nat) (E:Mp) (v:Nat):(setM t E v).es=E.es:=by
 unfold setM
 split<;>rfl
theorem mS_wide {t:Nat} {E:Mp} {T:ByteArray} (h:E.Wide) (hl:E.es.length≤64) (hT:T.size≤140737488351232):(mS t E T).1.Wide∧(mS t E T).1.es.length≤64:=by
 have h1:=varT_size T;have h2:=texV_le T;unfold mS
 by_cases h8:t≤8
 ·rw [if_pos h8];exact ⟨setM_wide h (varV_lt T),by show (setM t E (varV T)).es.length≤64;rw [setM_es];exact hl⟩
 ·rw [if_neg h8];obtain ⟨a1,a2,a3,a4,a5,a6,a7,a8,a9,a10,a11,a12,a13,a14,a15,a16,a17,a18⟩:=h
  by_cases h9:t=9
  ·rw [if_pos h9];exact ⟨⟨a1,a2,a3,a4,a5,a6,a7,a8,a9,a10,a11,a12,a13,a14,a15,a16,a17,a18⟩,hl⟩
  ·rw [if_neg h9]
   by_cases h10:t=10
   ·rw [if_pos h10];exact ⟨⟨a1,a2,a3,a4,a5,a6,a7,a8,a9,a10,a11,a12,a13,a14,a15,a16,Nat.le_trans h2 hT,a18⟩,hl⟩
   ·rw [if_neg h10]
    by_cases h64:64<varV T
    ·rw [if_pos h64];exact ⟨⟨a1,a2,a3,a4,a5,a6,a7,a8,a9,a10,a11,a12,a13,a14,a15,a16,a17,fun e he=>by cases he⟩,Nat.zero_le _⟩
    ·rw [if_neg h64];exact ⟨⟨a1,a2,a3,a4,a5,a6,a7,a8,a9,a10,a11,a12,a13,a14,a15,a16,a17,lE_ok _ _ (by omega)⟩,by show (lE _ _).length≤64;rw [lE_length];omega⟩
theorem mz0_wide:mz0.Wide:=by constructor<;>first|decide|(intro e he;cases he)
def TakM (g:Nat) (s:ByteArray) (w:World) (e:Ending) (w':World):Prop :=
 ∃ A c,e=.returned (mv ((mRd s false).1.at_ A c))∧Ents w'.heap.size A (mRd s false).1.es.length (mRd s false).1.es w'∧Rd 178 g (mRd s false).2.1 (mRd s false).2.2 w'∧w.grownBy w' (some g)∧(mRd s false).1.Wide∧(mRd s false).1.es.length≤64∧(∀ a,A=some a→w.heap.size≤a.block)
theorem takeM_any (fb g:Nat) (s:ByteArray) (w:World) (hF:MFlds fb w) (h:Rd 178 g s false w) (hm:s.size≤140737488351232) :
 Calls Tryz.prog 96 #[.slice (some ⟨fb,0,none⟩) 12 12,.pointer (some ⟨g,0,none⟩)] w (TakM g s w):=by
 have hlt:=h.lt;obtain ⟨W1,hW1⟩:∃ W1,W1=w.alloc (Obj.cells (mc mzz) 29):=⟨_,rfl⟩;have b1:Below w.heap.size w W1:=by rw [hW1];exact zba
 have z1:W1.heap.size=w.heap.size+1:=by rw [hW1];simp
 have r1:W1.heap[w.heap.size]?=some (.cells (mc mzz) 29 (0,0)):=by rw [hW1];exact heap_alloc_new w _
 obtain ⟨W2,hW2⟩:∃ W2,W2=W1.alloc (Obj.cells (mc mzz) 29):=⟨_,rfl⟩;have b2:Below W1.heap.size W1 W2:=by rw [hW2];exact zba
 have T0:Ty W1 g W1.heap.size mz0 none 0 s false W2 :=
  ⟨(h.below b1 hlt).below b2 (by omega),by rw [hW2];exact heap_alloc_new W1 _,⟨b2.os,b2.tape,b2.output,b2.size,fun i hi _=>b2.block i hi⟩,Stab.below b2,by omega,Nat.le_refl _,hm,fun e=>(by cases e),⟨rfl,fun i e he=>by cases he⟩,fun a ha=>by cases ha⟩
 have F1:MFlds fb W1:=hF.on (Stab.below b1);unfold TakM;obtain ⟨R,hR⟩:∃ R,R=mRd s false:=⟨_,rfl⟩;rw [←hR];have HR0:Hid (pk mF 12 0 mz0 s false=R):=hR.symm;have HW:Hid (W2=(w.alloc (Obj.cells (mc mzz) 29)).alloc (Obj.cells (mc mzz) 29)):=by show _=_;rw [hW2,hW1]
 have HZ:=zh z1;have HB1:=zh b1;have HR1:=zh r1;have HF1:=zh F1;have HT0:=zh T0;have HLT:=zh hlt;clear hF h hm hW1 b1 z1 r1 hW2 b2 T0 F1 hR hlt
 have hend:Hid (∀ (E:Mp) (A:Option Addr) (c:Nat) (T:ByteArray) (b:Bool) (W:World),Ty W1 g W1.heap.size E A c T b W→E.Wide→E.es.length≤64→(E,T,b)=R→(∀ i,W.cell? ⟨W1.heap.size,i,none⟩=(mc (E.at_ A c))[i]?)∧W.heap[w.heap.size]?=some (.cells (mc mzz) 29 (0,0))∧(∃ A' c',mv (E.at_ A c)=mv (R.1.at_ A' c')∧Ents (wrm W w.heap.size (E.at_ A c)).heap.size A' R.1.es.length R.1.es (wrm W w.heap.size (E.at_ A c))∧Rd 178 g R.2.1 R.2.2 (wrm W w.heap.size (E.at_ A c))∧w.grownBy (wrm W w.heap.size (E.at_ A c)) (some g)∧R.1.Wide∧R.1.es.length≤64∧(∀ a,A'=some a→w.heap.size≤a.block))):=by
  intro E A c T b W hT hE hE2 hR;have hz:=HZ.out;have hlt:=HLT.out;have hres:W.heap[w.heap.size]?=some (.cells (mc mzz) 29 (0,0)):=(hT.fr.block _ (by omega) (by simp;omega)).trans HR1.out;have hgr:w.grownBy W (some g):=⟨hT.fr.os.trans HB1.out.os,hT.fr.tape.trans HB1.out.tape,hT.fr.output.trans HB1.out.output,Nat.le_trans HB1.out.size hT.fr.size,fun i hi hne=>(hT.fr.block i (by omega) hne).trans (HB1.out.block i hi)⟩;subst hR;refine ⟨hT.cell,hres,A,c,rfl,?_,(heap_wrm W w.heap.size g _ (by omega)).trans hT.hr,gb_wrm _ hgr (Nat.le_refl _),hE,hE2,fun a ha=>by have:=(hT.ap a ha).1;omega⟩;exact ents_move hT.en (by unfold wrm;simp [World.setCell]) (fun a ha hl=>heap_wrm W w.heap.size _ _ (by have:=(hT.ap a ha).1;omega))
 go_enter Tryz.func96,Tryz.ntmps96
 go_wp2_with fail
 rw [←HW.out]
 try rw [←HZ.out]
 clear HW;obtain ⟨q,hq⟩:∃ q,q=W1.heap.size:=⟨_,rfl⟩;rw [←hq] at HT0 hend ⊢;obtain ⟨H0,hH0⟩:∃ H0,H0=w.heap.size:=⟨_,rfl⟩;have HQ:=zh hq;have HH:=zh hH0;rw [←hH0] at hend
 try rw [←hH0]
 clear hq hH0
 go_loopw [6] (fun l wr=>∃ (n last:Nat) (E:Mp) (A:Option Addr) (c:Nat) (T:ByteArray) (b:Bool),12≤n+last∧last≤11∧l=.int .u64 last∧Hid (pk mF n last E T b=R)∧Ty W1 g q E A c T b wr∧E.Wide∧E.es.length≤64) (fun l _=>12-(intOf l).toNat)
 case atStart=>exact ⟨12,0,mz0,none,0,s,false,by omega,by omega,rfl,HR0,HT0.out,mz0_wide,Nat.zero_le _⟩
 case round =>
  obtain ⟨n,last,E,A,c,T,b,hn,hl,rfl,HP,hT,hE,hE2⟩:=hrel;clear HR0 HT0;obtain ⟨m,rfl⟩:∃ m,n=m+1:=⟨n-1,by omega⟩;have K98:=zh (ty_var W1 g q E A c T b wr hT);have hvl:=varV_lt T
  have hlive:Hid (varV T≠0→(b||!varO T)=false):=fun hv=>by
   obtain ⟨l1,l2⟩:=var_live hT.sn hv;rw [l1,l2];rfl
  have hpk:=HP.out;unfold pk at hpk;obtain ⟨v,hv⟩:∃ v,v=varV T:=⟨_,rfl⟩;obtain ⟨T1,hT1⟩:∃ T1,T1=varT T:=⟨_,rfl⟩;obtain ⟨bb,hbb⟩:∃ bb,bb=(b||!varO T):=⟨_,rfl⟩;rw [←hv,←hT1,←hbb] at K98 hpk;rw [←hv] at hvl;rw [←hv,←hbb] at hlive;have HE:=zh hE;have HE2:=zh hE2;have HPK:=zh hpk;clear HP hT hpk hv hT1 hbb hE hE2
  by_cases hv0:v=0
  ·subst hv0;have HRR:Hid ((E,T1,bb)=R):=by have h:=HPK.out;rw [if_pos rfl] at h;exact h
   clear HPK hvl hlive
   go_wp2_with fail
   refine K98.out.mono ?_;rintro e w3 ⟨rfl,h3⟩;obtain ⟨x1,x2,x3⟩:=hend.out _ _ _ _ _ _ h3 HE.out HE2.out HRR.out;have c0:w3.cell? ⟨q,0,none⟩=some (.int .i64 E.kind):=x1 0;have c1:w3.cell? ⟨q,1,none⟩=some (.int .i64 E.frm):=x1 1;have c2:w3.cell? ⟨q,2,none⟩=some (.int .i64 E.dst):=x1 2;have c3:w3.cell? ⟨q,3,none⟩=some (.int .u64 E.term):=x1 3;have c4:w3.cell? ⟨q,4,none⟩=some (.int .u64 E.index):=x1 4;have c5:w3.cell? ⟨q,5,none⟩=some (.int .u64 E.prev):=x1 5;have c6:w3.cell? ⟨q,6,none⟩=some (.int .u64 E.commit):=x1 6;have c7:w3.cell? ⟨q,7,none⟩=some (.int .u64 E.mark):=x1 7;have c8:w3.cell? ⟨q,8,none⟩=some (.bool E.ok):=x1 8;have c9:w3.cell? ⟨q,9,none⟩=some (.slice A E.es.length c):=x1 9;have c10:w3.cell? ⟨q,10,none⟩=some (.string E.snap):=x1 10;obtain ⟨z0,z1,z2,z3,z4,z5,z6,z7,z8,z9,z10⟩:=zmzl (w:=w3) (b:=H0) x2;have fz:∀ i,w3.frozen? ⟨H0,i,none⟩=false:=fun i=>Lib.frozen_of_heap x2 i;have hblk:=store_allm (E.at_ A c) x2;obtain ⟨WF,hWF⟩:∃ WF,WF=wrm w3 H0 (E.at_ A c):=⟨_,rfl⟩;rw [←hWF] at x3 hblk;have X3:=zh x3;have HWF:=zh hWF;have HBK:=zh hblk;clear x1 x2 x3 hWF hblk h3;go_wp2;have hWF2:=HWF.out;unfold wrm Mp.at_ at hWF2;dsimp only at hWF2;rw [←hWF2];clear hWF2;have f0:WF.cell? ⟨H0,0,none⟩=some (.int .i64 E.kind):=zcr WF _ 0 _ 29 (0,0) HBK.out;have f1:WF.cell? ⟨H0,1,none⟩=some (.int .i64 E.frm):=zcr WF _ 1 _ 29 (0,0) HBK.out;have f2:WF.cell? ⟨H0,2,none⟩=some (.int .i64 E.dst):=zcr WF _ 2 _ 29 (0,0) HBK.out;have f3:WF.cell? ⟨H0,3,none⟩=some (.int .u64 E.term):=zcr WF _ 3 _ 29 (0,0) HBK.out;have f4:WF.cell? ⟨H0,4,none⟩=some (.int .u64 E.index):=zcr WF _ 4 _ 29 (0,0) HBK.out;have f5:WF.cell? ⟨H0,5,none⟩=some (.int .u64 E.prev):=zcr WF _ 5 _ 29 (0,0) HBK.out;have f6:WF.cell? ⟨H0,6,none⟩=some (.int .u64 E.commit):=zcr WF _ 6 _ 29 (0,0) HBK.out;have f7:WF.cell? ⟨H0,7,none⟩=some (.int .u64 E.mark):=zcr WF _ 7 _ 29 (0,0) HBK.out;have f8:WF.cell? ⟨H0,8,none⟩=some (.bool E.ok):=zcr WF _ 8 _ 29 (0,0) HBK.out;have f9:WF.cell? ⟨H0,9,none⟩=some (.slice A E.es.length c):=zcr WF _ 9 _ 29 (0,0) HBK.out;have f10:WF.cell? ⟨H0,10,none⟩=some (.string E.snap):=zcr WF _ 10 _ 29 (0,0) HBK.out;obtain ⟨A',c',y1,y2⟩:=X3.out;exact bodyPost_ret (v:=mv (E.at_ A c)) (by simp [results,Tryz.results96,go_sem,f0,f1,f2,f3,f4,f5,f6,f7,f8,f9,f10,Mp.at_]) rfl ⟨A',c',by rw [y1],by rw [←HH.out];exact y2⟩
  ·have e0:((v:Int)==0)=false:=by simp;omega
   by_cases hq1:v≤last∨12≤v
   ·have HRR:Hid ((E,⟨#[]⟩,true)=R):=by have h:=HPK.out;rw [if_neg hv0,if_pos hq1] at h;exact h
    have hw12:IntKind.u64.wrap (12:Int)=12:=rfl;clear HPK hlive
    by_cases hq2:v≤last
    ·have d1:decide (v≤last)=true:=decide_eq_true hq2;have d1':decide ((v:Int)≤(last:Int))=true:=decide_eq_true (by omega);clear hq1
     go_wp2_with fail
     refine K98.out.mono ?_;rintro e w2 ⟨rfl,h2⟩
     go_wp2_with fail
     refine (ty_fail W1 g q E A c T1 bb w2 h2).mono ?_;rintro e w3 ⟨rfl,h3⟩;obtain ⟨x1,x2,x3⟩:=hend.out _ _ _ _ _ _ h3 HE.out HE2.out HRR.out;have c0:w3.cell? ⟨q,0,none⟩=some (.int .i64 E.kind):=x1 0;have c1:w3.cell? ⟨q,1,none⟩=some (.int .i64 E.frm):=x1 1;have c2:w3.cell? ⟨q,2,none⟩=some (.int .i64 E.dst):=x1 2;have c3:w3.cell? ⟨q,3,none⟩=some (.int .u64 E.term):=x1 3;have c4:w3.cell? ⟨q,4,none⟩=some (.int .u64 E.index):=x1 4;have c5:w3.cell? ⟨q,5,none⟩=some (.int .u64 E.prev):=x1 5;have c6:w3.cell? ⟨q,6,none⟩=some (.int .u64 E.commit):=x1 6;have c7:w3.cell? ⟨q,7,none⟩=some (.int .u64 E.mark):=x1 7;have c8:w3.cell? ⟨q,8,none⟩=some (.bool E.ok):=x1 8;have c9:w3.cell? ⟨q,9,none⟩=some (.slice A E.es.length c):=x1 9;have c10:w3.cell? ⟨q,10,none⟩=some (.string E.snap):=x1 10;obtain ⟨z0,z1,z2,z3,z4,z5,z6,z7,z8,z9,z10⟩:=zmzl (w:=w3) (b:=H0) x2;have fz:∀ i,w3.frozen? ⟨H0,i,none⟩=false:=fun i=>Lib.frozen_of_heap x2 i;have hblk:=store_allm (E.at_ A c) x2;obtain ⟨WF,hWF⟩:∃ WF,WF=wrm w3 H0 (E.at_ A c):=⟨_,rfl⟩;rw [←hWF] at x3 hblk;have X3:=zh x3;have HWF:=zh hWF;have HBK:=zh hblk;clear x1 x2 x3 hWF hblk h3 h2;go_wp2;have hWF2:=HWF.out;unfold wrm Mp.at_ at hWF2;dsimp only at hWF2;rw [←hWF2];clear hWF2;have f0:WF.cell? ⟨H0,0,none⟩=some (.int .i64 E.kind):=zcr WF _ 0 _ 29 (0,0) HBK.out;have f1:WF.cell? ⟨H0,1,none⟩=some (.int .i64 E.frm):=zcr WF _ 1 _ 29 (0,0) HBK.out;have f2:WF.cell? ⟨H0,2,none⟩=some (.int .i64 E.dst):=zcr WF _ 2 _ 29 (0,0) HBK.out;have f3:WF.cell? ⟨H0,3,none⟩=some (.int .u64 E.term):=zcr WF _ 3 _ 29 (0,0) HBK.out;have f4:WF.cell? ⟨H0,4,none⟩=some (.int .u64 E.index):=zcr WF _ 4 _ 29 (0,0) HBK.out;have f5:WF.cell? ⟨H0,5,none⟩=some (.int .u64 E.prev):=zcr WF _ 5 _ 29 (0,0) HBK.out;have f6:WF.cell? ⟨H0,6,none⟩=some (.int .u64 E.commit):=zcr WF _ 6 _ 29 (0,0) HBK.out;have f7:WF.cell? ⟨H0,7,none⟩=some (.int .u64 E.mark):=zcr WF _ 7 _ 29 (0,0) HBK.out;have f8:WF.cell? ⟨H0,8,none⟩=some (.bool E.ok):=zcr WF _ 8 _ 29 (0,0) HBK.out;have f9:WF.cell? ⟨H0,9,none⟩=some (.slice A E.es.length c):=zcr WF _ 9 _ 29 (0,0) HBK.out;have f10:WF.cell? ⟨H0,10,none⟩=some (.string E.snap):=zcr WF _ 10 _ 29 (0,0) HBK.out;obtain ⟨A',c',y1,y2⟩:=X3.out;exact bodyPost_ret (v:=mv (E.at_ A c)) (by simp [results,Tryz.results96,go_sem,f0,f1,f2,f3,f4,f5,f6,f7,f8,f9,f10,Mp.at_]) rfl ⟨A',c',by rw [y1],by rw [←HH.out];exact y2⟩
    ·have d1:decide (v≤last)=false:=decide_eq_false hq2;have d1':decide ((v:Int)≤(last:Int))=false:=decide_eq_false (by omega);have hq3:12≤v:=by omega
     have d2:decide ((12:Int)≤(v:Int))=true:=decide_eq_true (by omega);clear hq1
     go_wp2_with fail
     refine K98.out.mono ?_;rintro e w2 ⟨rfl,h2⟩
     go_wp2_with fail
     refine (ty_fail W1 g q E A c T1 bb w2 h2).mono ?_;rintro e w3 ⟨rfl,h3⟩;obtain ⟨x1,x2,x3⟩:=hend.out _ _ _ _ _ _ h3 HE.out HE2.out HRR.out;have c0:w3.cell? ⟨q,0,none⟩=some (.int .i64 E.kind):=x1 0;have c1:w3.cell? ⟨q,1,none⟩=some (.int .i64 E.frm):=x1 1;have c2:w3.cell? ⟨q,2,none⟩=some (.int .i64 E.dst):=x1 2;have c3:w3.cell? ⟨q,3,none⟩=some (.int .u64 E.term):=x1 3;have c4:w3.cell? ⟨q,4,none⟩=some (.int .u64 E.index):=x1 4;have c5:w3.cell? ⟨q,5,none⟩=some (.int .u64 E.prev):=x1 5;have c6:w3.cell? ⟨q,6,none⟩=some (.int .u64 E.commit):=x1 6;have c7:w3.cell? ⟨q,7,none⟩=some (.int .u64 E.mark):=x1 7;have c8:w3.cell? ⟨q,8,none⟩=some (.bool E.ok):=x1 8;have c9:w3.cell? ⟨q,9,none⟩=some (.slice A E.es.length c):=x1 9;have c10:w3.cell? ⟨q,10,none⟩=some (.string E.snap):=x1 10;obtain ⟨z0,z1,z2,z3,z4,z5,z6,z7,z8,z9,z10⟩:=zmzl (w:=w3) (b:=H0) x2;have fz:∀ i,w3.frozen? ⟨H0,i,none⟩=false:=fun i=>Lib.frozen_of_heap x2 i;have hblk:=store_allm (E.at_ A c) x2;obtain ⟨WF,hWF⟩:∃ WF,WF=wrm w3 H0 (E.at_ A c):=⟨_,rfl⟩;rw [←hWF] at x3 hblk;have X3:=zh x3;have HWF:=zh hWF;have HBK:=zh hblk;clear x1 x2 x3 hWF hblk h3 h2;go_wp2;have hWF2:=HWF.out;unfold wrm Mp.at_ at hWF2;dsimp only at hWF2;rw [←hWF2];clear hWF2;have f0:WF.cell? ⟨H0,0,none⟩=some (.int .i64 E.kind):=zcr WF _ 0 _ 29 (0,0) HBK.out;have f1:WF.cell? ⟨H0,1,none⟩=some (.int .i64 E.frm):=zcr WF _ 1 _ 29 (0,0) HBK.out;have f2:WF.cell? ⟨H0,2,none⟩=some (.int .i64 E.dst):=zcr WF _ 2 _ 29 (0,0) HBK.out;have f3:WF.cell? ⟨H0,3,none⟩=some (.int .u64 E.term):=zcr WF _ 3 _ 29 (0,0) HBK.out;have f4:WF.cell? ⟨H0,4,none⟩=some (.int .u64 E.index):=zcr WF _ 4 _ 29 (0,0) HBK.out;have f5:WF.cell? ⟨H0,5,none⟩=some (.int .u64 E.prev):=zcr WF _ 5 _ 29 (0,0) HBK.out;have f6:WF.cell? ⟨H0,6,none⟩=some (.int .u64 E.commit):=zcr WF _ 6 _ 29 (0,0) HBK.out;have f7:WF.cell? ⟨H0,7,none⟩=some (.int .u64 E.mark):=zcr WF _ 7 _ 29 (0,0) HBK.out;have f8:WF.cell? ⟨H0,8,none⟩=some (.bool E.ok):=zcr WF _ 8 _ 29 (0,0) HBK.out;have f9:WF.cell? ⟨H0,9,none⟩=some (.slice A E.es.length c):=zcr WF _ 9 _ 29 (0,0) HBK.out;have f10:WF.cell? ⟨H0,10,none⟩=some (.string E.snap):=zcr WF _ 10 _ 29 (0,0) HBK.out;obtain ⟨A',c',y1,y2⟩:=X3.out;exact bodyPost_ret (v:=mv (E.at_ A c)) (by simp [results,Tryz.results96,go_sem,f0,f1,f2,f3,f4,f5,f6,f7,f8,f9,f10,Mp.at_]) rfl ⟨A',c',by rw [y1],by rw [←HH.out];exact y2⟩
   ·have hb0:=hlive.out hv0;have HRR:Hid (pk mF m v (mS v E T1).1 (mS v E T1).2.1 (!(mS v E T1).2.2)=R):=by have h:=HPK.out;rw [if_neg hv0,if_neg hq1,hb0,Bool.false_or] at h;exact h
    have d1:decide (v≤last)=false:=decide_eq_false (by omega);have d1':decide ((v:Int)≤(last:Int))=false:=decide_eq_false (by omega);have d2:decide ((12:Int)≤(v:Int))=false:=decide_eq_false (by omega);have hvr:last<v∧v≤11:=by omega
    have hvm:12≤m+v:=by omega
    rw [hb0] at K98;clear HPK hq1 hlive hb0
    go_wp2_with fail
    refine K98.out.mono ?_;rintro e w2 ⟨rfl,h2⟩
    go_upto_region 9 with fail
    clear d1 d1' d2 e0;obtain ⟨vv,hblk,g1,g2,g3,g4,g5,g6,g7,g8,g9,g10,g11⟩:=HF1.out
    rcases tag_cases (show 1≤v by omega) hvr.2 with rfl|rfl|rfl|rfl|rfl|rfl|rfl|rfl|rfl|rfl|rfl
    ·clear g2 g3 g4 g5 g6 g7 g8 g9 g10 g11;obtain ⟨a,nn,p,r,_,hv1,hv2,ha0,hn0,hp0,hr0⟩:=g1;have hbw:=h2.st _ _ _ hblk (by decide) (by decide) (by decide)
     have hf:w2.cell? ⟨fb,3,none⟩=some (.func (.func 204) #[] #[.pointer (some ⟨r,0,none⟩),.pointer (some ⟨nn,0,none⟩),.pointer (some ⟨a,0,none⟩)]):=by
      rw [←hv2];exact zcr w2 fb 3 _ 161 (0,0) hbw
     have HK:=zh (mtake1_any W1 g q E A c T1 w2 r nn a h2 hr0 hn0 ha0);have hok:=mS_wide (t:=1) HE.out HE2.out h2.sz;have HOK:=zh hok;have hml:12-1<12-last:=by omega
     clear hv1 hv2 ha0 hn0 hp0 hr0 hblk hbw h2 hok
     go_wp2_with fail
     refine HK.out.mono ?_;rintro e w4 ⟨rfl,h4⟩;go_wp2
     go_roundw
     case rel=>exact ⟨m,1,_,_,_,_,_,hvm,by omega,rfl,HRR,h4,HOK.out.1,HOK.out.2⟩
     case measure=>simp [intOf];omega
    ·clear g1 g3 g4 g5 g6 g7 g8 g9 g10 g11;obtain ⟨a,nn,p,r,_,hv1,hv2,ha0,hn0,hp0,hr0⟩:=g2;have hbw:=h2.st _ _ _ hblk (by decide) (by decide) (by decide)
     have hf:w2.cell? ⟨fb,5,none⟩=some (.func (.func 204) #[] #[.pointer (some ⟨r,0,none⟩),.pointer (some ⟨nn,0,none⟩),.pointer (some ⟨a,0,none⟩)]):=by
      rw [←hv2];exact zcr w2 fb 5 _ 161 (0,0) hbw
     have HK:=zh (mtake2_any W1 g q E A c T1 w2 r nn a h2 hr0 hn0 ha0);have hok:=mS_wide (t:=2) HE.out HE2.out h2.sz;have HOK:=zh hok;have hml:12-2<12-last:=by omega
     clear hv1 hv2 ha0 hn0 hp0 hr0 hblk hbw h2 hok
     go_wp2_with fail
     refine HK.out.mono ?_;rintro e w4 ⟨rfl,h4⟩;go_wp2
     go_roundw
     case rel=>exact ⟨m,2,_,_,_,_,_,hvm,by omega,rfl,HRR,h4,HOK.out.1,HOK.out.2⟩
     case measure=>simp [intOf];omega
    ·clear g1 g2 g4 g5 g6 g7 g8 g9 g10 g11;obtain ⟨a,nn,p,r,_,hv1,hv2,ha0,hn0,hp0,hr0⟩:=g3;have hbw:=h2.st _ _ _ hblk (by decide) (by decide) (by decide)
     have hf:w2.cell? ⟨fb,7,none⟩=some (.func (.func 204) #[] #[.pointer (some ⟨r,0,none⟩),.pointer (some ⟨nn,0,none⟩),.pointer (some ⟨a,0,none⟩)]):=by
      rw [←hv2];exact zcr w2 fb 7 _ 161 (0,0) hbw
     have HK:=zh (mtake3_any W1 g q E A c T1 w2 r nn a h2 hr0 hn0 ha0);have hok:=mS_wide (t:=3) HE.out HE2.out h2.sz;have HOK:=zh hok;have hml:12-3<12-last:=by omega
     clear hv1 hv2 ha0 hn0 hp0 hr0 hblk hbw h2 hok
     go_wp2_with fail
     refine HK.out.mono ?_;rintro e w4 ⟨rfl,h4⟩;go_wp2
     go_roundw
     case rel=>exact ⟨m,3,_,_,_,_,_,hvm,by omega,rfl,HRR,h4,HOK.out.1,HOK.out.2⟩
     case measure=>simp [intOf];omega
    ·clear g1 g2 g3 g5 g6 g7 g8 g9 g10 g11;obtain ⟨a,nn,p,r,_,hv1,hv2,ha0,hn0,hp0,hr0⟩:=g4;have hbw:=h2.st _ _ _ hblk (by decide) (by decide) (by decide)
     have hf:w2.cell? ⟨fb,9,none⟩=some (.func (.func 206) #[] #[.pointer (some ⟨r,0,none⟩),.pointer (some ⟨nn,0,none⟩),.pointer (some ⟨a,0,none⟩)]):=by
      rw [←hv2];exact zcr w2 fb 9 _ 161 (0,0) hbw
     have HK:=zh (mtake4_any W1 g q E A c T1 w2 r nn a h2 hr0 hn0 ha0);have hok:=mS_wide (t:=4) HE.out HE2.out h2.sz;have HOK:=zh hok;have hml:12-4<12-last:=by omega
     clear hv1 hv2 ha0 hn0 hp0 hr0 hblk hbw h2 hok
     go_wp2_with fail
     refine HK.out.mono ?_;rintro e w4 ⟨rfl,h4⟩;go_wp2
     go_roundw
     case rel=>exact ⟨m,4,_,_,_,_,_,hvm,by omega,rfl,HRR,h4,HOK.out.1,HOK.out.2⟩
     case measure=>simp [intOf];omega
    ·clear g1 g2 g3 g4 g6 g7 g8 g9 g10 g11;obtain ⟨a,nn,p,r,_,hv1,hv2,ha0,hn0,hp0,hr0⟩:=g5;have hbw:=h2.st _ _ _ hblk (by decide) (by decide) (by decide)
     have hf:w2.cell? ⟨fb,11,none⟩=some (.func (.func 206) #[] #[.pointer (some ⟨r,0,none⟩),.pointer (some ⟨nn,0,none⟩),.pointer (some ⟨a,0,none⟩)]):=by
      rw [←hv2];exact zcr w2 fb 11 _ 161 (0,0) hbw
     have HK:=zh (mtake5_any W1 g q E A c T1 w2 r nn a h2 hr0 hn0 ha0);have hok:=mS_wide (t:=5) HE.out HE2.out h2.sz;have HOK:=zh hok;have hml:12-5<12-last:=by omega
     clear hv1 hv2 ha0 hn0 hp0 hr0 hblk hbw h2 hok
     go_wp2_with fail
     refine HK.out.mono ?_;rintro e w4 ⟨rfl,h4⟩;go_wp2
     go_roundw
     case rel=>exact ⟨m,5,_,_,_,_,_,hvm,by omega,rfl,HRR,h4,HOK.out.1,HOK.out.2⟩
     case measure=>simp [intOf];omega
    ·clear g1 g2 g3 g4 g5 g7 g8 g9 g10 g11;obtain ⟨a,nn,p,r,_,hv1,hv2,ha0,hn0,hp0,hr0⟩:=g6;have hbw:=h2.st _ _ _ hblk (by decide) (by decide) (by decide)
     have hf:w2.cell? ⟨fb,13,none⟩=some (.func (.func 206) #[] #[.pointer (some ⟨r,0,none⟩),.pointer (some ⟨nn,0,none⟩),.pointer (some ⟨a,0,none⟩)]):=by
      rw [←hv2];exact zcr w2 fb 13 _ 161 (0,0) hbw
     have HK:=zh (mtake6_any W1 g q E A c T1 w2 r nn a h2 hr0 hn0 ha0);have hok:=mS_wide (t:=6) HE.out HE2.out h2.sz;have HOK:=zh hok;have hml:12-6<12-last:=by omega
     clear hv1 hv2 ha0 hn0 hp0 hr0 hblk hbw h2 hok
     go_wp2_with fail
     refine HK.out.mono ?_;rintro e w4 ⟨rfl,h4⟩;go_wp2
     go_roundw
     case rel=>exact ⟨m,6,_,_,_,_,_,hvm,by omega,rfl,HRR,h4,HOK.out.1,HOK.out.2⟩
     case measure=>simp [intOf];omega
    ·clear g1 g2 g3 g4 g5 g6 g8 g9 g10 g11;obtain ⟨a,nn,p,r,_,hv1,hv2,ha0,hn0,hp0,hr0⟩:=g7;have hbw:=h2.st _ _ _ hblk (by decide) (by decide) (by decide)
     have hf:w2.cell? ⟨fb,15,none⟩=some (.func (.func 206) #[] #[.pointer (some ⟨r,0,none⟩),.pointer (some ⟨nn,0,none⟩),.pointer (some ⟨a,0,none⟩)]):=by
      rw [←hv2];exact zcr w2 fb 15 _ 161 (0,0) hbw
     have HK:=zh (mtake7_any W1 g q E A c T1 w2 r nn a h2 hr0 hn0 ha0);have hok:=mS_wide (t:=7) HE.out HE2.out h2.sz;have HOK:=zh hok;have hml:12-7<12-last:=by omega
     clear hv1 hv2 ha0 hn0 hp0 hr0 hblk hbw h2 hok
     go_wp2_with fail
     refine HK.out.mono ?_;rintro e w4 ⟨rfl,h4⟩;go_wp2
     go_roundw
     case rel=>exact ⟨m,7,_,_,_,_,_,hvm,by omega,rfl,HRR,h4,HOK.out.1,HOK.out.2⟩
     case measure=>simp [intOf];omega
    ·clear g1 g2 g3 g4 g5 g6 g7 g9 g10 g11;obtain ⟨a,nn,p,r,_,hv1,hv2,ha0,hn0,hp0,hr0⟩:=g8;have hbw:=h2.st _ _ _ hblk (by decide) (by decide) (by decide)
     have hf:w2.cell? ⟨fb,17,none⟩=some (.func (.func 206) #[] #[.pointer (some ⟨r,0,none⟩),.pointer (some ⟨nn,0,none⟩),.pointer (some ⟨a,0,none⟩)]):=by
      rw [←hv2];exact zcr w2 fb 17 _ 161 (0,0) hbw
     have HK:=zh (mtake8_any W1 g q E A c T1 w2 r nn a h2 hr0 hn0 ha0);have hok:=mS_wide (t:=8) HE.out HE2.out h2.sz;have HOK:=zh hok;have hml:12-8<12-last:=by omega
     clear hv1 hv2 ha0 hn0 hp0 hr0 hblk hbw h2 hok
     go_wp2_with fail
     refine HK.out.mono ?_;rintro e w4 ⟨rfl,h4⟩;go_wp2
     go_roundw
     case rel=>exact ⟨m,8,_,_,_,_,_,hvm,by omega,rfl,HRR,h4,HOK.out.1,HOK.out.2⟩
     case measure=>simp [intOf];omega
    ·clear g1 g2 g3 g4 g5 g6 g7 g8 g10 g11;obtain ⟨a,nn,p,r,_,hv1,hv2,ha0,hn0,hp0,hr0⟩:=g9;have hbw:=h2.st _ _ _ hblk (by decide) (by decide) (by decide)
     have hf:w2.cell? ⟨fb,19,none⟩=some (.func (.func 208) #[] #[.pointer (some ⟨r,0,none⟩),.pointer (some ⟨nn,0,none⟩),.pointer (some ⟨a,0,none⟩)]):=by
      rw [←hv2];exact zcr w2 fb 19 _ 161 (0,0) hbw
     have HK:=zh (mtake9_any W1 g q E A c T1 w2 r nn a h2 hr0 hn0 ha0);have hok:=mS_wide (t:=9) HE.out HE2.out h2.sz;have HOK:=zh hok;have hml:12-9<12-last:=by omega
     clear hv1 hv2 ha0 hn0 hp0 hr0 hblk hbw h2 hok
     go_wp2_with fail
     refine HK.out.mono ?_;rintro e w4 ⟨rfl,h4⟩;go_wp2
     go_roundw
     case rel=>exact ⟨m,9,_,_,_,_,_,hvm,by omega,rfl,HRR,h4,HOK.out.1,HOK.out.2⟩
     case measure=>simp [intOf];omega
    ·clear g1 g2 g3 g4 g5 g6 g7 g8 g9 g11;obtain ⟨a,nn,p,r,_,hv1,hv2,ha0,hn0,hp0,hr0⟩:=g10;have hbw:=h2.st _ _ _ hblk (by decide) (by decide) (by decide)
     have hf:w2.cell? ⟨fb,21,none⟩=some (.func (.func 211) #[] #[.pointer (some ⟨r,0,none⟩),.pointer (some ⟨nn,0,none⟩),.pointer (some ⟨a,0,none⟩)]):=by
      rw [←hv2];exact zcr w2 fb 21 _ 161 (0,0) hbw
     have HK:=zh (mtake10_any W1 g q E A c T1 w2 r nn a h2 hr0 hn0 ha0);have hok:=mS_wide (t:=10) HE.out HE2.out h2.sz;have HOK:=zh hok;have hml:12-10<12-last:=by omega
     clear hv1 hv2 ha0 hn0 hp0 hr0 hblk hbw h2 hok
     go_wp2_with fail
     refine HK.out.mono ?_;rintro e w4 ⟨rfl,h4⟩;go_wp2
     go_roundw
     case rel=>exact ⟨m,10,_,_,_,_,_,hvm,by omega,rfl,HRR,h4,HOK.out.1,HOK.out.2⟩
     case measure=>simp [intOf];omega
    ·clear g1 g2 g3 g4 g5 g6 g7 g8 g9 g10;obtain ⟨a,nn,p,r,_,hv1,hv2,ha0,hn0,hp0,hr0⟩:=g11;have hbw:=h2.st _ _ _ hblk (by decide) (by decide) (by decide)
     have hf:w2.cell? ⟨fb,23,none⟩=some (.func (.func 185) #[] #[.pointer (some ⟨r,0,none⟩),.pointer (some ⟨nn,0,none⟩),.pointer (some ⟨a,0,none⟩)]):=by
      rw [←hv2];exact zcr w2 fb 23 _ 161 (0,0) hbw
     have HK:=zh (mtake11_any W1 g q E A c T1 w2 r nn a h2 hr0 hn0 ha0);have hok:=mS_wide (t:=11) HE.out HE2.out h2.sz;have HOK:=zh hok;have hml:12-11<12-last:=by omega
     clear hv1 hv2 ha0 hn0 hp0 hr0 hblk hbw h2 hok
     go_wp2_with fail
     refine HK.out.mono ?_;rintro e w4 ⟨rfl,A4,c4,h4⟩;go_wp2
     go_roundw
     case rel=>exact ⟨m,11,_,_,_,_,_,hvm,by omega,rfl,HRR,h4,HOK.out.1,HOK.out.2⟩
     case measure=>simp [intOf];omega
end Go.Proofs.YtpdbeijfchmlgaaGreat.D
