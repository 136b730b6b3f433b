/-
  WalPlays: DSGet.
  Conditions: named in each theorem.
-/
import Derived.Test.YtnobeoppffoomaaGreatP28
import Derived.Deep.CutRange
import Derived.Test.YtnobeoppffoomaaGreatP0
set_option linter.unusedVariables false
set_option linter.unusedSimpArgs false
set_option maxHeartbeats 8000000
set_option maxRecDepth 100000
namespace Go.Proofs.YtnobeoppffoomaaGreat.D
open Go.RowKit
open Vi
theorem fR_ok {t:Nat} {E:En} {T:ByteArray} (h:E.Ok) (hT:T.size≤140737488351232):(fR t E T).1.Ok:=by
 have hv:=varV_lt T
 unfold fR
 split
 ·exact setT_ok h (Nat.le_trans (texV_le T) hT)
 ·split
  ·show (setR t E (varV T)).Ok
   obtain ⟨a1,a2,a3,a4,a5,a6,a7,a8,a9,a10,a11,a12,a13,a14,a15,a16,a17,a18,a19,a20⟩:=id h
   unfold setR
   split<;>first|exact setN_ok h hv|(constructor<;>(try dsimp only)<;>first|assumption|omega)
  ·exact h
def rOk (s:ByteArray) (R:En×ByteArray×Bool):Bool :=
 !R.2.2&&(rightB R.1&&(decide ((putS_b R.1).size≤s.size)&&(((s.extract 0 (putS_b R.1).size).toList==(putS_b R.1).toList)&&decide (((s.size:Int)-((putS_b R.1).size:Int))=(R.2.1.size:Int)))))
theorem eR_true (s:ByteArray):(eR s true).2.2=true:=by
 have key:∀ n last E T,(pk eF n last E T true).2.2=true:=by
  intro n
  induction n with
  | zero=>intro last E T;rfl
  | succ n ih =>
    intro last E T
    unfold pk
    split
    ·simp
    ·split
     ·rfl
     ·rw [Bool.true_or,Bool.true_or]
      exact ih _ _ _
 exact key _ _ _ _
theorem gO_true (s:ByteArray):gO s true=false:=by unfold gO;rw [eR_true];rfl
theorem rOk_iff (s:ByteArray) (b:Bool) (h1:(eR s b).1.Ok) (h2:(eRr s b).1.Ok) :
 rOk s (eRr s b)=gO s b∧(gO s b=true→(eRr s b).1=(eR s b).1∧(eRr s b).2.1=(eR s b).2.1):=by
 cases b with
 | true =>
   have e:eRr s true=(ezz0,s,true):=by unfold eRr;unfold rk;rfl
   rw [gO_true]
   refine ⟨by rw [e];rfl,fun h=>by cases h⟩
 | false =>
   have back:gO s false=true→rOk s (eRr s false)=true∧(eRr s false).1=(eR s false).1∧(eRr s false).2.1=(eR s false).2.1:=by
    intro hg
    unfold gO at hg
    rw [Bool.and_eq_true] at hg
    obtain ⟨⟨X,r,bb⟩,hR⟩:∃ R,R=eR s false:=⟨_,rfl⟩
    rw [←hR] at hg h1
    have hb:bb=false:=by simpa using hg.1
    subst hb
    have fw:=few_of_b h1 hg.2
    obtain ⟨_,hs⟩:=eR_sound h1 fw hR.symm
    have h3:=(eR_put h1 fw r).2
    rw [←hs] at h3
    rw [h3,←hR]
    refine ⟨?_,rfl,rfl⟩
    have hp:putS_b X=sbE X:=by unfold putS_b;rw [if_pos hg.2]
    have hsz:s.size=(sbE X).size+r.size:=by rw [hs,ByteArray.size_append]
    unfold rOk
    show (!false&&(rightB X&&(decide ((putS_b X).size≤s.size)&&(((s.extract 0 (putS_b X).size).toList==(putS_b X).toList)&&decide ((s.size:Int)-((putS_b X).size:Int)=(r.size:Int))))))=true
    have hx:s.extract 0 (sbE X).size=sbE X:=by rw [hs];exact extract_left _ _
    rw [hp,hg.2,decide_eq_true (by omega),hx,beq_self_eq_true,decide_eq_true (by omega)]
    rfl
   refine ⟨?_,fun h=>(back h).2⟩
   cases hg:gO s false with
   | true=>exact (back hg).1
   | false =>
     cases hq:rOk s (eRr s false) with
     | false=>rfl
     | true =>
       exfalso
       obtain ⟨⟨X,r,bb⟩,hR⟩:∃ R,R=eRr s false:=⟨_,rfl⟩
       rw [←hR] at hq h2
       unfold rOk at hq
       simp only [Bool.and_eq_true,decide_eq_true_eq] at hq
       obtain ⟨q1,q2,q3,q4,q5⟩:=hq
       have fw:=few_of_b h2 q2
       have hp:putS_b X=sbE X:=by unfold putS_b;rw [if_pos q2]
       rw [hp] at q3 q4 q5
       rw [beq_nums] at q4
       have q6:s.extract 0 (sbE X).size=sbE X:=nums_inj (of_decide_eq_true q4)
       obtain ⟨t,ht⟩:∃ t,t=s.extract (sbE X).size s.size:=⟨_,rfl⟩
       have hs:s=sbE X++t:=by
        apply nums_inj
        rw [nums_append,ht,←q6]
        have hz:(s.extract 0 (sbE X).size).size=(sbE X).size:=by rw [q6]
        rw [hz,nums_extract,nums_extract,List.drop_zero,Nat.sub_zero]
        have:(List.drop (sbE X).size (nums s)).take (s.size-(sbE X).size)=List.drop (sbE X).size (nums s):=List.take_of_length_le (by rw [List.length_drop,nums_length];omega)
        rw [this,List.take_append_drop]
       have h3:=(eR_put h2 fw t).1
       rw [←hs] at h3
       have:gO s false=true:=by
        unfold gO
        rw [h3]
        show (!false&&rightB X)=true
        rw [q2];rfl
       rw [hg] at this
       cases this
theorem putS_le {e:En} (ok:e.Ok):(putS_b e).size≤1000:=by
 unfold putS_b
 split
 ·rename_i h
  have fw:=few_of_b ok h
  have h1:=secU_le ok fw 11 (by omega)
  have h2:=putB_le 0 (by omega)
  unfold sbE secB
  rw [ByteArray.size_append]
  omega
 ·exact Nat.zero_le _
theorem rgetE_any (g:Nat) (s:ByteArray) (bad:Bool) (w:World) (h:Rd 145 g s bad w) (hm:s.size≤140737488351232) (hsn:Vi.Sane s bad) (hok1:(eR s bad).1.Ok) :
 Calls Tryz.prog 93 #[.pointer (some ⟨g,0,none⟩)] w fun e w'=>e=.returned (ev (gE s bad))∧Rd 145 g (gT s bad) (!gO s bad) w'∧w.grownBy w' (some g):=by
 have hlt:=h.lt
 obtain ⟨W1,hW1⟩:∃ W1,W1=w.alloc (Obj.cells (ec ezz) 28):=⟨_,rfl⟩
 have b1:Below w.heap.size w W1:=by rw [hW1];exact (Below.refl _ _).alloc (Nat.le_refl _) _
 have z1:W1.heap.size=w.heap.size+1:=by rw [hW1];simp
 have r1:W1.heap[w.heap.size]?=some (.cells (ec ezz) 28 (0,0)):=by rw [hW1];exact heap_alloc_new w _
 obtain ⟨W2,hW2⟩:∃ W2,W2=W1.alloc (Obj.cells (ec ezz) 28):=⟨_,rfl⟩
 have b2:Below W1.heap.size W1 W2:=by rw [hW2];exact (Below.refl _ _).alloc (Nat.le_refl _) _
 have c0:W1.cell? ⟨g,0,none⟩=some (.string s):=(h.below b1 hlt).cell0
 have T0:Tr W1 g W1.heap.size ezz s bad W2 :=
  ⟨(h.below b1 hlt).below b2 (by omega),by rw [hW2];exact heap_alloc_new W1 _,⟨b2.os,b2.tape,b2.output,b2.size,fun i hi _=>b2.block i hi⟩,by omega,Nat.le_refl _,hm,hsn⟩
 obtain ⟨R,hR⟩:∃ R,R=eRr s bad:=⟨_,rfl⟩
 have HR0:Hid (rk fR 12 ezz s bad=R):=hR.symm
 have HEQ:Hid (R.1.Ok→rOk s R=gO s bad∧(gO s bad=true→R.1=(eR s bad).1∧R.2.1=(eR s bad).2.1)):=by
  intro hk
  rw [hR] at hk ⊢
  exact rOk_iff s bad hok1 hk
 have HG:Hid ((gO s bad=false→gE s bad=ezz∧gT s bad=⟨#[]⟩)∧(gO s bad=true→gE s bad=(eR s bad).1∧gT s bad=(eR s bad).2.1)):=⟨gO_no,gO_yes⟩
 have HWA:=zh hW1
 have HWB:=zh hW2
 have HZ:=zh z1
 have HB1:=zh b1
 have HR1:=zh r1
 have HT0:=zh T0
 have HLT:=zh hlt
 have HM:=zh hm
 have hend:Hid (∀ (E:En) (T:ByteArray) (b:Bool) (W:World) (X:En),Tr W1 g W1.heap.size E T b W→W.heap[w.heap.size]?=some (.cells (ec ezz) 28 (0,0))∧Rd 145 g T b (wre W w.heap.size X)∧w.grownBy (wre W w.heap.size X) (some g)):=by
  intro E T b W X hT
  have hz:=HZ.out
  have hlt:=HLT.out
  have hres:W.heap[w.heap.size]?=some (.cells (ec ezz) 28 (0,0)):=(hT.fr.block _ (by omega) (by simp;omega)).trans HR1.out
  have hgr:w.grownBy W (some g):=⟨hT.fr.os.trans HB1.out.os,hT.fr.tape.trans HB1.out.tape,hT.fr.output.trans HB1.out.output,Nat.le_trans HB1.out.size hT.fr.size,fun i hi hne=>(hT.fr.block i (by omega) hne).trans (HB1.out.block i hi)⟩
  exact ⟨hres,(heap_wre W w.heap.size g X (by omega)).trans hT.hr,gb_wre X hgr (Nat.le_refl _)⟩
 clear h hm hsn hW1 b1 z1 r1 hW2 b2 T0 hR hlt hok1
 go_enter Tryz.func93,Tryz.ntmps93
 go_upto_region 1 with fail
 rw [←HWA.out]
 clear HWA
 go_wp2_with fail
 rw [←HWB.out]
 try rw [←HZ.out]
 clear HWB c0
 obtain ⟨q,hq⟩:∃ q,q=W1.heap.size:=⟨_,rfl⟩
 rw [←hq] at HT0 hend ⊢
 obtain ⟨H0,hH0⟩:∃ H0,H0=w.heap.size:=⟨_,rfl⟩
 rw [←hH0] at hend
 try rw [←hH0]
 clear hq hH0
 go_loopw [5] (fun i wr=>∃ (k n:Nat) (E:En) (T:ByteArray) (b:Bool),k+n=12∧i=.int .i64 k∧Hid (rk fR n E T b=R)∧Tr W1 g q E T b wr∧E.Ok) (fun i _=>12-(Go.RowKit.intOf i).toNat)
 case atStart=>exact ⟨0,12,ezz,s,bad,rfl,rfl,HR0,HT0.out,ezz_ok⟩
 case round =>
  obtain ⟨k,n,E,T,b,hn,rfl,HP,hT,hE⟩:=hrel
  clear HR0 HT0
  have HE:=zh hE
  have HT:=zh hT
  have cg1:wr.cell? ⟨g,1,none⟩=some (.bool b):=hT.hr.cell1
  by_cases hk:k<12
  ·have t1:decide ((k:Int)<12)=true:=decide_eq_true (by omega)
   obtain ⟨m,rfl⟩:∃ m,n=m+1:=⟨n-1,by omega⟩
   have hpk:=HP.out
   unfold rk at hpk
   cases b with
   | true =>
     have HRR:Hid ((E,T,true)=R):=by rw [if_pos rfl] at hpk;exact hpk
     clear hpk HP hT hE
     have hRo:R.1.Ok:=by rw [←HRR.out];exact HE.out
     have HQ:=zh (HEQ.out hRo)
     clear hRo
     have HQ1:Hid (rOk s (E,T,true)=gO s bad):=by have h:=HQ.out.1;rw [←HRR.out] at h;exact h
     have HQ2:Hid (gO s bad=true→E=(eR s bad).1∧T=(eR s bad).2.1):=by have h:=HQ.out.2;rw [←HRR.out] at h;exact h
     have KP:=zh (fun (W:World)=>rputE_any E W HE.out)
     have hpl:=putS_le HE.out
     obtain ⟨P,hP⟩:∃ P,P=putS_b E:=⟨_,rfl⟩
     obtain ⟨rb,hrb⟩:∃ rb,rb=rightB E:=⟨_,rfl⟩
     rw [←hP,←hrb] at KP
     rw [←hP] at hpl
     have HO:Hid ((!true&&(rb&&(decide (P.size≤s.size)&&(((s.extract 0 P.size).toList==P.toList)&&decide (((s.size:Int)-(P.size:Int))=(T.size:Int))))))=gO s bad):=by rw [hP,hrb];exact HQ1.out
     clear hP hrb HQ HQ1
     have e0:wr.cell? ⟨q,0,none⟩=some (.int .u64 E.term):=zcr wr _ 0 _ 28 (0,0) HT.out.al
     have e1:wr.cell? ⟨q,1,none⟩=some (.int .u64 E.index):=zcr wr _ 1 _ 28 (0,0) HT.out.al
     have e2:wr.cell? ⟨q,2,none⟩=some (.int .i64 E.kind):=zcr wr _ 2 _ 28 (0,0) HT.out.al
     have e3:wr.cell? ⟨q,3,none⟩=some (.int .u64 E.client):=zcr wr _ 3 _ 28 (0,0) HT.out.al
     have e4:wr.cell? ⟨q,4,none⟩=some (.int .u64 E.seq):=zcr wr _ 4 _ 28 (0,0) HT.out.al
     have e5:wr.cell? ⟨q,5,none⟩=some (.int .u64 E.block):=zcr wr _ 5 _ 28 (0,0) HT.out.al
     have e6:wr.cell? ⟨q,6,none⟩=some (.int .u64 E.many):=zcr wr _ 6 _ 28 (0,0) HT.out.al
     have e7:wr.cell? ⟨q,7,none⟩=some (.int .i64 E.node):=zcr wr _ 7 _ 28 (0,0) HT.out.al
     have e8:wr.cell? ⟨q,8,none⟩=some (.int .i64 E.level):=zcr wr _ 8 _ 28 (0,0) HT.out.al
     have e9:wr.cell? ⟨q,9,none⟩=some (.string E.data):=zcr wr _ 9 _ 28 (0,0) HT.out.al
     have e10:wr.cell? ⟨q,10,none⟩=some (.string E.old):=zcr wr _ 10 _ 28 (0,0) HT.out.al
     go_wp2_with fail
     refine (KP.out _).mono ?_
     rintro e' w5 ⟨rfl,b5⟩
     have HT5:=zh (HT.out.call b5)
     have cr1:w5.cell? ⟨g,1,none⟩=some (.bool true):=HT5.out.hr.cell1
     have cr0:w5.cell? ⟨g,0,none⟩=some (.string T):=HT5.out.hr.cell0
     clear b5 KP e0 e1 e2 e3 e4 e5 e6 e7 e8 e9 e10 HRR
     have HOO:Hid (false=gO s bad):=HO.out
     have hg0:Hid (gO s bad=false):=HOO.out.symm
     clear HOO
     go_wp2_with fail
     refine (tr_fail W1 g q E _ _ w5 HT5.out).mono ?_
     rintro e w8 ⟨rfl,h8⟩
     obtain ⟨x1,x2,x3⟩:=hend.out _ _ _ _ ezz h8
     have z0:w8.cell? ⟨H0,0,none⟩=some (.int .u64 0):=zcr w8 _ 0 _ 28 (0,0) x1
     have z1:w8.cell? ⟨H0,1,none⟩=some (.int .u64 0):=zcr w8 _ 1 _ 28 (0,0) x1
     have z2:w8.cell? ⟨H0,2,none⟩=some (.int .i64 0):=zcr w8 _ 2 _ 28 (0,0) x1
     have z3:w8.cell? ⟨H0,3,none⟩=some (.int .u64 0):=zcr w8 _ 3 _ 28 (0,0) x1
     have z4:w8.cell? ⟨H0,4,none⟩=some (.int .u64 0):=zcr w8 _ 4 _ 28 (0,0) x1
     have z5:w8.cell? ⟨H0,5,none⟩=some (.int .u64 0):=zcr w8 _ 5 _ 28 (0,0) x1
     have z6:w8.cell? ⟨H0,6,none⟩=some (.int .u64 0):=zcr w8 _ 6 _ 28 (0,0) x1
     have z7:w8.cell? ⟨H0,7,none⟩=some (.int .i64 0):=zcr w8 _ 7 _ 28 (0,0) x1
     have z8:w8.cell? ⟨H0,8,none⟩=some (.int .i64 0):=zcr w8 _ 8 _ 28 (0,0) x1
     have z9:w8.cell? ⟨H0,9,none⟩=some (.string ⟨#[]⟩):=zcr w8 _ 9 _ 28 (0,0) x1
     have z10:w8.cell? ⟨H0,10,none⟩=some (.string ⟨#[]⟩):=zcr w8 _ 10 _ 28 (0,0) x1
     have fz:∀ i,w8.frozen? ⟨H0,i,none⟩=false:=fun i=>Lib.frozen_of_heap x1 i
     have hblk:=store_wre ezz x1
     obtain ⟨WF,hWF⟩:∃ WF,WF=wre w8 H0 ezz:=⟨_,rfl⟩
     rw [←hWF] at x2 x3 hblk
     have X2:=zh x2
     have X3:=zh x3
     have HWF:=zh hWF
     have HBK:=zh hblk
     clear x1 x2 x3 hWF hblk
     go_wp2
     have hWF2:=HWF.out
     unfold wre at hWF2
     rw [←hWF2]
     clear hWF2
     have f0:WF.cell? ⟨H0,0,none⟩=some (.int .u64 0):=zcr WF _ 0 _ 28 (0,0) HBK.out
     have f1:WF.cell? ⟨H0,1,none⟩=some (.int .u64 0):=zcr WF _ 1 _ 28 (0,0) HBK.out
     have f2:WF.cell? ⟨H0,2,none⟩=some (.int .i64 0):=zcr WF _ 2 _ 28 (0,0) HBK.out
     have f3:WF.cell? ⟨H0,3,none⟩=some (.int .u64 0):=zcr WF _ 3 _ 28 (0,0) HBK.out
     have f4:WF.cell? ⟨H0,4,none⟩=some (.int .u64 0):=zcr WF _ 4 _ 28 (0,0) HBK.out
     have f5:WF.cell? ⟨H0,5,none⟩=some (.int .u64 0):=zcr WF _ 5 _ 28 (0,0) HBK.out
     have f6:WF.cell? ⟨H0,6,none⟩=some (.int .u64 0):=zcr WF _ 6 _ 28 (0,0) HBK.out
     have f7:WF.cell? ⟨H0,7,none⟩=some (.int .i64 0):=zcr WF _ 7 _ 28 (0,0) HBK.out
     have f8:WF.cell? ⟨H0,8,none⟩=some (.int .i64 0):=zcr WF _ 8 _ 28 (0,0) HBK.out
     have f9:WF.cell? ⟨H0,9,none⟩=some (.string ⟨#[]⟩):=zcr WF _ 9 _ 28 (0,0) HBK.out
     have f10:WF.cell? ⟨H0,10,none⟩=some (.string ⟨#[]⟩):=zcr WF _ 10 _ 28 (0,0) HBK.out
     exact bodyPost_ret (v:=ev ezz) (by simp [results,Tryz.results93,go_sem,f0,f1,f2,f3,f4,f5,f6,f7,f8,f9,f10]) rfl ⟨by rw [(HG.out.1 hg0.out).1],by rw [(HG.out.1 hg0.out).2,hg0.out];exact X2.out,X3.out⟩
   | false =>
     rw [if_neg (by decide)] at hpk
     have K98:=zh (tr_var W1 g q E T false wr hT)
     have hvl:=varV_lt T
     obtain ⟨v,hv⟩:∃ v,v=varV T:=⟨_,rfl⟩
     obtain ⟨T1,hT1⟩:∃ T1,T1=varT T:=⟨_,rfl⟩
     obtain ⟨bb,hbb⟩:∃ bb,bb=(false||!varO T):=⟨_,rfl⟩
     rw [←hv,←hT1,←hbb] at K98 hpk
     rw [←hv] at hvl
     have HPK:=zh hpk
     clear HP hT hpk hv hT1 hbb hE HT
     by_cases hv0:v=0
     ·subst hv0
      have HRR:Hid ((E,T1,bb)=R):=by have h:=HPK.out;rw [if_pos rfl] at h;exact h
      clear HPK hvl
      go_wp2_with fail
      refine K98.out.mono ?_
      rintro e w3 ⟨rfl,h3⟩
      have HT:=zh h3
      clear h3 cg1 K98
      have hRo:R.1.Ok:=by rw [←HRR.out];exact HE.out
      have HQ:=zh (HEQ.out hRo)
      clear hRo
      have HQ1:Hid (rOk s (E,T1,bb)=gO s bad):=by have h:=HQ.out.1;rw [←HRR.out] at h;exact h
      have HQ2:Hid (gO s bad=true→E=(eR s bad).1∧T1=(eR s bad).2.1):=by have h:=HQ.out.2;rw [←HRR.out] at h;exact h
      have KP:=zh (fun (W:World)=>rputE_any E W HE.out)
      have hpl:=putS_le HE.out
      obtain ⟨P,hP⟩:∃ P,P=putS_b E:=⟨_,rfl⟩
      obtain ⟨rb,hrb⟩:∃ rb,rb=rightB E:=⟨_,rfl⟩
      rw [←hP,←hrb] at KP
      rw [←hP] at hpl
      have HO:Hid ((!bb&&(rb&&(decide (P.size≤s.size)&&(((s.extract 0 P.size).toList==P.toList)&&decide (((s.size:Int)-(P.size:Int))=(T1.size:Int))))))=gO s bad):=by rw [hP,hrb];exact HQ1.out
      clear hP hrb HQ HQ1
      have e0:w3.cell? ⟨q,0,none⟩=some (.int .u64 E.term):=zcr w3 _ 0 _ 28 (0,0) HT.out.al
      have e1:w3.cell? ⟨q,1,none⟩=some (.int .u64 E.index):=zcr w3 _ 1 _ 28 (0,0) HT.out.al
      have e2:w3.cell? ⟨q,2,none⟩=some (.int .i64 E.kind):=zcr w3 _ 2 _ 28 (0,0) HT.out.al
      have e3:w3.cell? ⟨q,3,none⟩=some (.int .u64 E.client):=zcr w3 _ 3 _ 28 (0,0) HT.out.al
      have e4:w3.cell? ⟨q,4,none⟩=some (.int .u64 E.seq):=zcr w3 _ 4 _ 28 (0,0) HT.out.al
      have e5:w3.cell? ⟨q,5,none⟩=some (.int .u64 E.block):=zcr w3 _ 5 _ 28 (0,0) HT.out.al
      have e6:w3.cell? ⟨q,6,none⟩=some (.int .u64 E.many):=zcr w3 _ 6 _ 28 (0,0) HT.out.al
      have e7:w3.cell? ⟨q,7,none⟩=some (.int .i64 E.node):=zcr w3 _ 7 _ 28 (0,0) HT.out.al
      have e8:w3.cell? ⟨q,8,none⟩=some (.int .i64 E.level):=zcr w3 _ 8 _ 28 (0,0) HT.out.al
      have e9:w3.cell? ⟨q,9,none⟩=some (.string E.data):=zcr w3 _ 9 _ 28 (0,0) HT.out.al
      have e10:w3.cell? ⟨q,10,none⟩=some (.string E.old):=zcr w3 _ 10 _ 28 (0,0) HT.out.al
      go_wp2_with fail
      refine (KP.out _).mono ?_
      rintro e' w5 ⟨rfl,b5⟩
      have HT5:=zh (HT.out.call b5)
      have cr1:w5.cell? ⟨g,1,none⟩=some (.bool bb):=HT5.out.hr.cell1
      have cr0:w5.cell? ⟨g,0,none⟩=some (.string T1):=HT5.out.hr.cell0
      clear b5 KP e0 e1 e2 e3 e4 e5 e6 e7 e8 e9 e10 HRR
      cases bb with
      | true =>
        have HOO:Hid (false=gO s bad):=HO.out
        have hg0:Hid (gO s bad=false):=HOO.out.symm
        clear HOO
        go_wp2_with fail
        refine (tr_fail W1 g q E _ _ w5 HT5.out).mono ?_
        rintro e w8 ⟨rfl,h8⟩
        obtain ⟨x1,x2,x3⟩:=hend.out _ _ _ _ ezz h8
        have z0:w8.cell? ⟨H0,0,none⟩=some (.int .u64 0):=zcr w8 _ 0 _ 28 (0,0) x1
        have z1:w8.cell? ⟨H0,1,none⟩=some (.int .u64 0):=zcr w8 _ 1 _ 28 (0,0) x1
        have z2:w8.cell? ⟨H0,2,none⟩=some (.int .i64 0):=zcr w8 _ 2 _ 28 (0,0) x1
        have z3:w8.cell? ⟨H0,3,none⟩=some (.int .u64 0):=zcr w8 _ 3 _ 28 (0,0) x1
        have z4:w8.cell? ⟨H0,4,none⟩=some (.int .u64 0):=zcr w8 _ 4 _ 28 (0,0) x1
        have z5:w8.cell? ⟨H0,5,none⟩=some (.int .u64 0):=zcr w8 _ 5 _ 28 (0,0) x1
        have z6:w8.cell? ⟨H0,6,none⟩=some (.int .u64 0):=zcr w8 _ 6 _ 28 (0,0) x1
        have z7:w8.cell? ⟨H0,7,none⟩=some (.int .i64 0):=zcr w8 _ 7 _ 28 (0,0) x1
        have z8:w8.cell? ⟨H0,8,none⟩=some (.int .i64 0):=zcr w8 _ 8 _ 28 (0,0) x1
        have z9:w8.cell? ⟨H0,9,none⟩=some (.string ⟨#[]⟩):=zcr w8 _ 9 _ 28 (0,0) x1
        have z10:w8.cell? ⟨H0,10,none⟩=some (.string ⟨#[]⟩):=zcr w8 _ 10 _ 28 (0,0) x1
        have fz:∀ i,w8.frozen? ⟨H0,i,none⟩=false:=fun i=>Lib.frozen_of_heap x1 i
        have hblk:=store_wre ezz x1
        obtain ⟨WF,hWF⟩:∃ WF,WF=wre w8 H0 ezz:=⟨_,rfl⟩
        rw [←hWF] at x2 x3 hblk
        have X2:=zh x2
        have X3:=zh x3
        have HWF:=zh hWF
        have HBK:=zh hblk
        clear x1 x2 x3 hWF hblk
        go_wp2
        have hWF2:=HWF.out
        unfold wre at hWF2
        rw [←hWF2]
        clear hWF2
        have f0:WF.cell? ⟨H0,0,none⟩=some (.int .u64 0):=zcr WF _ 0 _ 28 (0,0) HBK.out
        have f1:WF.cell? ⟨H0,1,none⟩=some (.int .u64 0):=zcr WF _ 1 _ 28 (0,0) HBK.out
        have f2:WF.cell? ⟨H0,2,none⟩=some (.int .i64 0):=zcr WF _ 2 _ 28 (0,0) HBK.out
        have f3:WF.cell? ⟨H0,3,none⟩=some (.int .u64 0):=zcr WF _ 3 _ 28 (0,0) HBK.out
        have f4:WF.cell? ⟨H0,4,none⟩=some (.int .u64 0):=zcr WF _ 4 _ 28 (0,0) HBK.out
        have f5:WF.cell? ⟨H0,5,none⟩=some (.int .u64 0):=zcr WF _ 5 _ 28 (0,0) HBK.out
        have f6:WF.cell? ⟨H0,6,none⟩=some (.int .u64 0):=zcr WF _ 6 _ 28 (0,0) HBK.out
        have f7:WF.cell? ⟨H0,7,none⟩=some (.int .i64 0):=zcr WF _ 7 _ 28 (0,0) HBK.out
        have f8:WF.cell? ⟨H0,8,none⟩=some (.int .i64 0):=zcr WF _ 8 _ 28 (0,0) HBK.out
        have f9:WF.cell? ⟨H0,9,none⟩=some (.string ⟨#[]⟩):=zcr WF _ 9 _ 28 (0,0) HBK.out
        have f10:WF.cell? ⟨H0,10,none⟩=some (.string ⟨#[]⟩):=zcr WF _ 10 _ 28 (0,0) HBK.out
        exact bodyPost_ret (v:=ev ezz) (by simp [results,Tryz.results93,go_sem,f0,f1,f2,f3,f4,f5,f6,f7,f8,f9,f10]) rfl ⟨by rw [(HG.out.1 hg0.out).1],by rw [(HG.out.1 hg0.out).2,hg0.out];exact X2.out,X3.out⟩
      | false =>
        cases rb with
        | false =>
          have HOO:Hid (false=gO s bad):=HO.out
          have hg0:Hid (gO s bad=false):=HOO.out.symm
          clear HOO
          go_wp2_with fail
          refine (tr_fail W1 g q E _ _ w5 HT5.out).mono ?_
          rintro e w8 ⟨rfl,h8⟩
          obtain ⟨x1,x2,x3⟩:=hend.out _ _ _ _ ezz h8
          have z0:w8.cell? ⟨H0,0,none⟩=some (.int .u64 0):=zcr w8 _ 0 _ 28 (0,0) x1
          have z1:w8.cell? ⟨H0,1,none⟩=some (.int .u64 0):=zcr w8 _ 1 _ 28 (0,0) x1
          have z2:w8.cell? ⟨H0,2,none⟩=some (.int .i64 0):=zcr w8 _ 2 _ 28 (0,0) x1
          have z3:w8.cell? ⟨H0,3,none⟩=some (.int .u64 0):=zcr w8 _ 3 _ 28 (0,0) x1
          have z4:w8.cell? ⟨H0,4,none⟩=some (.int .u64 0):=zcr w8 _ 4 _ 28 (0,0) x1
          have z5:w8.cell? ⟨H0,5,none⟩=some (.int .u64 0):=zcr w8 _ 5 _ 28 (0,0) x1
          have z6:w8.cell? ⟨H0,6,none⟩=some (.int .u64 0):=zcr w8 _ 6 _ 28 (0,0) x1
          have z7:w8.cell? ⟨H0,7,none⟩=some (.int .i64 0):=zcr w8 _ 7 _ 28 (0,0) x1
          have z8:w8.cell? ⟨H0,8,none⟩=some (.int .i64 0):=zcr w8 _ 8 _ 28 (0,0) x1
          have z9:w8.cell? ⟨H0,9,none⟩=some (.string ⟨#[]⟩):=zcr w8 _ 9 _ 28 (0,0) x1
          have z10:w8.cell? ⟨H0,10,none⟩=some (.string ⟨#[]⟩):=zcr w8 _ 10 _ 28 (0,0) x1
          have fz:∀ i,w8.frozen? ⟨H0,i,none⟩=false:=fun i=>Lib.frozen_of_heap x1 i
          have hblk:=store_wre ezz x1
          obtain ⟨WF,hWF⟩:∃ WF,WF=wre w8 H0 ezz:=⟨_,rfl⟩
          rw [←hWF] at x2 x3 hblk
          have X2:=zh x2
          have X3:=zh x3
          have HWF:=zh hWF
          have HBK:=zh hblk
          clear x1 x2 x3 hWF hblk
          go_wp2
          have hWF2:=HWF.out
          unfold wre at hWF2
          rw [←hWF2]
          clear hWF2
          have f0:WF.cell? ⟨H0,0,none⟩=some (.int .u64 0):=zcr WF _ 0 _ 28 (0,0) HBK.out
          have f1:WF.cell? ⟨H0,1,none⟩=some (.int .u64 0):=zcr WF _ 1 _ 28 (0,0) HBK.out
          have f2:WF.cell? ⟨H0,2,none⟩=some (.int .i64 0):=zcr WF _ 2 _ 28 (0,0) HBK.out
          have f3:WF.cell? ⟨H0,3,none⟩=some (.int .u64 0):=zcr WF _ 3 _ 28 (0,0) HBK.out
          have f4:WF.cell? ⟨H0,4,none⟩=some (.int .u64 0):=zcr WF _ 4 _ 28 (0,0) HBK.out
          have f5:WF.cell? ⟨H0,5,none⟩=some (.int .u64 0):=zcr WF _ 5 _ 28 (0,0) HBK.out
          have f6:WF.cell? ⟨H0,6,none⟩=some (.int .u64 0):=zcr WF _ 6 _ 28 (0,0) HBK.out
          have f7:WF.cell? ⟨H0,7,none⟩=some (.int .i64 0):=zcr WF _ 7 _ 28 (0,0) HBK.out
          have f8:WF.cell? ⟨H0,8,none⟩=some (.int .i64 0):=zcr WF _ 8 _ 28 (0,0) HBK.out
          have f9:WF.cell? ⟨H0,9,none⟩=some (.string ⟨#[]⟩):=zcr WF _ 9 _ 28 (0,0) HBK.out
          have f10:WF.cell? ⟨H0,10,none⟩=some (.string ⟨#[]⟩):=zcr WF _ 10 _ 28 (0,0) HBK.out
          exact bodyPost_ret (v:=ev ezz) (by simp [results,Tryz.results93,go_sem,f0,f1,f2,f3,f4,f5,f6,f7,f8,f9,f10]) rfl ⟨by rw [(HG.out.1 hg0.out).1],by rw [(HG.out.1 hg0.out).2,hg0.out];exact X2.out,X3.out⟩
        | true =>
          by_cases hle:P.size≤s.size
          ·have d1:decide ((s.size:Int)<(P.size:Int))=false:=decide_eq_false (by omega)
           have HLE:=zh hle
           have hn0:¬ ((P.size:Int)<0):=by omega
           have hn1:(P.size:Int)≤s.size:=by omega
           have hn2:¬ ((s.size:Int)<(P.size:Int)):=by omega
           clear hle
           obtain ⟨te,hte⟩:∃ te,te=((s.extract 0 P.size).toList==P.toList):=⟨_,rfl⟩
           have hte2:((s.extract 0 P.size).toList==P.toList)=te:=hte.symm
           have hte3:((s.extract 0 ((P.size:Int)).toNat).toList==P.toList)=te:=by rw [Int.toNat_natCast];exact hte2
           clear hte
           cases te with
           | false =>
             have HOO:Hid (false=gO s bad):=by refine zh ?_;have h:=HO.out;rw [hte2] at h;rw [←h];simp
             clear HO
             have hg0:Hid (gO s bad=false):=HOO.out.symm
             clear HOO
             go_wp2_with fail
             refine (tr_fail W1 g q E _ _ w5 HT5.out).mono ?_
             rintro e w8 ⟨rfl,h8⟩
             obtain ⟨x1,x2,x3⟩:=hend.out _ _ _ _ ezz h8
             have z0:w8.cell? ⟨H0,0,none⟩=some (.int .u64 0):=zcr w8 _ 0 _ 28 (0,0) x1
             have z1:w8.cell? ⟨H0,1,none⟩=some (.int .u64 0):=zcr w8 _ 1 _ 28 (0,0) x1
             have z2:w8.cell? ⟨H0,2,none⟩=some (.int .i64 0):=zcr w8 _ 2 _ 28 (0,0) x1
             have z3:w8.cell? ⟨H0,3,none⟩=some (.int .u64 0):=zcr w8 _ 3 _ 28 (0,0) x1
             have z4:w8.cell? ⟨H0,4,none⟩=some (.int .u64 0):=zcr w8 _ 4 _ 28 (0,0) x1
             have z5:w8.cell? ⟨H0,5,none⟩=some (.int .u64 0):=zcr w8 _ 5 _ 28 (0,0) x1
             have z6:w8.cell? ⟨H0,6,none⟩=some (.int .u64 0):=zcr w8 _ 6 _ 28 (0,0) x1
             have z7:w8.cell? ⟨H0,7,none⟩=some (.int .i64 0):=zcr w8 _ 7 _ 28 (0,0) x1
             have z8:w8.cell? ⟨H0,8,none⟩=some (.int .i64 0):=zcr w8 _ 8 _ 28 (0,0) x1
             have z9:w8.cell? ⟨H0,9,none⟩=some (.string ⟨#[]⟩):=zcr w8 _ 9 _ 28 (0,0) x1
             have z10:w8.cell? ⟨H0,10,none⟩=some (.string ⟨#[]⟩):=zcr w8 _ 10 _ 28 (0,0) x1
             have fz:∀ i,w8.frozen? ⟨H0,i,none⟩=false:=fun i=>Lib.frozen_of_heap x1 i
             have hblk:=store_wre ezz x1
             obtain ⟨WF,hWF⟩:∃ WF,WF=wre w8 H0 ezz:=⟨_,rfl⟩
             rw [←hWF] at x2 x3 hblk
             have X2:=zh x2
             have X3:=zh x3
             have HWF:=zh hWF
             have HBK:=zh hblk
             clear x1 x2 x3 hWF hblk
             go_wp2
             have hWF2:=HWF.out
             unfold wre at hWF2
             rw [←hWF2]
             clear hWF2
             have f0:WF.cell? ⟨H0,0,none⟩=some (.int .u64 0):=zcr WF _ 0 _ 28 (0,0) HBK.out
             have f1:WF.cell? ⟨H0,1,none⟩=some (.int .u64 0):=zcr WF _ 1 _ 28 (0,0) HBK.out
             have f2:WF.cell? ⟨H0,2,none⟩=some (.int .i64 0):=zcr WF _ 2 _ 28 (0,0) HBK.out
             have f3:WF.cell? ⟨H0,3,none⟩=some (.int .u64 0):=zcr WF _ 3 _ 28 (0,0) HBK.out
             have f4:WF.cell? ⟨H0,4,none⟩=some (.int .u64 0):=zcr WF _ 4 _ 28 (0,0) HBK.out
             have f5:WF.cell? ⟨H0,5,none⟩=some (.int .u64 0):=zcr WF _ 5 _ 28 (0,0) HBK.out
             have f6:WF.cell? ⟨H0,6,none⟩=some (.int .u64 0):=zcr WF _ 6 _ 28 (0,0) HBK.out
             have f7:WF.cell? ⟨H0,7,none⟩=some (.int .i64 0):=zcr WF _ 7 _ 28 (0,0) HBK.out
             have f8:WF.cell? ⟨H0,8,none⟩=some (.int .i64 0):=zcr WF _ 8 _ 28 (0,0) HBK.out
             have f9:WF.cell? ⟨H0,9,none⟩=some (.string ⟨#[]⟩):=zcr WF _ 9 _ 28 (0,0) HBK.out
             have f10:WF.cell? ⟨H0,10,none⟩=some (.string ⟨#[]⟩):=zcr WF _ 10 _ 28 (0,0) HBK.out
             exact bodyPost_ret (v:=ev ezz) (by simp [results,Tryz.results93,go_sem,f0,f1,f2,f3,f4,f5,f6,f7,f8,f9,f10]) rfl ⟨by rw [(HG.out.1 hg0.out).1],by rw [(HG.out.1 hg0.out).2,hg0.out];exact X2.out,X3.out⟩
           | true =>
             have hms:=HM.out
             have hsub:IntKind.i64.wrap ((s.size:Int)-(P.size:Int))=(s.size:Int)-(P.size:Int):=IntWalk.i64_in _ (by omega)
             by_cases hz:((s.size:Int)-(P.size:Int))=(T1.size:Int)
             ·have HOO:Hid (gO s bad=true):=by have h:=HO.out;rw [hte2,decide_eq_true HLE.out,decide_eq_true hz] at h;exact h.symm
              have d2:(((s.size:Int)-(P.size:Int))==(T1.size:Int))=true:=by simpa using hz
              have d3:(((s.size:Int)-(P.size:Int)) != (T1.size:Int))=false:=by simpa using hz
              clear hz
              clear HO
              have e0:w5.cell? ⟨q,0,none⟩=some (.int .u64 E.term):=zcr w5 _ 0 _ 28 (0,0) HT5.out.al
              have e1:w5.cell? ⟨q,1,none⟩=some (.int .u64 E.index):=zcr w5 _ 1 _ 28 (0,0) HT5.out.al
              have e2:w5.cell? ⟨q,2,none⟩=some (.int .i64 E.kind):=zcr w5 _ 2 _ 28 (0,0) HT5.out.al
              have e3:w5.cell? ⟨q,3,none⟩=some (.int .u64 E.client):=zcr w5 _ 3 _ 28 (0,0) HT5.out.al
              have e4:w5.cell? ⟨q,4,none⟩=some (.int .u64 E.seq):=zcr w5 _ 4 _ 28 (0,0) HT5.out.al
              have e5:w5.cell? ⟨q,5,none⟩=some (.int .u64 E.block):=zcr w5 _ 5 _ 28 (0,0) HT5.out.al
              have e6:w5.cell? ⟨q,6,none⟩=some (.int .u64 E.many):=zcr w5 _ 6 _ 28 (0,0) HT5.out.al
              have e7:w5.cell? ⟨q,7,none⟩=some (.int .i64 E.node):=zcr w5 _ 7 _ 28 (0,0) HT5.out.al
              have e8:w5.cell? ⟨q,8,none⟩=some (.int .i64 E.level):=zcr w5 _ 8 _ 28 (0,0) HT5.out.al
              have e9:w5.cell? ⟨q,9,none⟩=some (.string E.data):=zcr w5 _ 9 _ 28 (0,0) HT5.out.al
              have e10:w5.cell? ⟨q,10,none⟩=some (.string E.old):=zcr w5 _ 10 _ 28 (0,0) HT5.out.al
              obtain ⟨x1,x2,x3⟩:=hend.out _ _ _ _ E HT5.out
              have z0:w5.cell? ⟨H0,0,none⟩=some (.int .u64 0):=zcr w5 _ 0 _ 28 (0,0) x1
              have z1:w5.cell? ⟨H0,1,none⟩=some (.int .u64 0):=zcr w5 _ 1 _ 28 (0,0) x1
              have z2:w5.cell? ⟨H0,2,none⟩=some (.int .i64 0):=zcr w5 _ 2 _ 28 (0,0) x1
              have z3:w5.cell? ⟨H0,3,none⟩=some (.int .u64 0):=zcr w5 _ 3 _ 28 (0,0) x1
              have z4:w5.cell? ⟨H0,4,none⟩=some (.int .u64 0):=zcr w5 _ 4 _ 28 (0,0) x1
              have z5:w5.cell? ⟨H0,5,none⟩=some (.int .u64 0):=zcr w5 _ 5 _ 28 (0,0) x1
              have z6:w5.cell? ⟨H0,6,none⟩=some (.int .u64 0):=zcr w5 _ 6 _ 28 (0,0) x1
              have z7:w5.cell? ⟨H0,7,none⟩=some (.int .i64 0):=zcr w5 _ 7 _ 28 (0,0) x1
              have z8:w5.cell? ⟨H0,8,none⟩=some (.int .i64 0):=zcr w5 _ 8 _ 28 (0,0) x1
              have z9:w5.cell? ⟨H0,9,none⟩=some (.string ⟨#[]⟩):=zcr w5 _ 9 _ 28 (0,0) x1
              have z10:w5.cell? ⟨H0,10,none⟩=some (.string ⟨#[]⟩):=zcr w5 _ 10 _ 28 (0,0) x1
              have fz:∀ i,w5.frozen? ⟨H0,i,none⟩=false:=fun i=>Lib.frozen_of_heap x1 i
              have hblk:=store_wre E x1
              obtain ⟨WF,hWF⟩:∃ WF,WF=wre w5 H0 E:=⟨_,rfl⟩
              rw [←hWF] at x2 x3 hblk
              have X2:=zh x2
              have X3:=zh x3
              have HWF:=zh hWF
              have HBK:=zh hblk
              clear x1 x2 x3 hWF hblk
              go_wp2
              have hWF2:=HWF.out
              unfold wre at hWF2
              rw [←hWF2]
              clear hWF2
              have f0:WF.cell? ⟨H0,0,none⟩=some (.int .u64 E.term):=zcr WF _ 0 _ 28 (0,0) HBK.out
              have f1:WF.cell? ⟨H0,1,none⟩=some (.int .u64 E.index):=zcr WF _ 1 _ 28 (0,0) HBK.out
              have f2:WF.cell? ⟨H0,2,none⟩=some (.int .i64 E.kind):=zcr WF _ 2 _ 28 (0,0) HBK.out
              have f3:WF.cell? ⟨H0,3,none⟩=some (.int .u64 E.client):=zcr WF _ 3 _ 28 (0,0) HBK.out
              have f4:WF.cell? ⟨H0,4,none⟩=some (.int .u64 E.seq):=zcr WF _ 4 _ 28 (0,0) HBK.out
              have f5:WF.cell? ⟨H0,5,none⟩=some (.int .u64 E.block):=zcr WF _ 5 _ 28 (0,0) HBK.out
              have f6:WF.cell? ⟨H0,6,none⟩=some (.int .u64 E.many):=zcr WF _ 6 _ 28 (0,0) HBK.out
              have f7:WF.cell? ⟨H0,7,none⟩=some (.int .i64 E.node):=zcr WF _ 7 _ 28 (0,0) HBK.out
              have f8:WF.cell? ⟨H0,8,none⟩=some (.int .i64 E.level):=zcr WF _ 8 _ 28 (0,0) HBK.out
              have f9:WF.cell? ⟨H0,9,none⟩=some (.string E.data):=zcr WF _ 9 _ 28 (0,0) HBK.out
              have f10:WF.cell? ⟨H0,10,none⟩=some (.string E.old):=zcr WF _ 10 _ 28 (0,0) HBK.out
              exact bodyPost_ret (v:=ev E) (by simp [results,Tryz.results93,go_sem,f0,f1,f2,f3,f4,f5,f6,f7,f8,f9,f10]) rfl ⟨by rw [(HG.out.2 HOO.out).1,(HQ2.out HOO.out).1],by rw [(HG.out.2 HOO.out).2,HOO.out,←(HQ2.out HOO.out).2];exact X2.out,X3.out⟩
             ·have HOO:Hid (false=gO s bad):=by have h:=HO.out;rw [hte2,decide_eq_true HLE.out,decide_eq_false hz] at h;exact h
              have d2:(((s.size:Int)-(P.size:Int))==(T1.size:Int))=false:=by simpa using hz
              have d3:(((s.size:Int)-(P.size:Int)) != (T1.size:Int))=true:=by simpa using hz
              clear hz
              clear HO
              have hg0:Hid (gO s bad=false):=HOO.out.symm
              clear HOO
              go_wp2_with fail
              refine (tr_fail W1 g q E _ _ w5 HT5.out).mono ?_
              rintro e w8 ⟨rfl,h8⟩
              obtain ⟨x1,x2,x3⟩:=hend.out _ _ _ _ ezz h8
              have z0:w8.cell? ⟨H0,0,none⟩=some (.int .u64 0):=zcr w8 _ 0 _ 28 (0,0) x1
              have z1:w8.cell? ⟨H0,1,none⟩=some (.int .u64 0):=zcr w8 _ 1 _ 28 (0,0) x1
              have z2:w8.cell? ⟨H0,2,none⟩=some (.int .i64 0):=zcr w8 _ 2 _ 28 (0,0) x1
              have z3:w8.cell? ⟨H0,3,none⟩=some (.int .u64 0):=zcr w8 _ 3 _ 28 (0,0) x1
              have z4:w8.cell? ⟨H0,4,none⟩=some (.int .u64 0):=zcr w8 _ 4 _ 28 (0,0) x1
              have z5:w8.cell? ⟨H0,5,none⟩=some (.int .u64 0):=zcr w8 _ 5 _ 28 (0,0) x1
              have z6:w8.cell? ⟨H0,6,none⟩=some (.int .u64 0):=zcr w8 _ 6 _ 28 (0,0) x1
              have z7:w8.cell? ⟨H0,7,none⟩=some (.int .i64 0):=zcr w8 _ 7 _ 28 (0,0) x1
              have z8:w8.cell? ⟨H0,8,none⟩=some (.int .i64 0):=zcr w8 _ 8 _ 28 (0,0) x1
              have z9:w8.cell? ⟨H0,9,none⟩=some (.string ⟨#[]⟩):=zcr w8 _ 9 _ 28 (0,0) x1
              have z10:w8.cell? ⟨H0,10,none⟩=some (.string ⟨#[]⟩):=zcr w8 _ 10 _ 28 (0,0) x1
              have fz:∀ i,w8.frozen? ⟨H0,i,none⟩=false:=fun i=>Lib.frozen_of_heap x1 i
              have hblk:=store_wre ezz x1
              obtain ⟨WF,hWF⟩:∃ WF,WF=wre w8 H0 ezz:=⟨_,rfl⟩
              rw [←hWF] at x2 x3 hblk
              have X2:=zh x2
              have X3:=zh x3
              have HWF:=zh hWF
              have HBK:=zh hblk
              clear x1 x2 x3 hWF hblk
              go_wp2
              have hWF2:=HWF.out
              unfold wre at hWF2
              rw [←hWF2]
              clear hWF2
              have f0:WF.cell? ⟨H0,0,none⟩=some (.int .u64 0):=zcr WF _ 0 _ 28 (0,0) HBK.out
              have f1:WF.cell? ⟨H0,1,none⟩=some (.int .u64 0):=zcr WF _ 1 _ 28 (0,0) HBK.out
              have f2:WF.cell? ⟨H0,2,none⟩=some (.int .i64 0):=zcr WF _ 2 _ 28 (0,0) HBK.out
              have f3:WF.cell? ⟨H0,3,none⟩=some (.int .u64 0):=zcr WF _ 3 _ 28 (0,0) HBK.out
              have f4:WF.cell? ⟨H0,4,none⟩=some (.int .u64 0):=zcr WF _ 4 _ 28 (0,0) HBK.out
              have f5:WF.cell? ⟨H0,5,none⟩=some (.int .u64 0):=zcr WF _ 5 _ 28 (0,0) HBK.out
              have f6:WF.cell? ⟨H0,6,none⟩=some (.int .u64 0):=zcr WF _ 6 _ 28 (0,0) HBK.out
              have f7:WF.cell? ⟨H0,7,none⟩=some (.int .i64 0):=zcr WF _ 7 _ 28 (0,0) HBK.out
              have f8:WF.cell? ⟨H0,8,none⟩=some (.int .i64 0):=zcr WF _ 8 _ 28 (0,0) HBK.out
              have f9:WF.cell? ⟨H0,9,none⟩=some (.string ⟨#[]⟩):=zcr WF _ 9 _ 28 (0,0) HBK.out
              have f10:WF.cell? ⟨H0,10,none⟩=some (.string ⟨#[]⟩):=zcr WF _ 10 _ 28 (0,0) HBK.out
              exact bodyPost_ret (v:=ev ezz) (by simp [results,Tryz.results93,go_sem,f0,f1,f2,f3,f4,f5,f6,f7,f8,f9,f10]) rfl ⟨by rw [(HG.out.1 hg0.out).1],by rw [(HG.out.1 hg0.out).2,hg0.out];exact X2.out,X3.out⟩
          ·have d1:decide ((s.size:Int)<(P.size:Int))=true:=decide_eq_true (by omega)
           have d1n:decide (s.size<P.size)=true:=decide_eq_true (by omega)
           have HOO:Hid (false=gO s bad):=by have h:=HO.out;rw [decide_eq_false hle] at h;rw [←h];rfl
           clear HO
           have hg0:Hid (gO s bad=false):=HOO.out.symm
           clear HOO
           go_wp2_with fail
           refine (tr_fail W1 g q E _ _ w5 HT5.out).mono ?_
           rintro e w8 ⟨rfl,h8⟩
           obtain ⟨x1,x2,x3⟩:=hend.out _ _ _ _ ezz h8
           have z0:w8.cell? ⟨H0,0,none⟩=some (.int .u64 0):=zcr w8 _ 0 _ 28 (0,0) x1
           have z1:w8.cell? ⟨H0,1,none⟩=some (.int .u64 0):=zcr w8 _ 1 _ 28 (0,0) x1
           have z2:w8.cell? ⟨H0,2,none⟩=some (.int .i64 0):=zcr w8 _ 2 _ 28 (0,0) x1
           have z3:w8.cell? ⟨H0,3,none⟩=some (.int .u64 0):=zcr w8 _ 3 _ 28 (0,0) x1
           have z4:w8.cell? ⟨H0,4,none⟩=some (.int .u64 0):=zcr w8 _ 4 _ 28 (0,0) x1
           have z5:w8.cell? ⟨H0,5,none⟩=some (.int .u64 0):=zcr w8 _ 5 _ 28 (0,0) x1
           have z6:w8.cell? ⟨H0,6,none⟩=some (.int .u64 0):=zcr w8 _ 6 _ 28 (0,0) x1
           have z7:w8.cell? ⟨H0,7,none⟩=some (.int .i64 0):=zcr w8 _ 7 _ 28 (0,0) x1
           have z8:w8.cell? ⟨H0,8,none⟩=some (.int .i64 0):=zcr w8 _ 8 _ 28 (0,0) x1
           have z9:w8.cell? ⟨H0,9,none⟩=some (.string ⟨#[]⟩):=zcr w8 _ 9 _ 28 (0,0) x1
           have z10:w8.cell? ⟨H0,10,none⟩=some (.string ⟨#[]⟩):=zcr w8 _ 10 _ 28 (0,0) x1
           have fz:∀ i,w8.frozen? ⟨H0,i,none⟩=false:=fun i=>Lib.frozen_of_heap x1 i
           have hblk:=store_wre ezz x1
           obtain ⟨WF,hWF⟩:∃ WF,WF=wre w8 H0 ezz:=⟨_,rfl⟩
           rw [←hWF] at x2 x3 hblk
           have X2:=zh x2
           have X3:=zh x3
           have HWF:=zh hWF
           have HBK:=zh hblk
           clear x1 x2 x3 hWF hblk
           go_wp2
           have hWF2:=HWF.out
           unfold wre at hWF2
           rw [←hWF2]
           clear hWF2
           have f0:WF.cell? ⟨H0,0,none⟩=some (.int .u64 0):=zcr WF _ 0 _ 28 (0,0) HBK.out
           have f1:WF.cell? ⟨H0,1,none⟩=some (.int .u64 0):=zcr WF _ 1 _ 28 (0,0) HBK.out
           have f2:WF.cell? ⟨H0,2,none⟩=some (.int .i64 0):=zcr WF _ 2 _ 28 (0,0) HBK.out
           have f3:WF.cell? ⟨H0,3,none⟩=some (.int .u64 0):=zcr WF _ 3 _ 28 (0,0) HBK.out
           have f4:WF.cell? ⟨H0,4,none⟩=some (.int .u64 0):=zcr WF _ 4 _ 28 (0,0) HBK.out
           have f5:WF.cell? ⟨H0,5,none⟩=some (.int .u64 0):=zcr WF _ 5 _ 28 (0,0) HBK.out
           have f6:WF.cell? ⟨H0,6,none⟩=some (.int .u64 0):=zcr WF _ 6 _ 28 (0,0) HBK.out
           have f7:WF.cell? ⟨H0,7,none⟩=some (.int .i64 0):=zcr WF _ 7 _ 28 (0,0) HBK.out
           have f8:WF.cell? ⟨H0,8,none⟩=some (.int .i64 0):=zcr WF _ 8 _ 28 (0,0) HBK.out
           have f9:WF.cell? ⟨H0,9,none⟩=some (.string ⟨#[]⟩):=zcr WF _ 9 _ 28 (0,0) HBK.out
           have f10:WF.cell? ⟨H0,10,none⟩=some (.string ⟨#[]⟩):=zcr WF _ 10 _ 28 (0,0) HBK.out
           exact bodyPost_ret (v:=ev ezz) (by simp [results,Tryz.results93,go_sem,f0,f1,f2,f3,f4,f5,f6,f7,f8,f9,f10]) rfl ⟨by rw [(HG.out.1 hg0.out).1],by rw [(HG.out.1 hg0.out).2,hg0.out];exact X2.out,X3.out⟩
     ·have e0:((v:Int)==0)=false:=by simp;omega
      have HRR:Hid (rk fR m (fR v E T1).1 (fR v E T1).2.1 (bb||!(fR v E T1).2.2)=R):=by have h:=HPK.out;rw [if_neg hv0] at h;exact h
      have K39:Hid (∀ W,Tr W1 g q E T1 bb W→Calls Tryz.prog 122 #[.pointer (some ⟨g,0,none⟩),.pointer (some ⟨q,0,none⟩),.int .u64 v] W fun e w'=>e=.returned (.tuple #[])∧Tr W1 g q (fR v E T1).1 (fR v E T1).2.1 (bb||!(fR v E T1).2.2) w'):=by
       intro W hW
       by_cases h12:12≤v
       ·exact rtakeD_any W1 g q E T1 bb W v h12 hW
       ·rcases tag_cases (show 1≤v by omega) (show v≤11 by omega) with rfl|rfl|rfl|rfl|rfl|rfl|rfl|rfl|rfl|rfl|rfl
        ·exact rtake1_any W1 g q E T1 bb W hW
        ·exact rtake2_any W1 g q E T1 bb W hW
        ·exact rtake3_any W1 g q E T1 bb W hW
        ·exact rtake4_any W1 g q E T1 bb W hW
        ·exact rtake5_any W1 g q E T1 bb W hW
        ·exact rtake6_any W1 g q E T1 bb W hW
        ·exact rtake7_any W1 g q E T1 bb W hW
        ·exact rtake8_any W1 g q E T1 bb W hW
        ·exact rtake9_any W1 g q E T1 bb W hW
        ·exact rtake10_any W1 g q E T1 bb W hW
        ·exact rtake11_any W1 g q E T1 bb W hW
      have HOK:Hid (∀ W,Tr W1 g q E T1 bb W→(fR v E T1).1.Ok):=fun W hW=>fR_ok HE.out hW.sz
      clear HPK
      go_wp2_with fail
      refine K98.out.mono ?_
      rintro e w2 ⟨rfl,h2⟩
      have H2:=zh h2
      clear h2 K98 cg1
      go_wp2_with fail
      refine (K39.out _ H2.out).mono ?_
      rintro e w4 ⟨rfl,h4⟩
      go_wp2
      go_roundw
      case rel=>exact ⟨k+1,m,_,_,_,by omega,by go_num,HRR,h4,HOK.out _ H2.out⟩
      case measure=>simp [Go.RowKit.intOf];omega
  ·have t1:decide ((k:Int)<12)=false:=decide_eq_false (by omega)
   have hn0:n=0:=by omega
   subst hn0
   have HRR:Hid ((E,T,b)=R):=HP.out
   clear HP hT hE
   have hRo:R.1.Ok:=by rw [←HRR.out];exact HE.out
   have HQ:=zh (HEQ.out hRo)
   clear hRo
   have HQ1:Hid (rOk s (E,T,b)=gO s bad):=by have h:=HQ.out.1;rw [←HRR.out] at h;exact h
   have HQ2:Hid (gO s bad=true→E=(eR s bad).1∧T=(eR s bad).2.1):=by have h:=HQ.out.2;rw [←HRR.out] at h;exact h
   have KP:=zh (fun (W:World)=>rputE_any E W HE.out)
   have hpl:=putS_le HE.out
   obtain ⟨P,hP⟩:∃ P,P=putS_b E:=⟨_,rfl⟩
   obtain ⟨rb,hrb⟩:∃ rb,rb=rightB E:=⟨_,rfl⟩
   rw [←hP,←hrb] at KP
   rw [←hP] at hpl
   have HO:Hid ((!b&&(rb&&(decide (P.size≤s.size)&&(((s.extract 0 P.size).toList==P.toList)&&decide (((s.size:Int)-(P.size:Int))=(T.size:Int))))))=gO s bad):=by rw [hP,hrb];exact HQ1.out
   clear hP hrb HQ HQ1
   have e0:wr.cell? ⟨q,0,none⟩=some (.int .u64 E.term):=zcr wr _ 0 _ 28 (0,0) HT.out.al
   have e1:wr.cell? ⟨q,1,none⟩=some (.int .u64 E.index):=zcr wr _ 1 _ 28 (0,0) HT.out.al
   have e2:wr.cell? ⟨q,2,none⟩=some (.int .i64 E.kind):=zcr wr _ 2 _ 28 (0,0) HT.out.al
   have e3:wr.cell? ⟨q,3,none⟩=some (.int .u64 E.client):=zcr wr _ 3 _ 28 (0,0) HT.out.al
   have e4:wr.cell? ⟨q,4,none⟩=some (.int .u64 E.seq):=zcr wr _ 4 _ 28 (0,0) HT.out.al
   have e5:wr.cell? ⟨q,5,none⟩=some (.int .u64 E.block):=zcr wr _ 5 _ 28 (0,0) HT.out.al
   have e6:wr.cell? ⟨q,6,none⟩=some (.int .u64 E.many):=zcr wr _ 6 _ 28 (0,0) HT.out.al
   have e7:wr.cell? ⟨q,7,none⟩=some (.int .i64 E.node):=zcr wr _ 7 _ 28 (0,0) HT.out.al
   have e8:wr.cell? ⟨q,8,none⟩=some (.int .i64 E.level):=zcr wr _ 8 _ 28 (0,0) HT.out.al
   have e9:wr.cell? ⟨q,9,none⟩=some (.string E.data):=zcr wr _ 9 _ 28 (0,0) HT.out.al
   have e10:wr.cell? ⟨q,10,none⟩=some (.string E.old):=zcr wr _ 10 _ 28 (0,0) HT.out.al
   go_wp2_with fail
   refine (KP.out _).mono ?_
   rintro e' w5 ⟨rfl,b5⟩
   have HT5:=zh (HT.out.call b5)
   have cr1:w5.cell? ⟨g,1,none⟩=some (.bool b):=HT5.out.hr.cell1
   have cr0:w5.cell? ⟨g,0,none⟩=some (.string T):=HT5.out.hr.cell0
   clear b5 KP e0 e1 e2 e3 e4 e5 e6 e7 e8 e9 e10 HRR
   cases b with
   | true =>
     have HOO:Hid (false=gO s bad):=HO.out
     have hg0:Hid (gO s bad=false):=HOO.out.symm
     clear HOO
     go_wp2_with fail
     refine (tr_fail W1 g q E _ _ w5 HT5.out).mono ?_
     rintro e w8 ⟨rfl,h8⟩
     obtain ⟨x1,x2,x3⟩:=hend.out _ _ _ _ ezz h8
     have z0:w8.cell? ⟨H0,0,none⟩=some (.int .u64 0):=zcr w8 _ 0 _ 28 (0,0) x1
     have z1:w8.cell? ⟨H0,1,none⟩=some (.int .u64 0):=zcr w8 _ 1 _ 28 (0,0) x1
     have z2:w8.cell? ⟨H0,2,none⟩=some (.int .i64 0):=zcr w8 _ 2 _ 28 (0,0) x1
     have z3:w8.cell? ⟨H0,3,none⟩=some (.int .u64 0):=zcr w8 _ 3 _ 28 (0,0) x1
     have z4:w8.cell? ⟨H0,4,none⟩=some (.int .u64 0):=zcr w8 _ 4 _ 28 (0,0) x1
     have z5:w8.cell? ⟨H0,5,none⟩=some (.int .u64 0):=zcr w8 _ 5 _ 28 (0,0) x1
     have z6:w8.cell? ⟨H0,6,none⟩=some (.int .u64 0):=zcr w8 _ 6 _ 28 (0,0) x1
     have z7:w8.cell? ⟨H0,7,none⟩=some (.int .i64 0):=zcr w8 _ 7 _ 28 (0,0) x1
     have z8:w8.cell? ⟨H0,8,none⟩=some (.int .i64 0):=zcr w8 _ 8 _ 28 (0,0) x1
     have z9:w8.cell? ⟨H0,9,none⟩=some (.string ⟨#[]⟩):=zcr w8 _ 9 _ 28 (0,0) x1
     have z10:w8.cell? ⟨H0,10,none⟩=some (.string ⟨#[]⟩):=zcr w8 _ 10 _ 28 (0,0) x1
     have fz:∀ i,w8.frozen? ⟨H0,i,none⟩=false:=fun i=>Lib.frozen_of_heap x1 i
     have hblk:=store_wre ezz x1
     obtain ⟨WF,hWF⟩:∃ WF,WF=wre w8 H0 ezz:=⟨_,rfl⟩
     rw [←hWF] at x2 x3 hblk
     have X2:=zh x2
     have X3:=zh x3
     have HWF:=zh hWF
     have HBK:=zh hblk
     clear x1 x2 x3 hWF hblk
     go_wp2
     have hWF2:=HWF.out
     unfold wre at hWF2
     rw [←hWF2]
     clear hWF2
     have f0:WF.cell? ⟨H0,0,none⟩=some (.int .u64 0):=zcr WF _ 0 _ 28 (0,0) HBK.out
     have f1:WF.cell? ⟨H0,1,none⟩=some (.int .u64 0):=zcr WF _ 1 _ 28 (0,0) HBK.out
     have f2:WF.cell? ⟨H0,2,none⟩=some (.int .i64 0):=zcr WF _ 2 _ 28 (0,0) HBK.out
     have f3:WF.cell? ⟨H0,3,none⟩=some (.int .u64 0):=zcr WF _ 3 _ 28 (0,0) HBK.out
     have f4:WF.cell? ⟨H0,4,none⟩=some (.int .u64 0):=zcr WF _ 4 _ 28 (0,0) HBK.out
     have f5:WF.cell? ⟨H0,5,none⟩=some (.int .u64 0):=zcr WF _ 5 _ 28 (0,0) HBK.out
     have f6:WF.cell? ⟨H0,6,none⟩=some (.int .u64 0):=zcr WF _ 6 _ 28 (0,0) HBK.out
     have f7:WF.cell? ⟨H0,7,none⟩=some (.int .i64 0):=zcr WF _ 7 _ 28 (0,0) HBK.out
     have f8:WF.cell? ⟨H0,8,none⟩=some (.int .i64 0):=zcr WF _ 8 _ 28 (0,0) HBK.out
     have f9:WF.cell? ⟨H0,9,none⟩=some (.string ⟨#[]⟩):=zcr WF _ 9 _ 28 (0,0) HBK.out
     have f10:WF.cell? ⟨H0,10,none⟩=some (.string ⟨#[]⟩):=zcr WF _ 10 _ 28 (0,0) HBK.out
     exact bodyPost_ret (v:=ev ezz) (by simp [results,Tryz.results93,go_sem,f0,f1,f2,f3,f4,f5,f6,f7,f8,f9,f10]) rfl ⟨by rw [(HG.out.1 hg0.out).1],by rw [(HG.out.1 hg0.out).2,hg0.out];exact X2.out,X3.out⟩
   | false =>
     cases rb with
     | false =>
       have HOO:Hid (false=gO s bad):=HO.out
       have hg0:Hid (gO s bad=false):=HOO.out.symm
       clear HOO
       go_wp2_with fail
       refine (tr_fail W1 g q E _ _ w5 HT5.out).mono ?_
       rintro e w8 ⟨rfl,h8⟩
       obtain ⟨x1,x2,x3⟩:=hend.out _ _ _ _ ezz h8
       have z0:w8.cell? ⟨H0,0,none⟩=some (.int .u64 0):=zcr w8 _ 0 _ 28 (0,0) x1
       have z1:w8.cell? ⟨H0,1,none⟩=some (.int .u64 0):=zcr w8 _ 1 _ 28 (0,0) x1
       have z2:w8.cell? ⟨H0,2,none⟩=some (.int .i64 0):=zcr w8 _ 2 _ 28 (0,0) x1
       have z3:w8.cell? ⟨H0,3,none⟩=some (.int .u64 0):=zcr w8 _ 3 _ 28 (0,0) x1
       have z4:w8.cell? ⟨H0,4,none⟩=some (.int .u64 0):=zcr w8 _ 4 _ 28 (0,0) x1
       have z5:w8.cell? ⟨H0,5,none⟩=some (.int .u64 0):=zcr w8 _ 5 _ 28 (0,0) x1
       have z6:w8.cell? ⟨H0,6,none⟩=some (.int .u64 0):=zcr w8 _ 6 _ 28 (0,0) x1
       have z7:w8.cell? ⟨H0,7,none⟩=some (.int .i64 0):=zcr w8 _ 7 _ 28 (0,0) x1
       have z8:w8.cell? ⟨H0,8,none⟩=some (.int .i64 0):=zcr w8 _ 8 _ 28 (0,0) x1
       have z9:w8.cell? ⟨H0,9,none⟩=some (.string ⟨#[]⟩):=zcr w8 _ 9 _ 28 (0,0) x1
       have z10:w8.cell? ⟨H0,10,none⟩=some (.string ⟨#[]⟩):=zcr w8 _ 10 _ 28 (0,0) x1
       have fz:∀ i,w8.frozen? ⟨H0,i,none⟩=false:=fun i=>Lib.frozen_of_heap x1 i
       have hblk:=store_wre ezz x1
       obtain ⟨WF,hWF⟩:∃ WF,WF=wre w8 H0 ezz:=⟨_,rfl⟩
       rw [←hWF] at x2 x3 hblk
       have X2:=zh x2
       have X3:=zh x3
       have HWF:=zh hWF
       have HBK:=zh hblk
       clear x1 x2 x3 hWF hblk
       go_wp2
       have hWF2:=HWF.out
       unfold wre at hWF2
       rw [←hWF2]
       clear hWF2
       have f0:WF.cell? ⟨H0,0,none⟩=some (.int .u64 0):=zcr WF _ 0 _ 28 (0,0) HBK.out
       have f1:WF.cell? ⟨H0,1,none⟩=some (.int .u64 0):=zcr WF _ 1 _ 28 (0,0) HBK.out
       have f2:WF.cell? ⟨H0,2,none⟩=some (.int .i64 0):=zcr WF _ 2 _ 28 (0,0) HBK.out
       have f3:WF.cell? ⟨H0,3,none⟩=some (.int .u64 0):=zcr WF _ 3 _ 28 (0,0) HBK.out
       have f4:WF.cell? ⟨H0,4,none⟩=some (.int .u64 0):=zcr WF _ 4 _ 28 (0,0) HBK.out
       have f5:WF.cell? ⟨H0,5,none⟩=some (.int .u64 0):=zcr WF _ 5 _ 28 (0,0) HBK.out
       have f6:WF.cell? ⟨H0,6,none⟩=some (.int .u64 0):=zcr WF _ 6 _ 28 (0,0) HBK.out
       have f7:WF.cell? ⟨H0,7,none⟩=some (.int .i64 0):=zcr WF _ 7 _ 28 (0,0) HBK.out
       have f8:WF.cell? ⟨H0,8,none⟩=some (.int .i64 0):=zcr WF _ 8 _ 28 (0,0) HBK.out
       have f9:WF.cell? ⟨H0,9,none⟩=some (.string ⟨#[]⟩):=zcr WF _ 9 _ 28 (0,0) HBK.out
       have f10:WF.cell? ⟨H0,10,none⟩=some (.string ⟨#[]⟩):=zcr WF _ 10 _ 28 (0,0) HBK.out
       exact bodyPost_ret (v:=ev ezz) (by simp [results,Tryz.results93,go_sem,f0,f1,f2,f3,f4,f5,f6,f7,f8,f9,f10]) rfl ⟨by rw [(HG.out.1 hg0.out).1],by rw [(HG.out.1 hg0.out).2,hg0.out];exact X2.out,X3.out⟩
     | true =>
       by_cases hle:P.size≤s.size
       ·have d1:decide ((s.size:Int)<(P.size:Int))=false:=decide_eq_false (by omega)
        have HLE:=zh hle
        have hn0:¬ ((P.size:Int)<0):=by omega
        have hn1:(P.size:Int)≤s.size:=by omega
        have hn2:¬ ((s.size:Int)<(P.size:Int)):=by omega
        clear hle
        obtain ⟨te,hte⟩:∃ te,te=((s.extract 0 P.size).toList==P.toList):=⟨_,rfl⟩
        have hte2:((s.extract 0 P.size).toList==P.toList)=te:=hte.symm
        have hte3:((s.extract 0 ((P.size:Int)).toNat).toList==P.toList)=te:=by rw [Int.toNat_natCast];exact hte2
        clear hte
        cases te with
        | false =>
          have HOO:Hid (false=gO s bad):=by refine zh ?_;have h:=HO.out;rw [hte2] at h;rw [←h];simp
          clear HO
          have hg0:Hid (gO s bad=false):=HOO.out.symm
          clear HOO
          go_wp2_with fail
          refine (tr_fail W1 g q E _ _ w5 HT5.out).mono ?_
          rintro e w8 ⟨rfl,h8⟩
          obtain ⟨x1,x2,x3⟩:=hend.out _ _ _ _ ezz h8
          have z0:w8.cell? ⟨H0,0,none⟩=some (.int .u64 0):=zcr w8 _ 0 _ 28 (0,0) x1
          have z1:w8.cell? ⟨H0,1,none⟩=some (.int .u64 0):=zcr w8 _ 1 _ 28 (0,0) x1
          have z2:w8.cell? ⟨H0,2,none⟩=some (.int .i64 0):=zcr w8 _ 2 _ 28 (0,0) x1
          have z3:w8.cell? ⟨H0,3,none⟩=some (.int .u64 0):=zcr w8 _ 3 _ 28 (0,0) x1
          have z4:w8.cell? ⟨H0,4,none⟩=some (.int .u64 0):=zcr w8 _ 4 _ 28 (0,0) x1
          have z5:w8.cell? ⟨H0,5,none⟩=some (.int .u64 0):=zcr w8 _ 5 _ 28 (0,0) x1
          have z6:w8.cell? ⟨H0,6,none⟩=some (.int .u64 0):=zcr w8 _ 6 _ 28 (0,0) x1
          have z7:w8.cell? ⟨H0,7,none⟩=some (.int .i64 0):=zcr w8 _ 7 _ 28 (0,0) x1
          have z8:w8.cell? ⟨H0,8,none⟩=some (.int .i64 0):=zcr w8 _ 8 _ 28 (0,0) x1
          have z9:w8.cell? ⟨H0,9,none⟩=some (.string ⟨#[]⟩):=zcr w8 _ 9 _ 28 (0,0) x1
          have z10:w8.cell? ⟨H0,10,none⟩=some (.string ⟨#[]⟩):=zcr w8 _ 10 _ 28 (0,0) x1
          have fz:∀ i,w8.frozen? ⟨H0,i,none⟩=false:=fun i=>Lib.frozen_of_heap x1 i
          have hblk:=store_wre ezz x1
          obtain ⟨WF,hWF⟩:∃ WF,WF=wre w8 H0 ezz:=⟨_,rfl⟩
          rw [←hWF] at x2 x3 hblk
          have X2:=zh x2
          have X3:=zh x3
          have HWF:=zh hWF
          have HBK:=zh hblk
          clear x1 x2 x3 hWF hblk
          go_wp2
          have hWF2:=HWF.out
          unfold wre at hWF2
          rw [←hWF2]
          clear hWF2
          have f0:WF.cell? ⟨H0,0,none⟩=some (.int .u64 0):=zcr WF _ 0 _ 28 (0,0) HBK.out
          have f1:WF.cell? ⟨H0,1,none⟩=some (.int .u64 0):=zcr WF _ 1 _ 28 (0,0) HBK.out
          have f2:WF.cell? ⟨H0,2,none⟩=some (.int .i64 0):=zcr WF _ 2 _ 28 (0,0) HBK.out
          have f3:WF.cell? ⟨H0,3,none⟩=some (.int .u64 0):=zcr WF _ 3 _ 28 (0,0) HBK.out
          have f4:WF.cell? ⟨H0,4,none⟩=some (.int .u64 0):=zcr WF _ 4 _ 28 (0,0) HBK.out
          have f5:WF.cell? ⟨H0,5,none⟩=some (.int .u64 0):=zcr WF _ 5 _ 28 (0,0) HBK.out
          have f6:WF.cell? ⟨H0,6,none⟩=some (.int .u64 0):=zcr WF _ 6 _ 28 (0,0) HBK.out
          have f7:WF.cell? ⟨H0,7,none⟩=some (.int .i64 0):=zcr WF _ 7 _ 28 (0,0) HBK.out
          have f8:WF.cell? ⟨H0,8,none⟩=some (.int .i64 0):=zcr WF _ 8 _ 28 (0,0) HBK.out
          have f9:WF.cell? ⟨H0,9,none⟩=some (.string ⟨#[]⟩):=zcr WF _ 9 _ 28 (0,0) HBK.out
          have f10:WF.cell? ⟨H0,10,none⟩=some (.string ⟨#[]⟩):=zcr WF _ 10 _ 28 (0,0) HBK.out
          exact bodyPost_ret (v:=ev ezz) (by simp [results,Tryz.results93,go_sem,f0,f1,f2,f3,f4,f5,f6,f7,f8,f9,f10]) rfl ⟨by rw [(HG.out.1 hg0.out).1],by rw [(HG.out.1 hg0.out).2,hg0.out];exact X2.out,X3.out⟩
        | true =>
          have hms:=HM.out
          have hsub:IntKind.i64.wrap ((s.size:Int)-(P.size:Int))=(s.size:Int)-(P.size:Int):=IntWalk.i64_in _ (by omega)
          by_cases hz:((s.size:Int)-(P.size:Int))=(T.size:Int)
          ·have HOO:Hid (gO s bad=true):=by have h:=HO.out;rw [hte2,decide_eq_true HLE.out,decide_eq_true hz] at h;exact h.symm
           have d2:(((s.size:Int)-(P.size:Int))==(T.size:Int))=true:=by simpa using hz
           have d3:(((s.size:Int)-(P.size:Int)) != (T.size:Int))=false:=by simpa using hz
           clear hz
           clear HO
           have e0:w5.cell? ⟨q,0,none⟩=some (.int .u64 E.term):=zcr w5 _ 0 _ 28 (0,0) HT5.out.al
           have e1:w5.cell? ⟨q,1,none⟩=some (.int .u64 E.index):=zcr w5 _ 1 _ 28 (0,0) HT5.out.al
           have e2:w5.cell? ⟨q,2,none⟩=some (.int .i64 E.kind):=zcr w5 _ 2 _ 28 (0,0) HT5.out.al
           have e3:w5.cell? ⟨q,3,none⟩=some (.int .u64 E.client):=zcr w5 _ 3 _ 28 (0,0) HT5.out.al
           have e4:w5.cell? ⟨q,4,none⟩=some (.int .u64 E.seq):=zcr w5 _ 4 _ 28 (0,0) HT5.out.al
           have e5:w5.cell? ⟨q,5,none⟩=some (.int .u64 E.block):=zcr w5 _ 5 _ 28 (0,0) HT5.out.al
           have e6:w5.cell? ⟨q,6,none⟩=some (.int .u64 E.many):=zcr w5 _ 6 _ 28 (0,0) HT5.out.al
           have e7:w5.cell? ⟨q,7,none⟩=some (.int .i64 E.node):=zcr w5 _ 7 _ 28 (0,0) HT5.out.al
           have e8:w5.cell? ⟨q,8,none⟩=some (.int .i64 E.level):=zcr w5 _ 8 _ 28 (0,0) HT5.out.al
           have e9:w5.cell? ⟨q,9,none⟩=some (.string E.data):=zcr w5 _ 9 _ 28 (0,0) HT5.out.al
           have e10:w5.cell? ⟨q,10,none⟩=some (.string E.old):=zcr w5 _ 10 _ 28 (0,0) HT5.out.al
           obtain ⟨x1,x2,x3⟩:=hend.out _ _ _ _ E HT5.out
           have z0:w5.cell? ⟨H0,0,none⟩=some (.int .u64 0):=zcr w5 _ 0 _ 28 (0,0) x1
           have z1:w5.cell? ⟨H0,1,none⟩=some (.int .u64 0):=zcr w5 _ 1 _ 28 (0,0) x1
           have z2:w5.cell? ⟨H0,2,none⟩=some (.int .i64 0):=zcr w5 _ 2 _ 28 (0,0) x1
           have z3:w5.cell? ⟨H0,3,none⟩=some (.int .u64 0):=zcr w5 _ 3 _ 28 (0,0) x1
           have z4:w5.cell? ⟨H0,4,none⟩=some (.int .u64 0):=zcr w5 _ 4 _ 28 (0,0) x1
           have z5:w5.cell? ⟨H0,5,none⟩=some (.int .u64 0):=zcr w5 _ 5 _ 28 (0,0) x1
           have z6:w5.cell? ⟨H0,6,none⟩=some (.int .u64 0):=zcr w5 _ 6 _ 28 (0,0) x1
           have z7:w5.cell? ⟨H0,7,none⟩=some (.int .i64 0):=zcr w5 _ 7 _ 28 (0,0) x1
           have z8:w5.cell? ⟨H0,8,none⟩=some (.int .i64 0):=zcr w5 _ 8 _ 28 (0,0) x1
           have z9:w5.cell? ⟨H0,9,none⟩=some (.string ⟨#[]⟩):=zcr w5 _ 9 _ 28 (0,0) x1
           have z10:w5.cell? ⟨H0,10,none⟩=some (.string ⟨#[]⟩):=zcr w5 _ 10 _ 28 (0,0) x1
           have fz:∀ i,w5.frozen? ⟨H0,i,none⟩=false:=fun i=>Lib.frozen_of_heap x1 i
           have hblk:=store_wre E x1
           obtain ⟨WF,hWF⟩:∃ WF,WF=wre w5 H0 E:=⟨_,rfl⟩
           rw [←hWF] at x2 x3 hblk
           have X2:=zh x2
           have X3:=zh x3
           have HWF:=zh hWF
           have HBK:=zh hblk
           clear x1 x2 x3 hWF hblk
           go_wp2
           have hWF2:=HWF.out
           unfold wre at hWF2
           rw [←hWF2]
           clear hWF2
           have f0:WF.cell? ⟨H0,0,none⟩=some (.int .u64 E.term):=zcr WF _ 0 _ 28 (0,0) HBK.out
           have f1:WF.cell? ⟨H0,1,none⟩=some (.int .u64 E.index):=zcr WF _ 1 _ 28 (0,0) HBK.out
           have f2:WF.cell? ⟨H0,2,none⟩=some (.int .i64 E.kind):=zcr WF _ 2 _ 28 (0,0) HBK.out
           have f3:WF.cell? ⟨H0,3,none⟩=some (.int .u64 E.client):=zcr WF _ 3 _ 28 (0,0) HBK.out
           have f4:WF.cell? ⟨H0,4,none⟩=some (.int .u64 E.seq):=zcr WF _ 4 _ 28 (0,0) HBK.out
           have f5:WF.cell? ⟨H0,5,none⟩=some (.int .u64 E.block):=zcr WF _ 5 _ 28 (0,0) HBK.out
           have f6:WF.cell? ⟨H0,6,none⟩=some (.int .u64 E.many):=zcr WF _ 6 _ 28 (0,0) HBK.out
           have f7:WF.cell? ⟨H0,7,none⟩=some (.int .i64 E.node):=zcr WF _ 7 _ 28 (0,0) HBK.out
           have f8:WF.cell? ⟨H0,8,none⟩=some (.int .i64 E.level):=zcr WF _ 8 _ 28 (0,0) HBK.out
           have f9:WF.cell? ⟨H0,9,none⟩=some (.string E.data):=zcr WF _ 9 _ 28 (0,0) HBK.out
           have f10:WF.cell? ⟨H0,10,none⟩=some (.string E.old):=zcr WF _ 10 _ 28 (0,0) HBK.out
           exact bodyPost_ret (v:=ev E) (by simp [results,Tryz.results93,go_sem,f0,f1,f2,f3,f4,f5,f6,f7,f8,f9,f10]) rfl ⟨by rw [(HG.out.2 HOO.out).1,(HQ2.out HOO.out).1],by rw [(HG.out.2 HOO.out).2,HOO.out,←(HQ2.out HOO.out).2];exact X2.out,X3.out⟩
          ·have HOO:Hid (false=gO s bad):=by have h:=HO.out;rw [hte2,decide_eq_true HLE.out,decide_eq_false hz] at h;exact h
           have d2:(((s.size:Int)-(P.size:Int))==(T.size:Int))=false:=by simpa using hz
           have d3:(((s.size:Int)-(P.size:Int)) != (T.size:Int))=true:=by simpa using hz
           clear hz
           clear HO
           have hg0:Hid (gO s bad=false):=HOO.out.symm
           clear HOO
           go_wp2_with fail
           refine (tr_fail W1 g q E _ _ w5 HT5.out).mono ?_
           rintro e w8 ⟨rfl,h8⟩
           obtain ⟨x1,x2,x3⟩:=hend.out _ _ _ _ ezz h8
           have z0:w8.cell? ⟨H0,0,none⟩=some (.int .u64 0):=zcr w8 _ 0 _ 28 (0,0) x1
           have z1:w8.cell? ⟨H0,1,none⟩=some (.int .u64 0):=zcr w8 _ 1 _ 28 (0,0) x1
           have z2:w8.cell? ⟨H0,2,none⟩=some (.int .i64 0):=zcr w8 _ 2 _ 28 (0,0) x1
           have z3:w8.cell? ⟨H0,3,none⟩=some (.int .u64 0):=zcr w8 _ 3 _ 28 (0,0) x1
           have z4:w8.cell? ⟨H0,4,none⟩=some (.int .u64 0):=zcr w8 _ 4 _ 28 (0,0) x1
           have z5:w8.cell? ⟨H0,5,none⟩=some (.int .u64 0):=zcr w8 _ 5 _ 28 (0,0) x1
           have z6:w8.cell? ⟨H0,6,none⟩=some (.int .u64 0):=zcr w8 _ 6 _ 28 (0,0) x1
           have z7:w8.cell? ⟨H0,7,none⟩=some (.int .i64 0):=zcr w8 _ 7 _ 28 (0,0) x1
           have z8:w8.cell? ⟨H0,8,none⟩=some (.int .i64 0):=zcr w8 _ 8 _ 28 (0,0) x1
           have z9:w8.cell? ⟨H0,9,none⟩=some (.string ⟨#[]⟩):=zcr w8 _ 9 _ 28 (0,0) x1
           have z10:w8.cell? ⟨H0,10,none⟩=some (.string ⟨#[]⟩):=zcr w8 _ 10 _ 28 (0,0) x1
           have fz:∀ i,w8.frozen? ⟨H0,i,none⟩=false:=fun i=>Lib.frozen_of_heap x1 i
           have hblk:=store_wre ezz x1
           obtain ⟨WF,hWF⟩:∃ WF,WF=wre w8 H0 ezz:=⟨_,rfl⟩
           rw [←hWF] at x2 x3 hblk
           have X2:=zh x2
           have X3:=zh x3
           have HWF:=zh hWF
           have HBK:=zh hblk
           clear x1 x2 x3 hWF hblk
           go_wp2
           have hWF2:=HWF.out
           unfold wre at hWF2
           rw [←hWF2]
           clear hWF2
           have f0:WF.cell? ⟨H0,0,none⟩=some (.int .u64 0):=zcr WF _ 0 _ 28 (0,0) HBK.out
           have f1:WF.cell? ⟨H0,1,none⟩=some (.int .u64 0):=zcr WF _ 1 _ 28 (0,0) HBK.out
           have f2:WF.cell? ⟨H0,2,none⟩=some (.int .i64 0):=zcr WF _ 2 _ 28 (0,0) HBK.out
           have f3:WF.cell? ⟨H0,3,none⟩=some (.int .u64 0):=zcr WF _ 3 _ 28 (0,0) HBK.out
           have f4:WF.cell? ⟨H0,4,none⟩=some (.int .u64 0):=zcr WF _ 4 _ 28 (0,0) HBK.out
           have f5:WF.cell? ⟨H0,5,none⟩=some (.int .u64 0):=zcr WF _ 5 _ 28 (0,0) HBK.out
           have f6:WF.cell? ⟨H0,6,none⟩=some (.int .u64 0):=zcr WF _ 6 _ 28 (0,0) HBK.out
           have f7:WF.cell? ⟨H0,7,none⟩=some (.int .i64 0):=zcr WF _ 7 _ 28 (0,0) HBK.out
           have f8:WF.cell? ⟨H0,8,none⟩=some (.int .i64 0):=zcr WF _ 8 _ 28 (0,0) HBK.out
           have f9:WF.cell? ⟨H0,9,none⟩=some (.string ⟨#[]⟩):=zcr WF _ 9 _ 28 (0,0) HBK.out
           have f10:WF.cell? ⟨H0,10,none⟩=some (.string ⟨#[]⟩):=zcr WF _ 10 _ 28 (0,0) HBK.out
           exact bodyPost_ret (v:=ev ezz) (by simp [results,Tryz.results93,go_sem,f0,f1,f2,f3,f4,f5,f6,f7,f8,f9,f10]) rfl ⟨by rw [(HG.out.1 hg0.out).1],by rw [(HG.out.1 hg0.out).2,hg0.out];exact X2.out,X3.out⟩
       ·have d1:decide ((s.size:Int)<(P.size:Int))=true:=decide_eq_true (by omega)
        have d1n:decide (s.size<P.size)=true:=decide_eq_true (by omega)
        have HOO:Hid (false=gO s bad):=by have h:=HO.out;rw [decide_eq_false hle] at h;rw [←h];rfl
        clear HO
        have hg0:Hid (gO s bad=false):=HOO.out.symm
        clear HOO
        go_wp2_with fail
        refine (tr_fail W1 g q E _ _ w5 HT5.out).mono ?_
        rintro e w8 ⟨rfl,h8⟩
        obtain ⟨x1,x2,x3⟩:=hend.out _ _ _ _ ezz h8
        have z0:w8.cell? ⟨H0,0,none⟩=some (.int .u64 0):=zcr w8 _ 0 _ 28 (0,0) x1
        have z1:w8.cell? ⟨H0,1,none⟩=some (.int .u64 0):=zcr w8 _ 1 _ 28 (0,0) x1
        have z2:w8.cell? ⟨H0,2,none⟩=some (.int .i64 0):=zcr w8 _ 2 _ 28 (0,0) x1
        have z3:w8.cell? ⟨H0,3,none⟩=some (.int .u64 0):=zcr w8 _ 3 _ 28 (0,0) x1
        have z4:w8.cell? ⟨H0,4,none⟩=some (.int .u64 0):=zcr w8 _ 4 _ 28 (0,0) x1
        have z5:w8.cell? ⟨H0,5,none⟩=some (.int .u64 0):=zcr w8 _ 5 _ 28 (0,0) x1
        have z6:w8.cell? ⟨H0,6,none⟩=some (.int .u64 0):=zcr w8 _ 6 _ 28 (0,0) x1
        have z7:w8.cell? ⟨H0,7,none⟩=some (.int .i64 0):=zcr w8 _ 7 _ 28 (0,0) x1
        have z8:w8.cell? ⟨H0,8,none⟩=some (.int .i64 0):=zcr w8 _ 8 _ 28 (0,0) x1
        have z9:w8.cell? ⟨H0,9,none⟩=some (.string ⟨#[]⟩):=zcr w8 _ 9 _ 28 (0,0) x1
        have z10:w8.cell? ⟨H0,10,none⟩=some (.string ⟨#[]⟩):=zcr w8 _ 10 _ 28 (0,0) x1
        have fz:∀ i,w8.frozen? ⟨H0,i,none⟩=false:=fun i=>Lib.frozen_of_heap x1 i
        have hblk:=store_wre ezz x1
        obtain ⟨WF,hWF⟩:∃ WF,WF=wre w8 H0 ezz:=⟨_,rfl⟩
        rw [←hWF] at x2 x3 hblk
        have X2:=zh x2
        have X3:=zh x3
        have HWF:=zh hWF
        have HBK:=zh hblk
        clear x1 x2 x3 hWF hblk
        go_wp2
        have hWF2:=HWF.out
        unfold wre at hWF2
        rw [←hWF2]
        clear hWF2
        have f0:WF.cell? ⟨H0,0,none⟩=some (.int .u64 0):=zcr WF _ 0 _ 28 (0,0) HBK.out
        have f1:WF.cell? ⟨H0,1,none⟩=some (.int .u64 0):=zcr WF _ 1 _ 28 (0,0) HBK.out
        have f2:WF.cell? ⟨H0,2,none⟩=some (.int .i64 0):=zcr WF _ 2 _ 28 (0,0) HBK.out
        have f3:WF.cell? ⟨H0,3,none⟩=some (.int .u64 0):=zcr WF _ 3 _ 28 (0,0) HBK.out
        have f4:WF.cell? ⟨H0,4,none⟩=some (.int .u64 0):=zcr WF _ 4 _ 28 (0,0) HBK.out
        have f5:WF.cell? ⟨H0,5,none⟩=some (.int .u64 0):=zcr WF _ 5 _ 28 (0,0) HBK.out
        have f6:WF.cell? ⟨H0,6,none⟩=some (.int .u64 0):=zcr WF _ 6 _ 28 (0,0) HBK.out
        have f7:WF.cell? ⟨H0,7,none⟩=some (.int .i64 0):=zcr WF _ 7 _ 28 (0,0) HBK.out
        have f8:WF.cell? ⟨H0,8,none⟩=some (.int .i64 0):=zcr WF _ 8 _ 28 (0,0) HBK.out
        have f9:WF.cell? ⟨H0,9,none⟩=some (.string ⟨#[]⟩):=zcr WF _ 9 _ 28 (0,0) HBK.out
        have f10:WF.cell? ⟨H0,10,none⟩=some (.string ⟨#[]⟩):=zcr WF _ 10 _ 28 (0,0) HBK.out
        exact bodyPost_ret (v:=ev ezz) (by simp [results,Tryz.results93,go_sem,f0,f1,f2,f3,f4,f5,f6,f7,f8,f9,f10]) rfl ⟨by rw [(HG.out.1 hg0.out).1],by rw [(HG.out.1 hg0.out).2,hg0.out];exact X2.out,X3.out⟩
end Go.Proofs.YtnobeoppffoomaaGreat.D
