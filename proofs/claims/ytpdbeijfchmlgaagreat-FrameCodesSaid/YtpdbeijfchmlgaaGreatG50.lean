/-
  FrameCodes: part G50.
  Conditions: named in each theorem.
-/
import Derived.Deep.CutRange
import Derived.Test.YtpdbeijfchmlgaaGreatZ0
import Derived.Test.YtpdbeijfchmlgaaGreatG38
import Derived.Test.YtpdbeijfchmlgaaGreatG39
set_option linter.unusedVariables false
set_option linter.unusedSimpArgs false
set_option maxHeartbeats 16000000
set_option maxRecDepth 100000
namespace Go.Proofs.YtpdbeijfchmlgaaGreat.D
open Go.RowKit
open Vi
theorem right_at (X:Mp) (A:Option Addr) (c:Nat):mrightB (X.at_ A c)=mrightB (X.at_ none 0):=rfl
def gok (s:ByteArray):Bool:=!(mRd s false).2.2&&(decide ((mRd s false).2.1.size=0)&&mrightB ((mRd s false).1.at_ none 0))
def mPrs (s:ByteArray) (A:Option Addr) (c:Nat):Ms:=(mRd s false).1.at_ A c
def GMsg (s:ByteArray) (w:World) (q:Ending) (w':World):Prop :=
 ∃ M:Ms,q=.returned (.tuple #[mv M,.bool (gok s)])∧Ents w'.heap.size M.A M.n M.es w'∧M.Wide∧Below w.heap.size w w'∧(gok s=true→∃ A c,M=mPrs s A c)∧(gok s=false→M=mzz)
theorem mzz_wide:mzz.Wide:=by
 constructor<;>first|decide|(intro e he;cases he)
theorem gmsg_no {s:ByteArray} {w w':World} (h:gok s=false) (hb:Below w.heap.size w w'):GMsg s w (.returned (.tuple #[mv mzz,.bool false])) w' :=
 ⟨mzz,by rw [h],⟨rfl,fun i e he=>(by cases i<;>cases he)⟩,mzz_wide,hb,fun h2=>(by rw [h] at h2;cases h2),fun _=>rfl⟩
theorem size_wrm (w:World) (g:Nat) (M:Ms):(wrm w g M).heap.size=w.heap.size:=by
 simp [World.setCell]
theorem ents_wrm2 {w:World} {g B n:Nat} {A:Option Addr} {es:List En} (M:Ms) (h:Ents B A n es w) (hA:∀ a,A=some a→a.block≠g):Ents B A n es (wrm w g M) :=
 ⟨h.len,fun i e he=>by
  obtain ⟨a,h1,h2,h3⟩:=h.at_ i e he;refine ⟨a,h1,h2,fun j hj=>?_⟩;rw [←h3 j hj];exact World.cell?_of_block (heap_wrm w g _ M (by rw [block_of_add,block_of_add];exact hA a h1))⟩
theorem getMsg_any (s:ByteArray) (w:World) (hm:s.size≤140737488351232):Calls Tryz.prog 47 #[.string s] w (GMsg s w):=by
 obtain ⟨W0,hW0⟩:∃ W0,W0=w.alloc (Obj.cells (mc mzz) 29):=⟨_,rfl⟩;have k0:W0.heap[w.heap.size]?=some (.cells (mc mzz) 29 (0,0)):=by rw [hW0];exact heap_alloc_new w _
 have b0:Below w.heap.size w W0:=by rw [hW0];exact zba
 have s0:W0.heap.size=w.heap.size+1:=by rw [hW0];simp
 have KN:=zh (new2 s W0);have K42:=zh (fun (W:World)=>mfields_any2 W);have KR:=zh (fun (fb g:Nat) (W:World) (hF:MFlds fb W) (h:Rd 178 g s false W)=>takeM_any fb g s W hF h hm);have HM:=zh hm;have HW0:=zh hW0;have HK0:=zh k0;have HB0:=zh b0;have HS0:=zh s0;clear hW0 k0 b0 s0 hm
 go_enter Tryz.func47,Tryz.ntmps47
 go_wp2_with fail
 rw [←HW0.out];refine KN.out.mono ?_;rintro q w1 ⟨rfl,R1,b1,s1⟩;have HR1:=zh R1;have HK1:Hid (w1.heap[w.heap.size]?=some (.cells (mc mzz) 29 (0,0))):=(b1.block _ (by have:=HS0.out;omega)).trans HK0.out;have HB1:Hid (Below w.heap.size w w1):=HB0.out.trans (b1.mono HB0.out.size);clear R1 b1 s1
 go_wp2_with fail
 refine (K42.out w1).mono ?_;rintro q w1' ⟨fb,rfl,F1',b1'⟩;have HR1':Hid (Rd 178 W0.heap.size s false w1'):=HR1.out.below b1' HR1.out.lt;have HK1':Hid (w1'.heap[w.heap.size]?=some (.cells (mc mzz) 29 (0,0))):=(b1'.block _ (zgx HK1.out)).trans HK1.out;have HB1':Hid (Below w.heap.size w w1'):=HB1.out.trans (b1'.mono HB1.out.size);clear b1' HB1 HK1 HR1;have HB1:=HB1';have HK1:=HK1';have HR1:=HR1';clear HB1' HK1' HR1'
 go_wp2_with fail
 refine (KR.out fb _ w1' F1' HR1.out).mono ?_;rintro q w2 ⟨A,c,rfl,hE,R2,g2,wd2,n2,hLo⟩;have HLO:Hid (∀ a,A=some a→a.block≠w.heap.size):=fun a ha=>by have h1:=hLo a ha;have h2:=HB1.out.size;have h3:=(zgx HK1.out);omega
 have hW1:w.heap.size<W0.heap.size:=by have:=HS0.out;omega
 have HK2:Hid (w2.heap[w.heap.size]?=some (.cells (mc mzz) 29 (0,0))):=(g2.block _ (zgx HK1.out) (by simp;omega)).trans HK1.out;have HB2:Hid (Below w.heap.size w w2):=HB1.out.grown g2 HB1.out.size (fun k hk=>by injection hk with hk;omega);obtain ⟨M,hMe⟩:∃ M,M=(mRd s false).1.at_ A c:=⟨_,rfl⟩;have HPR:Hid (M=mPrs s A c):=hMe;have HWD:Hid M.Wide:=by show Ms.Wide _;rw [hMe];exact wide_at wd2 A c (by omega)
 have HP:Hid (M.A=A∧M.n=(mRd s false).1.es.length∧M.es=(mRd s false).1.es):=by show _∧_;rw [hMe];exact ⟨rfl,rfl,rfl⟩
 obtain ⟨bf,hbf⟩:∃ bf,bf=(mRd s false).2.2:=⟨_,rfl⟩;obtain ⟨st,hst⟩:∃ st,st=(mRd s false).2.1:=⟨_,rfl⟩;have HG:gok s=((!bf&&decide (st.size=0))&&mrightB M):=by unfold gok;rw [hbf,hst,hMe,right_at _ A c,Bool.and_assoc]
 have HY:Hid (∀ W,Below w.heap.size w W→Ents W.heap.size A (mRd s false).1.es.length (mRd s false).1.es W→gok s=true→GMsg s w (.returned (.tuple #[mv M,.bool true])) W):=fun W hb he hk=>⟨M,by rw [hk],by rw [HP.out.1,HP.out.2.1,HP.out.2.2];exact he,HWD.out,hb,fun _=>⟨A,c,HPR.out⟩,fun h2=>by rw [hk] at h2;cases h2⟩;rw [←hMe];rw [←hbf,←hst] at R2;have HGG:=zh HG;obtain ⟨W2,hW2⟩:∃ W2,W2=w2.alloc (Obj.cells (mc M) 29):=⟨_,rfl⟩;have bb:Below w2.heap.size w2 W2:=by rw [hW2];exact zba
 have HR3:Hid (Rd 178 W0.heap.size st bf W2):=R2.below bb R2.lt;have HK3:Hid (W2.heap[w.heap.size]?=some (.cells (mc mzz) 29 (0,0))):=(bb.block _ (zgx HK2.out)).trans HK2.out;have HKM:Hid (W2.heap[w2.heap.size]?=some (.cells (mc M) 29 (0,0))):=by show _=_;rw [hW2];exact heap_alloc_new w2 _
 have HB3:Hid (Below w.heap.size w W2):=HB2.out.trans (bb.mono HB2.out.size);have HE3:Hid (Ents W2.heap.size A (mRd s false).1.es.length (mRd s false).1.es W2):=(hE.below bb).mr bb.size;have HL2:Hid (w2.heap.size<W2.heap.size):=(zgx HKM.out);have HW2:=zh hW2;have KO:=zh (ok2 _ _ _ _ HR3.out);have KL:=zh (left2 _ _ _ _ HR3.out);have KM:Hid (Calls Tryz.prog 50 #[mv M] W2 fun q w'=>q=.returned (.bool (mrightB M))∧Below W2.heap.size W2 w'):=mright_any M W2 (by rw [HP.out.1,HP.out.2.1,HP.out.2.2];exact HE3.out) HWD.out.n1 HWD.out.eo;clear hE hLo R2 g2 hW1 HG hMe hbf hst hW2 bb KR KN HR1 HK1 HB1 HK2 HB2
 cases bf with
 | true =>
   have hk:gok s=false:=by rw [HGG.out];rfl
   obtain ⟨z0,z1,z2,z3,z4,z5,z6,z7,z8,z9,z10⟩:=zmzl (w:=W2) (b:=w.heap.size) HK3.out;have fz:∀ i,W2.frozen? ⟨w.heap.size,i,none⟩=false:=fun i=>Md.of HK3.out
   go_wp2_with fail
   rw [←HW2.out];refine KO.out.mono ?_;rintro q w3 ⟨rfl,rfl⟩;go_wp2;obtain ⟨WF,hWF⟩:∃ WF,WF=wrm W2 w.heap.size mzz:=⟨_,rfl⟩;have hblk:WF.heap[w.heap.size]?=some (.cells (mc mzz) 29 (0,0)):=by rw [hWF];exact store_allm mzz HK3.out
   have hbF:Below w.heap.size w WF:=by rw [hWF];exact below_allm mzz HB3.out (Nat.le_refl _)
   unfold wrm at hWF;rw [←hWF];have hWF2:=zh hWF;clear hWF;obtain ⟨f0,f1,f2,f3,f4,f5,f6,f7,f8,f9,f10⟩:=zmzl (w:=WF) (b:=w.heap.size) hblk;exact bodyPost_ret (v:=.tuple #[mv mzz,.bool false]) (by simp [results,Tryz.results47,go_sem,f0,f1,f2,f3,f4,f5,f6,f7,f8,f9,f10]) rfl (gmsg_no hk hbF)
 | false =>
   by_cases hz:st.size=0
   ·have hd:decide (0<(st.size:Int))=false:=decide_eq_false (by omega);have hd2:¬ 0<st.size:=by omega
    have hkk:gok s=mrightB M:=by rw [HGG.out,decide_eq_true hz];rfl
    have HKK:=zh hkk;obtain ⟨mb,hmb⟩:∃ mb,mb=mrightB M:=⟨_,rfl⟩;rw [←hmb] at KM HKK;clear hkk hmb;obtain ⟨m0,m1,m2,m3,m4,m5,m6,m7,m8,m9,m10⟩:=zmcl (w:=W2) (b:=w2.heap.size) (e:=M) HKM.out
    go_wp2_with fail
    rw [←HW2.out];refine KO.out.mono ?_;rintro q w3 ⟨rfl,rfl⟩
    go_wp2_with fail
    refine KL.out.mono ?_;rintro q w3 ⟨rfl,rfl⟩
    cases mb with
    | true =>
      go_wp2_with fail
      refine KM.out.mono ?_;rintro q w4 ⟨rfl,b4⟩;have HK4:Hid (w4.heap[w.heap.size]?=some (.cells (mc mzz) 29 (0,0))):=(b4.block _ (zgx HK3.out)).trans HK3.out;have HM4:Hid (w4.heap[w2.heap.size]?=some (.cells (mc M) 29 (0,0))):=(b4.block _ HL2.out).trans HKM.out;have HB4:Hid (Below w.heap.size w w4):=HB3.out.trans (b4.mono HB3.out.size);have HE4:Hid (Ents w4.heap.size A (mRd s false).1.es.length (mRd s false).1.es w4):=(HE3.out.below b4).mr b4.size;clear b4 m0 m1 m2 m3 m4 m5 m6 m7 m8 m9 m10;obtain ⟨z0,z1,z2,z3,z4,z5,z6,z7,z8,z9,z10⟩:=zmzl (w:=w4) (b:=w.heap.size) HK4.out;have fz:∀ i,w4.frozen? ⟨w.heap.size,i,none⟩=false:=fun i=>Md.of HK4.out;obtain ⟨m0,m1,m2,m3,m4,m5,m6,m7,m8,m9,m10⟩:=zmcl (w:=w4) (b:=w2.heap.size) (e:=M) HM4.out;go_wp2;obtain ⟨WF,hWF⟩:∃ WF,WF=wrm w4 w.heap.size M:=⟨_,rfl⟩;have hblk:WF.heap[w.heap.size]?=some (.cells (mc M) 29 (0,0)):=by rw [hWF];exact store_allm M HK4.out
      have hbF:Below w.heap.size w WF:=by rw [hWF];exact below_allm M HB4.out (Nat.le_refl _)
      unfold wrm at hWF;rw [←hWF];have hWF2:=zh hWF;clear hWF;obtain ⟨f0,f1,f2,f3,f4,f5,f6,f7,f8,f9,f10⟩:=zmcl (w:=WF) (b:=w.heap.size) (e:=M) hblk;exact bodyPost_ret (v:=.tuple #[mv M,.bool true]) (by simp [results,Tryz.results47,go_sem,f0,f1,f2,f3,f4,f5,f6,f7,f8,f9,f10]) rfl (HY.out _ hbF (by have hq:=ents_wrm2 (g:=w.heap.size) M HE4.out HLO.out;have hz:=size_wrm w4 w.heap.size M;rw [←hz] at hq;unfold wrm at hq;rw [←hWF2.out] at hq;exact hq) HKK.out)
    | false =>
      go_wp2_with fail
      refine KM.out.mono ?_;rintro q w4 ⟨rfl,b4⟩;have HK4:Hid (w4.heap[w.heap.size]?=some (.cells (mc mzz) 29 (0,0))):=(b4.block _ (zgx HK3.out)).trans HK3.out;have HB4:Hid (Below w.heap.size w w4):=HB3.out.trans (b4.mono HB3.out.size);clear b4 m0 m1 m2 m3 m4 m5 m6 m7 m8 m9 m10;obtain ⟨z0,z1,z2,z3,z4,z5,z6,z7,z8,z9,z10⟩:=zmzl (w:=w4) (b:=w.heap.size) HK4.out;have fz:∀ i,w4.frozen? ⟨w.heap.size,i,none⟩=false:=fun i=>Md.of HK4.out;go_wp2;obtain ⟨WF,hWF⟩:∃ WF,WF=wrm w4 w.heap.size mzz:=⟨_,rfl⟩;have hblk:WF.heap[w.heap.size]?=some (.cells (mc mzz) 29 (0,0)):=by rw [hWF];exact store_allm mzz HK4.out
      have hbF:Below w.heap.size w WF:=by rw [hWF];exact below_allm mzz HB4.out (Nat.le_refl _)
      unfold wrm at hWF;rw [←hWF];have hWF2:=zh hWF;clear hWF;obtain ⟨f0,f1,f2,f3,f4,f5,f6,f7,f8,f9,f10⟩:=zmzl (w:=WF) (b:=w.heap.size) hblk;exact bodyPost_ret (v:=.tuple #[mv mzz,.bool false]) (by simp [results,Tryz.results47,go_sem,f0,f1,f2,f3,f4,f5,f6,f7,f8,f9,f10]) rfl (gmsg_no HKK.out hbF)
   ·have hd:decide (0<(st.size:Int))=true:=decide_eq_true (by omega);have hd2:0<st.size:=by omega
    have hk:gok s=false:=by rw [HGG.out,decide_eq_false hz];rfl
    obtain ⟨z0,z1,z2,z3,z4,z5,z6,z7,z8,z9,z10⟩:=zmzl (w:=W2) (b:=w.heap.size) HK3.out;have fz:∀ i,W2.frozen? ⟨w.heap.size,i,none⟩=false:=fun i=>Md.of HK3.out
    go_wp2_with fail
    rw [←HW2.out];refine KO.out.mono ?_;rintro q w3 ⟨rfl,rfl⟩
    go_wp2_with fail
    refine KL.out.mono ?_;rintro q w3 ⟨rfl,rfl⟩;go_wp2;obtain ⟨WF,hWF⟩:∃ WF,WF=wrm W2 w.heap.size mzz:=⟨_,rfl⟩;have hblk:WF.heap[w.heap.size]?=some (.cells (mc mzz) 29 (0,0)):=by rw [hWF];exact store_allm mzz HK3.out
    have hbF:Below w.heap.size w WF:=by rw [hWF];exact below_allm mzz HB3.out (Nat.le_refl _)
    unfold wrm at hWF;rw [←hWF];have hWF2:=zh hWF;clear hWF;obtain ⟨f0,f1,f2,f3,f4,f5,f6,f7,f8,f9,f10⟩:=zmzl (w:=WF) (b:=w.heap.size) hblk;exact bodyPost_ret (v:=.tuple #[mv mzz,.bool false]) (by simp [results,Tryz.results47,go_sem,f0,f1,f2,f3,f4,f5,f6,f7,f8,f9,f10]) rfl (gmsg_no hk hbF)
end Go.Proofs.YtpdbeijfchmlgaaGreat.D
