/-
  WalPlays: STf.
  Conditions: named in each theorem.
-/
import Derived.Test.YtnobeoppffoomaaGreatP23
import Derived.Test.YtnobeoppffoomaaGreatP06
import Derived.Test.YtnobeoppffoomaaGreatP0
set_option linter.unusedVariables false
set_option linter.unusedSimpArgs false
set_option maxHeartbeats 8000000
set_option maxRecDepth 100000
namespace Go.Proofs.YtnobeoppffoomaaGreat
open Go.RowKit
open Vi
theorem wrap_same (n:Nat) (h:n<18446744073709551616):IntKind.u64.wrap (IntKind.i64.wrap (n:Int))=(n:Int):=by
 rw [IntKind.wrap_i64,IntKind.wrap_u64]
 omega
structure Tq (w0:World) (g q:Nat) (E:En) (T:ByteArray) (b:Bool) (w:World):Prop where
 hr:Rd 225 g T b w
 al:w.heap[q]?=some (.cells (ec E) 28 (0,0))
 fr:w0.grownBy w (some g)
 st:Stab w0 w
 lg:g<w0.heap.size
 lq:w0.heap.size≤q
 sz:T.size≤281474976710656
section
variable {w0 w w1:World} {g q:Nat} {E E':En} {T T':ByteArray} {b b':Bool}
theorem gb_below_b {w0 w w1:World} {g:Nat} (h:w0.grownBy w (some g)) (hb:Below w.heap.size w w1):w0.grownBy w1 (some g) :=
 ⟨hb.os.trans h.os,hb.tape.trans h.tape,hb.output.trans h.output,Nat.le_trans h.size hb.size,fun i hi hne=>(hb.block i (Nat.lt_of_lt_of_le hi h.size)).trans (h.block i hi hne)⟩
theorem gb_set_b {w0 w:World} {g:Nat} {p:Addr} {v:Value} (h:w0.grownBy w (some g)) (hp:w0.heap.size≤p.block):w0.grownBy (w.setCell p v) (some g) :=
 ⟨h.os,h.tape,h.output,by simpa [World.setCell] using h.size,fun i hi hne=>(Below.heap_setCell w p v i (by omega)).trans (h.block i hi hne)⟩
theorem rd_set_b {T g:Nat} {s:ByteArray} {b:Bool} {w:World} {p:Addr} {v:Value} (h:Rd T g s b w) (hp:p.block≠g):Rd T g s b (w.setCell p v) :=
 (Below.heap_setCell w p v g (fun e=>hp e.symm)).trans h
theorem Tq.call (h:Tq w0 g q E T b w) (hb:Below w.heap.size w w1):Tq w0 g q E T b w1 :=
 ⟨h.hr.below hb h.hr.lt,(hb.block _ (zgx h.al)).trans h.al,gb_below_b h.fr hb,h.st.trans (Stab.below hb),h.lg,h.lq,h.sz⟩
theorem Tq.step (h:Tq w0 g q E T b w) (hx:Rd 225 g T' b' w1) (hf:w.grownBy w1 (some g)) (hT:T'.size≤T.size):Tq w0 g q E T' b' w1:=by
 have h1:=h.lg
 have h2:=h.lq
 exact ⟨hx,(hf.block _ (zgx h.al) (by simp;omega)).trans h.al,h.fr.trans hf,h.st.trans (Stab.grown hf h.hr (.inr (.inl rfl))),h.lg,h.lq,Nat.le_trans hT h.sz⟩
theorem Tq.cell (h:Tq w0 g q E T b w) (i:Nat):w.cell? ⟨q,i,none⟩=(ec E)[i]?:=zcr w _ i _ 28 (0,0) h.al
theorem Tq.fz (h:Tq w0 g q E T b w) (i:Nat):w.frozen? ⟨q,i,none⟩=false:=Lib.frozen_of_heap h.al i
theorem Tq.set (h:Tq w0 g q E T b w) (i:Nat) (v:Value) (he:(ec E).setIfInBounds i v=ec E'):Tq w0 g q E' T b (w.setCell ⟨q,i,none⟩ v):=by
 have h1:=h.lg
 have h2:=h.lq
 refine ⟨rd_set_b h.hr (by simp;omega),?_,gb_set_b h.fr (by simp;omega),h.st.trans (Stab.set (p:=⟨q,i,none⟩) h.al (.inl (by decide))),h.lg,h.lq,h.sz⟩
 rw [←he];exact set_blk h.al i v
end
section
set_option maxRecDepth 100000
set_option maxHeartbeats 1000000
variable (w0:World) (g q:Nat) (E:En) (T:ByteArray) (b:Bool) (w:World)
theorem tq_var (h:Tq w0 g q E T b w) :
 Calls Tryz.prog 187 #[.pointer (some ⟨g,0,none⟩)] w fun e w'=>e=.returned (.int .u64 (varV T))∧Tq w0 g q E (varT T) (b||!varO T) w' :=
 (var_any g T b w h.hr h.sz).mono fun e w' ⟨h1,h2,h3⟩=>⟨h1,h.step h2 h3 (varT_size T)⟩
theorem tq_fail (h:Tq w0 g q E T b w) :
 Calls Tryz.prog 184 #[.pointer (some ⟨g,0,none⟩)] w fun e w'=>e=.returned (.tuple #[])∧Tq w0 g q E ⟨#[]⟩ true w' :=
 (fail_any g T b w h.hr).mono fun e w' ⟨h1,h2,h3⟩=>⟨h1,h.step h2 h3 (Nat.zero_le _)⟩
theorem texT_le (s:ByteArray):(texT s).size≤s.size:=by
 have h:=varT_size s
 unfold texT bytT
 split
 ·rw [ByteArray.size_extract];omega
 ·exact Nat.zero_le _
theorem tq_tex (h:Tq w0 g q E T b w) :
 Calls Tryz.prog 203 #[.pointer (some ⟨g,0,none⟩)] w fun e w'=>e=.returned (.string (texV T))∧Tq w0 g q E (texT T) (b||!texO T) w' :=
 (textr_any g T b w h.hr h.sz).mono fun e w' ⟨h1,h2,h3⟩=>⟨h1,h.step h2 h3 (texT_le T)⟩
theorem readI_any (r:Nat) (hr:w.cell? ⟨r,0,none⟩=some (.pointer (some ⟨g,0,none⟩))) (h:Tq w0 g q E T b w) :
 Calls Tryz.prog 197 #[.pointer (some ⟨r,0,none⟩)] w fun e w'=>e=.returned (.int .i64 (IntKind.i64.wrap (varV T)))∧Tq w0 g q E (varT T) (b||!varO T) w':=by
 have K:=zh (tq_var w0 g q E T b w h)
 have hv:=varV_lt T
 obtain ⟨n,hn⟩:∃ n,n=varV T:=⟨_,rfl⟩
 have hq:=wrap_same (varV T) hv
 rw [←hn] at K hq ⊢
 obtain ⟨v,hv2⟩:∃ v,v=IntKind.i64.wrap (n:Int):=⟨_,rfl⟩
 have hq2:IntKind.i64.wrap (n:Int)=v:=hv2.symm
 rw [hq2] at hq
 rw [←hv2]
 have hq3:((n:Int) != (n:Int))=false:=by simp
 clear hv hn h hv2
 go_enter Tryz.func197,Tryz.ntmps197
 go_wp2_with fail
 refine K.out.mono ?_
 rintro e w1 ⟨rfl,h1⟩
 go_wp2
 go_ret
 exact ⟨rfl,h1⟩
theorem readU_any (r:Nat) (hr:w.cell? ⟨r,0,none⟩=some (.pointer (some ⟨g,0,none⟩))) (h:Tq w0 g q E T b w) :
 Calls Tryz.prog 200 #[.pointer (some ⟨r,0,none⟩)] w fun e w'=>e=.returned (.int .u64 (varV T))∧Tq w0 g q E (varT T) (b||!varO T) w':=by
 have K:=zh (tq_var w0 g q E T b w h)
 have hv:=varV_lt T
 obtain ⟨n,hn⟩:∃ n,n=varV T:=⟨_,rfl⟩
 rw [←hn] at K hv ⊢
 have hq:IntKind.u64.wrap (n:Int)=(n:Int):=IntWalk.u64_in _ (by omega)
 clear hv hn h
 go_enter Tryz.func200,Tryz.ntmps200
 go_wp2_with fail
 refine K.out.mono ?_
 rintro e w1 ⟨rfl,h1⟩
 go_wp2
 go_ret
 exact ⟨rfl,h1⟩
theorem mkI_any:Calls Tryz.prog 175 #[.pointer (some ⟨g,0,none⟩)] w fun e w'=>e=.returned (.func (.func 197) #[] #[.pointer (some ⟨w.heap.size,0,none⟩)])∧w'=w.alloc (Obj.cells #[.pointer (some ⟨g,0,none⟩)] 206):=by
 have hmf:∀ (fn:Fn) (first cap:Array Value) (w:World),(Instr.makeFunc fn first cap).run Tryz.prog w=.ok (.func fn first cap) w:=fun _ _ _ _=>rfl
 go_enter Tryz.func175,Tryz.ntmps175
 go_wp2
 go_ret
 exact ⟨rfl,rfl⟩
theorem mkU_any:Calls Tryz.prog 179 #[.pointer (some ⟨g,0,none⟩)] w fun e w'=>e=.returned (.func (.func 200) #[] #[.pointer (some ⟨w.heap.size,0,none⟩)])∧w'=w.alloc (Obj.cells #[.pointer (some ⟨g,0,none⟩)] 206):=by
 have hmf:∀ (fn:Fn) (first cap:Array Value) (w:World),(Instr.makeFunc fn first cap).run Tryz.prog w=.ok (.func fn first cap) w:=fun _ _ _ _=>rfl
 go_enter Tryz.func179,Tryz.ntmps179
 go_wp2
 go_ret
 exact ⟨rfl,rfl⟩
theorem mkS_any:Calls Tryz.prog 183 #[.pointer (some ⟨g,0,none⟩)] w fun e w'=>e=.returned (.func (.func 203) #[.pointer (some ⟨g,0,none⟩)] #[])∧w'=w:=by
 have hmf:∀ (fn:Fn) (first cap:Array Value) (w:World),(Instr.makeFunc fn first cap).run Tryz.prog w=.ok (.func fn first cap) w:=fun _ _ _ _=>rfl
 go_enter Tryz.func183,Tryz.ntmps183
 go_wp2
 go_ret
 exact ⟨rfl,rfl⟩
theorem Tq.at_ {w0 w:World} {g q k:Nat} {E:En} {T:ByteArray} {b:Bool} {v:Value} {ty:TypeId} (h:Tq w0 g q E T b w) (hk:w0.heap[k]?=some (.cells #[v] ty (0,0))) (c:70<ty∧ty≠225∧ty≠81):w.cell? ⟨k,0,none⟩=some v :=
 zcr w k 0 _ ty (0,0) (h.st k _ _ hk c.1 c.2.1 c.2.2)
theorem wrap_zero {n:Nat} (hn:n<18446744073709551616) (h:n≠0):IntKind.i64.wrap (n:Int)≠0:=by
 rw [IntKind.wrap_i64]
 omega
theorem take1_any (r n a:Nat) (h:Tq w0 g q E T b w) (hr0:w0.heap[r]?=some (.cells #[.func (.func 175) #[] #[]] 218 (0,0))) (hn0:w0.heap[n]?=some (.cells #[.func (.func 173) #[] #[]] 78 (0,0))) (ha0:w0.heap[a]?=some (.cells #[.func (.func 137) #[] #[]] 192 (0,0))) :
 Calls Tryz.prog 196 #[.pointer (some ⟨q,0,none⟩),.pointer (some ⟨g,0,none⟩),.pointer (some ⟨r,0,none⟩),.pointer (some ⟨n,0,none⟩),.pointer (some ⟨a,0,none⟩)] w fun e w'=>e=.returned (.tuple #[])∧Tq w0 g q (fS 1 E T).1 (fS 1 E T).2.1 (b||!(fS 1 E T).2.2) w':=by
 have HAT:=zh (at1_any q)
 have HN:=zh hn0
 have HA:=zh ha0
 have cr:w.cell? ⟨r,0,none⟩=some (.func (.func 175) #[] #[]):=h.at_ hr0 (by decide)
 have HH:=zh h
 have hvl:=varV_lt T
 obtain ⟨v,hv⟩:∃ v:Int,v=IntKind.i64.wrap (varV T):=⟨_,rfl⟩
 have KR:Hid (∀ W r',W.cell? ⟨r',0,none⟩=some (.pointer (some ⟨g,0,none⟩))→Tq w0 g q E T b W→Calls Tryz.prog 197 #[.pointer (some ⟨r',0,none⟩)] W fun e w'=>e=.returned (.int .i64 v)∧Tq w0 g q E (varT T) (b||!varO T) w'):=fun W r' hc hW=>hv▸readI_any w0 g q E T b W r' hc hW
 have HMK:=zh (mkI_any g)
 have HC:Hid ((v=0→fS 1 E T=(setN 1 E (varV T),⟨#[]⟩,false))∧(v≠0→fS 1 E T=(setN 1 E (varV T),varT T,varO T))):=by
  refine ⟨fun h0=>?_,fun h0=>?_⟩
  ·have hz:varV T=0:=by
    rcases Nat.eq_zero_or_pos (varV T) with h|h
    ·exact h
    ·exact absurd (hv▸h0) (wrap_zero hvl (by omega))
   unfold fS
   rw [if_pos (by omega),if_pos hz,decide_eq_false (by omega),Bool.and_false]
  ·have hz:varV T≠0:=fun e=>h0 (by rw [hv,e];rfl)
   unfold fS
   rw [if_pos (by omega),if_neg hz,decide_eq_true hz,Bool.and_true]
 have HSET:Hid (∀ T' b' W,Tq w0 g q E T' b' W→Tq w0 g q (setN 1 E (varV T)) T' b' (W.setCell ⟨q,2,none⟩ (.int .i64 v))):=fun T' b' W hW=>hW.set 2 _ (by rw [hv];simp [setN])
 clear hr0 hn0 ha0 h hv hvl
 by_cases h0:v=0
 ·rw [HC.out.1 h0]
  have KZ:=zh zeroI_yes
  clear HC
  subst h0
  go_enter Tryz.func196,Tryz.ntmps196
  go_wp2_with fail
  refine (HMK.out _).mono ?_
  rintro e w1 ⟨rfl,rfl⟩
  go_wp2_with fail
  refine (KR.out _ _ (zcr _ _ 0 _ 206 (0,0) (heap_alloc_new w _)) (HH.out.call ((Below.refl _ _).alloc (Nat.le_refl _) _))).mono ?_
  rintro e w2 ⟨rfl,h2⟩
  have cn:w2.cell? ⟨n,0,none⟩=some (.func (.func 173) #[] #[]):=h2.at_ HN.out (by decide)
  have H2:=zh h2
  clear h2
  go_wp2_with fail
  refine (KZ.out _).mono ?_
  rintro e w2' ⟨rfl,rfl⟩
  go_wp2_with fail
  refine (tq_fail w0 g q E _ _ w2 H2.out).mono ?_
  rintro e w3 ⟨rfl,h3⟩
  have H3:=zh h3
  clear h3
  have ca:w3.cell? ⟨a,0,none⟩=some (.func (.func 137) #[] #[]):=H3.out.at_ HA.out (by decide)
  have cq:w3.cell? ⟨q,2,none⟩=some (.int .i64 E.kind):=H3.out.cell 2
  have fq:=H3.out.fz 2
  go_wp2_with fail
  refine (HAT.out _).mono ?_
  rintro e w4 ⟨rfl,rfl⟩
  go_wp2
  go_end0
  refine ⟨rfl,?_⟩
  rw [Bool.not_false,Bool.or_true]
  exact HSET.out _ _ _ H3.out
 ·rw [HC.out.2 h0]
  have KZ:=zh (fun W=>zeroI_no v W h0)
  clear HC h0
  go_enter Tryz.func196,Tryz.ntmps196
  go_wp2_with fail
  refine (HMK.out _).mono ?_
  rintro e w1 ⟨rfl,rfl⟩
  go_wp2_with fail
  refine (KR.out _ _ (zcr _ _ 0 _ 206 (0,0) (heap_alloc_new w _)) (HH.out.call ((Below.refl _ _).alloc (Nat.le_refl _) _))).mono ?_
  rintro e w2 ⟨rfl,h2⟩
  have cn:w2.cell? ⟨n,0,none⟩=some (.func (.func 173) #[] #[]):=h2.at_ HN.out (by decide)
  have H2:=zh h2
  clear h2
  go_wp2_with fail
  refine (KZ.out _).mono ?_
  rintro e w2' ⟨rfl,rfl⟩
  have ca:w2.cell? ⟨a,0,none⟩=some (.func (.func 137) #[] #[]):=H2.out.at_ HA.out (by decide)
  have cq:w2.cell? ⟨q,2,none⟩=some (.int .i64 E.kind):=H2.out.cell 2
  have fq:=H2.out.fz 2
  go_wp2_with fail
  refine (HAT.out _).mono ?_
  rintro e w4 ⟨rfl,rfl⟩
  go_wp2
  go_end0
  exact ⟨rfl,HSET.out _ _ _ H2.out⟩
theorem take2_any (r n a:Nat) (h:Tq w0 g q E T b w) (hr0:w0.heap[r]?=some (.cells #[.func (.func 179) #[] #[]] 221 (0,0))) (hn0:w0.heap[n]?=some (.cells #[.func (.func 177) #[] #[]] 220 (0,0))) (ha0:w0.heap[a]?=some (.cells #[.func (.func 139) #[] #[]] 195 (0,0))) :
 Calls Tryz.prog 199 #[.pointer (some ⟨q,0,none⟩),.pointer (some ⟨g,0,none⟩),.pointer (some ⟨r,0,none⟩),.pointer (some ⟨n,0,none⟩),.pointer (some ⟨a,0,none⟩)] w fun e w'=>e=.returned (.tuple #[])∧Tq w0 g q (fS 2 E T).1 (fS 2 E T).2.1 (b||!(fS 2 E T).2.2) w':=by
 have HAT:=zh (at2_any q)
 have HN:=zh hn0
 have HA:=zh ha0
 have cr:w.cell? ⟨r,0,none⟩=some (.func (.func 179) #[] #[]):=h.at_ hr0 (by decide)
 have HH:=zh h
 have hvl:=varV_lt T
 obtain ⟨v,hv⟩:∃ v:Int,v=((varV T:Nat):Int):=⟨_,rfl⟩
 have KR:Hid (∀ W r',W.cell? ⟨r',0,none⟩=some (.pointer (some ⟨g,0,none⟩))→Tq w0 g q E T b W→Calls Tryz.prog 200 #[.pointer (some ⟨r',0,none⟩)] W fun e w'=>e=.returned (.int .u64 v)∧Tq w0 g q E (varT T) (b||!varO T) w'):=fun W r' hc hW=>hv▸readU_any w0 g q E T b W r' hc hW
 have HMK:=zh (mkU_any g)
 have HC:Hid ((v=0→fS 2 E T=(setN 2 E (varV T),⟨#[]⟩,false))∧(v≠0→fS 2 E T=(setN 2 E (varV T),varT T,varO T))):=by
  refine ⟨fun h0=>?_,fun h0=>?_⟩
  ·have hz:varV T=0:=by
    rcases Nat.eq_zero_or_pos (varV T) with h|h
    ·exact h
    ·exact absurd (hv▸h0) (by omega)
   unfold fS
   rw [if_pos (by omega),if_pos hz,decide_eq_false (by omega),Bool.and_false]
  ·have hz:varV T≠0:=fun e=>h0 (by rw [hv,e];rfl)
   unfold fS
   rw [if_pos (by omega),if_neg hz,decide_eq_true hz,Bool.and_true]
 have HSET:Hid (∀ T' b' W,Tq w0 g q E T' b' W→Tq w0 g q (setN 2 E (varV T)) T' b' (W.setCell ⟨q,0,none⟩ (.int .u64 v))):=fun T' b' W hW=>hW.set 0 _ (by rw [hv];simp [setN])
 clear hr0 hn0 ha0 h hv hvl
 by_cases h0:v=0
 ·rw [HC.out.1 h0]
  have KZ:=zh zeroU_yes
  clear HC
  subst h0
  go_enter Tryz.func199,Tryz.ntmps199
  go_wp2_with fail
  refine (HMK.out _).mono ?_
  rintro e w1 ⟨rfl,rfl⟩
  go_wp2_with fail
  refine (KR.out _ _ (zcr _ _ 0 _ 206 (0,0) (heap_alloc_new w _)) (HH.out.call ((Below.refl _ _).alloc (Nat.le_refl _) _))).mono ?_
  rintro e w2 ⟨rfl,h2⟩
  have cn:w2.cell? ⟨n,0,none⟩=some (.func (.func 177) #[] #[]):=h2.at_ HN.out (by decide)
  have H2:=zh h2
  clear h2
  go_wp2_with fail
  refine (KZ.out _).mono ?_
  rintro e w2' ⟨rfl,rfl⟩
  go_wp2_with fail
  refine (tq_fail w0 g q E _ _ w2 H2.out).mono ?_
  rintro e w3 ⟨rfl,h3⟩
  have H3:=zh h3
  clear h3
  have ca:w3.cell? ⟨a,0,none⟩=some (.func (.func 139) #[] #[]):=H3.out.at_ HA.out (by decide)
  have cq:w3.cell? ⟨q,0,none⟩=some (.int .u64 E.term):=H3.out.cell 0
  have fq:=H3.out.fz 0
  go_wp2_with fail
  refine (HAT.out _).mono ?_
  rintro e w4 ⟨rfl,rfl⟩
  go_wp2
  go_end0
  refine ⟨rfl,?_⟩
  rw [Bool.not_false,Bool.or_true]
  exact HSET.out _ _ _ H3.out
 ·rw [HC.out.2 h0]
  have KZ:=zh (fun W=>zeroU_no v W h0)
  clear HC h0
  go_enter Tryz.func199,Tryz.ntmps199
  go_wp2_with fail
  refine (HMK.out _).mono ?_
  rintro e w1 ⟨rfl,rfl⟩
  go_wp2_with fail
  refine (KR.out _ _ (zcr _ _ 0 _ 206 (0,0) (heap_alloc_new w _)) (HH.out.call ((Below.refl _ _).alloc (Nat.le_refl _) _))).mono ?_
  rintro e w2 ⟨rfl,h2⟩
  have cn:w2.cell? ⟨n,0,none⟩=some (.func (.func 177) #[] #[]):=h2.at_ HN.out (by decide)
  have H2:=zh h2
  clear h2
  go_wp2_with fail
  refine (KZ.out _).mono ?_
  rintro e w2' ⟨rfl,rfl⟩
  have ca:w2.cell? ⟨a,0,none⟩=some (.func (.func 139) #[] #[]):=H2.out.at_ HA.out (by decide)
  have cq:w2.cell? ⟨q,0,none⟩=some (.int .u64 E.term):=H2.out.cell 0
  have fq:=H2.out.fz 0
  go_wp2_with fail
  refine (HAT.out _).mono ?_
  rintro e w4 ⟨rfl,rfl⟩
  go_wp2
  go_end0
  exact ⟨rfl,HSET.out _ _ _ H2.out⟩
theorem take3_any (r n a:Nat) (h:Tq w0 g q E T b w) (hr0:w0.heap[r]?=some (.cells #[.func (.func 179) #[] #[]] 221 (0,0))) (hn0:w0.heap[n]?=some (.cells #[.func (.func 177) #[] #[]] 220 (0,0))) (ha0:w0.heap[a]?=some (.cells #[.func (.func 140) #[] #[]] 195 (0,0))) :
 Calls Tryz.prog 199 #[.pointer (some ⟨q,0,none⟩),.pointer (some ⟨g,0,none⟩),.pointer (some ⟨r,0,none⟩),.pointer (some ⟨n,0,none⟩),.pointer (some ⟨a,0,none⟩)] w fun e w'=>e=.returned (.tuple #[])∧Tq w0 g q (fS 3 E T).1 (fS 3 E T).2.1 (b||!(fS 3 E T).2.2) w':=by
 have HAT:=zh (at3_any q)
 have HN:=zh hn0
 have HA:=zh ha0
 have cr:w.cell? ⟨r,0,none⟩=some (.func (.func 179) #[] #[]):=h.at_ hr0 (by decide)
 have HH:=zh h
 have hvl:=varV_lt T
 obtain ⟨v,hv⟩:∃ v:Int,v=((varV T:Nat):Int):=⟨_,rfl⟩
 have KR:Hid (∀ W r',W.cell? ⟨r',0,none⟩=some (.pointer (some ⟨g,0,none⟩))→Tq w0 g q E T b W→Calls Tryz.prog 200 #[.pointer (some ⟨r',0,none⟩)] W fun e w'=>e=.returned (.int .u64 v)∧Tq w0 g q E (varT T) (b||!varO T) w'):=fun W r' hc hW=>hv▸readU_any w0 g q E T b W r' hc hW
 have HMK:=zh (mkU_any g)
 have HC:Hid ((v=0→fS 3 E T=(setN 3 E (varV T),⟨#[]⟩,false))∧(v≠0→fS 3 E T=(setN 3 E (varV T),varT T,varO T))):=by
  refine ⟨fun h0=>?_,fun h0=>?_⟩
  ·have hz:varV T=0:=by
    rcases Nat.eq_zero_or_pos (varV T) with h|h
    ·exact h
    ·exact absurd (hv▸h0) (by omega)
   unfold fS
   rw [if_pos (by omega),if_pos hz,decide_eq_false (by omega),Bool.and_false]
  ·have hz:varV T≠0:=fun e=>h0 (by rw [hv,e];rfl)
   unfold fS
   rw [if_pos (by omega),if_neg hz,decide_eq_true hz,Bool.and_true]
 have HSET:Hid (∀ T' b' W,Tq w0 g q E T' b' W→Tq w0 g q (setN 3 E (varV T)) T' b' (W.setCell ⟨q,1,none⟩ (.int .u64 v))):=fun T' b' W hW=>hW.set 1 _ (by rw [hv];simp [setN])
 clear hr0 hn0 ha0 h hv hvl
 by_cases h0:v=0
 ·rw [HC.out.1 h0]
  have KZ:=zh zeroU_yes
  clear HC
  subst h0
  go_enter Tryz.func199,Tryz.ntmps199
  go_wp2_with fail
  refine (HMK.out _).mono ?_
  rintro e w1 ⟨rfl,rfl⟩
  go_wp2_with fail
  refine (KR.out _ _ (zcr _ _ 0 _ 206 (0,0) (heap_alloc_new w _)) (HH.out.call ((Below.refl _ _).alloc (Nat.le_refl _) _))).mono ?_
  rintro e w2 ⟨rfl,h2⟩
  have cn:w2.cell? ⟨n,0,none⟩=some (.func (.func 177) #[] #[]):=h2.at_ HN.out (by decide)
  have H2:=zh h2
  clear h2
  go_wp2_with fail
  refine (KZ.out _).mono ?_
  rintro e w2' ⟨rfl,rfl⟩
  go_wp2_with fail
  refine (tq_fail w0 g q E _ _ w2 H2.out).mono ?_
  rintro e w3 ⟨rfl,h3⟩
  have H3:=zh h3
  clear h3
  have ca:w3.cell? ⟨a,0,none⟩=some (.func (.func 140) #[] #[]):=H3.out.at_ HA.out (by decide)
  have cq:w3.cell? ⟨q,1,none⟩=some (.int .u64 E.index):=H3.out.cell 1
  have fq:=H3.out.fz 1
  go_wp2_with fail
  refine (HAT.out _).mono ?_
  rintro e w4 ⟨rfl,rfl⟩
  go_wp2
  go_end0
  refine ⟨rfl,?_⟩
  rw [Bool.not_false,Bool.or_true]
  exact HSET.out _ _ _ H3.out
 ·rw [HC.out.2 h0]
  have KZ:=zh (fun W=>zeroU_no v W h0)
  clear HC h0
  go_enter Tryz.func199,Tryz.ntmps199
  go_wp2_with fail
  refine (HMK.out _).mono ?_
  rintro e w1 ⟨rfl,rfl⟩
  go_wp2_with fail
  refine (KR.out _ _ (zcr _ _ 0 _ 206 (0,0) (heap_alloc_new w _)) (HH.out.call ((Below.refl _ _).alloc (Nat.le_refl _) _))).mono ?_
  rintro e w2 ⟨rfl,h2⟩
  have cn:w2.cell? ⟨n,0,none⟩=some (.func (.func 177) #[] #[]):=h2.at_ HN.out (by decide)
  have H2:=zh h2
  clear h2
  go_wp2_with fail
  refine (KZ.out _).mono ?_
  rintro e w2' ⟨rfl,rfl⟩
  have ca:w2.cell? ⟨a,0,none⟩=some (.func (.func 140) #[] #[]):=H2.out.at_ HA.out (by decide)
  have cq:w2.cell? ⟨q,1,none⟩=some (.int .u64 E.index):=H2.out.cell 1
  have fq:=H2.out.fz 1
  go_wp2_with fail
  refine (HAT.out _).mono ?_
  rintro e w4 ⟨rfl,rfl⟩
  go_wp2
  go_end0
  exact ⟨rfl,HSET.out _ _ _ H2.out⟩
theorem take4_any (r n a:Nat) (h:Tq w0 g q E T b w) (hr0:w0.heap[r]?=some (.cells #[.func (.func 179) #[] #[]] 221 (0,0))) (hn0:w0.heap[n]?=some (.cells #[.func (.func 177) #[] #[]] 220 (0,0))) (ha0:w0.heap[a]?=some (.cells #[.func (.func 141) #[] #[]] 195 (0,0))) :
 Calls Tryz.prog 199 #[.pointer (some ⟨q,0,none⟩),.pointer (some ⟨g,0,none⟩),.pointer (some ⟨r,0,none⟩),.pointer (some ⟨n,0,none⟩),.pointer (some ⟨a,0,none⟩)] w fun e w'=>e=.returned (.tuple #[])∧Tq w0 g q (fS 4 E T).1 (fS 4 E T).2.1 (b||!(fS 4 E T).2.2) w':=by
 have HAT:=zh (at4_any q)
 have HN:=zh hn0
 have HA:=zh ha0
 have cr:w.cell? ⟨r,0,none⟩=some (.func (.func 179) #[] #[]):=h.at_ hr0 (by decide)
 have HH:=zh h
 have hvl:=varV_lt T
 obtain ⟨v,hv⟩:∃ v:Int,v=((varV T:Nat):Int):=⟨_,rfl⟩
 have KR:Hid (∀ W r',W.cell? ⟨r',0,none⟩=some (.pointer (some ⟨g,0,none⟩))→Tq w0 g q E T b W→Calls Tryz.prog 200 #[.pointer (some ⟨r',0,none⟩)] W fun e w'=>e=.returned (.int .u64 v)∧Tq w0 g q E (varT T) (b||!varO T) w'):=fun W r' hc hW=>hv▸readU_any w0 g q E T b W r' hc hW
 have HMK:=zh (mkU_any g)
 have HC:Hid ((v=0→fS 4 E T=(setN 4 E (varV T),⟨#[]⟩,false))∧(v≠0→fS 4 E T=(setN 4 E (varV T),varT T,varO T))):=by
  refine ⟨fun h0=>?_,fun h0=>?_⟩
  ·have hz:varV T=0:=by
    rcases Nat.eq_zero_or_pos (varV T) with h|h
    ·exact h
    ·exact absurd (hv▸h0) (by omega)
   unfold fS
   rw [if_pos (by omega),if_pos hz,decide_eq_false (by omega),Bool.and_false]
  ·have hz:varV T≠0:=fun e=>h0 (by rw [hv,e];rfl)
   unfold fS
   rw [if_pos (by omega),if_neg hz,decide_eq_true hz,Bool.and_true]
 have HSET:Hid (∀ T' b' W,Tq w0 g q E T' b' W→Tq w0 g q (setN 4 E (varV T)) T' b' (W.setCell ⟨q,3,none⟩ (.int .u64 v))):=fun T' b' W hW=>hW.set 3 _ (by rw [hv];simp [setN])
 clear hr0 hn0 ha0 h hv hvl
 by_cases h0:v=0
 ·rw [HC.out.1 h0]
  have KZ:=zh zeroU_yes
  clear HC
  subst h0
  go_enter Tryz.func199,Tryz.ntmps199
  go_wp2_with fail
  refine (HMK.out _).mono ?_
  rintro e w1 ⟨rfl,rfl⟩
  go_wp2_with fail
  refine (KR.out _ _ (zcr _ _ 0 _ 206 (0,0) (heap_alloc_new w _)) (HH.out.call ((Below.refl _ _).alloc (Nat.le_refl _) _))).mono ?_
  rintro e w2 ⟨rfl,h2⟩
  have cn:w2.cell? ⟨n,0,none⟩=some (.func (.func 177) #[] #[]):=h2.at_ HN.out (by decide)
  have H2:=zh h2
  clear h2
  go_wp2_with fail
  refine (KZ.out _).mono ?_
  rintro e w2' ⟨rfl,rfl⟩
  go_wp2_with fail
  refine (tq_fail w0 g q E _ _ w2 H2.out).mono ?_
  rintro e w3 ⟨rfl,h3⟩
  have H3:=zh h3
  clear h3
  have ca:w3.cell? ⟨a,0,none⟩=some (.func (.func 141) #[] #[]):=H3.out.at_ HA.out (by decide)
  have cq:w3.cell? ⟨q,3,none⟩=some (.int .u64 E.client):=H3.out.cell 3
  have fq:=H3.out.fz 3
  go_wp2_with fail
  refine (HAT.out _).mono ?_
  rintro e w4 ⟨rfl,rfl⟩
  go_wp2
  go_end0
  refine ⟨rfl,?_⟩
  rw [Bool.not_false,Bool.or_true]
  exact HSET.out _ _ _ H3.out
 ·rw [HC.out.2 h0]
  have KZ:=zh (fun W=>zeroU_no v W h0)
  clear HC h0
  go_enter Tryz.func199,Tryz.ntmps199
  go_wp2_with fail
  refine (HMK.out _).mono ?_
  rintro e w1 ⟨rfl,rfl⟩
  go_wp2_with fail
  refine (KR.out _ _ (zcr _ _ 0 _ 206 (0,0) (heap_alloc_new w _)) (HH.out.call ((Below.refl _ _).alloc (Nat.le_refl _) _))).mono ?_
  rintro e w2 ⟨rfl,h2⟩
  have cn:w2.cell? ⟨n,0,none⟩=some (.func (.func 177) #[] #[]):=h2.at_ HN.out (by decide)
  have H2:=zh h2
  clear h2
  go_wp2_with fail
  refine (KZ.out _).mono ?_
  rintro e w2' ⟨rfl,rfl⟩
  have ca:w2.cell? ⟨a,0,none⟩=some (.func (.func 141) #[] #[]):=H2.out.at_ HA.out (by decide)
  have cq:w2.cell? ⟨q,3,none⟩=some (.int .u64 E.client):=H2.out.cell 3
  have fq:=H2.out.fz 3
  go_wp2_with fail
  refine (HAT.out _).mono ?_
  rintro e w4 ⟨rfl,rfl⟩
  go_wp2
  go_end0
  exact ⟨rfl,HSET.out _ _ _ H2.out⟩
theorem take5_any (r n a:Nat) (h:Tq w0 g q E T b w) (hr0:w0.heap[r]?=some (.cells #[.func (.func 179) #[] #[]] 221 (0,0))) (hn0:w0.heap[n]?=some (.cells #[.func (.func 177) #[] #[]] 220 (0,0))) (ha0:w0.heap[a]?=some (.cells #[.func (.func 142) #[] #[]] 195 (0,0))) :
 Calls Tryz.prog 199 #[.pointer (some ⟨q,0,none⟩),.pointer (some ⟨g,0,none⟩),.pointer (some ⟨r,0,none⟩),.pointer (some ⟨n,0,none⟩),.pointer (some ⟨a,0,none⟩)] w fun e w'=>e=.returned (.tuple #[])∧Tq w0 g q (fS 5 E T).1 (fS 5 E T).2.1 (b||!(fS 5 E T).2.2) w':=by
 have HAT:=zh (at5_any q)
 have HN:=zh hn0
 have HA:=zh ha0
 have cr:w.cell? ⟨r,0,none⟩=some (.func (.func 179) #[] #[]):=h.at_ hr0 (by decide)
 have HH:=zh h
 have hvl:=varV_lt T
 obtain ⟨v,hv⟩:∃ v:Int,v=((varV T:Nat):Int):=⟨_,rfl⟩
 have KR:Hid (∀ W r',W.cell? ⟨r',0,none⟩=some (.pointer (some ⟨g,0,none⟩))→Tq w0 g q E T b W→Calls Tryz.prog 200 #[.pointer (some ⟨r',0,none⟩)] W fun e w'=>e=.returned (.int .u64 v)∧Tq w0 g q E (varT T) (b||!varO T) w'):=fun W r' hc hW=>hv▸readU_any w0 g q E T b W r' hc hW
 have HMK:=zh (mkU_any g)
 have HC:Hid ((v=0→fS 5 E T=(setN 5 E (varV T),⟨#[]⟩,false))∧(v≠0→fS 5 E T=(setN 5 E (varV T),varT T,varO T))):=by
  refine ⟨fun h0=>?_,fun h0=>?_⟩
  ·have hz:varV T=0:=by
    rcases Nat.eq_zero_or_pos (varV T) with h|h
    ·exact h
    ·exact absurd (hv▸h0) (by omega)
   unfold fS
   rw [if_pos (by omega),if_pos hz,decide_eq_false (by omega),Bool.and_false]
  ·have hz:varV T≠0:=fun e=>h0 (by rw [hv,e];rfl)
   unfold fS
   rw [if_pos (by omega),if_neg hz,decide_eq_true hz,Bool.and_true]
 have HSET:Hid (∀ T' b' W,Tq w0 g q E T' b' W→Tq w0 g q (setN 5 E (varV T)) T' b' (W.setCell ⟨q,4,none⟩ (.int .u64 v))):=fun T' b' W hW=>hW.set 4 _ (by rw [hv];simp [setN])
 clear hr0 hn0 ha0 h hv hvl
 by_cases h0:v=0
 ·rw [HC.out.1 h0]
  have KZ:=zh zeroU_yes
  clear HC
  subst h0
  go_enter Tryz.func199,Tryz.ntmps199
  go_wp2_with fail
  refine (HMK.out _).mono ?_
  rintro e w1 ⟨rfl,rfl⟩
  go_wp2_with fail
  refine (KR.out _ _ (zcr _ _ 0 _ 206 (0,0) (heap_alloc_new w _)) (HH.out.call ((Below.refl _ _).alloc (Nat.le_refl _) _))).mono ?_
  rintro e w2 ⟨rfl,h2⟩
  have cn:w2.cell? ⟨n,0,none⟩=some (.func (.func 177) #[] #[]):=h2.at_ HN.out (by decide)
  have H2:=zh h2
  clear h2
  go_wp2_with fail
  refine (KZ.out _).mono ?_
  rintro e w2' ⟨rfl,rfl⟩
  go_wp2_with fail
  refine (tq_fail w0 g q E _ _ w2 H2.out).mono ?_
  rintro e w3 ⟨rfl,h3⟩
  have H3:=zh h3
  clear h3
  have ca:w3.cell? ⟨a,0,none⟩=some (.func (.func 142) #[] #[]):=H3.out.at_ HA.out (by decide)
  have cq:w3.cell? ⟨q,4,none⟩=some (.int .u64 E.seq):=H3.out.cell 4
  have fq:=H3.out.fz 4
  go_wp2_with fail
  refine (HAT.out _).mono ?_
  rintro e w4 ⟨rfl,rfl⟩
  go_wp2
  go_end0
  refine ⟨rfl,?_⟩
  rw [Bool.not_false,Bool.or_true]
  exact HSET.out _ _ _ H3.out
 ·rw [HC.out.2 h0]
  have KZ:=zh (fun W=>zeroU_no v W h0)
  clear HC h0
  go_enter Tryz.func199,Tryz.ntmps199
  go_wp2_with fail
  refine (HMK.out _).mono ?_
  rintro e w1 ⟨rfl,rfl⟩
  go_wp2_with fail
  refine (KR.out _ _ (zcr _ _ 0 _ 206 (0,0) (heap_alloc_new w _)) (HH.out.call ((Below.refl _ _).alloc (Nat.le_refl _) _))).mono ?_
  rintro e w2 ⟨rfl,h2⟩
  have cn:w2.cell? ⟨n,0,none⟩=some (.func (.func 177) #[] #[]):=h2.at_ HN.out (by decide)
  have H2:=zh h2
  clear h2
  go_wp2_with fail
  refine (KZ.out _).mono ?_
  rintro e w2' ⟨rfl,rfl⟩
  have ca:w2.cell? ⟨a,0,none⟩=some (.func (.func 142) #[] #[]):=H2.out.at_ HA.out (by decide)
  have cq:w2.cell? ⟨q,4,none⟩=some (.int .u64 E.seq):=H2.out.cell 4
  have fq:=H2.out.fz 4
  go_wp2_with fail
  refine (HAT.out _).mono ?_
  rintro e w4 ⟨rfl,rfl⟩
  go_wp2
  go_end0
  exact ⟨rfl,HSET.out _ _ _ H2.out⟩
theorem take6_any (r n a:Nat) (h:Tq w0 g q E T b w) (hr0:w0.heap[r]?=some (.cells #[.func (.func 179) #[] #[]] 221 (0,0))) (hn0:w0.heap[n]?=some (.cells #[.func (.func 177) #[] #[]] 220 (0,0))) (ha0:w0.heap[a]?=some (.cells #[.func (.func 143) #[] #[]] 195 (0,0))) :
 Calls Tryz.prog 199 #[.pointer (some ⟨q,0,none⟩),.pointer (some ⟨g,0,none⟩),.pointer (some ⟨r,0,none⟩),.pointer (some ⟨n,0,none⟩),.pointer (some ⟨a,0,none⟩)] w fun e w'=>e=.returned (.tuple #[])∧Tq w0 g q (fS 6 E T).1 (fS 6 E T).2.1 (b||!(fS 6 E T).2.2) w':=by
 have HAT:=zh (at6_any q)
 have HN:=zh hn0
 have HA:=zh ha0
 have cr:w.cell? ⟨r,0,none⟩=some (.func (.func 179) #[] #[]):=h.at_ hr0 (by decide)
 have HH:=zh h
 have hvl:=varV_lt T
 obtain ⟨v,hv⟩:∃ v:Int,v=((varV T:Nat):Int):=⟨_,rfl⟩
 have KR:Hid (∀ W r',W.cell? ⟨r',0,none⟩=some (.pointer (some ⟨g,0,none⟩))→Tq w0 g q E T b W→Calls Tryz.prog 200 #[.pointer (some ⟨r',0,none⟩)] W fun e w'=>e=.returned (.int .u64 v)∧Tq w0 g q E (varT T) (b||!varO T) w'):=fun W r' hc hW=>hv▸readU_any w0 g q E T b W r' hc hW
 have HMK:=zh (mkU_any g)
 have HC:Hid ((v=0→fS 6 E T=(setN 6 E (varV T),⟨#[]⟩,false))∧(v≠0→fS 6 E T=(setN 6 E (varV T),varT T,varO T))):=by
  refine ⟨fun h0=>?_,fun h0=>?_⟩
  ·have hz:varV T=0:=by
    rcases Nat.eq_zero_or_pos (varV T) with h|h
    ·exact h
    ·exact absurd (hv▸h0) (by omega)
   unfold fS
   rw [if_pos (by omega),if_pos hz,decide_eq_false (by omega),Bool.and_false]
  ·have hz:varV T≠0:=fun e=>h0 (by rw [hv,e];rfl)
   unfold fS
   rw [if_pos (by omega),if_neg hz,decide_eq_true hz,Bool.and_true]
 have HSET:Hid (∀ T' b' W,Tq w0 g q E T' b' W→Tq w0 g q (setN 6 E (varV T)) T' b' (W.setCell ⟨q,5,none⟩ (.int .u64 v))):=fun T' b' W hW=>hW.set 5 _ (by rw [hv];simp [setN])
 clear hr0 hn0 ha0 h hv hvl
 by_cases h0:v=0
 ·rw [HC.out.1 h0]
  have KZ:=zh zeroU_yes
  clear HC
  subst h0
  go_enter Tryz.func199,Tryz.ntmps199
  go_wp2_with fail
  refine (HMK.out _).mono ?_
  rintro e w1 ⟨rfl,rfl⟩
  go_wp2_with fail
  refine (KR.out _ _ (zcr _ _ 0 _ 206 (0,0) (heap_alloc_new w _)) (HH.out.call ((Below.refl _ _).alloc (Nat.le_refl _) _))).mono ?_
  rintro e w2 ⟨rfl,h2⟩
  have cn:w2.cell? ⟨n,0,none⟩=some (.func (.func 177) #[] #[]):=h2.at_ HN.out (by decide)
  have H2:=zh h2
  clear h2
  go_wp2_with fail
  refine (KZ.out _).mono ?_
  rintro e w2' ⟨rfl,rfl⟩
  go_wp2_with fail
  refine (tq_fail w0 g q E _ _ w2 H2.out).mono ?_
  rintro e w3 ⟨rfl,h3⟩
  have H3:=zh h3
  clear h3
  have ca:w3.cell? ⟨a,0,none⟩=some (.func (.func 143) #[] #[]):=H3.out.at_ HA.out (by decide)
  have cq:w3.cell? ⟨q,5,none⟩=some (.int .u64 E.block):=H3.out.cell 5
  have fq:=H3.out.fz 5
  go_wp2_with fail
  refine (HAT.out _).mono ?_
  rintro e w4 ⟨rfl,rfl⟩
  go_wp2
  go_end0
  refine ⟨rfl,?_⟩
  rw [Bool.not_false,Bool.or_true]
  exact HSET.out _ _ _ H3.out
 ·rw [HC.out.2 h0]
  have KZ:=zh (fun W=>zeroU_no v W h0)
  clear HC h0
  go_enter Tryz.func199,Tryz.ntmps199
  go_wp2_with fail
  refine (HMK.out _).mono ?_
  rintro e w1 ⟨rfl,rfl⟩
  go_wp2_with fail
  refine (KR.out _ _ (zcr _ _ 0 _ 206 (0,0) (heap_alloc_new w _)) (HH.out.call ((Below.refl _ _).alloc (Nat.le_refl _) _))).mono ?_
  rintro e w2 ⟨rfl,h2⟩
  have cn:w2.cell? ⟨n,0,none⟩=some (.func (.func 177) #[] #[]):=h2.at_ HN.out (by decide)
  have H2:=zh h2
  clear h2
  go_wp2_with fail
  refine (KZ.out _).mono ?_
  rintro e w2' ⟨rfl,rfl⟩
  have ca:w2.cell? ⟨a,0,none⟩=some (.func (.func 143) #[] #[]):=H2.out.at_ HA.out (by decide)
  have cq:w2.cell? ⟨q,5,none⟩=some (.int .u64 E.block):=H2.out.cell 5
  have fq:=H2.out.fz 5
  go_wp2_with fail
  refine (HAT.out _).mono ?_
  rintro e w4 ⟨rfl,rfl⟩
  go_wp2
  go_end0
  exact ⟨rfl,HSET.out _ _ _ H2.out⟩
theorem take7_any (r n a:Nat) (h:Tq w0 g q E T b w) (hr0:w0.heap[r]?=some (.cells #[.func (.func 179) #[] #[]] 221 (0,0))) (hn0:w0.heap[n]?=some (.cells #[.func (.func 177) #[] #[]] 220 (0,0))) (ha0:w0.heap[a]?=some (.cells #[.func (.func 144) #[] #[]] 195 (0,0))) :
 Calls Tryz.prog 199 #[.pointer (some ⟨q,0,none⟩),.pointer (some ⟨g,0,none⟩),.pointer (some ⟨r,0,none⟩),.pointer (some ⟨n,0,none⟩),.pointer (some ⟨a,0,none⟩)] w fun e w'=>e=.returned (.tuple #[])∧Tq w0 g q (fS 7 E T).1 (fS 7 E T).2.1 (b||!(fS 7 E T).2.2) w':=by
 have HAT:=zh (at7_any q)
 have HN:=zh hn0
 have HA:=zh ha0
 have cr:w.cell? ⟨r,0,none⟩=some (.func (.func 179) #[] #[]):=h.at_ hr0 (by decide)
 have HH:=zh h
 have hvl:=varV_lt T
 obtain ⟨v,hv⟩:∃ v:Int,v=((varV T:Nat):Int):=⟨_,rfl⟩
 have KR:Hid (∀ W r',W.cell? ⟨r',0,none⟩=some (.pointer (some ⟨g,0,none⟩))→Tq w0 g q E T b W→Calls Tryz.prog 200 #[.pointer (some ⟨r',0,none⟩)] W fun e w'=>e=.returned (.int .u64 v)∧Tq w0 g q E (varT T) (b||!varO T) w'):=fun W r' hc hW=>hv▸readU_any w0 g q E T b W r' hc hW
 have HMK:=zh (mkU_any g)
 have HC:Hid ((v=0→fS 7 E T=(setN 7 E (varV T),⟨#[]⟩,false))∧(v≠0→fS 7 E T=(setN 7 E (varV T),varT T,varO T))):=by
  refine ⟨fun h0=>?_,fun h0=>?_⟩
  ·have hz:varV T=0:=by
    rcases Nat.eq_zero_or_pos (varV T) with h|h
    ·exact h
    ·exact absurd (hv▸h0) (by omega)
   unfold fS
   rw [if_pos (by omega),if_pos hz,decide_eq_false (by omega),Bool.and_false]
  ·have hz:varV T≠0:=fun e=>h0 (by rw [hv,e];rfl)
   unfold fS
   rw [if_pos (by omega),if_neg hz,decide_eq_true hz,Bool.and_true]
 have HSET:Hid (∀ T' b' W,Tq w0 g q E T' b' W→Tq w0 g q (setN 7 E (varV T)) T' b' (W.setCell ⟨q,6,none⟩ (.int .u64 v))):=fun T' b' W hW=>hW.set 6 _ (by rw [hv];simp [setN])
 clear hr0 hn0 ha0 h hv hvl
 by_cases h0:v=0
 ·rw [HC.out.1 h0]
  have KZ:=zh zeroU_yes
  clear HC
  subst h0
  go_enter Tryz.func199,Tryz.ntmps199
  go_wp2_with fail
  refine (HMK.out _).mono ?_
  rintro e w1 ⟨rfl,rfl⟩
  go_wp2_with fail
  refine (KR.out _ _ (zcr _ _ 0 _ 206 (0,0) (heap_alloc_new w _)) (HH.out.call ((Below.refl _ _).alloc (Nat.le_refl _) _))).mono ?_
  rintro e w2 ⟨rfl,h2⟩
  have cn:w2.cell? ⟨n,0,none⟩=some (.func (.func 177) #[] #[]):=h2.at_ HN.out (by decide)
  have H2:=zh h2
  clear h2
  go_wp2_with fail
  refine (KZ.out _).mono ?_
  rintro e w2' ⟨rfl,rfl⟩
  go_wp2_with fail
  refine (tq_fail w0 g q E _ _ w2 H2.out).mono ?_
  rintro e w3 ⟨rfl,h3⟩
  have H3:=zh h3
  clear h3
  have ca:w3.cell? ⟨a,0,none⟩=some (.func (.func 144) #[] #[]):=H3.out.at_ HA.out (by decide)
  have cq:w3.cell? ⟨q,6,none⟩=some (.int .u64 E.many):=H3.out.cell 6
  have fq:=H3.out.fz 6
  go_wp2_with fail
  refine (HAT.out _).mono ?_
  rintro e w4 ⟨rfl,rfl⟩
  go_wp2
  go_end0
  refine ⟨rfl,?_⟩
  rw [Bool.not_false,Bool.or_true]
  exact HSET.out _ _ _ H3.out
 ·rw [HC.out.2 h0]
  have KZ:=zh (fun W=>zeroU_no v W h0)
  clear HC h0
  go_enter Tryz.func199,Tryz.ntmps199
  go_wp2_with fail
  refine (HMK.out _).mono ?_
  rintro e w1 ⟨rfl,rfl⟩
  go_wp2_with fail
  refine (KR.out _ _ (zcr _ _ 0 _ 206 (0,0) (heap_alloc_new w _)) (HH.out.call ((Below.refl _ _).alloc (Nat.le_refl _) _))).mono ?_
  rintro e w2 ⟨rfl,h2⟩
  have cn:w2.cell? ⟨n,0,none⟩=some (.func (.func 177) #[] #[]):=h2.at_ HN.out (by decide)
  have H2:=zh h2
  clear h2
  go_wp2_with fail
  refine (KZ.out _).mono ?_
  rintro e w2' ⟨rfl,rfl⟩
  have ca:w2.cell? ⟨a,0,none⟩=some (.func (.func 144) #[] #[]):=H2.out.at_ HA.out (by decide)
  have cq:w2.cell? ⟨q,6,none⟩=some (.int .u64 E.many):=H2.out.cell 6
  have fq:=H2.out.fz 6
  go_wp2_with fail
  refine (HAT.out _).mono ?_
  rintro e w4 ⟨rfl,rfl⟩
  go_wp2
  go_end0
  exact ⟨rfl,HSET.out _ _ _ H2.out⟩
theorem take8_any (r n a:Nat) (h:Tq w0 g q E T b w) (hr0:w0.heap[r]?=some (.cells #[.func (.func 175) #[] #[]] 218 (0,0))) (hn0:w0.heap[n]?=some (.cells #[.func (.func 173) #[] #[]] 78 (0,0))) (ha0:w0.heap[a]?=some (.cells #[.func (.func 145) #[] #[]] 192 (0,0))) :
 Calls Tryz.prog 196 #[.pointer (some ⟨q,0,none⟩),.pointer (some ⟨g,0,none⟩),.pointer (some ⟨r,0,none⟩),.pointer (some ⟨n,0,none⟩),.pointer (some ⟨a,0,none⟩)] w fun e w'=>e=.returned (.tuple #[])∧Tq w0 g q (fS 8 E T).1 (fS 8 E T).2.1 (b||!(fS 8 E T).2.2) w':=by
 have HAT:=zh (at8_any q)
 have HN:=zh hn0
 have HA:=zh ha0
 have cr:w.cell? ⟨r,0,none⟩=some (.func (.func 175) #[] #[]):=h.at_ hr0 (by decide)
 have HH:=zh h
 have hvl:=varV_lt T
 obtain ⟨v,hv⟩:∃ v:Int,v=IntKind.i64.wrap (varV T):=⟨_,rfl⟩
 have KR:Hid (∀ W r',W.cell? ⟨r',0,none⟩=some (.pointer (some ⟨g,0,none⟩))→Tq w0 g q E T b W→Calls Tryz.prog 197 #[.pointer (some ⟨r',0,none⟩)] W fun e w'=>e=.returned (.int .i64 v)∧Tq w0 g q E (varT T) (b||!varO T) w'):=fun W r' hc hW=>hv▸readI_any w0 g q E T b W r' hc hW
 have HMK:=zh (mkI_any g)
 have HC:Hid ((v=0→fS 8 E T=(setN 8 E (varV T),⟨#[]⟩,false))∧(v≠0→fS 8 E T=(setN 8 E (varV T),varT T,varO T))):=by
  refine ⟨fun h0=>?_,fun h0=>?_⟩
  ·have hz:varV T=0:=by
    rcases Nat.eq_zero_or_pos (varV T) with h|h
    ·exact h
    ·exact absurd (hv▸h0) (wrap_zero hvl (by omega))
   unfold fS
   rw [if_pos (by omega),if_pos hz,decide_eq_false (by omega),Bool.and_false]
  ·have hz:varV T≠0:=fun e=>h0 (by rw [hv,e];rfl)
   unfold fS
   rw [if_pos (by omega),if_neg hz,decide_eq_true hz,Bool.and_true]
 have HSET:Hid (∀ T' b' W,Tq w0 g q E T' b' W→Tq w0 g q (setN 8 E (varV T)) T' b' (W.setCell ⟨q,7,none⟩ (.int .i64 v))):=fun T' b' W hW=>hW.set 7 _ (by rw [hv];simp [setN])
 clear hr0 hn0 ha0 h hv hvl
 by_cases h0:v=0
 ·rw [HC.out.1 h0]
  have KZ:=zh zeroI_yes
  clear HC
  subst h0
  go_enter Tryz.func196,Tryz.ntmps196
  go_wp2_with fail
  refine (HMK.out _).mono ?_
  rintro e w1 ⟨rfl,rfl⟩
  go_wp2_with fail
  refine (KR.out _ _ (zcr _ _ 0 _ 206 (0,0) (heap_alloc_new w _)) (HH.out.call ((Below.refl _ _).alloc (Nat.le_refl _) _))).mono ?_
  rintro e w2 ⟨rfl,h2⟩
  have cn:w2.cell? ⟨n,0,none⟩=some (.func (.func 173) #[] #[]):=h2.at_ HN.out (by decide)
  have H2:=zh h2
  clear h2
  go_wp2_with fail
  refine (KZ.out _).mono ?_
  rintro e w2' ⟨rfl,rfl⟩
  go_wp2_with fail
  refine (tq_fail w0 g q E _ _ w2 H2.out).mono ?_
  rintro e w3 ⟨rfl,h3⟩
  have H3:=zh h3
  clear h3
  have ca:w3.cell? ⟨a,0,none⟩=some (.func (.func 145) #[] #[]):=H3.out.at_ HA.out (by decide)
  have cq:w3.cell? ⟨q,7,none⟩=some (.int .i64 E.node):=H3.out.cell 7
  have fq:=H3.out.fz 7
  go_wp2_with fail
  refine (HAT.out _).mono ?_
  rintro e w4 ⟨rfl,rfl⟩
  go_wp2
  go_end0
  refine ⟨rfl,?_⟩
  rw [Bool.not_false,Bool.or_true]
  exact HSET.out _ _ _ H3.out
 ·rw [HC.out.2 h0]
  have KZ:=zh (fun W=>zeroI_no v W h0)
  clear HC h0
  go_enter Tryz.func196,Tryz.ntmps196
  go_wp2_with fail
  refine (HMK.out _).mono ?_
  rintro e w1 ⟨rfl,rfl⟩
  go_wp2_with fail
  refine (KR.out _ _ (zcr _ _ 0 _ 206 (0,0) (heap_alloc_new w _)) (HH.out.call ((Below.refl _ _).alloc (Nat.le_refl _) _))).mono ?_
  rintro e w2 ⟨rfl,h2⟩
  have cn:w2.cell? ⟨n,0,none⟩=some (.func (.func 173) #[] #[]):=h2.at_ HN.out (by decide)
  have H2:=zh h2
  clear h2
  go_wp2_with fail
  refine (KZ.out _).mono ?_
  rintro e w2' ⟨rfl,rfl⟩
  have ca:w2.cell? ⟨a,0,none⟩=some (.func (.func 145) #[] #[]):=H2.out.at_ HA.out (by decide)
  have cq:w2.cell? ⟨q,7,none⟩=some (.int .i64 E.node):=H2.out.cell 7
  have fq:=H2.out.fz 7
  go_wp2_with fail
  refine (HAT.out _).mono ?_
  rintro e w4 ⟨rfl,rfl⟩
  go_wp2
  go_end0
  exact ⟨rfl,HSET.out _ _ _ H2.out⟩
theorem take9_any (r n a:Nat) (h:Tq w0 g q E T b w) (hr0:w0.heap[r]?=some (.cells #[.func (.func 175) #[] #[]] 218 (0,0))) (hn0:w0.heap[n]?=some (.cells #[.func (.func 173) #[] #[]] 78 (0,0))) (ha0:w0.heap[a]?=some (.cells #[.func (.func 146) #[] #[]] 192 (0,0))) :
 Calls Tryz.prog 196 #[.pointer (some ⟨q,0,none⟩),.pointer (some ⟨g,0,none⟩),.pointer (some ⟨r,0,none⟩),.pointer (some ⟨n,0,none⟩),.pointer (some ⟨a,0,none⟩)] w fun e w'=>e=.returned (.tuple #[])∧Tq w0 g q (fS 9 E T).1 (fS 9 E T).2.1 (b||!(fS 9 E T).2.2) w':=by
 have HAT:=zh (at9_any q)
 have HN:=zh hn0
 have HA:=zh ha0
 have cr:w.cell? ⟨r,0,none⟩=some (.func (.func 175) #[] #[]):=h.at_ hr0 (by decide)
 have HH:=zh h
 have hvl:=varV_lt T
 obtain ⟨v,hv⟩:∃ v:Int,v=IntKind.i64.wrap (varV T):=⟨_,rfl⟩
 have KR:Hid (∀ W r',W.cell? ⟨r',0,none⟩=some (.pointer (some ⟨g,0,none⟩))→Tq w0 g q E T b W→Calls Tryz.prog 197 #[.pointer (some ⟨r',0,none⟩)] W fun e w'=>e=.returned (.int .i64 v)∧Tq w0 g q E (varT T) (b||!varO T) w'):=fun W r' hc hW=>hv▸readI_any w0 g q E T b W r' hc hW
 have HMK:=zh (mkI_any g)
 have HC:Hid ((v=0→fS 9 E T=(setN 9 E (varV T),⟨#[]⟩,false))∧(v≠0→fS 9 E T=(setN 9 E (varV T),varT T,varO T))):=by
  refine ⟨fun h0=>?_,fun h0=>?_⟩
  ·have hz:varV T=0:=by
    rcases Nat.eq_zero_or_pos (varV T) with h|h
    ·exact h
    ·exact absurd (hv▸h0) (wrap_zero hvl (by omega))
   unfold fS
   rw [if_pos (by omega),if_pos hz,decide_eq_false (by omega),Bool.and_false]
  ·have hz:varV T≠0:=fun e=>h0 (by rw [hv,e];rfl)
   unfold fS
   rw [if_pos (by omega),if_neg hz,decide_eq_true hz,Bool.and_true]
 have HSET:Hid (∀ T' b' W,Tq w0 g q E T' b' W→Tq w0 g q (setN 9 E (varV T)) T' b' (W.setCell ⟨q,8,none⟩ (.int .i64 v))):=fun T' b' W hW=>hW.set 8 _ (by rw [hv];simp [setN])
 clear hr0 hn0 ha0 h hv hvl
 by_cases h0:v=0
 ·rw [HC.out.1 h0]
  have KZ:=zh zeroI_yes
  clear HC
  subst h0
  go_enter Tryz.func196,Tryz.ntmps196
  go_wp2_with fail
  refine (HMK.out _).mono ?_
  rintro e w1 ⟨rfl,rfl⟩
  go_wp2_with fail
  refine (KR.out _ _ (zcr _ _ 0 _ 206 (0,0) (heap_alloc_new w _)) (HH.out.call ((Below.refl _ _).alloc (Nat.le_refl _) _))).mono ?_
  rintro e w2 ⟨rfl,h2⟩
  have cn:w2.cell? ⟨n,0,none⟩=some (.func (.func 173) #[] #[]):=h2.at_ HN.out (by decide)
  have H2:=zh h2
  clear h2
  go_wp2_with fail
  refine (KZ.out _).mono ?_
  rintro e w2' ⟨rfl,rfl⟩
  go_wp2_with fail
  refine (tq_fail w0 g q E _ _ w2 H2.out).mono ?_
  rintro e w3 ⟨rfl,h3⟩
  have H3:=zh h3
  clear h3
  have ca:w3.cell? ⟨a,0,none⟩=some (.func (.func 146) #[] #[]):=H3.out.at_ HA.out (by decide)
  have cq:w3.cell? ⟨q,8,none⟩=some (.int .i64 E.level):=H3.out.cell 8
  have fq:=H3.out.fz 8
  go_wp2_with fail
  refine (HAT.out _).mono ?_
  rintro e w4 ⟨rfl,rfl⟩
  go_wp2
  go_end0
  refine ⟨rfl,?_⟩
  rw [Bool.not_false,Bool.or_true]
  exact HSET.out _ _ _ H3.out
 ·rw [HC.out.2 h0]
  have KZ:=zh (fun W=>zeroI_no v W h0)
  clear HC h0
  go_enter Tryz.func196,Tryz.ntmps196
  go_wp2_with fail
  refine (HMK.out _).mono ?_
  rintro e w1 ⟨rfl,rfl⟩
  go_wp2_with fail
  refine (KR.out _ _ (zcr _ _ 0 _ 206 (0,0) (heap_alloc_new w _)) (HH.out.call ((Below.refl _ _).alloc (Nat.le_refl _) _))).mono ?_
  rintro e w2 ⟨rfl,h2⟩
  have cn:w2.cell? ⟨n,0,none⟩=some (.func (.func 173) #[] #[]):=h2.at_ HN.out (by decide)
  have H2:=zh h2
  clear h2
  go_wp2_with fail
  refine (KZ.out _).mono ?_
  rintro e w2' ⟨rfl,rfl⟩
  have ca:w2.cell? ⟨a,0,none⟩=some (.func (.func 146) #[] #[]):=H2.out.at_ HA.out (by decide)
  have cq:w2.cell? ⟨q,8,none⟩=some (.int .i64 E.level):=H2.out.cell 8
  have fq:=H2.out.fz 8
  go_wp2_with fail
  refine (HAT.out _).mono ?_
  rintro e w4 ⟨rfl,rfl⟩
  go_wp2
  go_end0
  exact ⟨rfl,HSET.out _ _ _ H2.out⟩
theorem take10_any (r n a:Nat) (h:Tq w0 g q E T b w) (hr0:w0.heap[r]?=some (.cells #[.func (.func 183) #[] #[]] 223 (0,0))) (hn0:w0.heap[n]?=some (.cells #[.func (.func 181) #[] #[]] 152 (0,0))) (ha0:w0.heap[a]?=some (.cells #[.func (.func 148) #[] #[]] 198 (0,0))) :
 Calls Tryz.prog 202 #[.pointer (some ⟨q,0,none⟩),.pointer (some ⟨g,0,none⟩),.pointer (some ⟨r,0,none⟩),.pointer (some ⟨n,0,none⟩),.pointer (some ⟨a,0,none⟩)] w fun e w'=>e=.returned (.tuple #[])∧Tq w0 g q (fS 10 E T).1 (fS 10 E T).2.1 (b||!(fS 10 E T).2.2) w':=by
 have HAT:=zh (at10_any q)
 have HN:=zh hn0
 have HA:=zh ha0
 have cr:w.cell? ⟨r,0,none⟩=some (.func (.func 183) #[] #[]):=h.at_ hr0 (by decide)
 have HH:=zh h
 obtain ⟨d,hd⟩:∃ d,d=texV T:=⟨_,rfl⟩
 have KR:Hid (∀ W,Tq w0 g q E T b W→Calls Tryz.prog 203 #[.pointer (some ⟨g,0,none⟩)] W fun e w'=>e=.returned (.string d)∧Tq w0 g q E (texT T) (b||!texO T) w'):=fun W hW=>hd▸tq_tex w0 g q E T b W hW
 have HMK:=zh (mkS_any g)
 have HC:Hid ((d.size=0→fS 10 E T=(setT 10 E d,⟨#[]⟩,false))∧(d.size≠0→fS 10 E T=(setT 10 E d,texT T,texO T))):=by
  refine ⟨fun h0=>?_,fun h0=>?_⟩
  ·unfold fS
   rw [if_neg (by omega),←hd,if_pos h0,decide_eq_false (by omega),Bool.and_false]
  ·unfold fS
   rw [if_neg (by omega),←hd,if_neg h0,decide_eq_true h0,Bool.and_true]
 have HSET:Hid (∀ T' b' W,Tq w0 g q E T' b' W→Tq w0 g q (setT 10 E d) T' b' (W.setCell ⟨q,9,none⟩ (.string d))):=fun T' b' W hW=>hW.set 9 _ (by simp [setT])
 clear hr0 hn0 ha0 h hd
 by_cases h0:d.size=0
 ·rw [HC.out.1 h0]
  have hde:=(size0 d).1 h0
  have KZ:=zh zeroS_yes
  clear HC h0
  subst hde
  go_enter Tryz.func202,Tryz.ntmps202
  go_wp2_with fail
  refine (HMK.out _).mono ?_
  rintro e w1 ⟨rfl,rfl⟩
  go_wp2_with fail
  refine (KR.out _ HH.out).mono ?_
  rintro e w2 ⟨rfl,h2⟩
  have cn:w2.cell? ⟨n,0,none⟩=some (.func (.func 181) #[] #[]):=h2.at_ HN.out (by decide)
  have H2:=zh h2
  clear h2
  go_wp2_with fail
  refine (KZ.out _).mono ?_
  rintro e w2' ⟨rfl,rfl⟩
  go_wp2_with fail
  refine (tq_fail w0 g q E _ _ w2 H2.out).mono ?_
  rintro e w3 ⟨rfl,h3⟩
  have H3:=zh h3
  clear h3
  have ca:w3.cell? ⟨a,0,none⟩=some (.func (.func 148) #[] #[]):=H3.out.at_ HA.out (by decide)
  have cq:w3.cell? ⟨q,9,none⟩=some (.string E.data):=H3.out.cell 9
  have fq:=H3.out.fz 9
  go_wp2_with fail
  refine (HAT.out _).mono ?_
  rintro e w4 ⟨rfl,rfl⟩
  go_wp2
  go_end0
  refine ⟨rfl,?_⟩
  rw [Bool.not_false,Bool.or_true]
  exact HSET.out _ _ _ H3.out
 ·rw [HC.out.2 h0]
  have KZ:=zh (fun W=>zeroS_no d W h0)
  clear HC h0
  go_enter Tryz.func202,Tryz.ntmps202
  go_wp2_with fail
  refine (HMK.out _).mono ?_
  rintro e w1 ⟨rfl,rfl⟩
  go_wp2_with fail
  refine (KR.out _ HH.out).mono ?_
  rintro e w2 ⟨rfl,h2⟩
  have cn:w2.cell? ⟨n,0,none⟩=some (.func (.func 181) #[] #[]):=h2.at_ HN.out (by decide)
  have H2:=zh h2
  clear h2
  go_wp2_with fail
  refine (KZ.out _).mono ?_
  rintro e w2' ⟨rfl,rfl⟩
  have ca:w2.cell? ⟨a,0,none⟩=some (.func (.func 148) #[] #[]):=H2.out.at_ HA.out (by decide)
  have cq:w2.cell? ⟨q,9,none⟩=some (.string E.data):=H2.out.cell 9
  have fq:=H2.out.fz 9
  go_wp2_with fail
  refine (HAT.out _).mono ?_
  rintro e w4 ⟨rfl,rfl⟩
  go_wp2
  go_end0
  exact ⟨rfl,HSET.out _ _ _ H2.out⟩
theorem take11_any (r n a:Nat) (h:Tq w0 g q E T b w) (hr0:w0.heap[r]?=some (.cells #[.func (.func 183) #[] #[]] 223 (0,0))) (hn0:w0.heap[n]?=some (.cells #[.func (.func 181) #[] #[]] 152 (0,0))) (ha0:w0.heap[a]?=some (.cells #[.func (.func 149) #[] #[]] 198 (0,0))) :
 Calls Tryz.prog 202 #[.pointer (some ⟨q,0,none⟩),.pointer (some ⟨g,0,none⟩),.pointer (some ⟨r,0,none⟩),.pointer (some ⟨n,0,none⟩),.pointer (some ⟨a,0,none⟩)] w fun e w'=>e=.returned (.tuple #[])∧Tq w0 g q (fS 11 E T).1 (fS 11 E T).2.1 (b||!(fS 11 E T).2.2) w':=by
 have HAT:=zh (at11_any q)
 have HN:=zh hn0
 have HA:=zh ha0
 have cr:w.cell? ⟨r,0,none⟩=some (.func (.func 183) #[] #[]):=h.at_ hr0 (by decide)
 have HH:=zh h
 obtain ⟨d,hd⟩:∃ d,d=texV T:=⟨_,rfl⟩
 have KR:Hid (∀ W,Tq w0 g q E T b W→Calls Tryz.prog 203 #[.pointer (some ⟨g,0,none⟩)] W fun e w'=>e=.returned (.string d)∧Tq w0 g q E (texT T) (b||!texO T) w'):=fun W hW=>hd▸tq_tex w0 g q E T b W hW
 have HMK:=zh (mkS_any g)
 have HC:Hid ((d.size=0→fS 11 E T=(setT 11 E d,⟨#[]⟩,false))∧(d.size≠0→fS 11 E T=(setT 11 E d,texT T,texO T))):=by
  refine ⟨fun h0=>?_,fun h0=>?_⟩
  ·unfold fS
   rw [if_neg (by omega),←hd,if_pos h0,decide_eq_false (by omega),Bool.and_false]
  ·unfold fS
   rw [if_neg (by omega),←hd,if_neg h0,decide_eq_true h0,Bool.and_true]
 have HSET:Hid (∀ T' b' W,Tq w0 g q E T' b' W→Tq w0 g q (setT 11 E d) T' b' (W.setCell ⟨q,10,none⟩ (.string d))):=fun T' b' W hW=>hW.set 10 _ (by simp [setT])
 clear hr0 hn0 ha0 h hd
 by_cases h0:d.size=0
 ·rw [HC.out.1 h0]
  have hde:=(size0 d).1 h0
  have KZ:=zh zeroS_yes
  clear HC h0
  subst hde
  go_enter Tryz.func202,Tryz.ntmps202
  go_wp2_with fail
  refine (HMK.out _).mono ?_
  rintro e w1 ⟨rfl,rfl⟩
  go_wp2_with fail
  refine (KR.out _ HH.out).mono ?_
  rintro e w2 ⟨rfl,h2⟩
  have cn:w2.cell? ⟨n,0,none⟩=some (.func (.func 181) #[] #[]):=h2.at_ HN.out (by decide)
  have H2:=zh h2
  clear h2
  go_wp2_with fail
  refine (KZ.out _).mono ?_
  rintro e w2' ⟨rfl,rfl⟩
  go_wp2_with fail
  refine (tq_fail w0 g q E _ _ w2 H2.out).mono ?_
  rintro e w3 ⟨rfl,h3⟩
  have H3:=zh h3
  clear h3
  have ca:w3.cell? ⟨a,0,none⟩=some (.func (.func 149) #[] #[]):=H3.out.at_ HA.out (by decide)
  have cq:w3.cell? ⟨q,10,none⟩=some (.string E.old):=H3.out.cell 10
  have fq:=H3.out.fz 10
  go_wp2_with fail
  refine (HAT.out _).mono ?_
  rintro e w4 ⟨rfl,rfl⟩
  go_wp2
  go_end0
  refine ⟨rfl,?_⟩
  rw [Bool.not_false,Bool.or_true]
  exact HSET.out _ _ _ H3.out
 ·rw [HC.out.2 h0]
  have KZ:=zh (fun W=>zeroS_no d W h0)
  clear HC h0
  go_enter Tryz.func202,Tryz.ntmps202
  go_wp2_with fail
  refine (HMK.out _).mono ?_
  rintro e w1 ⟨rfl,rfl⟩
  go_wp2_with fail
  refine (KR.out _ HH.out).mono ?_
  rintro e w2 ⟨rfl,h2⟩
  have cn:w2.cell? ⟨n,0,none⟩=some (.func (.func 181) #[] #[]):=h2.at_ HN.out (by decide)
  have H2:=zh h2
  clear h2
  go_wp2_with fail
  refine (KZ.out _).mono ?_
  rintro e w2' ⟨rfl,rfl⟩
  have ca:w2.cell? ⟨a,0,none⟩=some (.func (.func 149) #[] #[]):=H2.out.at_ HA.out (by decide)
  have cq:w2.cell? ⟨q,10,none⟩=some (.string E.old):=H2.out.cell 10
  have fq:=H2.out.fz 10
  go_wp2_with fail
  refine (HAT.out _).mono ?_
  rintro e w4 ⟨rfl,rfl⟩
  go_wp2
  go_end0
  exact ⟨rfl,HSET.out _ _ _ H2.out⟩
end
end Go.Proofs.YtnobeoppffoomaaGreat
