/-
  FrameCodes: part G36.
  Conditions: named in each theorem.
-/
import Derived.Test.YtpdbeijfchmlgaaGreatZ0
import Derived.Test.YtpdbeijfchmlgaaGreatG15
import Derived.Test.YtpdbeijfchmlgaaGreatG28
import Derived.Test.YtpdbeijfchmlgaaGreatG30
import Derived.Test.YtpdbeijfchmlgaaGreatG31
import Derived.Test.YtpdbeijfchmlgaaGreatG32
set_option linter.unusedVariables false
set_option linter.unusedSimpArgs false
set_option maxHeartbeats 16000000
set_option maxRecDepth 100000
namespace Go.Proofs.YtpdbeijfchmlgaaGreat.D
open Go.RowKit
open Vi
theorem sane_no (s:ByteArray) (h:varO s=false):varV s=0∧varT s=⟨#[]⟩:=by
 obtain ⟨h1,_,h3⟩:=var_no s h;exact ⟨h1,h3⟩
theorem var_live {T:ByteArray} {b:Bool} (hs:Vi.Sane T b) (hv:varV T≠0):b=false∧varO T=true:=by
 constructor
 ·cases b with
  | false=>rfl
  | true =>
    have e:T=⟨#[]⟩:=hs rfl;exact absurd (by rw [e];exact var00.1) hv
 ·cases ho:varO T with
  | true=>rfl
  | false=>exact absurd (sane_no T ho).1 hv
def rdE (T:ByteArray):List En:=if 64<varV T then [] else lE (varV T) (varT T)
def rdT (T:ByteArray):ByteArray:=if 64<varV T then ⟨#[]⟩ else lT (varV T) (varT T)
def rdO (T:ByteArray):Bool:=if 64<varV T then false else varO T&&lO (varV T) (varT T)
theorem rdT_le (T:ByteArray):(rdT T).size≤T.size:=by
 unfold rdT
 split
 ·exact Nat.zero_le _
 ·exact Nat.le_trans (lT_le _ _) (varT_size T)
theorem rdT_sane (T:ByteArray):Vi.Sane (rdT T) (!rdO T):=by
 intro h;unfold rdO at h;unfold rdT
 by_cases h64:64<varV T
 ·rw [if_pos h64]
 ·rw [if_neg h64] at h ⊢;have h2:(!(varO T&&lO (varV T) (varT T)))=true:=h;rw [Bool.not_eq_true'] at h2;have h:=h2
  cases ho:varO T with
  | false =>
    obtain ⟨e1,e2⟩:=sane_no T ho;rw [e1,e2];rfl
  | true =>
    rw [ho,Bool.true_and] at h;exact lT_no _ _ h
theorem mS11 (E:Mp) (T:ByteArray):((rdE T).length=0→mS 11 E T=({ E with es:=rdE T },⟨#[]⟩,false))∧((rdE T).length≠0→mS 11 E T=({ E with es:=rdE T },rdT T,rdO T)):=by
 constructor
 ·intro h
  by_cases h64:64<varV T
  ·have e:rdE T=[]:=if_pos h64;unfold mS;rw [if_neg (by omega),if_neg (by omega),if_neg (by omega),if_pos h64,e]
  ·have e:rdE T=lE (varV T) (varT T):=if_neg h64;rw [e,lE_length] at h;unfold mS;rw [if_neg (by omega),if_neg (by omega),if_neg (by omega),if_neg h64,e,if_pos h,decide_eq_false (by omega),Bool.and_false]
 ·intro h
  by_cases h64:64<varV T
  ·have e:rdE T=[]:=if_pos h64;exact absurd (by rw [e];rfl) h
  ·have e:rdE T=lE (varV T) (varT T):=if_neg h64;have e2:rdT T=lT (varV T) (varT T):=if_neg h64;have e3:rdO T=(varO T&&lO (varV T) (varT T)):=if_neg h64;rw [e,lE_length] at h;unfold mS;rw [if_neg (by omega),if_neg (by omega),if_neg (by omega),if_neg h64,e,e2,e3,if_neg h,decide_eq_true h,Bool.and_true]
theorem mS_size (t:Nat) (E:Mp) (T:ByteArray):(mS t E T).2.1.size≤T.size:=by
 unfold mS;have h1:=varT_size T;have h2:=texT_le T;have h3:=lT_le (varV T) (varT T)
 repeat' split
 all_goals (try dsimp only)
 all_goals first|exact Nat.zero_le _|omega
theorem cell_blk {w w1:World} {a:Addr} (h:w1.heap[a.block]?=w.heap[a.block]?):w1.cell? a=w.cell? a:=by
 unfold World.cell?;rw [h]
theorem ents_move {B B' n:Nat} {A:Option Addr} {es:List En} {w w1:World} (h:Ents B A n es w) (hB:B≤B') (hb:∀ a,A=some a→a.block<B→w1.heap[a.block]?=w.heap[a.block]?):Ents B' A n es w1 :=
 ⟨h.len,fun i e he=>by
  obtain ⟨a,hA,h1,hc⟩:=h.at_ i e he;refine ⟨a,hA,Nat.lt_of_lt_of_le h1 hB,fun j hj=>?_⟩;rw [←hc j hj];exact cell_blk (by rw [block_of_add,block_of_add];exact hb a hA h1)⟩
structure Ty (w0:World) (g q:Nat) (E:Mp) (A:Option Addr) (c:Nat) (T:ByteArray) (b:Bool) (w:World):Prop where
 hr:Rd 178 g T b w
 al:w.heap[q]?=some (.cells (mc (E.at_ A c)) 29 (0,0))
 fr:w0.grownBy w (some g)
 st:Stab w0 w
 lg:g<w0.heap.size
 lq:w0.heap.size≤q
 sz:T.size≤140737488351232
 sn:Vi.Sane T b
 en:Ents w.heap.size A E.es.length E.es w
 ap:∀ a,A=some a→w0.heap.size≤a.block∧a.block≠q
section
variable {w0 w w1:World} {g q:Nat} {E E':Mp} {A:Option Addr} {c:Nat} {T T':ByteArray} {b b':Bool}
theorem Ty.call (h:Ty w0 g q E A c T b w) (hb:Below w.heap.size w w1):Ty w0 g q E A c T b w1 :=
 ⟨h.hr.below hb h.hr.lt,(hb.block _ (zgx h.al)).trans h.al,gb_below_b h.fr hb,h.st.trans (Stab.below hb),h.lg,h.lq,h.sz,h.sn,(h.en.below hb).mr hb.size,h.ap⟩
theorem Ty.step (h:Ty w0 g q E A c T b w) (hx:Rd 178 g T' b' w1) (hf:w.grownBy w1 (some g)) (hT:T'.size≤T.size) (hs:Vi.Sane T' b'):Ty w0 g q E A c T' b' w1:=by
 have h1:=h.lg;have h2:=h.lq;exact ⟨hx,(hf.block _ (zgx h.al) (by simp;omega)).trans h.al,h.fr.trans hf,h.st.trans (Stab.grown hf h.hr (.inr (.inl rfl))),h.lg,h.lq,Nat.le_trans hT h.sz,hs,ents_move h.en hf.size (fun a ha hl=>hf.block _ hl (by have:=(h.ap a ha).1;simp;omega)),h.ap⟩
theorem Ty.cell (h:Ty w0 g q E A c T b w) (i:Nat):w.cell? ⟨q,i,none⟩=(mc (E.at_ A c))[i]?:=zcr w _ i _ 29 (0,0) h.al
theorem Ty.fz (h:Ty w0 g q E A c T b w) (i:Nat):w.frozen? ⟨q,i,none⟩=false:=Lib.frozen_of_heap h.al i
theorem Ty.set (h:Ty w0 g q E A c T b w) (i:Nat) (v:Value) (he:(mc (E.at_ A c)).setIfInBounds i v=mc (E'.at_ A c)) (hes:E'.es=E.es):Ty w0 g q E' A c T b (w.setCell ⟨q,i,none⟩ v):=by
 have h1:=h.lg;have h2:=h.lq;refine ⟨rd_set_b h.hr (by simp;omega),?_,gb_set_b h.fr (by simp;omega),h.st.trans (Stab.set (p:=⟨q,i,none⟩) h.al (.inl (by decide))),h.lg,h.lq,h.sz,h.sn,?_,h.ap⟩
 ·rw [←he];exact set_blk h.al i v
 ·rw [hes];exact ents_move h.en (by simp [World.setCell]) (fun a ha hl=>Below.heap_setCell w _ _ _ (by have:=(h.ap a ha).2;simpa using this))
theorem Ty.ents (h:Ty w0 g q E A c T b w) {A':Option Addr} {c':Nat} {es:List En} (he:Ents w.heap.size A' es.length es w) (hp:∀ a,A'=some a→w0.heap.size≤a.block∧a.block≠q):Ty w0 g q { E with es:=es } A' c' T b (w.setCell ⟨q,9,none⟩ (.slice A' es.length c')):=by
 have h1:=h.lg;have h2:=h.lq;refine ⟨rd_set_b h.hr (by simp;omega),?_,gb_set_b h.fr (by simp;omega),h.st.trans (Stab.set (p:=⟨q,9,none⟩) h.al (.inl (by decide))),h.lg,h.lq,h.sz,h.sn,?_,hp⟩
 ·have h5:=set_blk h.al 9 (.slice A' es.length c');rw [show (mc (E.at_ A c)).setIfInBounds 9 (.slice A' es.length c')=mc (({ E with es:=es }:Mp).at_ A' c') by simp [Mp.at_]] at h5;exact h5
 ·exact ents_move he (by simp [World.setCell]) (fun a ha hl=>Below.heap_setCell w _ _ _ (by have:=(hp a ha).2;simpa using this))
theorem Ty.at_ {k:Nat} {v:Value} {ty:TypeId} (h:Ty w0 g q E A c T b w) (hk:w0.heap[k]?=some (.cells #[v] ty (0,0))) (c:80<ty∧ty≠178∧ty≠93):w.cell? ⟨k,0,none⟩=some v :=
 zcr w k 0 _ ty (0,0) (h.st k _ _ hk c.1 c.2.1 c.2.2)
end
section
variable (w0:World) (g q:Nat) (E:Mp) (A:Option Addr) (c:Nat) (T:ByteArray) (b:Bool) (w:World)
theorem ty_var (h:Ty w0 g q E A c T b w) :
 Calls Tryz.prog 158 #[.pointer (some ⟨g,0,none⟩)] w fun e w'=>e=.returned (.int .u64 (varV T))∧Ty w0 g q E A c (varT T) (b||!varO T) w' :=
 (var_any g T b w h.hr (by have:=h.sz;omega)).mono fun e w' ⟨h1,h2,h3⟩=>⟨h1,h.step h2 h3 (varT_size T) (Vi.sane_var _ _ h.sn)⟩
theorem ty_fail (h:Ty w0 g q E A c T b w) :
 Calls Tryz.prog 87 #[.pointer (some ⟨g,0,none⟩)] w fun e w'=>e=.returned (.tuple #[])∧Ty w0 g q E A c ⟨#[]⟩ true w' :=
 (fail_any g T b w h.hr).mono fun e w' ⟨h1,h2,h3⟩=>⟨h1,h.step h2 h3 (Nat.zero_le _) (fun _=>rfl)⟩
theorem ty_tex (h:Ty w0 g q E A c T b w) :
 Calls Tryz.prog 202 #[.pointer (some ⟨g,0,none⟩)] w fun e w'=>e=.returned (.string (texV T))∧Ty w0 g q E A c (texT T) (b||!texO T) w' :=
 (textr_any g T b w h.hr (by have:=h.sz;omega)).mono fun e w' ⟨h1,h2,h3⟩=>⟨h1,h.step h2 h3 (texT_le T) (Vi.sane_tex _ _ h.sn)⟩
theorem mreadI_any (r:Nat) (hr:w.cell? ⟨r,0,none⟩=some (.pointer (some ⟨g,0,none⟩))) (h:Ty w0 g q E A c T b w) :
 Calls Tryz.prog 196 #[.pointer (some ⟨r,0,none⟩)] w fun e w'=>e=.returned (.int .i64 (IntKind.i64.wrap (varV T)))∧Ty w0 g q E A c (varT T) (b||!varO T) w':=by
 have K:=zh (ty_var w0 g q E A c T b w h);have hv:=varV_lt T;obtain ⟨n,hn⟩:∃ n,n=varV T:=⟨_,rfl⟩;have hq:=wrap_same (varV T) hv;rw [←hn] at K hq ⊢;obtain ⟨v,hv2⟩:∃ v,v=IntKind.i64.wrap (n:Int):=⟨_,rfl⟩;have hq2:IntKind.i64.wrap (n:Int)=v:=hv2.symm;rw [hq2] at hq;rw [←hv2];have hq3:((n:Int) != (n:Int))=false:=by simp
 clear hv hn h hv2
 go_enter Tryz.func196,Tryz.ntmps196
 go_wp2_with fail
 refine K.out.mono ?_;rintro e w1 ⟨rfl,h1⟩;go_wp2;go_ret;exact ⟨rfl,h1⟩
theorem mreadU_any (r:Nat) (hr:w.cell? ⟨r,0,none⟩=some (.pointer (some ⟨g,0,none⟩))) (h:Ty w0 g q E A c T b w) :
 Calls Tryz.prog 199 #[.pointer (some ⟨r,0,none⟩)] w fun e w'=>e=.returned (.int .u64 (varV T))∧Ty w0 g q E A c (varT T) (b||!varO T) w':=by
 have K:=zh (ty_var w0 g q E A c T b w h);have hv:=varV_lt T;obtain ⟨n,hn⟩:∃ n,n=varV T:=⟨_,rfl⟩;rw [←hn] at K hv ⊢;have hq:IntKind.u64.wrap (n:Int)=(n:Int):=IntWalk.u64_in _ (by omega);clear hv hn h
 go_enter Tryz.func199,Tryz.ntmps199
 go_wp2_with fail
 refine K.out.mono ?_;rintro e w1 ⟨rfl,h1⟩;go_wp2;go_ret;exact ⟨rfl,h1⟩
theorem mreadB_any (r:Nat) (hr:w.cell? ⟨r,0,none⟩=some (.pointer (some ⟨g,0,none⟩))) (h:Ty w0 g q E A c T b w) :
 Calls Tryz.prog 209 #[.pointer (some ⟨r,0,none⟩)] w fun e w'=>e=.returned (.bool (decide (varV T=1)))∧Ty w0 g q E A c (varT T) (b||!varO T) w':=by
 have K:=zh (ty_var w0 g q E A c T b w h);obtain ⟨n,hn⟩:∃ n,n=varV T:=⟨_,rfl⟩;rw [←hn] at K ⊢;obtain ⟨y,hy⟩:∃ y,y=decide (n=1):=⟨_,rfl⟩;rw [←hy]
 have hq:((n:Int)==1)=y:=by
  rw [hy,Bool.eq_iff_iff];simp only [beq_iff_eq,decide_eq_true_eq];omega
 clear hn h hy
 go_enter Tryz.func209,Tryz.ntmps209
 go_wp2_with fail
 refine K.out.mono ?_;rintro e w1 ⟨rfl,h1⟩;go_wp2;go_ret;exact ⟨by simp [hq],h1⟩
theorem mkB_any:Calls Tryz.prog 182 #[.pointer (some ⟨g,0,none⟩)] w fun e w'=>e=.returned (.func (.func 209) #[] #[.pointer (some ⟨w.heap.size,0,none⟩)])∧w'=w.alloc (Obj.cells #[.pointer (some ⟨g,0,none⟩)] 112):=by
 have hmf:=zmL
 go_enter Tryz.func182,Tryz.ntmps182
 go_wp2;go_ret;exact ⟨rfl,rfl⟩
theorem mkE_any:Calls Tryz.prog 151 #[.pointer (some ⟨g,0,none⟩)] w fun e w'=>e=.returned (.func (.func 186) #[] #[.pointer (some ⟨w.heap.size,0,none⟩)])∧w'=w.alloc (Obj.cells #[.pointer (some ⟨g,0,none⟩)] 112):=by
 have hmf:=zmL
 go_enter Tryz.func151,Tryz.ntmps151
 go_wp2;go_ret;exact ⟨rfl,rfl⟩
def RdE (g:Nat) (T:ByteArray) (w:World) (e:Ending) (w':World):Prop :=
 ∃ A' c',e=.returned (.slice A' (rdE T).length c')∧Ents w'.heap.size A' (rdE T).length (rdE T) w'∧(∀ a,A'=some a→w.heap.size≤a.block)∧Rd 178 g (rdT T) (!rdO T) w'∧w.grownBy w' (some g)
theorem mtake1_any (r n a:Nat) (h:Ty w0 g q E A c T false w) (hr0:w0.heap[r]?=some (.cells #[.func (.func 168) #[] #[]] 187 (0,0))) (hn0:w0.heap[n]?=some (.cells #[.func (.func 166) #[] #[]] 186 (0,0))) (ha0:w0.heap[a]?=some (.cells #[.func (.func 134) #[] #[]] 163 (0,0))) :
 Calls Tryz.prog 204 #[.pointer (some ⟨q,0,none⟩),.pointer (some ⟨g,0,none⟩),.pointer (some ⟨r,0,none⟩),.pointer (some ⟨n,0,none⟩),.pointer (some ⟨a,0,none⟩)] w fun e w'=>e=.returned (.tuple #[])∧Ty w0 g q (mS 1 E T).1 A c (mS 1 E T).2.1 (!(mS 1 E T).2.2) w':=by
 have HAT:=zh (mat1_any q);have HN:=zh hn0;have HA:=zh ha0;have cr:w.cell? ⟨r,0,none⟩=some (.func (.func 168) #[] #[]):=h.at_ hr0 (by decide);have HH:=zh h;have hvl:=varV_lt T;obtain ⟨v,hv⟩:∃ v:Int,v=IntKind.i64.wrap (varV T):=⟨_,rfl⟩;have KR:Hid (∀ W r',W.cell? ⟨r',0,none⟩=some (.pointer (some ⟨g,0,none⟩))→Ty w0 g q E A c T false W→Calls Tryz.prog 196 #[.pointer (some ⟨r',0,none⟩)] W fun e w'=>e=.returned (.int .i64 v)∧Ty w0 g q E A c (varT T) (!varO T) w'):=fun W r' hc hW=>hv▸mreadI_any w0 g q E A c T false W r' hc hW;have HMK:=zh (mkI_any g)
 have HC:Hid ((v=0→mS 1 E T=(setM 1 E (varV T),⟨#[]⟩,false))∧(v≠0→mS 1 E T=(setM 1 E (varV T),varT T,varO T))):=by
  refine ⟨fun h0=>?_,fun h0=>?_⟩
  ·have hz:varV T=0:=by
    rcases Nat.eq_zero_or_pos (varV T) with h|h
    ·exact h
    ·exact absurd (hv▸h0) (wrap_zero hvl (by omega))
   unfold mS;rw [if_pos (by omega),if_pos hz,decide_eq_false (by omega),Bool.and_false]
  ·have hz:varV T≠0:=fun e=>h0 (by rw [hv,e];rfl);unfold mS;rw [if_pos (by omega),if_neg hz,decide_eq_true hz,Bool.and_true]
 have HSET:Hid (∀ T' b' W,Ty w0 g q E A c T' b' W→Ty w0 g q (setM 1 E (varV T)) A c T' b' (W.setCell ⟨q,0,none⟩ (.int .i64 v))):=fun T' b' W hW=>hW.set 0 _ (by rw [hv];simp [setM,Mp.at_]) rfl;clear hr0 hn0 ha0 h hv hvl
 by_cases h0:v=0
 ·rw [HC.out.1 h0];have KZ:=zh zeroI_yes;clear HC;subst h0
  go_enter Tryz.func204,Tryz.ntmps204
  go_wp2_with fail
  refine (HMK.out _).mono ?_;rintro e w1 ⟨rfl,rfl⟩
  go_wp2_with fail
  refine (KR.out _ _ (zcr _ _ 0 _ 112 (0,0) (heap_alloc_new w _)) (HH.out.call zba)).mono ?_;rintro e w2 ⟨rfl,h2⟩;have cn:w2.cell? ⟨n,0,none⟩=some (.func (.func 166) #[] #[]):=h2.at_ HN.out (by decide);have H2:=zh h2;clear h2
  go_wp2_with fail
  refine (KZ.out _).mono ?_;rintro e w2' ⟨rfl,rfl⟩
  go_wp2_with fail
  refine (ty_fail w0 g q E A c _ _ w2 H2.out).mono ?_;rintro e w3 ⟨rfl,h3⟩;have H3:=zh h3;clear h3;have ca:w3.cell? ⟨a,0,none⟩=some (.func (.func 134) #[] #[]):=H3.out.at_ HA.out (by decide);have cq:w3.cell? ⟨q,0,none⟩=some (.int .i64 E.kind):=H3.out.cell 0;have fq:=H3.out.fz 0
  go_wp2_with fail
  refine (HAT.out _).mono ?_;rintro e w4 ⟨rfl,rfl⟩;go_wp2;go_end0;refine ⟨rfl,?_⟩;rw [Bool.not_false];exact HSET.out _ _ _ H3.out
 ·rw [HC.out.2 h0];have KZ:=zh (fun W=>zeroI_no v W h0);clear HC h0
  go_enter Tryz.func204,Tryz.ntmps204
  go_wp2_with fail
  refine (HMK.out _).mono ?_;rintro e w1 ⟨rfl,rfl⟩
  go_wp2_with fail
  refine (KR.out _ _ (zcr _ _ 0 _ 112 (0,0) (heap_alloc_new w _)) (HH.out.call zba)).mono ?_;rintro e w2 ⟨rfl,h2⟩;have cn:w2.cell? ⟨n,0,none⟩=some (.func (.func 166) #[] #[]):=h2.at_ HN.out (by decide);have H2:=zh h2;clear h2
  go_wp2_with fail
  refine (KZ.out _).mono ?_;rintro e w2' ⟨rfl,rfl⟩;have ca:w2.cell? ⟨a,0,none⟩=some (.func (.func 134) #[] #[]):=H2.out.at_ HA.out (by decide);have cq:w2.cell? ⟨q,0,none⟩=some (.int .i64 E.kind):=H2.out.cell 0;have fq:=H2.out.fz 0
  go_wp2_with fail
  refine (HAT.out _).mono ?_;rintro e w4 ⟨rfl,rfl⟩;go_wp2;go_end0;exact ⟨rfl,HSET.out _ _ _ H2.out⟩
theorem mtake2_any (r n a:Nat) (h:Ty w0 g q E A c T false w) (hr0:w0.heap[r]?=some (.cells #[.func (.func 168) #[] #[]] 187 (0,0))) (hn0:w0.heap[n]?=some (.cells #[.func (.func 166) #[] #[]] 186 (0,0))) (ha0:w0.heap[a]?=some (.cells #[.func (.func 135) #[] #[]] 163 (0,0))) :
 Calls Tryz.prog 204 #[.pointer (some ⟨q,0,none⟩),.pointer (some ⟨g,0,none⟩),.pointer (some ⟨r,0,none⟩),.pointer (some ⟨n,0,none⟩),.pointer (some ⟨a,0,none⟩)] w fun e w'=>e=.returned (.tuple #[])∧Ty w0 g q (mS 2 E T).1 A c (mS 2 E T).2.1 (!(mS 2 E T).2.2) w':=by
 have HAT:=zh (mat2_any q);have HN:=zh hn0;have HA:=zh ha0;have cr:w.cell? ⟨r,0,none⟩=some (.func (.func 168) #[] #[]):=h.at_ hr0 (by decide);have HH:=zh h;have hvl:=varV_lt T;obtain ⟨v,hv⟩:∃ v:Int,v=IntKind.i64.wrap (varV T):=⟨_,rfl⟩;have KR:Hid (∀ W r',W.cell? ⟨r',0,none⟩=some (.pointer (some ⟨g,0,none⟩))→Ty w0 g q E A c T false W→Calls Tryz.prog 196 #[.pointer (some ⟨r',0,none⟩)] W fun e w'=>e=.returned (.int .i64 v)∧Ty w0 g q E A c (varT T) (!varO T) w'):=fun W r' hc hW=>hv▸mreadI_any w0 g q E A c T false W r' hc hW;have HMK:=zh (mkI_any g)
 have HC:Hid ((v=0→mS 2 E T=(setM 2 E (varV T),⟨#[]⟩,false))∧(v≠0→mS 2 E T=(setM 2 E (varV T),varT T,varO T))):=by
  refine ⟨fun h0=>?_,fun h0=>?_⟩
  ·have hz:varV T=0:=by
    rcases Nat.eq_zero_or_pos (varV T) with h|h
    ·exact h
    ·exact absurd (hv▸h0) (wrap_zero hvl (by omega))
   unfold mS;rw [if_pos (by omega),if_pos hz,decide_eq_false (by omega),Bool.and_false]
  ·have hz:varV T≠0:=fun e=>h0 (by rw [hv,e];rfl);unfold mS;rw [if_pos (by omega),if_neg hz,decide_eq_true hz,Bool.and_true]
 have HSET:Hid (∀ T' b' W,Ty w0 g q E A c T' b' W→Ty w0 g q (setM 2 E (varV T)) A c T' b' (W.setCell ⟨q,1,none⟩ (.int .i64 v))):=fun T' b' W hW=>hW.set 1 _ (by rw [hv];simp [setM,Mp.at_]) rfl;clear hr0 hn0 ha0 h hv hvl
 by_cases h0:v=0
 ·rw [HC.out.1 h0];have KZ:=zh zeroI_yes;clear HC;subst h0
  go_enter Tryz.func204,Tryz.ntmps204
  go_wp2_with fail
  refine (HMK.out _).mono ?_;rintro e w1 ⟨rfl,rfl⟩
  go_wp2_with fail
  refine (KR.out _ _ (zcr _ _ 0 _ 112 (0,0) (heap_alloc_new w _)) (HH.out.call zba)).mono ?_;rintro e w2 ⟨rfl,h2⟩;have cn:w2.cell? ⟨n,0,none⟩=some (.func (.func 166) #[] #[]):=h2.at_ HN.out (by decide);have H2:=zh h2;clear h2
  go_wp2_with fail
  refine (KZ.out _).mono ?_;rintro e w2' ⟨rfl,rfl⟩
  go_wp2_with fail
  refine (ty_fail w0 g q E A c _ _ w2 H2.out).mono ?_;rintro e w3 ⟨rfl,h3⟩;have H3:=zh h3;clear h3;have ca:w3.cell? ⟨a,0,none⟩=some (.func (.func 135) #[] #[]):=H3.out.at_ HA.out (by decide);have cq:w3.cell? ⟨q,1,none⟩=some (.int .i64 E.frm):=H3.out.cell 1;have fq:=H3.out.fz 1
  go_wp2_with fail
  refine (HAT.out _).mono ?_;rintro e w4 ⟨rfl,rfl⟩;go_wp2;go_end0;refine ⟨rfl,?_⟩;rw [Bool.not_false];exact HSET.out _ _ _ H3.out
 ·rw [HC.out.2 h0];have KZ:=zh (fun W=>zeroI_no v W h0);clear HC h0
  go_enter Tryz.func204,Tryz.ntmps204
  go_wp2_with fail
  refine (HMK.out _).mono ?_;rintro e w1 ⟨rfl,rfl⟩
  go_wp2_with fail
  refine (KR.out _ _ (zcr _ _ 0 _ 112 (0,0) (heap_alloc_new w _)) (HH.out.call zba)).mono ?_;rintro e w2 ⟨rfl,h2⟩;have cn:w2.cell? ⟨n,0,none⟩=some (.func (.func 166) #[] #[]):=h2.at_ HN.out (by decide);have H2:=zh h2;clear h2
  go_wp2_with fail
  refine (KZ.out _).mono ?_;rintro e w2' ⟨rfl,rfl⟩;have ca:w2.cell? ⟨a,0,none⟩=some (.func (.func 135) #[] #[]):=H2.out.at_ HA.out (by decide);have cq:w2.cell? ⟨q,1,none⟩=some (.int .i64 E.frm):=H2.out.cell 1;have fq:=H2.out.fz 1
  go_wp2_with fail
  refine (HAT.out _).mono ?_;rintro e w4 ⟨rfl,rfl⟩;go_wp2;go_end0;exact ⟨rfl,HSET.out _ _ _ H2.out⟩
theorem mtake3_any (r n a:Nat) (h:Ty w0 g q E A c T false w) (hr0:w0.heap[r]?=some (.cells #[.func (.func 168) #[] #[]] 187 (0,0))) (hn0:w0.heap[n]?=some (.cells #[.func (.func 166) #[] #[]] 186 (0,0))) (ha0:w0.heap[a]?=some (.cells #[.func (.func 136) #[] #[]] 163 (0,0))) :
 Calls Tryz.prog 204 #[.pointer (some ⟨q,0,none⟩),.pointer (some ⟨g,0,none⟩),.pointer (some ⟨r,0,none⟩),.pointer (some ⟨n,0,none⟩),.pointer (some ⟨a,0,none⟩)] w fun e w'=>e=.returned (.tuple #[])∧Ty w0 g q (mS 3 E T).1 A c (mS 3 E T).2.1 (!(mS 3 E T).2.2) w':=by
 have HAT:=zh (mat3_any q);have HN:=zh hn0;have HA:=zh ha0;have cr:w.cell? ⟨r,0,none⟩=some (.func (.func 168) #[] #[]):=h.at_ hr0 (by decide);have HH:=zh h;have hvl:=varV_lt T;obtain ⟨v,hv⟩:∃ v:Int,v=IntKind.i64.wrap (varV T):=⟨_,rfl⟩;have KR:Hid (∀ W r',W.cell? ⟨r',0,none⟩=some (.pointer (some ⟨g,0,none⟩))→Ty w0 g q E A c T false W→Calls Tryz.prog 196 #[.pointer (some ⟨r',0,none⟩)] W fun e w'=>e=.returned (.int .i64 v)∧Ty w0 g q E A c (varT T) (!varO T) w'):=fun W r' hc hW=>hv▸mreadI_any w0 g q E A c T false W r' hc hW;have HMK:=zh (mkI_any g)
 have HC:Hid ((v=0→mS 3 E T=(setM 3 E (varV T),⟨#[]⟩,false))∧(v≠0→mS 3 E T=(setM 3 E (varV T),varT T,varO T))):=by
  refine ⟨fun h0=>?_,fun h0=>?_⟩
  ·have hz:varV T=0:=by
    rcases Nat.eq_zero_or_pos (varV T) with h|h
    ·exact h
    ·exact absurd (hv▸h0) (wrap_zero hvl (by omega))
   unfold mS;rw [if_pos (by omega),if_pos hz,decide_eq_false (by omega),Bool.and_false]
  ·have hz:varV T≠0:=fun e=>h0 (by rw [hv,e];rfl);unfold mS;rw [if_pos (by omega),if_neg hz,decide_eq_true hz,Bool.and_true]
 have HSET:Hid (∀ T' b' W,Ty w0 g q E A c T' b' W→Ty w0 g q (setM 3 E (varV T)) A c T' b' (W.setCell ⟨q,2,none⟩ (.int .i64 v))):=fun T' b' W hW=>hW.set 2 _ (by rw [hv];simp [setM,Mp.at_]) rfl;clear hr0 hn0 ha0 h hv hvl
 by_cases h0:v=0
 ·rw [HC.out.1 h0];have KZ:=zh zeroI_yes;clear HC;subst h0
  go_enter Tryz.func204,Tryz.ntmps204
  go_wp2_with fail
  refine (HMK.out _).mono ?_;rintro e w1 ⟨rfl,rfl⟩
  go_wp2_with fail
  refine (KR.out _ _ (zcr _ _ 0 _ 112 (0,0) (heap_alloc_new w _)) (HH.out.call zba)).mono ?_;rintro e w2 ⟨rfl,h2⟩;have cn:w2.cell? ⟨n,0,none⟩=some (.func (.func 166) #[] #[]):=h2.at_ HN.out (by decide);have H2:=zh h2;clear h2
  go_wp2_with fail
  refine (KZ.out _).mono ?_;rintro e w2' ⟨rfl,rfl⟩
  go_wp2_with fail
  refine (ty_fail w0 g q E A c _ _ w2 H2.out).mono ?_;rintro e w3 ⟨rfl,h3⟩;have H3:=zh h3;clear h3;have ca:w3.cell? ⟨a,0,none⟩=some (.func (.func 136) #[] #[]):=H3.out.at_ HA.out (by decide);have cq:w3.cell? ⟨q,2,none⟩=some (.int .i64 E.dst):=H3.out.cell 2;have fq:=H3.out.fz 2
  go_wp2_with fail
  refine (HAT.out _).mono ?_;rintro e w4 ⟨rfl,rfl⟩;go_wp2;go_end0;refine ⟨rfl,?_⟩;rw [Bool.not_false];exact HSET.out _ _ _ H3.out
 ·rw [HC.out.2 h0];have KZ:=zh (fun W=>zeroI_no v W h0);clear HC h0
  go_enter Tryz.func204,Tryz.ntmps204
  go_wp2_with fail
  refine (HMK.out _).mono ?_;rintro e w1 ⟨rfl,rfl⟩
  go_wp2_with fail
  refine (KR.out _ _ (zcr _ _ 0 _ 112 (0,0) (heap_alloc_new w _)) (HH.out.call zba)).mono ?_;rintro e w2 ⟨rfl,h2⟩;have cn:w2.cell? ⟨n,0,none⟩=some (.func (.func 166) #[] #[]):=h2.at_ HN.out (by decide);have H2:=zh h2;clear h2
  go_wp2_with fail
  refine (KZ.out _).mono ?_;rintro e w2' ⟨rfl,rfl⟩;have ca:w2.cell? ⟨a,0,none⟩=some (.func (.func 136) #[] #[]):=H2.out.at_ HA.out (by decide);have cq:w2.cell? ⟨q,2,none⟩=some (.int .i64 E.dst):=H2.out.cell 2;have fq:=H2.out.fz 2
  go_wp2_with fail
  refine (HAT.out _).mono ?_;rintro e w4 ⟨rfl,rfl⟩;go_wp2;go_end0;exact ⟨rfl,HSET.out _ _ _ H2.out⟩
theorem mtake4_any (r n a:Nat) (h:Ty w0 g q E A c T false w) (hr0:w0.heap[r]?=some (.cells #[.func (.func 172) #[] #[]] 190 (0,0))) (hn0:w0.heap[n]?=some (.cells #[.func (.func 170) #[] #[]] 189 (0,0))) (ha0:w0.heap[a]?=some (.cells #[.func (.func 138) #[] #[]] 165 (0,0))) :
 Calls Tryz.prog 206 #[.pointer (some ⟨q,0,none⟩),.pointer (some ⟨g,0,none⟩),.pointer (some ⟨r,0,none⟩),.pointer (some ⟨n,0,none⟩),.pointer (some ⟨a,0,none⟩)] w fun e w'=>e=.returned (.tuple #[])∧Ty w0 g q (mS 4 E T).1 A c (mS 4 E T).2.1 (!(mS 4 E T).2.2) w':=by
 have HAT:=zh (mat4_any q);have HN:=zh hn0;have HA:=zh ha0;have cr:w.cell? ⟨r,0,none⟩=some (.func (.func 172) #[] #[]):=h.at_ hr0 (by decide);have HH:=zh h;have hvl:=varV_lt T;obtain ⟨v,hv⟩:∃ v:Int,v=((varV T:Nat):Int):=⟨_,rfl⟩;have KR:Hid (∀ W r',W.cell? ⟨r',0,none⟩=some (.pointer (some ⟨g,0,none⟩))→Ty w0 g q E A c T false W→Calls Tryz.prog 199 #[.pointer (some ⟨r',0,none⟩)] W fun e w'=>e=.returned (.int .u64 v)∧Ty w0 g q E A c (varT T) (!varO T) w'):=fun W r' hc hW=>hv▸mreadU_any w0 g q E A c T false W r' hc hW;have HMK:=zh (mkU_any g)
 have HC:Hid ((v=0→mS 4 E T=(setM 4 E (varV T),⟨#[]⟩,false))∧(v≠0→mS 4 E T=(setM 4 E (varV T),varT T,varO T))):=by
  refine ⟨fun h0=>?_,fun h0=>?_⟩
  ·have hz:varV T=0:=by
    rcases Nat.eq_zero_or_pos (varV T) with h|h
    ·exact h
    ·exact absurd (hv▸h0) (by omega)
   unfold mS;rw [if_pos (by omega),if_pos hz,decide_eq_false (by omega),Bool.and_false]
  ·have hz:varV T≠0:=fun e=>h0 (by rw [hv,e];rfl);unfold mS;rw [if_pos (by omega),if_neg hz,decide_eq_true hz,Bool.and_true]
 have HSET:Hid (∀ T' b' W,Ty w0 g q E A c T' b' W→Ty w0 g q (setM 4 E (varV T)) A c T' b' (W.setCell ⟨q,3,none⟩ (.int .u64 v))):=fun T' b' W hW=>hW.set 3 _ (by rw [hv];simp [setM,Mp.at_]) rfl;clear hr0 hn0 ha0 h hv hvl
 by_cases h0:v=0
 ·rw [HC.out.1 h0];have KZ:=zh zeroU_yes;clear HC;subst h0
  go_enter Tryz.func206,Tryz.ntmps206
  go_wp2_with fail
  refine (HMK.out _).mono ?_;rintro e w1 ⟨rfl,rfl⟩
  go_wp2_with fail
  refine (KR.out _ _ (zcr _ _ 0 _ 112 (0,0) (heap_alloc_new w _)) (HH.out.call zba)).mono ?_;rintro e w2 ⟨rfl,h2⟩;have cn:w2.cell? ⟨n,0,none⟩=some (.func (.func 170) #[] #[]):=h2.at_ HN.out (by decide);have H2:=zh h2;clear h2
  go_wp2_with fail
  refine (KZ.out _).mono ?_;rintro e w2' ⟨rfl,rfl⟩
  go_wp2_with fail
  refine (ty_fail w0 g q E A c _ _ w2 H2.out).mono ?_;rintro e w3 ⟨rfl,h3⟩;have H3:=zh h3;clear h3;have ca:w3.cell? ⟨a,0,none⟩=some (.func (.func 138) #[] #[]):=H3.out.at_ HA.out (by decide);have cq:w3.cell? ⟨q,3,none⟩=some (.int .u64 E.term):=H3.out.cell 3;have fq:=H3.out.fz 3
  go_wp2_with fail
  refine (HAT.out _).mono ?_;rintro e w4 ⟨rfl,rfl⟩;go_wp2;go_end0;refine ⟨rfl,?_⟩;rw [Bool.not_false];exact HSET.out _ _ _ H3.out
 ·rw [HC.out.2 h0];have KZ:=zh (fun W=>zeroU_no v W h0);clear HC h0
  go_enter Tryz.func206,Tryz.ntmps206
  go_wp2_with fail
  refine (HMK.out _).mono ?_;rintro e w1 ⟨rfl,rfl⟩
  go_wp2_with fail
  refine (KR.out _ _ (zcr _ _ 0 _ 112 (0,0) (heap_alloc_new w _)) (HH.out.call zba)).mono ?_;rintro e w2 ⟨rfl,h2⟩;have cn:w2.cell? ⟨n,0,none⟩=some (.func (.func 170) #[] #[]):=h2.at_ HN.out (by decide);have H2:=zh h2;clear h2
  go_wp2_with fail
  refine (KZ.out _).mono ?_;rintro e w2' ⟨rfl,rfl⟩;have ca:w2.cell? ⟨a,0,none⟩=some (.func (.func 138) #[] #[]):=H2.out.at_ HA.out (by decide);have cq:w2.cell? ⟨q,3,none⟩=some (.int .u64 E.term):=H2.out.cell 3;have fq:=H2.out.fz 3
  go_wp2_with fail
  refine (HAT.out _).mono ?_;rintro e w4 ⟨rfl,rfl⟩;go_wp2;go_end0;exact ⟨rfl,HSET.out _ _ _ H2.out⟩
theorem mtake5_any (r n a:Nat) (h:Ty w0 g q E A c T false w) (hr0:w0.heap[r]?=some (.cells #[.func (.func 172) #[] #[]] 190 (0,0))) (hn0:w0.heap[n]?=some (.cells #[.func (.func 170) #[] #[]] 189 (0,0))) (ha0:w0.heap[a]?=some (.cells #[.func (.func 139) #[] #[]] 165 (0,0))) :
 Calls Tryz.prog 206 #[.pointer (some ⟨q,0,none⟩),.pointer (some ⟨g,0,none⟩),.pointer (some ⟨r,0,none⟩),.pointer (some ⟨n,0,none⟩),.pointer (some ⟨a,0,none⟩)] w fun e w'=>e=.returned (.tuple #[])∧Ty w0 g q (mS 5 E T).1 A c (mS 5 E T).2.1 (!(mS 5 E T).2.2) w':=by
 have HAT:=zh (mat5_any q);have HN:=zh hn0;have HA:=zh ha0;have cr:w.cell? ⟨r,0,none⟩=some (.func (.func 172) #[] #[]):=h.at_ hr0 (by decide);have HH:=zh h;have hvl:=varV_lt T;obtain ⟨v,hv⟩:∃ v:Int,v=((varV T:Nat):Int):=⟨_,rfl⟩;have KR:Hid (∀ W r',W.cell? ⟨r',0,none⟩=some (.pointer (some ⟨g,0,none⟩))→Ty w0 g q E A c T false W→Calls Tryz.prog 199 #[.pointer (some ⟨r',0,none⟩)] W fun e w'=>e=.returned (.int .u64 v)∧Ty w0 g q E A c (varT T) (!varO T) w'):=fun W r' hc hW=>hv▸mreadU_any w0 g q E A c T false W r' hc hW;have HMK:=zh (mkU_any g)
 have HC:Hid ((v=0→mS 5 E T=(setM 5 E (varV T),⟨#[]⟩,false))∧(v≠0→mS 5 E T=(setM 5 E (varV T),varT T,varO T))):=by
  refine ⟨fun h0=>?_,fun h0=>?_⟩
  ·have hz:varV T=0:=by
    rcases Nat.eq_zero_or_pos (varV T) with h|h
    ·exact h
    ·exact absurd (hv▸h0) (by omega)
   unfold mS;rw [if_pos (by omega),if_pos hz,decide_eq_false (by omega),Bool.and_false]
  ·have hz:varV T≠0:=fun e=>h0 (by rw [hv,e];rfl);unfold mS;rw [if_pos (by omega),if_neg hz,decide_eq_true hz,Bool.and_true]
 have HSET:Hid (∀ T' b' W,Ty w0 g q E A c T' b' W→Ty w0 g q (setM 5 E (varV T)) A c T' b' (W.setCell ⟨q,4,none⟩ (.int .u64 v))):=fun T' b' W hW=>hW.set 4 _ (by rw [hv];simp [setM,Mp.at_]) rfl;clear hr0 hn0 ha0 h hv hvl
 by_cases h0:v=0
 ·rw [HC.out.1 h0];have KZ:=zh zeroU_yes;clear HC;subst h0
  go_enter Tryz.func206,Tryz.ntmps206
  go_wp2_with fail
  refine (HMK.out _).mono ?_;rintro e w1 ⟨rfl,rfl⟩
  go_wp2_with fail
  refine (KR.out _ _ (zcr _ _ 0 _ 112 (0,0) (heap_alloc_new w _)) (HH.out.call zba)).mono ?_;rintro e w2 ⟨rfl,h2⟩;have cn:w2.cell? ⟨n,0,none⟩=some (.func (.func 170) #[] #[]):=h2.at_ HN.out (by decide);have H2:=zh h2;clear h2
  go_wp2_with fail
  refine (KZ.out _).mono ?_;rintro e w2' ⟨rfl,rfl⟩
  go_wp2_with fail
  refine (ty_fail w0 g q E A c _ _ w2 H2.out).mono ?_;rintro e w3 ⟨rfl,h3⟩;have H3:=zh h3;clear h3;have ca:w3.cell? ⟨a,0,none⟩=some (.func (.func 139) #[] #[]):=H3.out.at_ HA.out (by decide);have cq:w3.cell? ⟨q,4,none⟩=some (.int .u64 E.index):=H3.out.cell 4;have fq:=H3.out.fz 4
  go_wp2_with fail
  refine (HAT.out _).mono ?_;rintro e w4 ⟨rfl,rfl⟩;go_wp2;go_end0;refine ⟨rfl,?_⟩;rw [Bool.not_false];exact HSET.out _ _ _ H3.out
 ·rw [HC.out.2 h0];have KZ:=zh (fun W=>zeroU_no v W h0);clear HC h0
  go_enter Tryz.func206,Tryz.ntmps206
  go_wp2_with fail
  refine (HMK.out _).mono ?_;rintro e w1 ⟨rfl,rfl⟩
  go_wp2_with fail
  refine (KR.out _ _ (zcr _ _ 0 _ 112 (0,0) (heap_alloc_new w _)) (HH.out.call zba)).mono ?_;rintro e w2 ⟨rfl,h2⟩;have cn:w2.cell? ⟨n,0,none⟩=some (.func (.func 170) #[] #[]):=h2.at_ HN.out (by decide);have H2:=zh h2;clear h2
  go_wp2_with fail
  refine (KZ.out _).mono ?_;rintro e w2' ⟨rfl,rfl⟩;have ca:w2.cell? ⟨a,0,none⟩=some (.func (.func 139) #[] #[]):=H2.out.at_ HA.out (by decide);have cq:w2.cell? ⟨q,4,none⟩=some (.int .u64 E.index):=H2.out.cell 4;have fq:=H2.out.fz 4
  go_wp2_with fail
  refine (HAT.out _).mono ?_;rintro e w4 ⟨rfl,rfl⟩;go_wp2;go_end0;exact ⟨rfl,HSET.out _ _ _ H2.out⟩
theorem mtake6_any (r n a:Nat) (h:Ty w0 g q E A c T false w) (hr0:w0.heap[r]?=some (.cells #[.func (.func 172) #[] #[]] 190 (0,0))) (hn0:w0.heap[n]?=some (.cells #[.func (.func 170) #[] #[]] 189 (0,0))) (ha0:w0.heap[a]?=some (.cells #[.func (.func 140) #[] #[]] 165 (0,0))) :
 Calls Tryz.prog 206 #[.pointer (some ⟨q,0,none⟩),.pointer (some ⟨g,0,none⟩),.pointer (some ⟨r,0,none⟩),.pointer (some ⟨n,0,none⟩),.pointer (some ⟨a,0,none⟩)] w fun e w'=>e=.returned (.tuple #[])∧Ty w0 g q (mS 6 E T).1 A c (mS 6 E T).2.1 (!(mS 6 E T).2.2) w':=by
 have HAT:=zh (mat6_any q);have HN:=zh hn0;have HA:=zh ha0;have cr:w.cell? ⟨r,0,none⟩=some (.func (.func 172) #[] #[]):=h.at_ hr0 (by decide);have HH:=zh h;have hvl:=varV_lt T;obtain ⟨v,hv⟩:∃ v:Int,v=((varV T:Nat):Int):=⟨_,rfl⟩;have KR:Hid (∀ W r',W.cell? ⟨r',0,none⟩=some (.pointer (some ⟨g,0,none⟩))→Ty w0 g q E A c T false W→Calls Tryz.prog 199 #[.pointer (some ⟨r',0,none⟩)] W fun e w'=>e=.returned (.int .u64 v)∧Ty w0 g q E A c (varT T) (!varO T) w'):=fun W r' hc hW=>hv▸mreadU_any w0 g q E A c T false W r' hc hW;have HMK:=zh (mkU_any g)
 have HC:Hid ((v=0→mS 6 E T=(setM 6 E (varV T),⟨#[]⟩,false))∧(v≠0→mS 6 E T=(setM 6 E (varV T),varT T,varO T))):=by
  refine ⟨fun h0=>?_,fun h0=>?_⟩
  ·have hz:varV T=0:=by
    rcases Nat.eq_zero_or_pos (varV T) with h|h
    ·exact h
    ·exact absurd (hv▸h0) (by omega)
   unfold mS;rw [if_pos (by omega),if_pos hz,decide_eq_false (by omega),Bool.and_false]
  ·have hz:varV T≠0:=fun e=>h0 (by rw [hv,e];rfl);unfold mS;rw [if_pos (by omega),if_neg hz,decide_eq_true hz,Bool.and_true]
 have HSET:Hid (∀ T' b' W,Ty w0 g q E A c T' b' W→Ty w0 g q (setM 6 E (varV T)) A c T' b' (W.setCell ⟨q,5,none⟩ (.int .u64 v))):=fun T' b' W hW=>hW.set 5 _ (by rw [hv];simp [setM,Mp.at_]) rfl;clear hr0 hn0 ha0 h hv hvl
 by_cases h0:v=0
 ·rw [HC.out.1 h0];have KZ:=zh zeroU_yes;clear HC;subst h0
  go_enter Tryz.func206,Tryz.ntmps206
  go_wp2_with fail
  refine (HMK.out _).mono ?_;rintro e w1 ⟨rfl,rfl⟩
  go_wp2_with fail
  refine (KR.out _ _ (zcr _ _ 0 _ 112 (0,0) (heap_alloc_new w _)) (HH.out.call zba)).mono ?_;rintro e w2 ⟨rfl,h2⟩;have cn:w2.cell? ⟨n,0,none⟩=some (.func (.func 170) #[] #[]):=h2.at_ HN.out (by decide);have H2:=zh h2;clear h2
  go_wp2_with fail
  refine (KZ.out _).mono ?_;rintro e w2' ⟨rfl,rfl⟩
  go_wp2_with fail
  refine (ty_fail w0 g q E A c _ _ w2 H2.out).mono ?_;rintro e w3 ⟨rfl,h3⟩;have H3:=zh h3;clear h3;have ca:w3.cell? ⟨a,0,none⟩=some (.func (.func 140) #[] #[]):=H3.out.at_ HA.out (by decide);have cq:w3.cell? ⟨q,5,none⟩=some (.int .u64 E.prev):=H3.out.cell 5;have fq:=H3.out.fz 5
  go_wp2_with fail
  refine (HAT.out _).mono ?_;rintro e w4 ⟨rfl,rfl⟩;go_wp2;go_end0;refine ⟨rfl,?_⟩;rw [Bool.not_false];exact HSET.out _ _ _ H3.out
 ·rw [HC.out.2 h0];have KZ:=zh (fun W=>zeroU_no v W h0);clear HC h0
  go_enter Tryz.func206,Tryz.ntmps206
  go_wp2_with fail
  refine (HMK.out _).mono ?_;rintro e w1 ⟨rfl,rfl⟩
  go_wp2_with fail
  refine (KR.out _ _ (zcr _ _ 0 _ 112 (0,0) (heap_alloc_new w _)) (HH.out.call zba)).mono ?_;rintro e w2 ⟨rfl,h2⟩;have cn:w2.cell? ⟨n,0,none⟩=some (.func (.func 170) #[] #[]):=h2.at_ HN.out (by decide);have H2:=zh h2;clear h2
  go_wp2_with fail
  refine (KZ.out _).mono ?_;rintro e w2' ⟨rfl,rfl⟩;have ca:w2.cell? ⟨a,0,none⟩=some (.func (.func 140) #[] #[]):=H2.out.at_ HA.out (by decide);have cq:w2.cell? ⟨q,5,none⟩=some (.int .u64 E.prev):=H2.out.cell 5;have fq:=H2.out.fz 5
  go_wp2_with fail
  refine (HAT.out _).mono ?_;rintro e w4 ⟨rfl,rfl⟩;go_wp2;go_end0;exact ⟨rfl,HSET.out _ _ _ H2.out⟩
theorem mtake7_any (r n a:Nat) (h:Ty w0 g q E A c T false w) (hr0:w0.heap[r]?=some (.cells #[.func (.func 172) #[] #[]] 190 (0,0))) (hn0:w0.heap[n]?=some (.cells #[.func (.func 170) #[] #[]] 189 (0,0))) (ha0:w0.heap[a]?=some (.cells #[.func (.func 141) #[] #[]] 165 (0,0))) :
 Calls Tryz.prog 206 #[.pointer (some ⟨q,0,none⟩),.pointer (some ⟨g,0,none⟩),.pointer (some ⟨r,0,none⟩),.pointer (some ⟨n,0,none⟩),.pointer (some ⟨a,0,none⟩)] w fun e w'=>e=.returned (.tuple #[])∧Ty w0 g q (mS 7 E T).1 A c (mS 7 E T).2.1 (!(mS 7 E T).2.2) w':=by
 have HAT:=zh (mat7_any q);have HN:=zh hn0;have HA:=zh ha0;have cr:w.cell? ⟨r,0,none⟩=some (.func (.func 172) #[] #[]):=h.at_ hr0 (by decide);have HH:=zh h;have hvl:=varV_lt T;obtain ⟨v,hv⟩:∃ v:Int,v=((varV T:Nat):Int):=⟨_,rfl⟩;have KR:Hid (∀ W r',W.cell? ⟨r',0,none⟩=some (.pointer (some ⟨g,0,none⟩))→Ty w0 g q E A c T false W→Calls Tryz.prog 199 #[.pointer (some ⟨r',0,none⟩)] W fun e w'=>e=.returned (.int .u64 v)∧Ty w0 g q E A c (varT T) (!varO T) w'):=fun W r' hc hW=>hv▸mreadU_any w0 g q E A c T false W r' hc hW;have HMK:=zh (mkU_any g)
 have HC:Hid ((v=0→mS 7 E T=(setM 7 E (varV T),⟨#[]⟩,false))∧(v≠0→mS 7 E T=(setM 7 E (varV T),varT T,varO T))):=by
  refine ⟨fun h0=>?_,fun h0=>?_⟩
  ·have hz:varV T=0:=by
    rcases Nat.eq_zero_or_pos (varV T) with h|h
    ·exact h
    ·exact absurd (hv▸h0) (by omega)
   unfold mS;rw [if_pos (by omega),if_pos hz,decide_eq_false (by omega),Bool.and_false]
  ·have hz:varV T≠0:=fun e=>h0 (by rw [hv,e];rfl);unfold mS;rw [if_pos (by omega),if_neg hz,decide_eq_true hz,Bool.and_true]
 have HSET:Hid (∀ T' b' W,Ty w0 g q E A c T' b' W→Ty w0 g q (setM 7 E (varV T)) A c T' b' (W.setCell ⟨q,6,none⟩ (.int .u64 v))):=fun T' b' W hW=>hW.set 6 _ (by rw [hv];simp [setM,Mp.at_]) rfl;clear hr0 hn0 ha0 h hv hvl
 by_cases h0:v=0
 ·rw [HC.out.1 h0];have KZ:=zh zeroU_yes;clear HC;subst h0
  go_enter Tryz.func206,Tryz.ntmps206
  go_wp2_with fail
  refine (HMK.out _).mono ?_;rintro e w1 ⟨rfl,rfl⟩
  go_wp2_with fail
  refine (KR.out _ _ (zcr _ _ 0 _ 112 (0,0) (heap_alloc_new w _)) (HH.out.call zba)).mono ?_;rintro e w2 ⟨rfl,h2⟩;have cn:w2.cell? ⟨n,0,none⟩=some (.func (.func 170) #[] #[]):=h2.at_ HN.out (by decide);have H2:=zh h2;clear h2
  go_wp2_with fail
  refine (KZ.out _).mono ?_;rintro e w2' ⟨rfl,rfl⟩
  go_wp2_with fail
  refine (ty_fail w0 g q E A c _ _ w2 H2.out).mono ?_;rintro e w3 ⟨rfl,h3⟩;have H3:=zh h3;clear h3;have ca:w3.cell? ⟨a,0,none⟩=some (.func (.func 141) #[] #[]):=H3.out.at_ HA.out (by decide);have cq:w3.cell? ⟨q,6,none⟩=some (.int .u64 E.commit):=H3.out.cell 6;have fq:=H3.out.fz 6
  go_wp2_with fail
  refine (HAT.out _).mono ?_;rintro e w4 ⟨rfl,rfl⟩;go_wp2;go_end0;refine ⟨rfl,?_⟩;rw [Bool.not_false];exact HSET.out _ _ _ H3.out
 ·rw [HC.out.2 h0];have KZ:=zh (fun W=>zeroU_no v W h0);clear HC h0
  go_enter Tryz.func206,Tryz.ntmps206
  go_wp2_with fail
  refine (HMK.out _).mono ?_;rintro e w1 ⟨rfl,rfl⟩
  go_wp2_with fail
  refine (KR.out _ _ (zcr _ _ 0 _ 112 (0,0) (heap_alloc_new w _)) (HH.out.call zba)).mono ?_;rintro e w2 ⟨rfl,h2⟩;have cn:w2.cell? ⟨n,0,none⟩=some (.func (.func 170) #[] #[]):=h2.at_ HN.out (by decide);have H2:=zh h2;clear h2
  go_wp2_with fail
  refine (KZ.out _).mono ?_;rintro e w2' ⟨rfl,rfl⟩;have ca:w2.cell? ⟨a,0,none⟩=some (.func (.func 141) #[] #[]):=H2.out.at_ HA.out (by decide);have cq:w2.cell? ⟨q,6,none⟩=some (.int .u64 E.commit):=H2.out.cell 6;have fq:=H2.out.fz 6
  go_wp2_with fail
  refine (HAT.out _).mono ?_;rintro e w4 ⟨rfl,rfl⟩;go_wp2;go_end0;exact ⟨rfl,HSET.out _ _ _ H2.out⟩
theorem mtake8_any (r n a:Nat) (h:Ty w0 g q E A c T false w) (hr0:w0.heap[r]?=some (.cells #[.func (.func 172) #[] #[]] 190 (0,0))) (hn0:w0.heap[n]?=some (.cells #[.func (.func 170) #[] #[]] 189 (0,0))) (ha0:w0.heap[a]?=some (.cells #[.func (.func 142) #[] #[]] 165 (0,0))) :
 Calls Tryz.prog 206 #[.pointer (some ⟨q,0,none⟩),.pointer (some ⟨g,0,none⟩),.pointer (some ⟨r,0,none⟩),.pointer (some ⟨n,0,none⟩),.pointer (some ⟨a,0,none⟩)] w fun e w'=>e=.returned (.tuple #[])∧Ty w0 g q (mS 8 E T).1 A c (mS 8 E T).2.1 (!(mS 8 E T).2.2) w':=by
 have HAT:=zh (mat8_any q);have HN:=zh hn0;have HA:=zh ha0;have cr:w.cell? ⟨r,0,none⟩=some (.func (.func 172) #[] #[]):=h.at_ hr0 (by decide);have HH:=zh h;have hvl:=varV_lt T;obtain ⟨v,hv⟩:∃ v:Int,v=((varV T:Nat):Int):=⟨_,rfl⟩;have KR:Hid (∀ W r',W.cell? ⟨r',0,none⟩=some (.pointer (some ⟨g,0,none⟩))→Ty w0 g q E A c T false W→Calls Tryz.prog 199 #[.pointer (some ⟨r',0,none⟩)] W fun e w'=>e=.returned (.int .u64 v)∧Ty w0 g q E A c (varT T) (!varO T) w'):=fun W r' hc hW=>hv▸mreadU_any w0 g q E A c T false W r' hc hW;have HMK:=zh (mkU_any g)
 have HC:Hid ((v=0→mS 8 E T=(setM 8 E (varV T),⟨#[]⟩,false))∧(v≠0→mS 8 E T=(setM 8 E (varV T),varT T,varO T))):=by
  refine ⟨fun h0=>?_,fun h0=>?_⟩
  ·have hz:varV T=0:=by
    rcases Nat.eq_zero_or_pos (varV T) with h|h
    ·exact h
    ·exact absurd (hv▸h0) (by omega)
   unfold mS;rw [if_pos (by omega),if_pos hz,decide_eq_false (by omega),Bool.and_false]
  ·have hz:varV T≠0:=fun e=>h0 (by rw [hv,e];rfl);unfold mS;rw [if_pos (by omega),if_neg hz,decide_eq_true hz,Bool.and_true]
 have HSET:Hid (∀ T' b' W,Ty w0 g q E A c T' b' W→Ty w0 g q (setM 8 E (varV T)) A c T' b' (W.setCell ⟨q,7,none⟩ (.int .u64 v))):=fun T' b' W hW=>hW.set 7 _ (by rw [hv];simp [setM,Mp.at_]) rfl;clear hr0 hn0 ha0 h hv hvl
 by_cases h0:v=0
 ·rw [HC.out.1 h0];have KZ:=zh zeroU_yes;clear HC;subst h0
  go_enter Tryz.func206,Tryz.ntmps206
  go_wp2_with fail
  refine (HMK.out _).mono ?_;rintro e w1 ⟨rfl,rfl⟩
  go_wp2_with fail
  refine (KR.out _ _ (zcr _ _ 0 _ 112 (0,0) (heap_alloc_new w _)) (HH.out.call zba)).mono ?_;rintro e w2 ⟨rfl,h2⟩;have cn:w2.cell? ⟨n,0,none⟩=some (.func (.func 170) #[] #[]):=h2.at_ HN.out (by decide);have H2:=zh h2;clear h2
  go_wp2_with fail
  refine (KZ.out _).mono ?_;rintro e w2' ⟨rfl,rfl⟩
  go_wp2_with fail
  refine (ty_fail w0 g q E A c _ _ w2 H2.out).mono ?_;rintro e w3 ⟨rfl,h3⟩;have H3:=zh h3;clear h3;have ca:w3.cell? ⟨a,0,none⟩=some (.func (.func 142) #[] #[]):=H3.out.at_ HA.out (by decide);have cq:w3.cell? ⟨q,7,none⟩=some (.int .u64 E.mark):=H3.out.cell 7;have fq:=H3.out.fz 7
  go_wp2_with fail
  refine (HAT.out _).mono ?_;rintro e w4 ⟨rfl,rfl⟩;go_wp2;go_end0;refine ⟨rfl,?_⟩;rw [Bool.not_false];exact HSET.out _ _ _ H3.out
 ·rw [HC.out.2 h0];have KZ:=zh (fun W=>zeroU_no v W h0);clear HC h0
  go_enter Tryz.func206,Tryz.ntmps206
  go_wp2_with fail
  refine (HMK.out _).mono ?_;rintro e w1 ⟨rfl,rfl⟩
  go_wp2_with fail
  refine (KR.out _ _ (zcr _ _ 0 _ 112 (0,0) (heap_alloc_new w _)) (HH.out.call zba)).mono ?_;rintro e w2 ⟨rfl,h2⟩;have cn:w2.cell? ⟨n,0,none⟩=some (.func (.func 170) #[] #[]):=h2.at_ HN.out (by decide);have H2:=zh h2;clear h2
  go_wp2_with fail
  refine (KZ.out _).mono ?_;rintro e w2' ⟨rfl,rfl⟩;have ca:w2.cell? ⟨a,0,none⟩=some (.func (.func 142) #[] #[]):=H2.out.at_ HA.out (by decide);have cq:w2.cell? ⟨q,7,none⟩=some (.int .u64 E.mark):=H2.out.cell 7;have fq:=H2.out.fz 7
  go_wp2_with fail
  refine (HAT.out _).mono ?_;rintro e w4 ⟨rfl,rfl⟩;go_wp2;go_end0;exact ⟨rfl,HSET.out _ _ _ H2.out⟩
theorem mtake9_any (r n a:Nat) (h:Ty w0 g q E A c T false w) (hr0:w0.heap[r]?=some (.cells #[.func (.func 182) #[] #[]] 199 (0,0))) (hn0:w0.heap[n]?=some (.cells #[.func (.func 180) #[] #[]] 197 (0,0))) (ha0:w0.heap[a]?=some (.cells #[.func (.func 144) #[] #[]] 168 (0,0))) :
 Calls Tryz.prog 208 #[.pointer (some ⟨q,0,none⟩),.pointer (some ⟨g,0,none⟩),.pointer (some ⟨r,0,none⟩),.pointer (some ⟨n,0,none⟩),.pointer (some ⟨a,0,none⟩)] w fun e w'=>e=.returned (.tuple #[])∧Ty w0 g q (mS 9 E T).1 A c (mS 9 E T).2.1 (!(mS 9 E T).2.2) w':=by
 have HAT:=zh (mat9_any q);have HN:=zh hn0;have HA:=zh ha0;have cr:w.cell? ⟨r,0,none⟩=some (.func (.func 182) #[] #[]):=h.at_ hr0 (by decide);have HH:=zh h;obtain ⟨v,hv⟩:∃ v:Bool,v=decide (varV T=1):=⟨_,rfl⟩;have KR:Hid (∀ W r',W.cell? ⟨r',0,none⟩=some (.pointer (some ⟨g,0,none⟩))→Ty w0 g q E A c T false W→Calls Tryz.prog 209 #[.pointer (some ⟨r',0,none⟩)] W fun e w'=>e=.returned (.bool v)∧Ty w0 g q E A c (varT T) (!varO T) w'):=fun W r' hc hW=>hv▸mreadB_any w0 g q E A c T false W r' hc hW;have HMK:=zh (mkB_any g)
 have HC:Hid ((v=false→mS 9 E T=({ E with ok:=v },⟨#[]⟩,false))∧(v=true→mS 9 E T=({ E with ok:=v },varT T,varO T))):=by
  refine ⟨fun h0=>?_,fun h0=>?_⟩
  ·have hz:¬ varV T=1:=fun e=>by rw [hv,decide_eq_true e] at h0;cases h0
   unfold mS;rw [if_neg (by omega),if_pos rfl,if_neg hz,←hv,h0,Bool.and_false]
  ·have hz:varV T=1:=by rw [hv] at h0;exact of_decide_eq_true h0
   unfold mS;rw [if_neg (by omega),if_pos rfl,if_pos hz,←hv,h0,Bool.and_true]
 have HSET:Hid (∀ T' b' W,Ty w0 g q E A c T' b' W→Ty w0 g q { E with ok:=v } A c T' b' (W.setCell ⟨q,8,none⟩ (.bool v))):=fun T' b' W hW=>hW.set 8 _ (by simp [Mp.at_]) rfl;clear hr0 hn0 ha0 h hv
 by_cases h0:v=false
 ·rw [HC.out.1 h0];have KZ:=zh (zeroB_any false);clear HC;subst h0
  go_enter Tryz.func208,Tryz.ntmps208
  go_wp2_with fail
  refine (HMK.out _).mono ?_;rintro e w1 ⟨rfl,rfl⟩
  go_wp2_with fail
  refine (KR.out _ _ (zcr _ _ 0 _ 112 (0,0) (heap_alloc_new w _)) (HH.out.call zba)).mono ?_;rintro e w2 ⟨rfl,h2⟩;have cn:w2.cell? ⟨n,0,none⟩=some (.func (.func 180) #[] #[]):=h2.at_ HN.out (by decide);have H2:=zh h2;clear h2
  go_wp2_with fail
  refine (KZ.out _).mono ?_;rintro e w2' ⟨rfl,rfl⟩
  go_wp2_with fail
  refine (ty_fail w0 g q E A c _ _ w2 H2.out).mono ?_;rintro e w3 ⟨rfl,h3⟩;have H3:=zh h3;clear h3;have ca:w3.cell? ⟨a,0,none⟩=some (.func (.func 144) #[] #[]):=H3.out.at_ HA.out (by decide);have cq:w3.cell? ⟨q,8,none⟩=some (.bool E.ok):=H3.out.cell 8;have fq:=H3.out.fz 8
  go_wp2_with fail
  refine (HAT.out _).mono ?_;rintro e w4 ⟨rfl,rfl⟩;go_wp2;go_end0;refine ⟨rfl,?_⟩;rw [Bool.not_false];exact HSET.out _ _ _ H3.out
 ·rw [HC.out.2 (by simpa using h0)];have h1:v=true:=by simpa using h0
  have KZ:=zh (zeroB_any true);clear HC h0;subst h1
  go_enter Tryz.func208,Tryz.ntmps208
  go_wp2_with fail
  refine (HMK.out _).mono ?_;rintro e w1 ⟨rfl,rfl⟩
  go_wp2_with fail
  refine (KR.out _ _ (zcr _ _ 0 _ 112 (0,0) (heap_alloc_new w _)) (HH.out.call zba)).mono ?_;rintro e w2 ⟨rfl,h2⟩;have cn:w2.cell? ⟨n,0,none⟩=some (.func (.func 180) #[] #[]):=h2.at_ HN.out (by decide);have H2:=zh h2;clear h2
  go_wp2_with fail
  refine (KZ.out _).mono ?_;rintro e w2' ⟨rfl,rfl⟩;have ca:w2.cell? ⟨a,0,none⟩=some (.func (.func 144) #[] #[]):=H2.out.at_ HA.out (by decide);have cq:w2.cell? ⟨q,8,none⟩=some (.bool E.ok):=H2.out.cell 8;have fq:=H2.out.fz 8
  go_wp2_with fail
  refine (HAT.out _).mono ?_;rintro e w4 ⟨rfl,rfl⟩;go_wp2;go_end0;exact ⟨rfl,HSET.out _ _ _ H2.out⟩
theorem mtake10_any (r n a:Nat) (h:Ty w0 g q E A c T false w) (hr0:w0.heap[r]?=some (.cells #[.func (.func 176) #[] #[]] 193 (0,0))) (hn0:w0.heap[n]?=some (.cells #[.func (.func 174) #[] #[]] 192 (0,0))) (ha0:w0.heap[a]?=some (.cells #[.func (.func 146) #[] #[]] 170 (0,0))) :
 Calls Tryz.prog 211 #[.pointer (some ⟨q,0,none⟩),.pointer (some ⟨g,0,none⟩),.pointer (some ⟨r,0,none⟩),.pointer (some ⟨n,0,none⟩),.pointer (some ⟨a,0,none⟩)] w fun e w'=>e=.returned (.tuple #[])∧Ty w0 g q (mS 10 E T).1 A c (mS 10 E T).2.1 (!(mS 10 E T).2.2) w':=by
 have HAT:=zh (mat10_any q);have HN:=zh hn0;have HA:=zh ha0;have cr:w.cell? ⟨r,0,none⟩=some (.func (.func 176) #[] #[]):=h.at_ hr0 (by decide);have HH:=zh h;obtain ⟨d,hd⟩:∃ d,d=texV T:=⟨_,rfl⟩;have KR:Hid (∀ W,Ty w0 g q E A c T false W→Calls Tryz.prog 202 #[.pointer (some ⟨g,0,none⟩)] W fun e w'=>e=.returned (.string d)∧Ty w0 g q E A c (texT T) (!texO T) w'):=fun W hW=>hd▸ty_tex w0 g q E A c T false W hW;have HMK:=zh (mkS_any g)
 have HC:Hid ((d.size=0→mS 10 E T=({ E with snap:=d },⟨#[]⟩,false))∧(d.size≠0→mS 10 E T=({ E with snap:=d },texT T,texO T))):=by
  refine ⟨fun h0=>?_,fun h0=>?_⟩
  ·unfold mS;rw [if_neg (by omega),if_neg (by omega),if_pos rfl,←hd,if_pos h0,decide_eq_false (by omega),Bool.and_false]
  ·unfold mS;rw [if_neg (by omega),if_neg (by omega),if_pos rfl,←hd,if_neg h0,decide_eq_true h0,Bool.and_true]
 have HSET:Hid (∀ T' b' W,Ty w0 g q E A c T' b' W→Ty w0 g q { E with snap:=d } A c T' b' (W.setCell ⟨q,10,none⟩ (.string d))):=fun T' b' W hW=>hW.set 10 _ (by simp [Mp.at_]) rfl;clear hr0 hn0 ha0 h hd
 by_cases h0:d.size=0
 ·rw [HC.out.1 h0];have hde:=(size0 d).1 h0;have KZ:=zh zeroS_yes;clear HC h0;subst hde
  go_enter Tryz.func211,Tryz.ntmps211
  go_wp2_with fail
  refine (HMK.out _).mono ?_;rintro e w1 ⟨rfl,rfl⟩
  go_wp2_with fail
  refine (KR.out _ HH.out).mono ?_;rintro e w2 ⟨rfl,h2⟩;have cn:w2.cell? ⟨n,0,none⟩=some (.func (.func 174) #[] #[]):=h2.at_ HN.out (by decide);have H2:=zh h2;clear h2
  go_wp2_with fail
  refine (KZ.out _).mono ?_;rintro e w2' ⟨rfl,rfl⟩
  go_wp2_with fail
  refine (ty_fail w0 g q E A c _ _ w2 H2.out).mono ?_;rintro e w3 ⟨rfl,h3⟩;have H3:=zh h3;clear h3;have ca:w3.cell? ⟨a,0,none⟩=some (.func (.func 146) #[] #[]):=H3.out.at_ HA.out (by decide);have cq:w3.cell? ⟨q,10,none⟩=some (.string E.snap):=H3.out.cell 10;have fq:=H3.out.fz 10
  go_wp2_with fail
  refine (HAT.out _).mono ?_;rintro e w4 ⟨rfl,rfl⟩;go_wp2;go_end0;refine ⟨rfl,?_⟩;rw [Bool.not_false];exact HSET.out _ _ _ H3.out
 ·rw [HC.out.2 h0];have KZ:=zh (fun W=>zeroS_no d W h0);clear HC h0
  go_enter Tryz.func211,Tryz.ntmps211
  go_wp2_with fail
  refine (HMK.out _).mono ?_;rintro e w1 ⟨rfl,rfl⟩
  go_wp2_with fail
  refine (KR.out _ HH.out).mono ?_;rintro e w2 ⟨rfl,h2⟩;have cn:w2.cell? ⟨n,0,none⟩=some (.func (.func 174) #[] #[]):=h2.at_ HN.out (by decide);have H2:=zh h2;clear h2
  go_wp2_with fail
  refine (KZ.out _).mono ?_;rintro e w2' ⟨rfl,rfl⟩;have ca:w2.cell? ⟨a,0,none⟩=some (.func (.func 146) #[] #[]):=H2.out.at_ HA.out (by decide);have cq:w2.cell? ⟨q,10,none⟩=some (.string E.snap):=H2.out.cell 10;have fq:=H2.out.fz 10
  go_wp2_with fail
  refine (HAT.out _).mono ?_;rintro e w4 ⟨rfl,rfl⟩;go_wp2;go_end0;exact ⟨rfl,HSET.out _ _ _ H2.out⟩
end
end Go.Proofs.YtpdbeijfchmlgaaGreat.D
