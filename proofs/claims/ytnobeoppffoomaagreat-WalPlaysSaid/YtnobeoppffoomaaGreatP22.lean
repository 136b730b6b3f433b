/-
  WalPlays: SGen SSec.
  Conditions: named in each theorem.
-/
import Derived.Test.YtnobeoppffoomaaGreatP20
import Derived.Test.YtnobeoppffoomaaGreatP05
import Derived.Test.YtnobeoppffoomaaGreatP0
set_option linter.unusedVariables false
set_option linter.unusedSimpArgs false
set_option maxHeartbeats 8000000
set_option maxRecDepth 100000
namespace Go.Proofs.YtnobeoppffoomaaGreat
open Go.RowKit
namespace Vi
theorem nums_putB_b (n:Nat):nums (putB n)=put n:=nums_str _ (put_lt n)
theorem var_put_b (n:Nat) (hn:n<18446744073709551616) (t:ByteArray):varV (putB n++t)=n∧varT (putB n++t)=t∧varO (putB n++t)=true:=by
 obtain ⟨h1,h2,h3⟩:=put_reads n hn (nums t)
 have e:nums (putB n++t)=put n++nums t:=by rw [nums_append,nums_putB_b]
 unfold varV varT varO
 rw [e]
 refine ⟨h2,?_,h1⟩
 rw [h3]
 have e2:(put n).length=(putB n).size:=by unfold putB;rw [str_size]
 rw [e2]
 exact extract_right _ _
theorem tex_put (s t:ByteArray) (hs:s.size<18446744073709551616):texV (putB s.size++(s++t))=s∧texT (putB s.size++(s++t))=t∧texO (putB s.size++(s++t))=true:=by
 obtain ⟨h1,h2,h3⟩:=var_put_b s.size hs (s++t)
 have hh:hasB (s++t) s.size=true:=decide_eq_true (by rw [ByteArray.size_append];omega)
 unfold texV texT texO
 rw [h1,h2,h3]
 unfold bytV bytT
 rw [hh,if_pos rfl,if_pos rfl,Int.toNat_natCast]
 exact ⟨extract_left s t,extract_right s t,rfl⟩
theorem cnt_at_b:∀ (l:List Nat),cnt l<l.length→l.getD (cnt l) 0<128
 | [],h=>absurd h (by simp)
 | b :: l,h=>by
   by_cases hb:128≤b
   ·have e:cnt (b :: l)=cnt l+1:=by
     unfold cnt
     rw [List.takeWhile_cons,if_pos (by simpa using hb),List.length_cons]
    rw [e] at h ⊢
    have ih:=cnt_at_b l (by simpa using h)
    simpa using ih
   ·have e:cnt (b :: l)=0:=by
     unfold cnt
     rw [List.takeWhile_cons,if_neg (by simpa using hb)];rfl
    rw [e]
    simp
    omega
theorem cnt_pre_b (l:List Nat):∀ j,j<cnt l→128≤l.getD j 0:=by
 intro j hj
 have hl:cnt l≤l.length:=by
  unfold cnt
  exact (List.takeWhile_sublist _).length_le
 have hm:l.getD j 0∈l.take (cnt l):=by
  rw [List.getD_eq_getElem?_getD,List.getElem?_eq_getElem (by omega),Option.getD_some]
  exact List.mem_take_iff_getElem.2 ⟨j,by omega,rfl⟩
 exact cnt_mem l _ hm
theorem var_sound_b (s:ByteArray) (h:varO s=true):putB (varV s)++varT s=s:=by
 have ho:okL (nums s)=true:=h
 have hd:cnt (nums s)≤9∧cnt (nums s)<(nums s).length∧(cnt (nums s)=0∨(nums s).getD (cnt (nums s)) 0≠0)∧(cnt (nums s)=9→(nums s).getD 9 0≤1):=by
  have:=ho
  unfold okL at this
  exact of_decide_eq_true this
 obtain ⟨d1,d2,d3,d4⟩:=hd
 have hb:=cnt_at_b _ d2
 have hp:=cnt_pre_b (nums s)
 have ht:=(put_test (nums s) (cnt (nums s)) (nums_lt s) hp d2 hb d1).2 ho
 have hv:=val_ok (nums s) (cnt (nums s)) d2 d1 (fun e=>by rw [e];exact d4 e)
 rw [hv] at ht
 obtain ⟨v1,v2⟩:=valL_at (nums s) (cnt (nums s)) hp d2 hb ho
 apply nums_inj
 rw [nums_append,nums_putB_b]
 unfold varV varT
 rw [v1,v2,ht,nums_extract]
 have:(List.drop (cnt (nums s)+1) (nums s)).take (s.size-(cnt (nums s)+1))=List.drop (cnt (nums s)+1) (nums s):=List.take_of_length_le (by rw [List.length_drop,nums_length];omega)
 rw [this,List.take_append_drop]
theorem tex_sound (s:ByteArray) (h:texO s=true):putB (texV s).size++(texV s++texT s)=s:=by
 unfold texO at h
 rw [Bool.and_eq_true] at h
 obtain ⟨h1,h2⟩:=h
 have hs:=var_sound_b s h1
 have hh:0≤((varV s:Nat):Int)∧((varV s:Nat):Int)≤(varT s).size:=of_decide_eq_true h2
 have e1:texV s=(varT s).extract 0 (varV s):=by
  unfold texV bytV
  rw [if_pos h2,Int.toNat_natCast]
 have e2:texT s=(varT s).extract (varV s) (varT s).size:=by
  unfold texT bytT
  rw [if_pos h2,Int.toNat_natCast]
 have e3:(texV s).size=varV s:=by rw [e1,ByteArray.size_extract];omega
 have e4:texV s++texT s=varT s:=by
  apply nums_inj
  rw [nums_append,e1,e2,nums_extract,nums_extract,List.drop_zero,Nat.sub_zero]
  have:(List.drop (varV s) (nums (varT s))).take ((varT s).size-varV s)=List.drop (varV s) (nums (varT s)):=List.take_of_length_le (by rw [List.length_drop,nums_length];omega)
  rw [this,List.take_append_drop]
 rw [e3,e4,hs]
theorem putB_pos_b (n:Nat):0<(putB n).size:=by unfold putB;rw [str_size];exact put_length_pos n
theorem empty_app_b (t:ByteArray):(⟨#[]⟩:ByteArray)++t=t:=by apply ByteArray.ext;simp
end Vi
open Vi
structure Fmt (R:Type) where
 P:Nat→R→ByteArray
 S:Nat→R→ByteArray→R×ByteArray×Bool
 cut:R→Nat→R
 ok:R→Prop
structure Fmt.Cuts {R:Type} (F:Fmt R):Prop where
 c11:∀ X,F.cut X 11=X
 cc:∀ X a b,a≤b→F.cut (F.cut X a) b=F.cut X a
 cc':∀ X a b,b≤a→F.cut (F.cut X a) b=F.cut X b
 skip:∀ X t,F.ok X→1≤t→t≤11→((F.P t X).size=0↔F.cut X t=F.cut X (t-1))
def Fmt.Put {R:Type} (F:Fmt R) (S:Nat→R→ByteArray→R×ByteArray×Bool):Prop :=
 ∀ X t T,F.ok X→1≤t→t≤11→(F.P t X).size≠0→S t (F.cut X (t-1)) (F.P t X++T)=(F.cut X t,T,true)
def Fmt.Sound {R:Type} (F:Fmt R):Prop :=
 ∀ X t E T T2,F.ok X→1≤t→t≤11→F.S t E T=(F.cut X t,T2,true)→F.cut E (t-1)=E→T=F.P t X++T2∧(F.P t X).size≠0∧F.cut X (t-1)=E
def Fmt.Stay {R:Type} (F:Fmt R):Prop:=∀ t E T,1≤t→t≤11→F.cut E (t-1)=E→F.cut (F.S t E T).1 t=(F.S t E T).1
section
variable {R:Type} (F:Fmt R)
def fdB (X:R) (t:Nat):ByteArray:=if (F.P t X).size=0 then ⟨#[]⟩ else putB t++F.P t X
def encR (X:R):Nat→ByteArray
 | 0=>putB 0
 | j+1=>fdB F X (11-j)++encR X j
def secU (X:R):Nat→ByteArray
 | 0=>⟨#[]⟩
 | k+1=>secU X k++fdB F X (k+1)
def secB (X:R):ByteArray:=secU F X 11++putB 0
theorem secU_enc (X:R):∀ j,j≤11→secU F X (11-j)++encR F X j=secB F X
 | 0,_=>rfl
 | j+1,h=>by
   have ih:=secU_enc X j (by omega)
   have e:11-j=(11-(j+1))+1:=by omega
   have e2:secU F X (11-j)=secU F X (11-(j+1))++fdB F X (11-j):=by
    conv=>lhs;rw [e]
    show secU F X (11-(j+1))++fdB F X (11-(j+1)+1)=_
    rw [←e]
   rw [←ih,e2]
   show secU F X (11-(j+1))++(fdB F X (11-j)++encR F X j)=_
   rw [append_assoc3]
theorem secB_enc (X:R):secB F X=encR F X 11:=by
 have h:=secU_enc F X 11 (Nat.le_refl _)
 rw [show 11-11=0 from rfl] at h
 rw [←h]
 exact (empty_app_b _)
def pk:Nat→Nat→R→ByteArray→Bool→R×ByteArray×Bool
 | 0,_,E,T,b=>(E,T,b)
 | n+1,last,E,T,b =>
   if varV T=0 then (E,varT T,b||!varO T)
   else if varV T≤last∨12≤varV T then (E,⟨#[]⟩,true)
   else pk n (varV T) (F.S (varV T) E (varT T)).1 (F.S (varV T) E (varT T)).2.1 (b||!varO T||!(F.S (varV T) E (varT T)).2.2)
def rk (S:Nat→R→ByteArray→R×ByteArray×Bool):Nat→R→ByteArray→Bool→R×ByteArray×Bool
 | 0,E,T,b=>(E,T,b)
 | n+1,E,T,b =>
   if b=true then (E,T,b)
   else if varV T=0 then (E,varT T,b||!varO T)
   else rk S n (S (varV T) E (varT T)).1 (S (varV T) E (varT T)).2.1 (b||!varO T||!(S (varV T) E (varT T)).2.2)
variable {F}
theorem pk_put (hc:F.Cuts) (hp:F.Put F.S) {X:R} (ok:F.ok X) (T:ByteArray):∀ j n last,j≤11→last≤11-j→12≤n+(11-j)→pk F n last (F.cut X (11-j)) (encR F X j++T) false=(X,T,false)
 | 0,n,last,_,h1,h2=>by
   obtain ⟨m,rfl⟩:∃ m,n=m+1:=⟨n-1,by omega⟩
   obtain ⟨v1,v2,v3⟩:=var_put_b 0 (by omega) T
   unfold pk encR
   rw [v1,v2,v3,if_pos rfl,hc.c11]
   rfl
 | j+1,n,last,h0,h1,h2=>by
   have e:11-j-1=11-(j+1):=by omega
   have sk:=hc.skip X (11-j) ok (by omega) (by omega)
   rw [e] at sk
   by_cases hz:(F.P (11-j) X).size=0
   ·have ih:=pk_put hc hp ok T j n last (by omega) (by omega) (by omega)
    have en:encR F X (j+1)=encR F X j:=by
     show fdB F X (11-j)++encR F X j=_
     unfold fdB
     rw [if_pos hz,empty_app_b]
    rw [en,←sk.1 hz]
    exact ih
   ·obtain ⟨m,rfl⟩:∃ m,n=m+1:=⟨n-1,by omega⟩
    have hs:=hp X (11-j) (encR F X j++T) ok (by omega) (by omega) hz
    rw [e] at hs
    have ih:=pk_put hc hp ok T j m (11-j) (by omega) (Nat.le_refl _) (by omega)
    obtain ⟨v1,v2,v3⟩:=var_put_b (11-j) (by omega) (F.P (11-j) X++(encR F X j++T))
    have et:encR F X (j+1)++T=putB (11-j)++(F.P (11-j) X++(encR F X j++T)):=by
     show fdB F X (11-j)++encR F X j++T=_
     unfold fdB
     rw [if_neg hz]
     simp only [append_assoc3]
    rw [et]
    unfold pk
    rw [v1,v2,v3,if_neg (by omega),if_neg (by omega),hs]
    exact ih
theorem rk_put (hc:F.Cuts) {S:Nat→R→ByteArray→R×ByteArray×Bool} (hp:F.Put S) {X:R} (ok:F.ok X) (T:ByteArray):∀ j n,j≤11→12≤n+(11-j)→rk S n (F.cut X (11-j)) (encR F X j++T) false=(X,T,false)
 | 0,n,_,h2=>by
   obtain ⟨m,rfl⟩:∃ m,n=m+1:=⟨n-1,by omega⟩
   obtain ⟨v1,v2,v3⟩:=var_put_b 0 (by omega) T
   unfold rk encR
   rw [v1,v2,v3,if_neg (by decide),if_pos rfl,hc.c11]
   rfl
 | j+1,n,h0,h2=>by
   have e:11-j-1=11-(j+1):=by omega
   have sk:=hc.skip X (11-j) ok (by omega) (by omega)
   rw [e] at sk
   by_cases hz:(F.P (11-j) X).size=0
   ·have ih:=rk_put hc hp ok T j n (by omega) (by omega)
    have en:encR F X (j+1)=encR F X j:=by
     show fdB F X (11-j)++encR F X j=_
     unfold fdB
     rw [if_pos hz,empty_app_b]
    rw [en,←sk.1 hz]
    exact ih
   ·obtain ⟨m,rfl⟩:∃ m,n=m+1:=⟨n-1,by omega⟩
    have hs:=hp X (11-j) (encR F X j++T) ok (by omega) (by omega) hz
    rw [e] at hs
    have ih:=rk_put hc hp ok T j m (by omega) (by omega)
    obtain ⟨v1,v2,v3⟩:=var_put_b (11-j) (by omega) (F.P (11-j) X++(encR F X j++T))
    have et:encR F X (j+1)++T=putB (11-j)++(F.P (11-j) X++(encR F X j++T)):=by
     show fdB F X (11-j)++encR F X j++T=_
     unfold fdB
     rw [if_neg hz]
     simp only [append_assoc3]
    rw [et]
    unfold rk
    rw [v1,v2,v3,if_neg (by decide),if_neg (by omega),hs]
    exact ih
theorem enc_skip (hc:F.Cuts) {X E:R} (ok:F.ok X):∀ d last,last+d≤11→F.cut X (last+d)=F.cut X last→encR F X (11-last)=encR F X (11-(last+d))
 | 0,_,_,_=>rfl
 | d+1,last,h,e=>by
   have e1:F.cut X (last+d)=F.cut X last:=by
    have h1:=congrArg (fun Y=>F.cut Y (last+d)) e
    rw [hc.cc' X _ _ (by omega),hc.cc X last (last+d) (by omega)] at h1
    exact h1
   rw [enc_skip hc (E:=E) ok d last (by omega) e1]
   have sk:=hc.skip X (last+d+1) ok (by omega) (by omega)
   have hz:(F.P (last+d+1) X).size=0:=sk.2 (by
    show F.cut X (last+d+1)=F.cut X (last+d)
    rw [e1];exact e)
   obtain ⟨j,hj⟩:∃ j,11-(last+d)=j+1:=⟨11-(last+d)-1,by omega⟩
   have hj2:11-j=last+d+1:=by omega
   have hj3:11-(last+(d+1))=j:=by omega
   rw [hj,hj3]
   show fdB F X (11-j)++encR F X j=encR F X j
   rw [hj2]
   unfold fdB
   rw [if_pos hz,empty_app_b]
theorem pk_sound (hc:F.Cuts) (hst:F.Stay) (hs:F.Sound) {X:R} (ok:F.ok X) {T':ByteArray}:∀ n last E T b,12≤n+last→last≤11→F.cut E last=E→pk F n last E T b=(X,T',false)→b=false∧F.cut X last=E∧T=encR F X (11-last)++T'
 | 0,last,E,T,b,h1,h2,_,_=>absurd h1 (by omega)
 | n+1,last,E,T,b,h1,h2,hE,h=>by
   unfold pk at h
   by_cases hv:varV T=0
   ·rw [if_pos hv] at h
    have e1:E=X:=congrArg (·.1) h
    have e2:varT T=T':=congrArg (·.2.1) h
    have e3:(b||!varO T)=false:=congrArg (·.2.2) h
    rw [Bool.or_eq_false_iff] at e3
    have hO:varO T=true:=by simpa using e3.2
    subst e1
    refine ⟨e3.1,hE,?_⟩
    have hsd:=var_sound_b T hO
    rw [hv,e2] at hsd
    have hk:=enc_skip hc (E:=E) ok (11-last) last (by omega) (by rw [show last+(11-last)=11 by omega,hc.c11,hE])
    rw [show 11-(last+(11-last))=0 by omega] at hk
    rw [hk]
    exact hsd.symm
   ·rw [if_neg hv] at h
    by_cases hq:varV T≤last∨12≤varV T
    ·rw [if_pos hq] at h
     have e3:true=false:=congrArg (·.2.2) h
     cases e3
    ·rw [if_neg hq] at h
     obtain ⟨t,ht⟩:∃ t,t=varV T:=⟨_,rfl⟩
     obtain ⟨T1,hT1⟩:∃ T1,T1=varT T:=⟨_,rfl⟩
     rw [←ht,←hT1] at h
     rw [←ht] at hv hq
     obtain ⟨⟨E1,T2,o⟩,hS⟩:∃ r,r=F.S t E T1:=⟨_,rfl⟩
     rw [←hS] at h
     dsimp only at h
     have hlt:last<t∧t≤11:=by omega
     have key:∀ hcut:F.cut E1 t=E1,b=false∧F.cut X last=E∧T=encR F X (11-last)++T':=by
      intro hcut
      obtain ⟨i1,i2,i3⟩:=pk_sound hc hst hs ok n t E1 T2 _ (by omega) hlt.2 hcut h
      simp only [Bool.or_eq_false_iff] at i1
      obtain ⟨⟨j1,j2⟩,j3⟩:=i1
      have hO:varO T=true:=by simpa using j2
      have ho:o=true:=by simpa using j3
      have hsd:=var_sound_b T hO
      rw [←ht,←hT1] at hsd
      subst ho
      rw [←i2] at hS
      have hEc:F.cut E (t-1)=E:=by
       have h3:=hc.cc E last (t-1) (by omega)
       rw [hE] at h3
       exact h3
      obtain ⟨s1,s2,s3⟩:=hs X t E T1 T2 ok (by omega) hlt.2 hS.symm hEc
      have hXl:F.cut X last=E:=by
       have h4:=congrArg (fun Y=>F.cut Y last) s3
       rw [hc.cc' X _ _ (by omega),hE] at h4
       exact h4
      refine ⟨j1,hXl,?_⟩
      have hk:=enc_skip hc (E:=E) ok (t-1-last) last (by omega) (by rw [show last+(t-1-last)=t-1 by omega,s3,hXl])
      rw [show 11-(last+(t-1-last))=11-t+1 by omega] at hk
      rw [hk]
      show T=fdB F X (11-(11-t))++encR F X (11-t)++T'
      rw [show 11-(11-t)=t by omega]
      unfold fdB
      rw [if_neg s2,←hsd,s1,i3]
      simp only [append_assoc3]
     have hEc:F.cut E (t-1)=E:=by
      have h3:=hc.cc E last (t-1) (by omega)
      rw [hE] at h3
      exact h3
     have hq2:=hst t E T1 (by omega) hlt.2 hEc
     rw [←hS] at hq2
     exact key hq2
end
end Go.Proofs.YtnobeoppffoomaaGreat
namespace Go.Proofs.YtnobeoppffoomaaGreat
open Go.RowKit
open Vi
structure Few_b (e:En):Prop where
 k0:0≤e.kind
 k1:e.kind≤11
 n0:0≤e.node
 n1:e.node≤7
 l0:0≤e.level
 l1:e.level≤2
 d:e.data.size≤64
 o:e.old.size≤64
 b:e.block≤4294967295
 m:e.many≤4294967295
theorem few_of_b {e:En} (ok:e.Ok) (h:rightB e=true):Few_b e:=by
 have A:=(asked_iff e ok).1 h
 have f:0≤e.kind∧e.kind≤11:=of_decide_eq_true A.f
 have hd:=A.d1
 have ho:=A.o1
 refine ⟨f.1,f.2,?_,?_,?_,?_,by omega,by omega,A.b1,A.m1⟩
 ·exact both (fun h=>by have:=A.n1 h;omega) (fun h=>by have:=A.n0 h;omega)
 ·exact both (fun h=>by have:=A.n1 h;omega) (fun h=>by have:=A.n0 h;omega)
 ·exact both (fun h=>by have:=A.l1 h;omega) (fun h=>by have:=A.l0 h;omega)
 ·exact both (fun h=>by have:=A.l1 h;omega) (fun h=>by have:=A.l0 h;omega)
def nb (v:Int):ByteArray:=if v=0 then ⟨#[]⟩ else putB v.toNat
def tb (d:ByteArray):ByteArray:=if d.size=0 then ⟨#[]⟩ else putB d.size++d
theorem nb_size0 (v:Int):(nb v).size=0↔v=0:=by
 unfold nb
 by_cases h:v=0
 ·rw [if_pos h];exact ⟨fun _=>h,fun _=>rfl⟩
 ·rw [if_neg h]
  have:=putB_pos_b v.toNat
  exact ⟨fun e=>by omega,fun e=>absurd e h⟩
theorem size0 (d:ByteArray):d.size=0↔d=⟨#[]⟩:=by
 constructor
 ·intro h
  exact ByteArray.ext (Array.eq_empty_of_size_eq_zero h)
 ·rintro rfl;rfl
theorem tb_size0 (d:ByteArray):(tb d).size=0↔d=⟨#[]⟩:=by
 unfold tb
 by_cases h:d.size=0
 ·rw [if_pos h];exact ⟨fun _=>(size0 d).1 h,fun _=>rfl⟩
 ·rw [if_neg h,ByteArray.size_append]
  have:=putB_pos_b d.size
  exact ⟨fun e=>by omega,fun e=>absurd ((size0 d).2 e) h⟩
theorem nb_emp (v:Int):nb v=ByteArray.empty↔v=0:=by rw [←nb_size0];exact (size0 _).symm
theorem tb_emp (d:ByteArray):tb d=ByteArray.empty↔d=⟨#[]⟩:=by rw [←tb_size0];exact (size0 _).symm
def fP:Nat→En→ByteArray
 | 1,X=>nb X.kind
 | 2,X=>nb X.term
 | 3,X=>nb X.index
 | 4,X=>nb X.client
 | 5,X=>nb X.seq
 | 6,X=>nb X.block
 | 7,X=>nb X.many
 | 8,X=>nb X.node
 | 9,X=>nb X.level
 | 10,X=>tb X.data
 | 11,X=>tb X.old
 | _,_=>⟨#[]⟩
def setN:Nat→En→Nat→En
 | 1,E,v=>{ E with kind:=IntKind.i64.wrap v }
 | 2,E,v=>{ E with term:=v }
 | 3,E,v=>{ E with index:=v }
 | 4,E,v=>{ E with client:=v }
 | 5,E,v=>{ E with seq:=v }
 | 6,E,v=>{ E with block:=v }
 | 7,E,v=>{ E with many:=v }
 | 8,E,v=>{ E with node:=IntKind.i64.wrap v }
 | 9,E,v=>{ E with level:=IntKind.i64.wrap v }
 | _,E,_=>E
def setR:Nat→En→Nat→En
 | 1,E,v=>{ E with kind:=((v % 1000:Nat):Int) }
 | 8,E,v=>{ E with node:=((v % 1000:Nat):Int) }
 | 9,E,v=>{ E with level:=((v % 1000:Nat):Int) }
 | t,E,v=>setN t E v
def setT:Nat→En→ByteArray→En
 | 10,E,d=>{ E with data:=d }
 | 11,E,d=>{ E with old:=d }
 | _,E,_=>E
def cutE (X:En) (k:Nat):En :=
 { term:=if 2≤k then X.term else 0,index:=if 3≤k then X.index else 0,kind:=if 1≤k then X.kind else 0,client:=if 4≤k then X.client else 0,seq:=if 5≤k then X.seq else 0,block:=if 6≤k then X.block else 0,many:=if 7≤k then X.many else 0,node:=if 8≤k then X.node else 0,level:=if 9≤k then X.level else 0,data:=if 10≤k then X.data else ⟨#[]⟩,old:=if 11≤k then X.old else ⟨#[]⟩ }
def fS (t:Nat) (E:En) (T:ByteArray):En×ByteArray×Bool :=
 if t≤9 then (setN t E (varV T),if varV T=0 then ⟨#[]⟩ else varT T,varO T&&decide (varV T≠0))
 else (setT t E (texV T),if (texV T).size=0 then ⟨#[]⟩ else texT T,texO T&&decide ((texV T).size≠0))
def fR (t:Nat) (E:En) (T:ByteArray):En×ByteArray×Bool :=
 if t=10∨t=11 then (setT t E (texV T),texT T,texO T)
 else if t≤9 then (setR t E (varV T),varT T,varO T)
 else (E,⟨#[]⟩,false)
abbrev eF:Fmt En:={ P:=fP,S:=fS,cut:=cutE,ok:=fun X=>X.Ok∧Few_b X }
theorem tag_cases {t:Nat} (h1:1≤t) (h2:t≤11):t=1∨t=2∨t=3∨t=4∨t=5∨t=6∨t=7∨t=8∨t=9∨t=10∨t=11:=by omega
theorem e_cuts:eF.Cuts where
 c11 X:=by
  show cutE X 11=X
  unfold cutE
  simp
 cc X a b h:=by
  show cutE (cutE X a) b=cutE X a
  unfold cutE
  simp only [En.mk.injEq]
  refine ⟨?_,?_,?_,?_,?_,?_,?_,?_,?_,?_,?_⟩<;>(repeat' split)<;>first|rfl|omega
 cc' X a b h:=by
  show cutE (cutE X a) b=cutE X b
  unfold cutE
  simp only [En.mk.injEq]
  refine ⟨?_,?_,?_,?_,?_,?_,?_,?_,?_,?_,?_⟩<;>(repeat' split)<;>first|rfl|omega
 skip X t ok h1 h2:=by
  show (fP t X).size=0↔cutE X t=cutE X (t-1)
  rcases tag_cases h1 h2 with rfl|rfl|rfl|rfl|rfl|rfl|rfl|rfl|rfl|rfl|rfl<;>simp [fP,cutE,nb_emp,tb_emp]
theorem S_num {t:Nat} (ht:t≤9) (E:En) (v:Int) (h0:v≠0) (h1:0≤v) (h2:v≤18446744073709551615) (T:ByteArray):fS t E (nb v++T)=(setN t E v.toNat,T,true):=by
 obtain ⟨v1,v2,v3⟩:=var_put_b v.toNat (by omega) T
 have hne:v.toNat≠0:=by omega
 unfold fS nb
 rw [if_pos ht,if_neg h0,v1,v2,v3,if_neg hne,decide_eq_true hne]
 rfl
theorem R_num {t:Nat} (ht:t≤9) (E:En) (v:Int) (h0:v≠0) (h1:0≤v) (h2:v≤18446744073709551615) (T:ByteArray):fR t E (nb v++T)=(setR t E v.toNat,T,true):=by
 obtain ⟨v1,v2,v3⟩:=var_put_b v.toNat (by omega) T
 unfold fR nb
 rw [if_neg (by omega),if_pos ht,if_neg h0,v1,v2,v3]
theorem S_tex {t:Nat} (ht:9<t) (E:En) (d:ByteArray) (h0:d.size≠0) (h2:d.size≤281474976710656) (T:ByteArray):fS t E (tb d++T)=(setT t E d,T,true):=by
 obtain ⟨v1,v2,v3⟩:=tex_put d T (by omega)
 unfold fS tb
 rw [if_neg (by omega),if_neg h0,append_assoc3,v1,v2,v3,if_neg h0,decide_eq_true h0]
 rfl
theorem R_tex {t:Nat} (ht:t=10∨t=11) (E:En) (d:ByteArray) (h0:d.size≠0) (h2:d.size≤281474976710656) (T:ByteArray):fR t E (tb d++T)=(setT t E d,T,true):=by
 obtain ⟨v1,v2,v3⟩:=tex_put d T (by omega)
 unfold fR tb
 rw [if_pos ht,if_neg h0,append_assoc3,v1,v2,v3]
theorem w64 {v:Int} (h0:0≤v) (h1:v≤1000):IntKind.i64.wrap (max v 0)=v:=by
 rw [show max v 0=v by omega]
 exact IntWalk.i64_in _ (by omega)
theorem e_bounds {X:En} (ok:X.Ok) (fw:Few_b X):(0≤X.kind∧X.kind≤1000)∧(0≤X.term∧X.term≤18446744073709551615)∧(0≤X.index∧X.index≤18446744073709551615)∧(0≤X.client∧X.client≤18446744073709551615)∧(0≤X.seq∧X.seq≤18446744073709551615)∧(0≤X.block∧X.block≤18446744073709551615)∧(0≤X.many∧X.many≤18446744073709551615)∧(0≤X.node∧X.node≤1000)∧(0≤X.level∧X.level≤1000)∧X.data.size≤64∧X.old.size≤64:=by
 have k1:=fw.k1
 have n1:=fw.n1
 have l1:=fw.l1
 have b1:=fw.b
 have m1:=fw.m
 exact ⟨⟨fw.k0,by omega⟩,⟨ok.t0,ok.t1⟩,⟨ok.i0,ok.i1⟩,⟨ok.c0,ok.c1⟩,⟨ok.s0,ok.s1⟩,⟨ok.b0,by omega⟩,⟨ok.m0,by omega⟩,⟨fw.n0,by omega⟩,⟨fw.l0,by omega⟩,fw.d,fw.o⟩
theorem nb_ne {v:Int} (h:(nb v).size≠0):v≠0:=fun e=>h ((nb_size0 v).2 e)
theorem tb_ne {d:ByteArray} (h:(tb d).size≠0):d.size≠0:=fun e=>h ((tb_size0 d).2 ((size0 d).1 e))
theorem e_put:eF.Put fS:=by
 intro X t T ⟨ok,fw⟩ h1 h2 hz
 show fS t (cutE X (t-1)) (fP t X++T)=(cutE X t,T,true)
 have hz:(fP t X).size≠0:=hz
 obtain ⟨a1,a2,a3,a4,a5,a6,a7,a8,a9,a10,a11⟩:=e_bounds ok fw
 rcases tag_cases h1 h2 with rfl|rfl|rfl|rfl|rfl|rfl|rfl|rfl|rfl|rfl|rfl
 ·refine (S_num (by omega) _ X.kind (nb_ne hz) a1.1 (by omega) T).trans ?_
  simp [setN,cutE,w64 a1.1 a1.2]
 ·refine (S_num (by omega) _ X.term (nb_ne hz) a2.1 a2.2 T).trans ?_
  simp [setN,cutE];omega
 ·refine (S_num (by omega) _ X.index (nb_ne hz) a3.1 a3.2 T).trans ?_
  simp [setN,cutE];omega
 ·refine (S_num (by omega) _ X.client (nb_ne hz) a4.1 a4.2 T).trans ?_
  simp [setN,cutE];omega
 ·refine (S_num (by omega) _ X.seq (nb_ne hz) a5.1 a5.2 T).trans ?_
  simp [setN,cutE];omega
 ·refine (S_num (by omega) _ X.block (nb_ne hz) a6.1 a6.2 T).trans ?_
  simp [setN,cutE];omega
 ·refine (S_num (by omega) _ X.many (nb_ne hz) a7.1 a7.2 T).trans ?_
  simp [setN,cutE];omega
 ·refine (S_num (by omega) _ X.node (nb_ne hz) a8.1 (by omega) T).trans ?_
  simp [setN,cutE,w64 a8.1 a8.2]
 ·refine (S_num (by omega) _ X.level (nb_ne hz) a9.1 (by omega) T).trans ?_
  simp [setN,cutE,w64 a9.1 a9.2]
 ·refine (S_tex (by omega) _ X.data (tb_ne hz) (by omega) T).trans ?_
  simp [setT,cutE]
 ·refine (S_tex (by omega) _ X.old (tb_ne hz) (by omega) T).trans ?_
  simp [setT,cutE]
theorem e_rput:eF.Put fR:=by
 intro X t T ⟨ok,fw⟩ h1 h2 hz
 show fR t (cutE X (t-1)) (fP t X++T)=(cutE X t,T,true)
 have hz:(fP t X).size≠0:=hz
 have k1:=fw.k1
 have n1:=fw.n1
 have l1:=fw.l1
 obtain ⟨a1,a2,a3,a4,a5,a6,a7,a8,a9,a10,a11⟩:=e_bounds ok fw
 rcases tag_cases h1 h2 with rfl|rfl|rfl|rfl|rfl|rfl|rfl|rfl|rfl|rfl|rfl
 ·refine (R_num (by omega) _ X.kind (nb_ne hz) a1.1 (by omega) T).trans ?_
  simp [setR,setN,cutE];omega
 ·refine (R_num (by omega) _ X.term (nb_ne hz) a2.1 a2.2 T).trans ?_
  simp [setR,setN,cutE];omega
 ·refine (R_num (by omega) _ X.index (nb_ne hz) a3.1 a3.2 T).trans ?_
  simp [setR,setN,cutE];omega
 ·refine (R_num (by omega) _ X.client (nb_ne hz) a4.1 a4.2 T).trans ?_
  simp [setR,setN,cutE];omega
 ·refine (R_num (by omega) _ X.seq (nb_ne hz) a5.1 a5.2 T).trans ?_
  simp [setR,setN,cutE];omega
 ·refine (R_num (by omega) _ X.block (nb_ne hz) a6.1 a6.2 T).trans ?_
  simp [setR,setN,cutE];omega
 ·refine (R_num (by omega) _ X.many (nb_ne hz) a7.1 a7.2 T).trans ?_
  simp [setR,setN,cutE];omega
 ·refine (R_num (by omega) _ X.node (nb_ne hz) a8.1 (by omega) T).trans ?_
  simp [setR,setN,cutE];omega
 ·refine (R_num (by omega) _ X.level (nb_ne hz) a9.1 (by omega) T).trans ?_
  simp [setR,setN,cutE];omega
 ·refine (R_tex (.inl rfl) _ X.data (tb_ne hz) (by omega) T).trans ?_
  simp [setT,cutE]
 ·refine (R_tex (.inr rfl) _ X.old (tb_ne hz) (by omega) T).trans ?_
  simp [setT,cutE]
theorem cut_setN {t:Nat} (h1:1≤t) (h2:t≤9) (E:En) (v:Nat):cutE (setN t E v) t=setN t (cutE E (t-1)) v∧cutE (setN t E v) (t-1)=cutE E (t-1):=by
 rcases tag_cases h1 (by omega) with rfl|rfl|rfl|rfl|rfl|rfl|rfl|rfl|rfl|rfl|rfl<;>first|omega|simp [setN,cutE]
theorem cut_setT {t:Nat} (h1:t=10∨t=11) (E:En) (d:ByteArray):cutE (setT t E d) t=setT t (cutE E (t-1)) d∧cutE (setT t E d) (t-1)=cutE E (t-1):=by
 rcases h1 with rfl|rfl<;>simp [setT,cutE]
theorem e_stay:eF.Stay:=by
 intro t E T h1 h2 hE
 show cutE (fS t E T).1 t=(fS t E T).1
 have hE:cutE E (t-1)=E:=hE
 unfold fS
 by_cases ht:t≤9
 ·rw [if_pos ht]
  show cutE (setN t E (varV T)) t=setN t E (varV T)
  rw [(cut_setN h1 ht E _).1,hE]
 ·rw [if_neg ht]
  show cutE (setT t E (texV T)) t=setT t E (texV T)
  rw [(cut_setT (by omega) E _).1,hE]
theorem wrap_back {n:Nat} {v:Int} (hn:n<18446744073709551616) (h:IntKind.i64.wrap (n:Int)=v) (h0:0≤v):(n:Int)=v:=by
 rw [IntKind.wrap_i64] at h
 omega
theorem val_of {t:Nat} (h1:1≤t) (h2:t≤9) {X E:En} {n:Nat} (ok:X.Ok) (fw:Few_b X) (hn:n<18446744073709551616) (h0:n≠0) (h:setN t E n=cutE X t):fP t X=putB n:=by
 obtain ⟨a1,a2,a3,a4,a5,a6,a7,a8,a9,a10,a11⟩:=e_bounds ok fw
 have fin:∀ v:Int,(n:Int)=v→nb v=putB n:=by
  intro v hv
  unfold nb
  rw [if_neg (by omega),←hv,Int.toNat_natCast]
 rcases tag_cases h1 (by omega) with rfl|rfl|rfl|rfl|rfl|rfl|rfl|rfl|rfl|rfl|rfl
 ·have e:=congrArg En.kind h
  simp [setN,cutE] at e
  exact fin _ (wrap_back hn e a1.1)
 ·have e:=congrArg En.term h
  simp [setN,cutE] at e
  exact fin _ e
 ·have e:=congrArg En.index h
  simp [setN,cutE] at e
  exact fin _ e
 ·have e:=congrArg En.client h
  simp [setN,cutE] at e
  exact fin _ e
 ·have e:=congrArg En.seq h
  simp [setN,cutE] at e
  exact fin _ e
 ·have e:=congrArg En.block h
  simp [setN,cutE] at e
  exact fin _ e
 ·have e:=congrArg En.many h
  simp [setN,cutE] at e
  exact fin _ e
 ·have e:=congrArg En.node h
  simp [setN,cutE] at e
  exact fin _ (wrap_back hn e a8.1)
 ·have e:=congrArg En.level h
  simp [setN,cutE] at e
  exact fin _ (wrap_back hn e a9.1)
 ·omega
 ·omega
theorem e_sound:eF.Sound:=by
 intro X t E T T2 ⟨ok,fw⟩ h1 h2 h hE
 have hE:cutE E (t-1)=E:=hE
 have h:fS t E T=(cutE X t,T2,true):=h
 show T=fP t X++T2∧(fP t X).size≠0∧cutE X (t-1)=E
 unfold fS at h
 have hback:∀ Y:En,Y=cutE X t→cutE Y (t-1)=cutE E (t-1)→cutE X (t-1)=E:=by
  intro Y hY hYE
  have h4:=e_cuts.cc' X t (t-1) (by omega)
  have h4:cutE (cutE X t) (t-1)=cutE X (t-1):=h4
  rw [←h4,←hY,hYE,hE]
 by_cases ht:t≤9
 ·rw [if_pos ht] at h
  have e1:setN t E (varV T)=cutE X t:=congrArg (·.1) h
  have e2:(if varV T=0 then (⟨#[]⟩:ByteArray) else varT T)=T2:=congrArg (·.2.1) h
  have e3:(varO T&&decide (varV T≠0))=true:=congrArg (·.2.2) h
  rw [Bool.and_eq_true,decide_eq_true_eq] at e3
  rw [if_neg e3.2] at e2
  have hv:=val_of h1 ht ok fw (varV_lt T) e3.2 e1
  have hs:=var_sound_b T e3.1
  rw [e2] at hs
  refine ⟨by rw [hv];exact hs.symm,?_,hback _ e1 (cut_setN h1 ht E _).2⟩
  rw [hv]
  have:=putB_pos_b (varV T)
  omega
 ·rw [if_neg ht] at h
  have e1:setT t E (texV T)=cutE X t:=congrArg (·.1) h
  have e2:(if (texV T).size=0 then (⟨#[]⟩:ByteArray) else texT T)=T2:=congrArg (·.2.1) h
  have e3:(texO T&&decide ((texV T).size≠0))=true:=congrArg (·.2.2) h
  rw [Bool.and_eq_true,decide_eq_true_eq] at e3
  rw [if_neg e3.2] at e2
  have htt:t=10∨t=11:=by omega
  have hv:fP t X=tb (texV T):=by
   rcases htt with rfl|rfl
   ·have e:=congrArg En.data e1
    simp [setT,cutE] at e
    show tb X.data=_
    rw [←e]
   ·have e:=congrArg En.old e1
    simp [setT,cutE] at e
    show tb X.old=_
    rw [←e]
  have hs:=tex_sound T e3.1
  rw [e2] at hs
  have htb:tb (texV T)=putB (texV T).size++texV T:=by unfold tb;rw [if_neg e3.2]
  refine ⟨by rw [hv,htb,append_assoc3];exact hs.symm,?_,hback _ e1 (cut_setT htt E _).2⟩
  rw [hv,htb,ByteArray.size_append]
  have:=putB_pos_b (texV T).size
  omega
abbrev ezz0:En:=⟨0,0,0,0,0,0,0,0,0,⟨#[]⟩,⟨#[]⟩⟩
def eR (s:ByteArray) (b:Bool):En×ByteArray×Bool:=pk eF 12 0 ezz0 s b
def eRr (s:ByteArray) (b:Bool):En×ByteArray×Bool:=rk fR 12 ezz0 s b
def sbE (X:En):ByteArray:=secB eF X
theorem cut_zero (X:En):cutE X 0=ezz0:=by unfold cutE;simp
theorem eR_put {X:En} (ok:X.Ok) (fw:Few_b X) (r:ByteArray):eR (sbE X++r) false=(X,r,false)∧eRr (sbE X++r) false=(X,r,false):=by
 have h1:=pk_put e_cuts e_put (X:=X) ⟨ok,fw⟩ r 11 12 0 (by omega) (by omega) (by omega)
 have h2:=rk_put e_cuts e_rput (X:=X) ⟨ok,fw⟩ r 11 12 (by omega) (by omega)
 rw [show 11-11=0 from rfl] at h1 h2
 have hz:eF.cut X 0=ezz0:=cut_zero X
 rw [hz] at h1 h2
 unfold eR eRr sbE
 rw [secB_enc]
 exact ⟨h1,h2⟩
theorem eR_sound {X:En} (ok:X.Ok) (fw:Few_b X) {s r:ByteArray} {b:Bool} (h:eR s b=(X,r,false)):b=false∧s=sbE X++r:=by
 have h1:=pk_sound e_cuts e_stay e_sound (X:=X) ⟨ok,fw⟩ (T':=r) 12 0 ezz0 s b (by omega) (by omega) (cut_zero _) h
 unfold sbE
 rw [secB_enc]
 exact ⟨h1.1,h1.2.2⟩
end Go.Proofs.YtnobeoppffoomaaGreat
