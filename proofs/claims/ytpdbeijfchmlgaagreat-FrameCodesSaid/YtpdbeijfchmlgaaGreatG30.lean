/-
  FrameCodes: part G30.
  Conditions: named in each theorem.
-/
import Derived.Test.YtpdbeijfchmlgaaGreatZ0
import Derived.Test.YtpdbeijfchmlgaaGreatG28
set_option linter.unusedVariables false
set_option linter.unusedSimpArgs false
set_option maxHeartbeats 16000000
set_option maxRecDepth 100000
namespace Go.Proofs.YtpdbeijfchmlgaaGreat.D
open Go.RowKit
open Vi
theorem var00:varV ⟨#[]⟩=0∧varT ⟨#[]⟩=⟨#[]⟩∧varO ⟨#[]⟩=false:=by decide +kernel
theorem gO_nil (b:Bool):gO ⟨#[]⟩ b=false:=by
 obtain ⟨v1,v2,v3⟩:=var00;unfold gO eR pk;rw [v1,v2,v3,if_pos rfl]
 simp
theorem gE_nil (b:Bool):gE ⟨#[]⟩ b=ezz∧gT ⟨#[]⟩ b=⟨#[]⟩:=gO_no (gO_nil b)
theorem gE_any (s:ByteArray) (b:Bool) (hs:Vi.Sane s b):gE s b=gE s false∧gT s b=gT s false∧gO s b=(!b&&gO s false):=by
 cases b with
 | false=>exact ⟨rfl,rfl,by simp⟩
 | true =>
   have e:s=⟨#[]⟩:=hs rfl;subst e;exact ⟨(gE_nil true).1.trans (gE_nil false).1.symm,(gE_nil true).2.trans (gE_nil false).2.symm,(gO_nil true).trans (by rw [gO_nil];rfl)⟩
theorem gE_ok (s:ByteArray) (b:Bool) (h:s.size≤140737488351232):(gE s b).Ok:=by
 unfold gE
 split
 ·exact eR_ok s b h
 ·exact ezz_ok
theorem pk_size:∀ n last E T b,(pk eF n last E T b).2.1.size≤T.size
 | 0,_,_,_,_=>Nat.le_refl _
 | n+1,last,E,T,b=>by
   unfold pk
   split
   ·exact varT_size T
   ·split
    ·exact Nat.zero_le _
    ·exact Nat.le_trans (pk_size n _ _ _ _) (Nat.le_trans (fS_size _ _ _) (varT_size T))
theorem gT_le (s:ByteArray) (b:Bool):(gT s b).size≤s.size:=by
 unfold gT
 split
 ·exact pk_size _ _ _ _ _
 ·exact Nat.zero_le _
theorem gT_no {s:ByteArray} {b:Bool} (h:gO s b=false):gT s b=⟨#[]⟩:=(gO_no h).2
theorem gE_put {e:En} (ok:e.Ok) (hr:rightB e=true) (r:ByteArray):gE (sbE e++r) false=e∧gT (sbE e++r) false=r∧gO (sbE e++r) false=true:=by
 have h:=(eR_put ok (few_of_b ok hr) r).1;have ho:gO (sbE e++r) false=true:=by unfold gO;rw [h,hr];rfl
 obtain ⟨h1,h2⟩:=gO_yes ho;rw [h] at h1 h2;exact ⟨h1,h2,ho⟩
theorem gE_sound {s:ByteArray} (ok:(gE s false).Ok) (ho:gO s false=true):s=sbE (gE s false)++gT s false∧rightB (gE s false)=true:=by
 obtain ⟨h1,h2⟩:=gO_yes ho;have ho2:=ho;unfold gO at ho2;rw [Bool.and_eq_true] at ho2;obtain ⟨h3,h4⟩:=ho2;have h5:(eR s false).2.2=false:=by simpa using h3
 rw [←h1] at h4;have h6:eR s false=(gE s false,gT s false,false):=Prod.ext h1.symm (Prod.ext h2.symm h5);exact ⟨(eR_sound ok (few_of_b ok h4) h6).2,h4⟩
def catE:List En→ByteArray
 | []=>⟨#[]⟩
 | e :: l=>sbE e++catE l
def lE:Nat→ByteArray→List En
 | 0,_=>[]
 | n+1,s=>gE s false :: lE n (gT s false)
def lT:Nat→ByteArray→ByteArray
 | 0,s=>s
 | n+1,s=>lT n (gT s false)
def lO:Nat→ByteArray→Bool
 | 0,_=>true
 | n+1,s=>gO s false&&lO n (gT s false)
theorem lE_length:∀ n s,(lE n s).length=n
 | 0,_=>rfl
 | n+1,s=>congrArg (·+1) (lE_length n (gT s false))
theorem lE_snoc:∀ n s,lE (n+1) s=lE n s++[gE (lT n s) false]
 | 0,_=>rfl
 | n+1,s=>by
   show gE s false :: lE (n+1) (gT s false)=gE s false :: lE n (gT s false)++[gE (lT n (gT s false)) false]
   rw [lE_snoc n (gT s false)];rfl
theorem lT_snoc:∀ n s,lT (n+1) s=gT (lT n s) false
 | 0,_=>rfl
 | n+1,s=>lT_snoc n (gT s false)
theorem lO_snoc:∀ n s,lO (n+1) s=(lO n s&&gO (lT n s) false)
 | 0,s=>by show (gO s false&&true)=(true&&gO s false);simp
 | n+1,s=>by
   show (gO s false&&lO (n+1) (gT s false))=(gO s false&&lO n (gT s false)&&gO (lT n (gT s false)) false)
   rw [lO_snoc n (gT s false),Bool.and_assoc]
theorem lT_le:∀ n s,(lT n s).size≤s.size
 | 0,_=>Nat.le_refl _
 | n+1,s=>Nat.le_trans (lT_le n _) (gT_le s false)
theorem lE_ok:∀ n s,s.size≤140737488351232→∀ e∈lE n s,e.Ok
 | 0,_,_,e,he=>by cases he
 | n+1,s,h,e,he=>by
   rcases List.mem_cons.1 he with rfl|he
   ·exact gE_ok s false h
   ·exact lE_ok n _ (Nat.le_trans (gT_le s false) h) e he
theorem lT_no:∀ n s,lO n s=false→lT n s=⟨#[]⟩
 | 0,_,h=>by cases h
 | n+1,s,h=>by
   have h:(gO s false&&lO n (gT s false))=false:=h
   by_cases h2:lO n (gT s false)=false
   ·exact lT_no n _ h2
   ·have h3:gO s false=false:=by
     cases hg:gO s false with
     | false=>rfl
     | true=>rw [hg,Bool.true_and] at h;exact absurd h h2
    have e:=gT_no h3
    have hz:∀ k,lT k ⟨#[]⟩=⟨#[]⟩:=by
     intro k
     induction k with
     | zero=>rfl
     | succ k ih=>show lT k (gT ⟨#[]⟩ false)=_;rw [(gE_nil false).2,ih]
    show lT n (gT s false)=_
    rw [e,hz]
theorem lE_put (r:ByteArray):∀ es:List En,(∀ e∈es,e.Ok∧rightB e=true)→lE es.length (catE es++r)=es∧lT es.length (catE es++r)=r∧lO es.length (catE es++r)=true
 | [],_=>⟨rfl,empty_app_b r,rfl⟩
 | e :: l,h=>by
   obtain ⟨h1,h2⟩:=h e (by simp);obtain ⟨g1,g2,g3⟩:=gE_put h1 h2 (catE l++r);obtain ⟨i1,i2,i3⟩:=lE_put r l (fun x hx=>h x (by simp [hx]));have ea:catE (e :: l)++r=sbE e++(catE l++r):=append_assoc3 _ _ _;rw [ea];refine ⟨?_,?_,?_⟩
   ·show gE _ false :: lE l.length (gT _ false)=_
    rw [g1,g2,i1]
   ·show lT l.length (gT _ false)=_
    rw [g2,i2]
   ·show (gO _ false&&lO l.length (gT _ false))=true
    rw [g2,g3,i3];rfl
theorem lE_sound:∀ n s,lO n s=true→(∀ e∈lE n s,e.Ok)→s=catE (lE n s)++lT n s∧∀ e∈lE n s,rightB e=true
 | 0,s,_,_=>⟨(empty_app_b s).symm,fun e he=>by cases he⟩
 | n+1,s,h,hk=>by
   have h:(gO s false&&lO n (gT s false))=true:=h;rw [Bool.and_eq_true] at h;have hk1:(gE s false).Ok:=hk _ (List.mem_cons_self ..);obtain ⟨s1,s2⟩:=gE_sound hk1 h.1;obtain ⟨i1,i2⟩:=lE_sound n (gT s false) h.2 (fun e he=>hk e (List.mem_cons_of_mem _ he));refine ⟨?_,?_⟩
   ·show s=sbE (gE s false)++catE (lE n (gT s false))++lT n (gT s false)
    rw [append_assoc3,←i1];exact s1
   ·intro e he
    rcases List.mem_cons.1 he with rfl|he
    ·exact s2
    ·exact i2 e he
def hL:Nat→List En→ByteArray→Bool→List En×ByteArray×Bool
 | 0,l,s,b=>(l,s,b)
 | n+1,l,s,b=>if b=true then (l,s,b) else hL n (l++[gE s false]) (gT s false) (!gO s false)
theorem hL_put (r:ByteArray):∀ (es l:List En),(∀ e∈es,e.Ok∧rightB e=true)→hL es.length l (catE es++r) false=(l++es,r,false)
 | [],l,_=>by
   show (l,catE []++r,false)=_
   rw [List.append_nil];exact congrArg (fun x=>(l,x,false)) (empty_app_b r)
 | e :: es,l,h=>by
   obtain ⟨h1,h2⟩:=h e (by simp);obtain ⟨g1,g2,g3⟩:=gE_put h1 h2 (catE es++r);have ea:catE (e :: es)++r=sbE e++(catE es++r):=append_assoc3 _ _ _;rw [ea]
   show (if false=true then _ else hL es.length (l++[gE _ false]) (gT _ false) (!gO _ false))=_
   rw [if_neg (by decide),g1,g2,g3];rw [show (!true)=false from rfl,hL_put r es (l++[e]) (fun x hx=>h x (by simp [hx]))]
   simp
structure Mp where
 kind:Int
 frm:Int
 dst:Int
 term:Int
 index:Int
 prev:Int
 commit:Int
 mark:Int
 ok:Bool
 snap:ByteArray
 es:List En
abbrev mz0:Mp:=⟨0,0,0,0,0,0,0,0,false,⟨#[]⟩,[]⟩
def Mp.at_ (X:Mp) (A:Option Addr) (c:Nat):Ms:=⟨X.kind,X.frm,X.dst,X.term,X.index,X.prev,X.commit,X.mark,X.ok,A,X.es.length,c,X.es,X.snap⟩
structure Mp.Wide (X:Mp):Prop where
 k0:-9223372036854775808≤X.kind
 k1:X.kind≤9223372036854775807
 f0:-9223372036854775808≤X.frm
 f1:X.frm≤9223372036854775807
 o0:-9223372036854775808≤X.dst
 o1:X.dst≤9223372036854775807
 t0:0≤X.term
 t1:X.term≤18446744073709551615
 i0:0≤X.index
 i1:X.index≤18446744073709551615
 p0:0≤X.prev
 p1:X.prev≤18446744073709551615
 c0:0≤X.commit
 c1:X.commit≤18446744073709551615
 m0:0≤X.mark
 m1:X.mark≤18446744073709551615
 s1:X.snap.size≤140737488351232
 eo:∀ e∈X.es,e.Ok
structure MFew (X:Mp):Prop where
 k0:1≤X.kind
 k1:X.kind≤10
 f0:1≤X.frm
 f1:X.frm≤7
 o0:1≤X.dst
 o1:X.dst≤7
 n:X.es.length≤64
 s:X.snap.size≤16384
 r:∀ e∈X.es,rightB e=true
def fb1 (b:Bool):ByteArray:=if b then putB 1 else ⟨#[]⟩
def eb (es:List En):ByteArray:=if es.length=0 then ⟨#[]⟩ else putB es.length++catE es
theorem fb1_emp (b:Bool):fb1 b=ByteArray.empty↔b=false:=by
 unfold fb1
 cases b with
 | false=>exact ⟨fun _=>rfl,fun _=>rfl⟩
 | true =>
   have:=putB_pos_b 1
   exact ⟨fun e=>by rw [if_pos rfl] at e;rw [e] at this;exact absurd this (by decide),fun e=>by cases e⟩
theorem eb_emp (es:List En):eb es=ByteArray.empty↔es=[]:=by
 unfold eb
 by_cases h:es.length=0
 ·rw [if_pos h];exact ⟨fun _=>List.eq_nil_of_length_eq_zero h,fun _=>rfl⟩
 ·rw [if_neg h]
  have:=putB_pos_b es.length
  refine ⟨fun e=>?_,fun e=>absurd (by rw [e];rfl) h⟩;have h2:=congrArg ByteArray.size e;rw [ByteArray.size_append] at h2;have h3:(ByteArray.empty).size=0:=rfl;omega
def mP:Nat→Mp→ByteArray
 | 1,X=>nb X.kind
 | 2,X=>nb X.frm
 | 3,X=>nb X.dst
 | 4,X=>nb X.term
 | 5,X=>nb X.index
 | 6,X=>nb X.prev
 | 7,X=>nb X.commit
 | 8,X=>nb X.mark
 | 9,X=>fb1 X.ok
 | 10,X=>tb X.snap
 | 11,X=>eb X.es
 | _,_=>⟨#[]⟩
def setM:Nat→Mp→Nat→Mp
 | 1,E,v=>{ E with kind:=IntKind.i64.wrap v }
 | 2,E,v=>{ E with frm:=IntKind.i64.wrap v }
 | 3,E,v=>{ E with dst:=IntKind.i64.wrap v }
 | 4,E,v=>{ E with term:=v }
 | 5,E,v=>{ E with index:=v }
 | 6,E,v=>{ E with prev:=v }
 | 7,E,v=>{ E with commit:=v }
 | 8,E,v=>{ E with mark:=v }
 | _,E,_=>E
def setMr:Nat→Mp→Nat→Mp
 | 1,E,v=>{ E with kind:=((v % 1000:Nat):Int) }
 | 2,E,v=>{ E with frm:=((v % 1000:Nat):Int) }
 | 3,E,v=>{ E with dst:=((v % 1000:Nat):Int) }
 | t,E,v=>setM t E v
def cutM (X:Mp) (k:Nat):Mp :=
 { kind:=if 1≤k then X.kind else 0,frm:=if 2≤k then X.frm else 0,dst:=if 3≤k then X.dst else 0,term:=if 4≤k then X.term else 0,index:=if 5≤k then X.index else 0,prev:=if 6≤k then X.prev else 0,commit:=if 7≤k then X.commit else 0,mark:=if 8≤k then X.mark else 0,ok:=if 9≤k then X.ok else false,snap:=if 10≤k then X.snap else ⟨#[]⟩,es:=if 11≤k then X.es else [] }
def mS (t:Nat) (E:Mp) (T:ByteArray):Mp×ByteArray×Bool :=
 if t≤8 then (setM t E (varV T),if varV T=0 then ⟨#[]⟩ else varT T,varO T&&decide (varV T≠0))
 else if t=9 then ({ E with ok:=decide (varV T=1) },if varV T=1 then varT T else ⟨#[]⟩,varO T&&decide (varV T=1))
 else if t=10 then ({ E with snap:=texV T },if (texV T).size=0 then ⟨#[]⟩ else texT T,texO T&&decide ((texV T).size≠0))
 else if 64<varV T then ({ E with es:=[] },⟨#[]⟩,false)
 else ({ E with es:=lE (varV T) (varT T) },if varV T=0 then ⟨#[]⟩ else lT (varV T) (varT T),(varO T&&lO (varV T) (varT T))&&decide (varV T≠0))
def mR (t:Nat) (E:Mp) (T:ByteArray):Mp×ByteArray×Bool :=
 if t=10 then ({ E with snap:=texV T },texT T,texO T)
 else if t≤8 then (setMr t E (varV T),varT T,varO T)
 else if t=9 then ({ E with ok:=decide (varV T=1) },varT T,varO T)
 else if t=11 then ({ E with es:=(hL (min (varV T) 65) E.es (varT T) (!varO T)).1 },(hL (min (varV T) 65) E.es (varT T) (!varO T)).2.1,!(hL (min (varV T) 65) E.es (varT T) (!varO T)).2.2)
 else (E,⟨#[]⟩,false)
abbrev mF:Fmt Mp:={ P:=mP,S:=mS,cut:=cutM,ok:=fun X=>X.Wide∧MFew X }
theorem m_cuts:mF.Cuts where
 c11 X:=by
  show cutM X 11=X
  unfold cutM
  simp
 cc X a b h:=by
  show cutM (cutM X a) b=cutM X a
  unfold cutM;simp only [Mp.mk.injEq];refine ⟨?_,?_,?_,?_,?_,?_,?_,?_,?_,?_,?_⟩<;>(repeat' split)<;>first|rfl|omega
 cc' X a b h:=by
  show cutM (cutM X a) b=cutM X b
  unfold cutM;simp only [Mp.mk.injEq];refine ⟨?_,?_,?_,?_,?_,?_,?_,?_,?_,?_,?_⟩<;>(repeat' split)<;>first|rfl|omega
 skip X t ok h1 h2:=by
  show (mP t X).size=0↔cutM X t=cutM X (t-1)
  rcases tag_cases h1 h2 with rfl|rfl|rfl|rfl|rfl|rfl|rfl|rfl|rfl|rfl|rfl<;>simp [mP,cutM,nb_emp,tb_emp,fb1_emp,eb_emp]
theorem MS_num {t:Nat} (ht:t≤8) (E:Mp) (v:Int) (h0:v≠0) (h1:0≤v) (h2:v≤18446744073709551615) (T:ByteArray):mS t E (nb v++T)=(setM t E v.toNat,T,true):=by
 obtain ⟨v1,v2,v3⟩:=var_put_b v.toNat (by omega) T;have hne:v.toNat≠0:=by omega
 unfold mS nb;rw [if_pos ht,if_neg h0,v1,v2,v3,if_neg hne,decide_eq_true hne];rfl
theorem MR_num {t:Nat} (ht:t≤8) (E:Mp) (v:Int) (h0:v≠0) (h1:0≤v) (h2:v≤18446744073709551615) (T:ByteArray):mR t E (nb v++T)=(setMr t E v.toNat,T,true):=by
 obtain ⟨v1,v2,v3⟩:=var_put_b v.toNat (by omega) T;unfold mR nb;rw [if_neg (by omega),if_pos ht,if_neg h0,v1,v2,v3]
theorem MS_ok (E:Mp) (T:ByteArray):mS 9 E (fb1 true++T)=({ E with ok:=true },T,true)∧mR 9 E (fb1 true++T)=({ E with ok:=true },T,true):=by
 obtain ⟨v1,v2,v3⟩:=var_put_b 1 (by omega) T;unfold mS mR fb1
 simp [v1,v2,v3]
theorem MS_tex (E:Mp) (d:ByteArray) (h0:d.size≠0) (h2:d.size≤140737488351232) (T:ByteArray):mS 10 E (tb d++T)=({ E with snap:=d },T,true)∧mR 10 E (tb d++T)=({ E with snap:=d },T,true):=by
 obtain ⟨v1,v2,v3⟩:=tex_put d T (by omega);unfold mS mR tb;rw [if_neg h0,append_assoc3,v1,v2,v3]
 simp [h0]
theorem MS_es (E:Mp) (es:List En) (h0:es.length≠0) (h2:es.length≤64) (hr:∀ e∈es,e.Ok∧rightB e=true) (hE:E.es=[]) (T:ByteArray):mS 11 E (eb es++T)=({ E with es:=es },T,true)∧mR 11 E (eb es++T)=({ E with es:=es },T,true):=by
 obtain ⟨v1,v2,v3⟩:=var_put_b es.length (by omega) (catE es++T);obtain ⟨i1,i2,i3⟩:=lE_put T es hr;have h:=hL_put T es E.es hr;have e0:eb es++T=putB es.length++(catE es++T):=by unfold eb;rw [if_neg h0,append_assoc3]
 rw [e0];constructor
 ·unfold mS;rw [if_neg (by omega),if_neg (by omega),if_neg (by omega),v1,v2,v3,if_neg (by omega),i1,i2,i3,if_neg h0,decide_eq_true h0];rfl
 ·unfold mR;rw [if_neg (by omega),if_neg (by omega),if_neg (by omega),if_pos rfl,v1,v2,v3,show min es.length 65=es.length by omega,show (!true)=false from rfl,h,hE];rfl
theorem m_bounds {X:Mp} (ok:X.Wide) (fw:MFew X):(0≤X.kind∧X.kind≤999)∧(0≤X.frm∧X.frm≤999)∧(0≤X.dst∧X.dst≤999)∧(0≤X.term∧X.term≤18446744073709551615)∧(0≤X.index∧X.index≤18446744073709551615)∧(0≤X.prev∧X.prev≤18446744073709551615)∧(0≤X.commit∧X.commit≤18446744073709551615)∧(0≤X.mark∧X.mark≤18446744073709551615):=by
 have k0:=fw.k0;have k1:=fw.k1;have f0:=fw.f0;have f1:=fw.f1;have o0:=fw.o0;have o1:=fw.o1;exact ⟨⟨by omega,by omega⟩,⟨by omega,by omega⟩,⟨by omega,by omega⟩,⟨ok.t0,ok.t1⟩,⟨ok.i0,ok.i1⟩,⟨ok.p0,ok.p1⟩,⟨ok.c0,ok.c1⟩,⟨ok.m0,ok.m1⟩⟩
theorem fb1_ne {b:Bool} (h:(fb1 b).size≠0):b=true:=by
 cases b with
 | true=>rfl
 | false=>exact absurd rfl h
theorem eb_ne {es:List En} (h:(eb es).size≠0):es.length≠0:=fun e=>h (by unfold eb;rw [if_pos e];rfl)
theorem m_put:mF.Put mS:=by
 intro X t T ⟨ok,fw⟩ h1 h2 hz
 show mS t (cutM X (t-1)) (mP t X++T)=(cutM X t,T,true)
 have hz:(mP t X).size≠0:=hz;obtain ⟨a1,a2,a3,a4,a5,a6,a7,a8⟩:=m_bounds ok fw
 rcases tag_cases h1 h2 with rfl|rfl|rfl|rfl|rfl|rfl|rfl|rfl|rfl|rfl|rfl
 ·refine (MS_num (by omega) _ X.kind (nb_ne hz) a1.1 (by omega) T).trans ?_
  simp [setM,cutM,w64 a1.1 (by omega:X.kind≤1000)]
 ·refine (MS_num (by omega) _ X.frm (nb_ne hz) a2.1 (by omega) T).trans ?_
  simp [setM,cutM,w64 a2.1 (by omega:X.frm≤1000)]
 ·refine (MS_num (by omega) _ X.dst (nb_ne hz) a3.1 (by omega) T).trans ?_
  simp [setM,cutM,w64 a3.1 (by omega:X.dst≤1000)]
 ·refine (MS_num (by omega) _ X.term (nb_ne hz) a4.1 a4.2 T).trans ?_
  simp [setM,cutM];omega
 ·refine (MS_num (by omega) _ X.index (nb_ne hz) a5.1 a5.2 T).trans ?_
  simp [setM,cutM];omega
 ·refine (MS_num (by omega) _ X.prev (nb_ne hz) a6.1 a6.2 T).trans ?_
  simp [setM,cutM];omega
 ·refine (MS_num (by omega) _ X.commit (nb_ne hz) a7.1 a7.2 T).trans ?_
  simp [setM,cutM];omega
 ·refine (MS_num (by omega) _ X.mark (nb_ne hz) a8.1 a8.2 T).trans ?_
  simp [setM,cutM];omega
 ·have e:X.ok=true:=fb1_ne hz
  show mS 9 (cutM X 8) (fb1 X.ok++T)=_
  rw [e];refine (MS_ok _ T).1.trans ?_
  simp [cutM,e]
 ·have hs:=fw.s;refine (MS_tex _ X.snap (tb_ne hz) (by omega) T).1.trans ?_
  simp [cutM]
 ·refine (MS_es _ X.es (eb_ne hz) fw.n (fun e he=>⟨ok.eo e he,fw.r e he⟩) (by simp [cutM]) T).1.trans ?_
  simp [cutM]
theorem m_rput:mF.Put mR:=by
 intro X t T ⟨ok,fw⟩ h1 h2 hz
 show mR t (cutM X (t-1)) (mP t X++T)=(cutM X t,T,true)
 have hz:(mP t X).size≠0:=hz;obtain ⟨a1,a2,a3,a4,a5,a6,a7,a8⟩:=m_bounds ok fw
 rcases tag_cases h1 h2 with rfl|rfl|rfl|rfl|rfl|rfl|rfl|rfl|rfl|rfl|rfl
 ·refine (MR_num (by omega) _ X.kind (nb_ne hz) a1.1 (by omega) T).trans ?_
  simp [setMr,setM,cutM];omega
 ·refine (MR_num (by omega) _ X.frm (nb_ne hz) a2.1 (by omega) T).trans ?_
  simp [setMr,setM,cutM];omega
 ·refine (MR_num (by omega) _ X.dst (nb_ne hz) a3.1 (by omega) T).trans ?_
  simp [setMr,setM,cutM];omega
 ·refine (MR_num (by omega) _ X.term (nb_ne hz) a4.1 a4.2 T).trans ?_
  simp [setMr,setM,cutM];omega
 ·refine (MR_num (by omega) _ X.index (nb_ne hz) a5.1 a5.2 T).trans ?_
  simp [setMr,setM,cutM];omega
 ·refine (MR_num (by omega) _ X.prev (nb_ne hz) a6.1 a6.2 T).trans ?_
  simp [setMr,setM,cutM];omega
 ·refine (MR_num (by omega) _ X.commit (nb_ne hz) a7.1 a7.2 T).trans ?_
  simp [setMr,setM,cutM];omega
 ·refine (MR_num (by omega) _ X.mark (nb_ne hz) a8.1 a8.2 T).trans ?_
  simp [setMr,setM,cutM];omega
 ·have e:X.ok=true:=fb1_ne hz
  show mR 9 (cutM X 8) (fb1 X.ok++T)=_
  rw [e];refine (MS_ok _ T).2.trans ?_
  simp [cutM,e]
 ·have hs:=fw.s;refine (MS_tex _ X.snap (tb_ne hz) (by omega) T).2.trans ?_
  simp [cutM]
 ·refine (MS_es _ X.es (eb_ne hz) fw.n (fun e he=>⟨ok.eo e he,fw.r e he⟩) (by simp [cutM]) T).2.trans ?_
  simp [cutM]
theorem cut_setM {t:Nat} (h1:1≤t) (h2:t≤8) (E:Mp) (v:Nat):cutM (setM t E v) t=setM t (cutM E (t-1)) v∧cutM (setM t E v) (t-1)=cutM E (t-1):=by
 rcases tag_cases h1 (by omega) with rfl|rfl|rfl|rfl|rfl|rfl|rfl|rfl|rfl|rfl|rfl<;>first|omega|simp [setM,cutM]
theorem cut_setO (E:Mp) (b:Bool):cutM { E with ok:=b } 9={ cutM E 8 with ok:=b }∧cutM { E with ok:=b } 8=cutM E 8:=by simp [cutM]
theorem cut_setS (E:Mp) (b:ByteArray):cutM { E with snap:=b } 10={ cutM E 9 with snap:=b }∧cutM { E with snap:=b } 9=cutM E 9:=by simp [cutM]
theorem cut_setE (E:Mp) (b:List En):cutM { E with es:=b } 11={ cutM E 10 with es:=b }∧cutM { E with es:=b } 10=cutM E 10:=by simp [cutM]
theorem m_stay:mF.Stay:=by
 intro t E T h1 h2 hE
 show cutM (mS t E T).1 t=(mS t E T).1
 have hE:cutM E (t-1)=E:=hE;unfold mS
 by_cases ht:t≤8
 ·rw [if_pos ht]
  show cutM (setM t E (varV T)) t=setM t E (varV T)
  rw [(cut_setM h1 ht E _).1,hE]
 ·rw [if_neg ht]
  by_cases h9:t=9
  ·subst h9;rw [if_pos rfl]
   show cutM { E with ok:=_ } 9=_
   rw [(cut_setO E _).1,hE]
  ·rw [if_neg h9]
   by_cases h10:t=10
   ·subst h10;rw [if_pos rfl]
    show cutM { E with snap:=_ } 10=_
    rw [(cut_setS E _).1,hE]
   ·rw [if_neg h10];have h11:t=11:=by omega
    subst h11
    split
    ·show cutM { E with es:=_ } 11=_
     rw [(cut_setE E _).1,hE]
    ·show cutM { E with es:=_ } 11=_
     rw [(cut_setE E _).1,hE]
theorem mval_of {t:Nat} (h1:1≤t) (h2:t≤8) {X E:Mp} {n:Nat} (ok:X.Wide) (fw:MFew X) (hn:n<18446744073709551616) (h0:n≠0) (h:setM t E n=cutM X t):mP t X=putB n:=by
 obtain ⟨a1,a2,a3,a4,a5,a6,a7,a8⟩:=m_bounds ok fw
 have fin:∀ v:Int,(n:Int)=v→nb v=putB n:=by
  intro v hv;unfold nb;rw [if_neg (by omega),←hv,Int.toNat_natCast]
 rcases tag_cases h1 (by omega) with rfl|rfl|rfl|rfl|rfl|rfl|rfl|rfl|rfl|rfl|rfl
 ·have e:=congrArg Mp.kind h
  simp [setM,cutM] at e
  exact fin _ (wrap_back hn e a1.1)
 ·have e:=congrArg Mp.frm h
  simp [setM,cutM] at e
  exact fin _ (wrap_back hn e a2.1)
 ·have e:=congrArg Mp.dst h
  simp [setM,cutM] at e
  exact fin _ (wrap_back hn e a3.1)
 ·have e:=congrArg Mp.term h
  simp [setM,cutM] at e
  exact fin _ e
 ·have e:=congrArg Mp.index h
  simp [setM,cutM] at e
  exact fin _ e
 ·have e:=congrArg Mp.prev h
  simp [setM,cutM] at e
  exact fin _ e
 ·have e:=congrArg Mp.commit h
  simp [setM,cutM] at e
  exact fin _ e
 ·have e:=congrArg Mp.mark h
  simp [setM,cutM] at e
  exact fin _ e
 ·omega
 ·omega
 ·omega
theorem m_sound:mF.Sound:=by
 intro X t E T T2 ⟨ok,fw⟩ h1 h2 h hE;have hE:cutM E (t-1)=E:=hE;have h:mS t E T=(cutM X t,T2,true):=h
 show T=mP t X++T2∧(mP t X).size≠0∧cutM X (t-1)=E
 unfold mS at h
 have hback:∀ Y:Mp,Y=cutM X t→cutM Y (t-1)=cutM E (t-1)→cutM X (t-1)=E:=by
  intro Y hY hYE;have h4:=m_cuts.cc' X t (t-1) (by omega);have h4:cutM (cutM X t) (t-1)=cutM X (t-1):=h4;rw [←h4,←hY,hYE,hE]
 by_cases ht:t≤8
 ·rw [if_pos ht] at h;have e1:setM t E (varV T)=cutM X t:=congrArg (·.1) h;have e2:(if varV T=0 then (⟨#[]⟩:ByteArray) else varT T)=T2:=congrArg (·.2.1) h;have e3:(varO T&&decide (varV T≠0))=true:=congrArg (·.2.2) h;rw [Bool.and_eq_true,decide_eq_true_eq] at e3;rw [if_neg e3.2] at e2;have hv:=mval_of h1 ht ok fw (varV_lt T) e3.2 e1;have hs:=var_sound_b T e3.1;rw [e2] at hs;refine ⟨by rw [hv];exact hs.symm,?_,hback _ e1 (cut_setM h1 ht E _).2⟩;rw [hv]
  have:=putB_pos_b (varV T)
  omega
 rw [if_neg ht] at h
 by_cases h9:t=9
 ·subst h9;rw [if_pos rfl] at h;have e1:{ E with ok:=decide (varV T=1) }=cutM X 9:=congrArg (·.1) h;have e2:(if varV T=1 then varT T else (⟨#[]⟩:ByteArray))=T2:=congrArg (·.2.1) h;have e3:(varO T&&decide (varV T=1))=true:=congrArg (·.2.2) h;rw [Bool.and_eq_true,decide_eq_true_eq] at e3;rw [if_pos e3.2] at e2
  have hv:X.ok=true:=by
   have e:=congrArg Mp.ok e1
   simp [cutM,e3.2] at e
   exact e
  have hs:=var_sound_b T e3.1;rw [e2,e3.2] at hs;have hf:mP 9 X=putB 1:=by show fb1 X.ok=_;rw [hv];rfl
  refine ⟨by rw [hf];exact hs.symm,?_,hback _ e1 (cut_setO E _).2⟩;rw [hf]
  have:=putB_pos_b 1
  omega
 rw [if_neg h9] at h
 by_cases h10:t=10
 ·subst h10;rw [if_pos rfl] at h;have e1:{ E with snap:=texV T }=cutM X 10:=congrArg (·.1) h;have e2:(if (texV T).size=0 then (⟨#[]⟩:ByteArray) else texT T)=T2:=congrArg (·.2.1) h;have e3:(texO T&&decide ((texV T).size≠0))=true:=congrArg (·.2.2) h;rw [Bool.and_eq_true,decide_eq_true_eq] at e3;rw [if_neg e3.2] at e2
  have hv:mP 10 X=tb (texV T):=by
   have e:=congrArg Mp.snap e1
   simp [cutM] at e
   show tb X.snap=_
   rw [←e]
  have hs:=tex_sound T e3.1;rw [e2] at hs;have htb:tb (texV T)=putB (texV T).size++texV T:=by unfold tb;rw [if_neg e3.2]
  refine ⟨by rw [hv,htb,append_assoc3];exact hs.symm,?_,hback _ e1 (cut_setS E _).2⟩;rw [hv,htb,ByteArray.size_append]
  have:=putB_pos_b (texV T).size
  omega
 rw [if_neg h10] at h;have h11:t=11:=by omega
 subst h11
 by_cases h64:64<varV T
 ·rw [if_pos h64] at h;have e3:false=true:=congrArg (·.2.2) h
  cases e3
 rw [if_neg h64] at h;have e1:{ E with es:=lE (varV T) (varT T) }=cutM X 11:=congrArg (·.1) h;have e2:(if varV T=0 then (⟨#[]⟩:ByteArray) else lT (varV T) (varT T))=T2:=congrArg (·.2.1) h;have e3:((varO T&&lO (varV T) (varT T))&&decide (varV T≠0))=true:=congrArg (·.2.2) h;rw [Bool.and_eq_true,Bool.and_eq_true,decide_eq_true_eq] at e3;rw [if_neg e3.2] at e2
 have hv:X.es=lE (varV T) (varT T):=by
  have e:=congrArg Mp.es e1
  simp [cutM] at e
  exact e.symm
 have hlen:X.es.length=varV T:=by rw [hv,lE_length]
 obtain ⟨s1,_⟩:=lE_sound _ _ e3.1.2 (by rw [←hv];exact ok.eo);have hs:=var_sound_b T e3.1.1;rw [←hv,e2] at s1;rw [s1] at hs
 have hf:mP 11 X=putB (varV T)++catE X.es:=by
  show eb X.es=_
  unfold eb;rw [if_neg (by omega),hlen]
 refine ⟨by rw [hf,append_assoc3];exact hs.symm,?_,hback _ e1 (cut_setE E _).2⟩;rw [hf,ByteArray.size_append]
 have:=putB_pos_b (varV T)
 omega
def mRd (s:ByteArray) (b:Bool):Mp×ByteArray×Bool:=pk mF 12 0 mz0 s b
def mRr (s:ByteArray) (b:Bool):Mp×ByteArray×Bool:=rk mR 12 mz0 s b
def sbM (X:Mp):ByteArray:=secB mF X
theorem cutM_zero (X:Mp):cutM X 0=mz0:=by unfold cutM;simp
theorem mRd_put {X:Mp} (ok:X.Wide) (fw:MFew X) (r:ByteArray):mRd (sbM X++r) false=(X,r,false)∧mRr (sbM X++r) false=(X,r,false):=by
 have h1:=pk_put m_cuts m_put (X:=X) ⟨ok,fw⟩ r 11 12 0 (by omega) (by omega) (by omega);have h2:=rk_put m_cuts m_rput (X:=X) ⟨ok,fw⟩ r 11 12 (by omega) (by omega);rw [show 11-11=0 from rfl] at h1 h2;have hz:mF.cut X 0=mz0:=cutM_zero X;rw [hz] at h1 h2;unfold mRd mRr sbM;rw [secB_enc];exact ⟨h1,h2⟩
theorem mRd_sound {X:Mp} (ok:X.Wide) (fw:MFew X) {s r:ByteArray} {b:Bool} (h:mRd s b=(X,r,false)):b=false∧s=sbM X++r:=by
 have h1:=pk_sound m_cuts m_stay m_sound (X:=X) ⟨ok,fw⟩ (T':=r) 12 0 mz0 s b (by omega) (by omega) (cutM_zero _) h;unfold sbM;rw [secB_enc];exact ⟨h1.1,h1.2.2⟩
end Go.Proofs.YtpdbeijfchmlgaaGreat.D
