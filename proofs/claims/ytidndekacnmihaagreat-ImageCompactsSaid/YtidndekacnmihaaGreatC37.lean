/- Parts of a proof. -/
import Derived.Test.YtidndekacnmihaaGreatC31
import Derived.Test.YtidndekacnmihaaGreatC33
import Derived.Test.YtidndekacnmihaaGreatC35
import Derived.Test.YtidndekacnmihaaGreatC36
set_option linter.all false
set_option maxHeartbeats 8000000
set_option maxRecDepth 100000
namespace Go.Proofs.YtidndekacnmihaaGreat
open Bool renaming false→Y,true→qe
open Ending renaming returned→U
open Go renaming Calls→R,World→T,Value→qg
open Go.RowKit renaming Below→P,intOf→qj
open Go.RowKit.Below renaming refl→qf
open IntKind renaming i64→D,u64→M
open Obj renaming cells→I
open Option renaming none→F,some→G
open Tryz renaming prog→O
open Value renaming int→C,slice→V,agg→qc,string→qd,pointer→qh,tuple→qi,ownBlock→qk
open Tryz
variable {o:Obj} {B b f g k n t:Nat} {A:Option Addr} {cs xs:Array qg} {W:T} {K:List (Nat×Obj)} {lg:qg} {u:Int}
open Go.RowKit
theorem zjO (a b:List En):flat (a++b)=flat a++flat b:=by
 unfold flat;rw [List.flatMap_append]
theorem zpd (es:List En):∀ u∈flat es,u.oneCell'=qe:=fun u hu=>by
 unfold flat at hu;obtain ⟨e,_,he⟩:=List.mem_flatMap.1 hu;simp at he;rcases he with rfl|rfl|rfl|rfl|rfl|rfl|rfl|rfl|rfl|rfl|rfl<;>rfl
theorem zh6 (A:Option Addr) (n c:Nat) (ty:TypeId) (w:T) (hn:n≤c) (hA:A=F→n=0∧c=0):(Builtin.append_ #[54,54] ty #[V A n c,V F 0 0]).run O w=.ok (V A n c) w:=by
 obtain ⟨i0,hi,hz0,hz1,hz2⟩:=info_parts info69;have hu:=underlying54
 cases A with
 | none =>
   obtain ⟨rfl,rfl⟩:=hA rfl;simp [Builtin.append_,underlying,sizeOf,typeInfo,hu,hi,Builtin.lenOf,Builtin.firstCells]
 | some a =>
   simp [Builtin.append_,underlying,sizeOf,typeInfo,hu,hi,Builtin.lenOf,Builtin.firstCells,hn,storeCells,List.foldlM]
theorem zdo {ops:Array Oper} {rest:List Oper} {o:Oper} {a:Act} {Q:Exit→Act→T→Prop} (hgd:o.guard=F) (s x:Operand)
 (ho:o.op=.call { callee:=.builtin .append,args:=#[s,x],argTypes:=#[54,54] }) (w:T) (B B':Nat) (A A':Option Addr) (n c m c':Nat) (es fs:List En)
 (hs:a.eval s=V A n c) (hx:a.eval x=V A' m c') (hL:Le B A n c es w) (hM:Le B' A' m c' fs w) (hn:n+m≤1000000) (hB:B≤w.heap.size)
 (N:Nat) (hN:N=n+m) (h:∀ A2 c2 w',Le B A2 N c2 (es++fs) w'→P B w w'→(∀ k,k<w.heap.size→qk (V A n c)≠G k→w'.heap[k]?=w.heap[k]?)→wpList O ops Q rest (a.put o.dst (V A2 N c2)) w'):wpList O ops Q (o :: rest) a w:=by
 subst hN;rcases hM.form with ⟨rfl,rfl,rfl,rfl⟩|⟨g,rfl,hc,hm,hg⟩
 ·have hf:=hL.form;have hr:=zh6 A n c o.type w (by rcases hf with ⟨_,rfl,rfl,_⟩|⟨_,_,h,_⟩<;>omega) (fun e=>by rcases hf with ⟨_,h1,h2,_⟩|⟨g,h1,_⟩;exact ⟨h1,h2⟩;rw [h1] at e;cases e);refine wpList_plain hgd fun K hK=>?_;unfold Oper.wp execOp;simp only [ho,resolve,invoke,builtin,Sem.run_bind,Sem.run_pure,Result.andThen_ok,List.map_toArray,List.map_cons,List.map_nil,hs,hx,hr];exact hK _ _ (h A c w (by rw [zuG];exact hL) (qf B w) fun _ _ _=>rfl)
 ·obtain ⟨i0,hi,hz0,hz1,hz2⟩:=info_parts info69
  have hcell:∀ j u,(flat fs)[j]?=G u→w.cell? ((⟨g,0,F⟩:Addr).add j)=G u:=fun j u hu=>by
   have hj:j<(flat fs).length:=(List.getElem?_eq_some_iff.1 hu).1;rw [za4,hM.len] at hj;rw [Addr.add_mid,zub,hM.own.cellAt j (by omega)];exact hu
  refine wpList_append_own_at w hgd s x 54 ho B 69 i0 (ev ezz) 11 104 underlying54 hi hz0 hz1 hz2 rfl (by omega) (V A n c) n (flat es) hs hL.own ⟨g,0,F⟩ m c' (flat fs) hx (by rw [za4,hM.len]) hcell (zpd fs) (by unfold maxLen;omega) (by omega) hB ?_;intro v' w' hown hgrow hnil hat;have hb:P B w w':=(qf B w).grown hgrow hB (fun k hk=>(hL.own.lt k hk).1);have hk:∀ k,k<w.heap.size→qk (V A n c)≠G k→w'.heap[k]?=w.heap[k]?:=fun k hk hne=>hgrow.block k hk fun e=>hne e.symm;have hlen:(es++fs).length=n+m:=by rw [zt4,hL.len,hM.len]
  rcases hown.2 with ⟨hv,h0⟩|⟨g',cap,cur,hv,_⟩
  ·subst hv;have h1:Le B F (n+m) 0 (es++fs) w':=⟨by rw [zjO,show n+m=0 by omega];rw [show n+m=0 by omega] at hown;exact hown,hlen⟩;have h2:=h F 0 w' h1 hb hk;rw [show n+m=0 by omega] at h2;exact h2
  ·subst hv;exact h _ cap w' ⟨by rw [zjO];exact hown,hlen⟩ hb hk
def Cs (w:T) (a:Addr) (k:Nat) (e:En):Prop:=w.cell? (a.add (k*11))=G (C M e.term)∧w.cell? ⟨(a.add (k*11)).block,(a.add (k*11)).off+1,F⟩=G (C M e.index)∧w.cell? ⟨(a.add (k*11)).block,(a.add (k*11)).off+2,F⟩=G (C D e.kind)
 ∧ w.cell? ⟨(a.add (k*11)).block,(a.add (k*11)).off+3,F⟩=G (C M e.client)∧w.cell? ⟨(a.add (k*11)).block,(a.add (k*11)).off+4,F⟩=G (C M e.seq)∧w.cell? ⟨(a.add (k*11)).block,(a.add (k*11)).off+5,F⟩=G (C M e.block)
 ∧ w.cell? ⟨(a.add (k*11)).block,(a.add (k*11)).off+6,F⟩=G (C M e.many)∧w.cell? ⟨(a.add (k*11)).block,(a.add (k*11)).off+7,F⟩=G (C D e.node)∧w.cell? ⟨(a.add (k*11)).block,(a.add (k*11)).off+8,F⟩=G (C D e.level)
 ∧ w.cell? ⟨(a.add (k*11)).block,(a.add (k*11)).off+9,F⟩=G (qd e.data)∧w.cell? ⟨(a.add (k*11)).block,(a.add (k*11)).off+10,F⟩=G (qd e.old)
theorem zcx.cs' {es:List En} {w:T} (h:zcx B A n es w) {e:En} (he:es[k]?=G e):∃ a,A=G a∧a.block<B∧∀ Z,P B w Z→Cs Z a k e:=by
 obtain ⟨a,hA,hB,_⟩:=h.cs he;refine ⟨a,hA,hB,fun Z hZ=>?_⟩;obtain ⟨a',hA',_,r⟩:=(h.below hZ).cs he;rw [hA] at hA'
 cases hA'
 exact r
theorem zh4 (base:Nat) (A A2:Option Addr) (n c n2 c2:Nat) (l more:List En) (w:T) (hL:zcx w.heap.size A n l w) (hM:zcx w.heap.size A2 n2 more w) (hb:base≤1099511627776) (hn:n≤64) (hn2:n2≤64)
 (hix:∀ i e,l[i]?=G e→e.index=((base+i+1:Nat):Int)) (hok:∀ e∈more,e.Ok) :
 R O 62 #[C M base,V A n c,V A2 n2 c2] w fun q w'=>jnR w.heap.size (jn base l more) q w'∧P w.heap.size w w':=by
 have HE:=zh hL;have HM:=zh hM;have HIX:=zh hix;have HOK:=zh hok;have hll:Hid (l.length=n):=hL.len;have hml:Hid (more.length=n2):=hM.len;have hB0:=qf w.heap.size w;clear hL hM hix hok;go_enter func62,ntmps62;go_wp2
 go_loopw [8,9] (fun o i wr=>∃ (k:Nat) (A':Option Addr) (c':Nat),i=C D k∧o=V A' k c'∧k≤n∧Le w.heap.size A' k c' (l.take k) wr∧P w.heap.size w wr) (fun _ i _=>n-(qj i).toNat)
 case atStart=>exact ⟨0,F,0,rfl,rfl,ztO _,Le.nil _ _,hB0⟩
 case round =>
  obtain ⟨k,A',c',rfl,rfl,hk,hLo,hbw⟩:=hrel
  by_cases hlt:k<n
  ·have t1:decide ((k:Int)<(n:Int))=qe:=ztN (by omega);obtain ⟨e,he⟩:∃ e,l[k]?=G e:=⟨_,zt2 (by rw [hll.out];exact hlt)⟩;obtain ⟨a,hA,hB,d0,d1,d2,d3,d4,d5,d6,d7,d8,d9,d10⟩:=(HE.out.below hbw).cs he;have hei:e.index=(base:Int)+k+1:=by rw [HIX.out k e he];omega
   have hsn:Hid (l.take (k+1)=l.take k++[e]):=zbB he;have w1:M.wrap (k:Int)=(k:Int):=by rw [zt3];omega
   have w2:M.wrap ((base:Int)+(k:Int))=(base:Int)+(k:Int):=by rw [zt3];omega
   have w3:M.wrap ((base:Int)+(k:Int)+1)=(base:Int)+(k:Int)+1:=by rw [zt3];omega
   obtain ⟨et,ei,ek,ecl_,es_,eb,em,en,el,ed,eo⟩:=e;subst hei;have hq1:((base:Int)+k+1==(base:Int)+k+1)=qe:=by simp
   have hq2:((base:Int)+k+1 != (base:Int)+k+1)=Y:=by simp
   obtain ⟨E,hE⟩:∃ E,E=(⟨et,(base:Int)+k+1,ek,ecl_,es_,eb,em,en,el,ed,eo⟩:En):=⟨_,rfl⟩;have hbx:Hid (P w.heap.size w (wr.alloc (I (ec ⟨et,(base:Int)+k+1,ek,ecl_,es_,eb,em,en,el,ed,eo⟩) 69))):=hbw.alloc hbw.size _;have hlx:Hid (Le w.heap.size A' k c' (l.take k) (wr.alloc (I (ec ⟨et,(base:Int)+k+1,ek,ecl_,es_,eb,em,en,el,ed,eo⟩) 69))):=hLo.below zba;have hpx:Hid ((wr.alloc (I (ec ⟨et,(base:Int)+k+1,ek,ecl_,es_,eb,em,en,el,ed,eo⟩) 69)).heap[wr.heap.size]?=G (I (ec ⟨et,(base:Int)+k+1,ek,ecl_,es_,eb,em,en,el,ed,eo⟩) 69 (0,0))):=ztJ wr _;clear hbw hLo he hB hE;rw [hA];clear hA
   go_wp2_with (at_builtin;refine zaQ rfl _ _ rfl _ w.heap.size A' k c' wr.heap.size (l.take k) ⟨et,(base:Int)+k+1,ek,ecl_,es_,eb,em,en,el,ed,eo⟩ rfl rfl hlx.out hpx.out (by omega) hbx.out.size ?_;intro g cap w7 hL7 hb7 hk7)
   go_roundw
   case rel=>exact ⟨k+1,_,cap,by go_num,rfl,by omega,by rw [hsn.out];exact hL7,hbx.out.trans hb7⟩
   case measure=>simp [qj];omega
  ·have hkn:k=n:=by omega
   subst hkn;have t1:decide ((k:Int)<(k:Int))=Y:=ztM (by omega);rw [show l.take k=l from zt9 (by rw [hll.out];exact ztI _)] at hLo;go_wp2
   go_loopw [8,10] (fun o i wr=>∃ (k:Nat) (A':Option Addr) (m c':Nat) (out:List En),i=C D k∧o=V A' m c'∧k≤n2∧m≤64+k∧Hid (jn base out (more.drop k)=jn base l more)∧Le w.heap.size A' m c' out wr∧P w.heap.size w wr) (fun _ i _=>n2-(qj i).toNat)
   case atStart=>exact ⟨0,A',k,c',l,rfl,rfl,ztO _,by omega,rfl,hLo,hbw⟩
   case round =>
    clear hlt t1 hLo hbw;obtain ⟨j,A',m,c',out,rfl,rfl,hj,hmk,hjn,hLo,hbw⟩:=hrel
    by_cases hlt:j<n2
    ·have t1:decide ((j:Int)<(n2:Int))=qe:=ztN (by omega);obtain ⟨e,he⟩:∃ e,more[j]?=G e:=⟨_,zt2 (by rw [hml.out];exact hlt)⟩;obtain ⟨a,hA,hB,hC⟩:=HM.out.cs' he;obtain ⟨d0,d1,d2,d3,d4,d5,d6,d7,d8,d9,d10⟩:=hC wr hbw;have HC:=zh hC
     have hdr:more.drop j=e :: more.drop (j+1):=by
      rw [List.drop_eq_getElem_cons (by rw [hml.out];exact hlt)]
      congr 1
      exact (List.getElem?_eq_some_iff.1 he).2
     have hol:=hLo.len;have hok:=HOK.out e (zuy he);have i0:=hok.i0;have i1:=hok.i1;have hjs:Hid (jn base out (e :: more.drop (j+1))=if e.index≤(base:Int)∨(base:Int)+out.length<e.index-1 then F else jn base (out.take (e.index-1-base).toNat++[e]) (more.drop (j+1))):=rfl;rw [hdr] at hjn;have HLO:=zh hLo;have HBW:=zh hbw;have w1:M.wrap (m:Int)=(m:Int):=by rw [zt3];omega
     have w2:M.wrap ((m:Int)+1)=(m:Int)+1:=by rw [zt3];omega
     clear he hdr hok hLo hbw hC;rw [hA];clear hA
     by_cases hbad:e.index≤(base:Int)∨(base:Int)+m<e.index-1
     ·have hF:Hid (jn base l more=F):=by show _=_;rw [←hjn.out,hjs.out,if_pos (by rw [hol];exact hbad)]
      by_cases hb1:e.index≤(base:Int)
      ·have t2:decide (e.index≤(base:Int))=qe:=ztN hb1;clear hbad hol;go_wp2;go_ret2;exact ⟨.inr ⟨hF.out,rfl⟩,HBW.out⟩
      ·have t2:decide (e.index≤(base:Int))=Y:=ztM hb1;have w3:M.wrap (e.index-(base:Int))=e.index-(base:Int):=by rw [zt3];omega
       have t3:decide ((m:Int)+1<e.index-(base:Int))=qe:=ztN (by omega);clear hbad hol;go_wp2;go_ret2;exact ⟨.inr ⟨hF.out,rfl⟩,HBW.out⟩
     ·have t2:decide (e.index≤(base:Int))=Y:=ztM (by omega);have w3:M.wrap (e.index-(base:Int))=e.index-(base:Int):=by rw [zt3];omega
      have t3:decide ((m:Int)+1<e.index-(base:Int))=Y:=ztM (by omega);obtain ⟨h,hh⟩:∃ h,h=(e.index-1-base).toNat:=⟨_,rfl⟩;have hhi:e.index-(base:Int)-1=(h:Int):=by omega
      have hhm:h≤m:=by omega
      have w4:M.wrap (h:Int)=(h:Int):=by rw [zt3];omega
      have hnx:Hid (jn base (out.take h++[e]) (more.drop (j+1))=jn base l more):=by
       show _=_;rw [←hjn.out,hjs.out,if_neg (by rw [hol];exact hbad),←hh]
      have hlen:Hid ((out.take h++[e]).length=h+1):=by show _=_;rw [zt4,zt5,hol,Nat.min_eq_left hhm];rfl
      clear hbad hol hh hjs hjn;have HN:Hid (Le wr.heap.size F 0 0 [] wr):=Le.nil _ _;rcases HLO.out.form with ⟨rfl,rfl,rfl,rfl⟩|⟨g,rfl,hmc,hcm,hgl⟩
      ·have hh0:h=0:=by omega
       subst hh0
       go_wp2_with (at_builtin;first
        | (refine zdo rfl _ _ rfl _ wr.heap.size w.heap.size F F 0 0 0 0 [] [] rfl rfl HN.out HLO.out (by omega) (ztI _) 0 (by omega) ?_;intro A8 c8 w8 hL8 hb8 hk8;have hB8:=HBW.out.trans (hb8.mono HBW.out.size);obtain ⟨f0,f1,f2,f3,f4,f5,f6,f7,f8,f9,f10⟩:=HC.out w8 hB8;have HL9:Hid (Le wr.heap.size A8 0 c8 [] (w8.alloc (I (ec e) 69))):=hL8.below zba;have HB9:=zh (hB8.alloc hB8.size (I (ec e) 69));have HS9:Hid (wr.heap.size≤(w8.alloc (I (ec e) 69)).heap.size):=(hb8.alloc hb8.size (I (ec e) 69)).size;clear hL8 hb8 hk8 hB8)
        | (refine zaQ rfl _ _ rfl _ wr.heap.size A8 0 c8 w8.heap.size [] e rfl rfl HL9.out (ztJ w8 _) (by omega) HS9.out ?_;intro g4 cap w9 hL10 hb10 hk10))
       go_roundw
       case rel=>exact ⟨j+1,_,_,cap,_,by go_num,rfl,by omega,by omega,hnx,⟨zbA HBW.out.size hL10.own,hL10.len⟩,HB9.out.trans (hb10.mono HBW.out.size)⟩
       case measure=>simp [qj];omega
      ·have HT:=zh (HLO.out.take hhm);have hhc:¬ (c':Int)<(h:Int):=by omega
       have hhc2:(h:Int)≤(c':Int):=by omega
       go_wp2_with (at_builtin;first
        | (refine zdo rfl _ _ rfl _ wr.heap.size w.heap.size F (G ⟨g,0,F⟩) 0 0 h c' [] (out.take h) rfl rfl HN.out HT.out (by omega) (ztI _) h (by omega) ?_;intro A8 c8 w8 hL8 hb8 hk8;have hB8:=HBW.out.trans (hb8.mono HBW.out.size);obtain ⟨f0,f1,f2,f3,f4,f5,f6,f7,f8,f9,f10⟩:=HC.out w8 hB8;have HL9:Hid (Le wr.heap.size A8 h c8 (out.take h) (w8.alloc (I (ec e) 69))):=hL8.below zba;have HB9:=zh (hB8.alloc hB8.size (I (ec e) 69));have HS9:Hid (wr.heap.size≤(w8.alloc (I (ec e) 69)).heap.size):=(hb8.alloc hb8.size (I (ec e) 69)).size;clear hL8 hb8 hk8 hB8)
        | (refine zaQ rfl _ _ rfl _ wr.heap.size A8 h c8 w8.heap.size (out.take h) e rfl rfl HL9.out (ztJ w8 _) (by omega) HS9.out ?_;intro g4 cap w9 hL10 hb10 hk10))
       go_roundw
       case rel=>exact ⟨j+1,_,_,cap,_,by go_num,rfl,by omega,by omega,hnx,⟨zbA HBW.out.size hL10.own,hL10.len⟩,HB9.out.trans (hb10.mono HBW.out.size)⟩
       case measure=>simp [qj];omega
    ·have t1:decide ((j:Int)<(n2:Int))=Y:=ztM (by omega);have hF:more.drop j=[]:=zut (by rw [hml.out];omega);rw [hF] at hjn;have HLO:=zh hLo;clear hLo;go_wp2;go_ret2;exact ⟨.inl ⟨out,A',m,c',hjn.out.symm,rfl,HLO.out⟩,hbw⟩
section
open Dk
def Rvx (w:T) (g:Nat) (K:List (Nat×Obj)) (d:St) (W:T):Prop :=
 ∃ L,Rf W w.heap.size g L d∧(∀ x∈L,w.heap.size≤x)∧P w.heap.size w W∧∀ p∈K,W.heap[p.1]?=G p.2∧p.1∉L∧w.heap.size≤p.1
section
variable {w W W':T} {g:Nat} {K K':List (Nat×Obj)} {d d':St}
theorem Rvx.dok (h:Rvx w g K d W):d.Ok:=by obtain ⟨L,h1,h3,h4,h5⟩:=h;exact h1.1
theorem Rvx.c1 {r:Ending} (h:Rvx w g K d W) (hc:∀ L,Rf W w.heap.size g L d→R O f xs W fun x w'=>x=r∧zaB w.heap.size g L d' W w') :
 R O f xs W fun x w'=>x=r∧Rvx w g K d' w':=by
 obtain ⟨L,h1,h3,h4,h5⟩:=h;refine (hc L h1).mono fun x w' ⟨hx,a1,a2⟩=>⟨hx,L,a1,h3,zaw.below h4 a2 h4.size h3,fun p hp=>?_⟩;obtain ⟨b1,b2,b3⟩:=h5 p hp;exact ⟨(a2.block _ (zgx b1) b2).trans b1,b2,b3⟩
theorem Rvx.new {w:T} (n:Nat) (h1:1≤n) (h2:n≤4096) (hb:P w.heap.size w W) (hK:∀ p∈K,W.heap[p.1]?=G p.2∧w.heap.size≤p.1) :
 R O 12 #[C D n] W fun x w'=>∃ g,x=U (ptr g)∧Rvx w g K (St.fresh n fun _=>zsec) w':=by
 refine (zka n W h1 h2).mono ?_;rintro e w2 ⟨g,L,rfl,D2,b2⟩;refine ⟨g,rfl,L,D2.base hb.size,fun x hx=>ztL hb.size (D2.low x hx),hb.trans (b2.mono hb.size),fun p hp=>?_⟩;have hlt:=(Array.getElem?_eq_some_iff.1 (hK p hp).1).1;exact ⟨(b2.block _ hlt).trans (hK p hp).1,fun hm=>by have:=D2.low _ hm;omega,(hK p hp).2⟩
theorem Rvx.be (h:Rvx w g K d W):P w.heap.size w W:=by obtain ⟨L,h1,h3,h4,h5⟩:=h;exact h4
theorem Rvx.below (h:Rvx w g K d W) (hb:P W.heap.size W W'):Rvx w g K d W':=by
 obtain ⟨L,h1,h3,h4,h5⟩:=h;exact ⟨L,h1.below hb,h3,h4.trans (hb.mono h4.size),fun p hp=>⟨(hb.block _ (Array.getElem?_eq_some_iff.1 (h5 p hp).1).1).trans (h5 p hp).1,(h5 p hp).2⟩⟩
theorem Rvx.drew (h:Rvx w g K d W):Rvx w g K d W.drew:=h.below (qf _ W).drew
theorem Rvx.get (h:Rvx w g K d W) (hm:(k,o)∈K):W.heap[k]?=G o:=by obtain ⟨L,h1,h3,h4,h5⟩:=h;exact (h5 _ hm).1
theorem Rvx.low (h:Rvx w g K d W) (hm:(k,o)∈K):w.heap.size≤k:=by obtain ⟨L,h1,h3,h4,h5⟩:=h;exact (h5 _ hm).2.2
theorem Rvx.add (h:Rvx w g K d W) (hb:P W.heap.size W W') (hk:W.heap.size≤k) (ho:W'.heap[k]?=G o):Rvx w g ((k,o) :: K) d W':=by
 have hs:=h.be.size;obtain ⟨L,h1,h3,h4,h5⟩:=h;refine ⟨L,h1.below hb,h3,h4.trans (hb.mono h4.size),fun p hp=>?_⟩;rcases ztT.1 hp with rfl|hp
 ·exact ⟨ho,fun hm=>by have:=h1.lt _ hm;simp at this;omega,ztL hs hk⟩
 ·exact ⟨(hb.block _ (Array.getElem?_eq_some_iff.1 (h5 p hp).1).1).trans (h5 p hp).1,(h5 p hp).2⟩
theorem Rvx.q1 {r:Ending} (h:Rvx w g K d W) (hc:∀ L,Rf W w.heap.size g L d→R O f xs W fun x w'=>x=r∧P W.heap.size W w') :
 R O f xs W fun x w'=>x=r∧Rvx w g K d w'∧P W.heap.size W w':=by
 have h0:=h;obtain ⟨L,h1,h3,h4,h5⟩:=h;exact (hc L h1).mono fun x w' ⟨hx,hm⟩=>⟨hx,h0.below hm,hm⟩
theorem Rvx.bk (h:Rvx w g K d W):Bk K W:=by obtain ⟨L,h1,h3,h4,h5⟩:=h;exact fun q hq=>(h5 q hq).1
theorem Rvx.drop (h:Rvx w g K d W) (hs:∀ q∈K',q∈K):Rvx w g K' d W:=by obtain ⟨L,h1,h3,h4,h5⟩:=h;exact ⟨L,h1,h3,h4,fun q hq=>h5 q (hs q hq)⟩
theorem Rvx.put {o':Obj} (h:Rvx w g ((k,o) :: K) d W) (hn:∀ p∈K,p.1≠k) (h1:W'.heap[k]?=G o') (h2:∀ j,j≠k→W'.heap[j]?=W.heap[j]?) (h3:P w.heap.size w W'):Rvx w g ((k,o') :: K) d W':=by
 obtain ⟨L,a1,a3,a4,a5⟩:=h;have hk5:=(a5 (k,o) (by simp)).2;refine ⟨L,a1.of_heap fun j hj=>h2 j (fun e=>hk5.1 (by subst e;exact hj)),a3,h3,fun p hp=>?_⟩;rcases ztT.1 hp with rfl|hp
 ·exact ⟨h1,hk5⟩
 ·have:=a5 p (by simp [hp]);exact ⟨(h2 _ (hn p hp)).trans this.1,this.2⟩
theorem Rvx.adds (h:Rvx w g K d W) (hb:P W.heap.size W W') (K2:List (Nat×Obj)) (h2:∀ q∈K2,W.heap.size≤q.1∧W'.heap[q.1]?=G q.2):Rvx w g (K2++K) d W':=by
 have hs:=h.be.size;obtain ⟨L,h1,h3,h4,h5⟩:=h;refine ⟨L,h1.below hb,h3,h4.trans (hb.mono h4.size),fun p hp=>?_⟩;rcases zt1.1 hp with hp|hp
 ·exact ⟨(h2 p hp).2,fun hm=>by have:=h1.lt _ hm;have:=(h2 p hp).1;omega,ztL hs (h2 p hp).1⟩
 ·exact ⟨(hb.block _ (Array.getElem?_eq_some_iff.1 (h5 p hp).1).1).trans (h5 p hp).1,(h5 p hp).2⟩
theorem Rvx.addLe {c:Nat} {es:List En} (h:Rvx w g K d W) (hb:P W.heap.size W W') (hl:Le B A n c es W') (hB:W.heap.size≤B):∃ K2,Rvx w g (K2++K) d W'∧Lg B K2 A n c es∧∀ q∈K2,W.heap.size≤q.1:=by
 rcases hl.own.2 with ⟨hv,h0⟩|⟨gb,cap,cur,hv,h1,h2,h3⟩
 ·refine ⟨[],h.below hb,fun Z _=>⟨⟨hl.own.1,.inl ⟨hv,h0⟩⟩,hl.len⟩,fun q hq=>by cases hq⟩
 ·refine ⟨[(gb,I cur 69 (0,0))],h.add hb (by omega) h2,fun Z hz=>⟨⟨hl.own.1,.inr ⟨gb,cap,cur,hv,h1,hz (gb,I cur 69 (0,0)) (by simp),h3⟩⟩,hl.len⟩,fun q hq=>?_⟩;simp at hq;rw [hq];omega
theorem Rvx.hd {w:T} {d:St} (h:Rvx w g ((k,o) :: K) d W):W.heap[k]?=G o:=h.get (by simp)
theorem Rvx.hl {w:T} {d:St} (h:Rvx w g ((k,o) :: K) d W):w.heap.size≤k:=h.low (o:=o) (by simp)
theorem Rvx.puts {w:T} {d:St} (h:Rvx w g ((k,I cs t (0,0)) :: K) d W) (hn:∀ q∈K,q.1≠k) (l:List (Nat×qg)) :
 Rvx w g ((k,I (setc l cs) t (0,0)) :: K) d (setl k l W):=by
 obtain ⟨i1,i2,i3⟩:=zbt k t l W cs h.hd;exact h.put hn i1 i2 (i3 _ _ h.be h.hl)
theorem Rvx.al {w:T} {d:St} (h:Rvx w g K d W) (o:Obj):Rvx w g ((W.heap.size,o) :: K) d (W.alloc o):=h.add zba (ztI _) (ztJ _ _)
theorem Rvx.lt {w:T} {d:St} (h:Rvx w g K d W):∀ q∈K,q.1<W.heap.size:=fun q hq=>(Array.getElem?_eq_some_iff.1 (h.bk q hq)).1
theorem Rvx.set0 {w:T} {d:St} {x v:qg} (h:Rvx w g ((k,I #[x] t (0,0)) :: K) d W) (hn:∀ q∈K,q.1≠k):Rvx w g ((k,I #[v] t (0,0)) :: K) d (W.setCell ⟨k,0,F⟩ v):=by
 have:=h.puts hn [(0,v)]
 simp only [setc,setl,List.setIfInBounds_toArray,List.set_cons_zero] at this;exact this
theorem Rvx.al2 {w:T} {d:St} (h:Rvx w g K d W) (x y:Obj):Rvx w g ((W.heap.size+1,y) :: (W.heap.size,x) :: K) d ((W.alloc x).alloc y):=by
 have:=(h.al x).al y
 rw [ztR] at this;exact this
end
end
theorem zdy (p:Ip) (ok:p.Ok) (k:Nat) (hk:k≤1) (w:T):R O 50 #[p.val,C D k] w fun e w'=>e=U (C D (p.aA k:Nat))∧P w.heap.size w w':=by
 have hB:=(qf w.heap.size w).alloc (ztI _) (I p.c 99);have hc:=ztJ w (I p.c 99);have HB:=zh hB;have hS:=ok.S
 have u1:wrap64 ((k:Int)*(p.S:Int))=(k:Int)*(p.S:Int):=by
  unfold wrap64;rcases (show k=0∨k=1 by omega) with rfl|rfl<;>omega
 have u2:wrap64 (4+(k:Int)*(p.S:Int))=4+(k:Int)*(p.S:Int):=by
  unfold wrap64;rcases (show k=0∨k=1 by omega) with rfl|rfl<;>omega
 have e1:((p.aA k:Nat):Int)=4+(k:Int)*(p.S:Int):=by
  unfold Ip.aA;push_cast;rfl
 obtain ⟨c0,c1,c2,c3,c4,c5,c6⟩:=zao hc;rw [e1];clear hB hc e1 ok;unfold Ip.val at *;go_enter func50,ntmps50;go_wp2;go_ret;refine ⟨?_,HB.out⟩;show U (C D (wrap64 (4+(k:Int)*(p.S:Int))))=_;rw [u2]
theorem ziS (p:Ip) (ok:p.Ok) (k:Nat) (hk:k≤1) (w:T):R O 116 #[p.val,C D k] w fun e w'=>e=U (C D (p.hA k:Nat))∧P w.heap.size w w':=by
 have hB:=(qf w.heap.size w).alloc (ztI _) (I p.c 99);have hc:=ztJ w (I p.c 99);have HB:=zh hB;have hS:=ok.S;have hL:=ok.L
 have u1:wrap64 ((k:Int)*(p.L:Int))=(k:Int)*(p.L:Int):=by
  unfold wrap64;rcases (show k=0∨k=1 by omega) with rfl|rfl<;>omega
 have u2:wrap64 (2*(p.S:Int))=2*(p.S:Int):=by unfold wrap64;omega
 have u3:wrap64 (4+2*(p.S:Int))=4+2*(p.S:Int):=by unfold wrap64;omega
 have u4:wrap64 (4+2*(p.S:Int)+(k:Int)*(p.L:Int))=4+2*(p.S:Int)+(k:Int)*(p.L:Int):=by
  unfold wrap64;rcases (show k=0∨k=1 by omega) with rfl|rfl<;>omega
 have e1:((p.hA k:Nat):Int)=4+2*(p.S:Int)+(k:Int)*(p.L:Int):=by
  unfold Ip.hA;push_cast;rfl
 obtain ⟨c0,c1,c2,c3,c4,c5,c6⟩:=zao hc;rw [e1];clear hB hc e1 ok;unfold Ip.val at *;go_enter func116,ntmps116;go_wp2;go_ret;refine ⟨?_,HB.out⟩;show U (C D (wrap64 (4+2*(p.S:Int)+(k:Int)*(p.L:Int))))=_;rw [u4]
theorem rrg3:(prog.info? 107).map (fun i=>i.size)=G 3:=by kernel_rfl
theorem ztg (tmps:Array qg) (w:T) (b:Nat) (c:Array qg) (hc:c.size=3) (hp:tmps.getD 6 undef=qh (G ⟨b,0,F⟩)) (hg:w.heap[b]?=G (I c 107 (0,0))) :
 (results f52 tmps).run O w=.ok (.agg c) w:=by
 rw [zdL results52,hp];simp [asAddr,run_loadVar_row w b 107 107 c (0,0) _ hg underlying107 rfl (by rw [rrg3,hc])]
theorem zd0 (p:Ip) (ok:p.Ok) (k:Nat) (hk:k≤1) (v:Int) (w:T):R O 52 #[p.val,C D k,C D v] w fun e w'=>e=U (qc #[C D (p.hA k:Nat),C D p.L,C D v])∧P w.heap.size w w':=by
 obtain ⟨W,hW⟩:∃ W,W=(w.alloc (I p.c 99)).alloc (I #[C D 0,C D 0,C D 0] 107):=⟨_,rfl⟩;have hB:P w.heap.size w W:=by rw [hW];exact ((qf _ w).alloc (ztI _) _).alloc (by simp) _
 have hc:W.heap[w.heap.size]?=G (I p.c 99 (0,0)):=by rw [hW];exact (ztQ _ _ _ (by simp)).trans (ztJ w _)
 have hd:W.heap[w.heap.size+1]?=G (I #[C D 0,C D 0,C D 0] 107 (0,0)):=by rw [hW];exact heap_alloc2_new w _ _
 have HB:=zh hB;have HC:=zh hc;have HD:=zh hd;have HW:=zh hW;have K:=zh (fun W=>ziS p ok k hk W);obtain ⟨x,hx⟩:∃ x:Int,x=((p.hA k:Nat):Int):=⟨_,rfl⟩;rw [←hx] at K ⊢;have hcd:W.drew.heap[w.heap.size]?=G (I p.c 99 (0,0)):=hc;obtain ⟨c0,c1,c2,c3,c4,c5,c6⟩:=zao hcd;clear hB hc hd hW hx ok;unfold Ip.val at *;go_enter func52,ntmps52
 go_upto_region 1 with fail
 refine zaf (w:=W) HW.out.symm ?_;have hdd:W.drew.heap[w.heap.size+1]?=G (I #[C D 0,C D 0,C D 0] 107 (0,0)):=HD.out;have g0:=zcr W.drew (w.heap.size+1) 0 _ 107 (0,0) hdd;have g1:=zcr W.drew (w.heap.size+1) 1 _ 107 (0,0) hdd;have g2:=zcr W.drew (w.heap.size+1) 2 _ 107 (0,0) hdd;have f0:=frozen_of_row W.drew (w.heap.size+1) 0 _ 107 hdd;have f1:=frozen_of_row W.drew (w.heap.size+1) 1 _ 107 hdd;have f2:=frozen_of_row W.drew (w.heap.size+1) 2 _ 107 hdd
 go_region_held3 (fun w'=>w'.cell? ⟨w.heap.size,0,F⟩=G (C D p.v)∧w'.cell? ⟨w.heap.size,1,F⟩=G (C D p.S)∧w'.cell? ⟨w.heap.size,2,F⟩=G (C D p.L)∧w'.cell? ⟨w.heap.size,3,F⟩=G (C D p.a)∧w'.cell? ⟨w.heap.size,4,F⟩=G (C D p.h)∧w'.cell? ⟨w.heap.size,5,F⟩=G (C D p.gl)∧w'.cell? ⟨w.heap.size,6,F⟩=G (C D p.sp)) (first|exact ⟨c0,c1,c2,c3,c4,c5,c6⟩|exact ⟨d0,d1,d2,d3,d4,d5,d6⟩|exact ⟨(sc3 rfl).trans d0,(sc3 rfl).trans d1,(sc3 rfl).trans d2,(sc3 rfl).trans d3,(sc3 rfl).trans d4,(sc3 rfl).trans d5,(sc3 rfl).trans d6⟩) (first
  | (go_at_call 116;(with_reducible refine (K.out _).mono ?_);rintro q w1 ⟨rfl,b1⟩;have HC1:w1.heap[w.heap.size]?=G (I p.c 99 (0,0)):=(b1.block _ (zgx HC.out)).trans HC.out;obtain ⟨d0,d1,d2,d3,d4,d5,d6⟩:=zao HC1;have HD1:w1.heap[w.heap.size+1]?=G (I #[C D 0,C D 0,C D 0] 107 (0,0)):=(b1.block _ (zgx HD.out)).trans HD.out;have HB1:=HB.out.drew.trans (b1.mono HB.out.size);have k0:=zcr w1 (w.heap.size+1) 0 _ 107 (0,0) HD1;have k1:=zcr w1 (w.heap.size+1) 1 _ 107 (0,0) HD1;have k2:=zcr w1 (w.heap.size+1) 2 _ 107 (0,0) HD1;have l0:=frozen_of_row w1 (w.heap.size+1) 0 _ 107 HD1;have l1:=frozen_of_row w1 (w.heap.size+1) 1 _ 107 HD1;have l2:=frozen_of_row w1 (w.heap.size+1) 2 _ 107 HD1))
 have H9:((((w1.setCell ⟨w.heap.size+1,0,F⟩ (C D x)).setCell ⟨w.heap.size+1,1,F⟩ (C D p.L)).setCell ⟨w.heap.size+1,2,F⟩ (C D v))).heap[w.heap.size+1]?=G (I #[C D x,C D p.L,C D v] 107 (0,0)) :=
  (heap_setCell_same _ _ 2 _ 107 _ ((heap_setCell_same _ _ 1 _ 107 _ ((heap_setCell_same _ _ 0 _ 107 _ HD1).trans rfl)).trans rfl)).trans rfl
 have HB9:P w.heap.size w ((((w1.setCell ⟨w.heap.size+1,0,F⟩ (C D x)).setCell ⟨w.heap.size+1,1,F⟩ (C D p.L)).setCell ⟨w.heap.size+1,2,F⟩ (C D v))) :=
  ((HB1.setCell (by show _≤w.heap.size+1;omega) _).setCell (by show _≤w.heap.size+1;omega) _).setCell (by show _≤w.heap.size+1;omega) _
 go_wp2;exact ztP (v:=_) (ztg _ _ (w.heap.size+1) _ rfl rfl H9) rfl ⟨rfl,HB9⟩
section
open Dk
open Ar (Sn sn0)
open J.Sl (Su Hd su0 hd0 sec)
open J (setS setH ldS ldH ldE)
theorem Rvx.now {w:T} {d:St} (h:Rvx w g K d W):∃ g1 k1,W.cell? ⟨g,0,F⟩=G (V (G ⟨g1,0,F⟩) d.n k1):=by
 obtain ⟨L,h1,h3,h4,h5⟩:=h;obtain ⟨g1,k1,g2,k2,g3,k3,rfl,hA⟩:=RAt.of_rf h1;exact ⟨g1,k1,hA.c 0⟩
theorem Rvx.gltt {w:T} {d:St} (h:Rvx w g K d W):g<W.heap.size:=by
 obtain ⟨L,h1,h3,h4,h5⟩:=h;obtain ⟨g1,k1,g2,k2,g3,k3,rfl,hA⟩:=RAt.of_rf h1;exact h1.lt g (by simp)
theorem zkK {w:T} {d d1 d2 d3 d4:St} {v:Int} {S L:Nat} {z:Int} {d5:St} (h:Rvx w g K d W) (ok:(Ip.mk v S L 0 0 0 0).Ok) (hn:4+2*(S+L)≤d.n)
 (e1:Ar.arW d ((Ip.mk v S L 0 0 0 0).aA 0:Nat) (S:Nat) v sn0=(d1,0)) (e2:zdB d1 ((Ip.mk v S L 0 0 0 0).hA 0) L v []=(d2,0)) (e2o:onB d1.n ((Ip.mk v S L 0 0 0 0).hA 0) L v=qe) (e3:d2.flush=(d3,0)) (e4:setH d3 v hd0=(d4,0)) (e5:setS d4 (Ip.mk v S L 0 0 0 0).su=(d5,z)) :
 R O 14 #[ptr g,C D v,C D S,C D L] W fun x w'=>x=U (C D z)∧Rvx w g K d5 w':=by
 obtain ⟨p,hp⟩:∃ p,p=Ip.mk v S L 0 0 0 0:=⟨_,rfl⟩;have hpc:p.c=#[C D v,C D S,C D L,C D 0,C D 0,C D 0,C D 0]:=by rw [hp];rfl
 have hpsu:p.su.val=qc p.c:=rfl;have hrgt:J.Sl.rgt p.su=qe:=zhr (hp▸ok) (by rw [hp]) (by rw [hp])
 have hsu:sec p.su=4+2*((S:Int)+L):=by
  unfold J.Sl.sec;rw [if_pos hrgt,hp];rfl
 rw [←hp] at ok e1 e2 e2o e5;have hS:=ok.S;have hL:=ok.L;have hh0:p.aA 0=4:=by unfold Ip.aA;omega
 obtain ⟨W1,hW1⟩:∃ W1,W1=W.alloc (I p.c 99):=⟨_,rfl⟩;obtain ⟨B,hB⟩:∃ B,B=W.heap.size:=⟨_,rfl⟩;have h1:Rvx w g ((B,I p.c 99 (0,0)) :: K) d W1:=by rw [hW1,hB];exact h.al _
 obtain ⟨K1,hK1⟩:∃ K1,K1=(B,I p.c 99 (0,0)) :: K:=⟨_,rfl⟩;rw [←hK1] at h1
 have KP:Hid (∀ Z d',Rvx w g K1 d' Z→Z.cell? ⟨B,0,F⟩=G (C D v)∧Z.cell? ⟨B,1,F⟩=G (C D S)∧Z.cell? ⟨B,2,F⟩=G (C D L)∧Z.cell? ⟨B,3,F⟩=G (C D 0)∧Z.cell? ⟨B,4,F⟩=G (C D 0)∧Z.cell? ⟨B,5,F⟩=G (C D 0)∧Z.cell? ⟨B,6,F⟩=G (C D 0)):=fun Z d' hZ=>by
  rw [hK1] at hZ
  have:=zao hZ.hd
  rw [hp] at this;exact this
 have KR:Hid (∀ Z,Rvx w g K1 d Z→R O 47 #[qc #[C D v,C D S,C D L,C D 0,C D 0,C D 0,C D 0]] Z fun e w'=>e=U (.bool qe)∧Rvx w g K1 d w'):=fun Z hZ=>by
  have:=J.zaY p.su Z
  rw [hrgt,hpsu,hpc] at this;exact this.mono fun e w' ⟨x1,x2⟩=>⟨x1,hZ.below x2⟩
 have KS:Hid (∀ Z,Rvx w g K1 d Z→R O 48 #[qc #[C D v,C D S,C D L,C D 0,C D 0,C D 0,C D 0]] Z fun e w'=>e=U (C D (4+2*((S:Int)+L)))∧Rvx w g K1 d w'∧P Z.heap.size Z w'):=fun Z hZ=>by
  have:=J.zeu p.su Z
  rw [hsu,hpsu,hpc] at this;exact this.mono fun e w' ⟨x1,x2⟩=>⟨x1,hZ.below x2,x2⟩
 have KA:Hid (∀ Z,Rvx w g K1 d Z→R O 50 #[qc #[C D v,C D S,C D L,C D 0,C D 0,C D 0,C D 0],C D 0] Z fun e w'=>e=U (C D (p.aA 0:Nat))∧Rvx w g K1 d w'):=fun Z hZ=>by
  have:=zdy p ok 0 (by omega) Z
  rw [show p.val=qc p.c from rfl,hpc] at this;exact this.mono fun e w' ⟨x1,x2⟩=>⟨x1,hZ.below x2⟩
 have KH:Hid (∀ Z,Rvx w g K1 d1 Z→R O 52 #[qc #[C D v,C D S,C D L,C D 0,C D 0,C D 0,C D 0],C D 0,C D v] Z fun e w'=>e=U (qc #[C D (p.hA 0:Nat),C D L,C D v])∧Rvx w g K1 d1 w'):=fun Z hZ=>by
  have:=zd0 p ok 0 (by omega) v Z
  rw [show p.val=qc p.c from rfl,hpc,show p.L=L by rw [hp]] at this;exact this.mono fun e w' ⟨x1,x2⟩=>⟨x1,hZ.below x2⟩
 have KW:Hid (∀ Z,Rvx w g K1 d Z→R O 49 #[ptr g,C D (p.aA 0:Nat),C D S,C D v,qc #[C M 0,C M 0,qd ⟨#[]⟩]] Z fun x w'=>x=U (C D 0)∧Rvx w g K1 d1 w'):=fun Z hZ=>by
  refine hZ.c1 fun L' hD=>?_
  have:=Ar.zh3 w.heap.size g L' d (p.aA 0:Nat) (S:Nat) v sn0 Z hD hZ.be.size zlC (by omega)
  rw [e1] at this;exact this
 have KF:Hid (∀ Z,Rvx w g K1 d1 Z→R O 51 #[ptr g,qc #[C D (p.hA 0:Nat),C D L,C D v],V F 0 0] Z fun x w'=>x=U (C D 0)∧Rvx w g K1 d2 w'):=fun Z hZ=>by
  refine hZ.c1 fun L' hD=>?_
  have:=zim w.heap.size g L' d1 (p.hA 0) L v F 0 0 [] Z hD (zcO.nil K1 Z hZ.bk) (by omega) (by simp) e2o (by
   unfold rcO;have hv:=ok.v;rw [show p.v=v by rw [hp]] at hv;show (decide (v=1∨v=2)&&_)=qe;rw [ztN hv]
   rfl)
  rw [e2] at this;exact this
 have KL:Hid (∀ Z,Rvx w g K1 d2 Z→R O 53 #[ptr g] Z fun x w'=>x=U (C D 0)∧Rvx w g K1 d3 w'):=fun Z hZ=>by
  refine hZ.c1 fun L' hD=>?_
  have:=zct w.heap.size g L' d2 Z hD
  rw [e3] at this;exact this
 have KSH:Hid (∀ Z,Rvx w g K1 d3 Z→R O 54 #[ptr g,C D v,qc #[C M 0,C D 0,C M 0]] Z fun x w'=>x=U (C D 0)∧Rvx w g K1 d4 w'):=fun Z hZ=>by
  refine hZ.c1 fun L' hD=>?_
  have:=J.zet w.heap.size g L' d3 v hd0 Z hD zjn
  rw [e4] at this;exact this
 have KSS:Hid (∀ Z,Rvx w g K1 d4 Z→R O 55 #[ptr g,qc #[C D v,C D S,C D L,C D 0,C D 0,C D 0,C D 0]] Z fun x w'=>x=U (C D z)∧Rvx w g K1 d5 w'):=fun Z hZ=>by
  refine hZ.c1 fun L' hD=>?_
  have:=J.zdO w.heap.size g L' d4 p.su Z hD
  rw [e5,hpsu,hpc] at this;exact this
 obtain ⟨X,hX⟩:∃ X:Int,X=4+2*((S:Int)+L):=⟨_,rfl⟩;have t3:decide ((d.n:Int)<X)=Y:=ztM (by omega);rw [←hX] at KS;obtain ⟨xa,hxa⟩:∃ x:Int,x=((p.aA 0:Nat):Int):=⟨_,rfl⟩;obtain ⟨xh,hxh⟩:∃ x:Int,x=((p.hA 0:Nat):Int):=⟨_,rfl⟩;rw [←hxa] at KA KW;rw [←hxh] at KH KF;have KN:Hid (∀ Z,Rvx w g K1 d Z→∃ g1 k1,Z.cell? ⟨g,0,F⟩=G (V (G ⟨g1,0,F⟩) d.n k1)):=fun Z hZ=>hZ.now;have KD:Hid (∀ Z,Rvx w g K1 d5 Z→Rvx w g K d5 Z):=fun Z hZ=>hZ.drop fun q hq=>by rw [hK1];exact ztK _ hq
 have H1:=zh h1;rw [hpc] at hW1;have HW1:=zh hW1;have HB:=zh hB;obtain ⟨c0,c1,c2,c3,c4,c5,c6⟩:=KP.out _ _ h1;clear hX hxa hxh e1 e2 e2o e3 e4 e5 h1 hK1 hB hW1 hh0 hrgt hsu ok hpsu hpc hp hn h;unfold ptr at *;go_enter func14,ntmps14
 go_upto_region 2 with fail
 refine zaf (w:=W1) HW1.out.symm ?_;rw [←HB.out]
 go_upto_region 3 with (go_at_call 47;(with_reducible refine (KR.out _ H1.out).mono ?_);rintro q w1 ⟨rfl,h2⟩)
 have H2:=zh h2;obtain ⟨g1,k1,n0⟩:=KN.out _ h2;have n0d:w1.drew.cell? ⟨g,0,F⟩=G (V (G ⟨g1,0,F⟩) d.n k1):=n0;obtain ⟨a0,a1,a2,a3,a4,a5,a6⟩:=KP.out _ _ h2.drew;clear h2 c0 c1 c2 c3 c4 c5 c6
 go_region_held3 (fun w'=>w'.cell? ⟨g,0,F⟩=G (V (G ⟨g1,0,F⟩) d.n k1)∧w'.cell? ⟨B,0,F⟩=G (C D v)∧w'.cell? ⟨B,1,F⟩=G (C D S)∧w'.cell? ⟨B,2,F⟩=G (C D L)∧w'.cell? ⟨B,3,F⟩=G (C D 0)∧w'.cell? ⟨B,4,F⟩=G (C D 0)∧w'.cell? ⟨B,5,F⟩=G (C D 0)∧w'.cell? ⟨B,6,F⟩=G (C D 0)) (first|exact ⟨n0d,a0,a1,a2,a3,a4,a5,a6⟩|exact ⟨m0,b0,b1,b2,b3,b4,b5,b6⟩) (first
  | (go_at_call 48;(with_reducible refine (KS.out _ (Rvx.drew H2.out)).mono ?_);rintro q w3 ⟨rfl,h3,bb⟩;have m0:w3.cell? ⟨g,0,F⟩=G (V (G ⟨g1,0,F⟩) d.n k1):=(bb.cell (by have:=(Rvx.drew H2.out).gltt;exact this)).trans n0d;obtain ⟨b0,b1,b2,b3,b4,b5,b6⟩:=KP.out _ _ h3))
 have H3:=zh h3;clear h3 m0 a0 a1 a2 a3 a4 a5 a6 n0 n0d
 go_upto_region 5 with fail
 go_upto_region 6 with (first
  | (go_at_call 50;(with_reducible refine (KA.out _ H3.out).mono ?_);rintro q w4 ⟨rfl,h4⟩;have H4:=zh h4;clear h4)
  | (go_at_call 49;(with_reducible refine (KW.out _ H4.out).mono ?_);rintro q w5 ⟨rfl,h5⟩))
 have H5:=zh h5;obtain ⟨b0,b1,b2,b3,b4,b5,b6⟩:=KP.out _ _ h5;clear h5
 go_upto_region 8 with (first
  | (go_at_call 52;(with_reducible refine (KH.out _ H5.out).mono ?_);rintro q w6 ⟨rfl,h6⟩;have H6:=zh h6;clear h6)
  | (go_at_call 51;(with_reducible refine (KF.out _ H6.out).mono ?_);rintro q w7 ⟨rfl,h7⟩))
 have H7:=zh h7;clear h7
 go_upto_region 10 with (go_at_call 53;(with_reducible refine (KL.out _ H7.out).mono ?_);rintro q w8 ⟨rfl,h8⟩)
 have H8:=zh h8;clear h8
 go_upto_region 12 with (go_at_call 54;(with_reducible refine (KSH.out _ H8.out).mono ?_);rintro q w9 ⟨rfl,h9⟩)
 have H9:=zh h9;obtain ⟨b0,b1,b2,b3,b4,b5,b6⟩:=KP.out _ _ h9;clear h9
 go_wp2_with (go_at_call 55;(with_reducible refine (KSS.out _ H9.out).mono ?_);rintro q w10 ⟨rfl,h10⟩)
 go_ret;exact ⟨rfl,KD.out _ h10⟩
end
section
open Dk
open Ar (Sn sn0)
open J.Sl (Su Hd su0 hd0 sec)
open J (setS setH ldS ldH ldE)
theorem zfv {w:T} {S:Su} {H:Hd} {s:Sn} (h:w.heap[b]?=G (I (imc g S H s lg u) 124 (0,0))) :
 w.cell? ⟨b,0,F⟩=G (qh (G ⟨g,0,F⟩))∧w.cell? ⟨b,1,F⟩=G (C D S.v)∧w.cell? ⟨b,2,F⟩=G (C D S.sn)∧w.cell? ⟨b,3,F⟩=G (C D S.lg)∧w.cell? ⟨b,4,F⟩=G (C D S.ar)∧w.cell? ⟨b,5,F⟩=G (C D S.hf)∧w.cell? ⟨b,6,F⟩=G (C D S.gl)∧w.cell? ⟨b,7,F⟩=G (C D S.sp)∧w.cell? ⟨b,8,F⟩=G (C M H.tm)∧w.cell? ⟨b,9,F⟩=G (C D H.vo)∧w.cell? ⟨b,10,F⟩=G (C M H.cm)∧w.cell? ⟨b,11,F⟩=G (C M s.ix)∧w.cell? ⟨b,12,F⟩=G (C M s.tm)∧w.cell? ⟨b,13,F⟩=G (qd s.da)∧w.cell? ⟨b,14,F⟩=G (lg)∧w.cell? ⟨b,15,F⟩=G (C D u) :=
 ⟨zcr _ _ 0 _ 124 (0,0) h,zcr _ _ 1 _ 124 (0,0) h,zcr _ _ 2 _ 124 (0,0) h,zcr _ _ 3 _ 124 (0,0) h,zcr _ _ 4 _ 124 (0,0) h,zcr _ _ 5 _ 124 (0,0) h,zcr _ _ 6 _ 124 (0,0) h,zcr _ _ 7 _ 124 (0,0) h,zcr _ _ 8 _ 124 (0,0) h,zcr _ _ 9 _ 124 (0,0) h,zcr _ _ 10 _ 124 (0,0) h,zcr _ _ 11 _ 124 (0,0) h,zcr _ _ 12 _ 124 (0,0) h,zcr _ _ 13 _ 124 (0,0) h,zcr _ _ 14 _ 124 (0,0) h,zcr _ _ 15 _ 124 (0,0) h⟩
theorem zmE {w:T} (h:w.heap[b]?=G (I cs 124 (0,0))) :
 w.frozen? ⟨b,1,F⟩=Y∧w.frozen? ⟨b,2,F⟩=Y∧w.frozen? ⟨b,3,F⟩=Y∧w.frozen? ⟨b,4,F⟩=Y∧w.frozen? ⟨b,5,F⟩=Y∧w.frozen? ⟨b,6,F⟩=Y∧w.frozen? ⟨b,7,F⟩=Y∧w.frozen? ⟨b,8,F⟩=Y∧w.frozen? ⟨b,9,F⟩=Y∧w.frozen? ⟨b,10,F⟩=Y∧w.frozen? ⟨b,11,F⟩=Y∧w.frozen? ⟨b,12,F⟩=Y∧w.frozen? ⟨b,13,F⟩=Y∧w.frozen? ⟨b,14,F⟩=Y∧w.frozen? ⟨b,15,F⟩=Y :=
 ⟨frozen_of_row _ _ 1 _ 124 h,frozen_of_row _ _ 2 _ 124 h,frozen_of_row _ _ 3 _ 124 h,frozen_of_row _ _ 4 _ 124 h,frozen_of_row _ _ 5 _ 124 h,frozen_of_row _ _ 6 _ 124 h,frozen_of_row _ _ 7 _ 124 h,frozen_of_row _ _ 8 _ 124 h,frozen_of_row _ _ 9 _ 124 h,frozen_of_row _ _ 10 _ 124 h,frozen_of_row _ _ 11 _ 124 h,frozen_of_row _ _ 12 _ 124 h,frozen_of_row _ _ 13 _ 124 h,frozen_of_row _ _ 14 _ 124 h,frozen_of_row _ _ 15 _ 124 h⟩
theorem zth {w:T} {p:Ip} {H:Hd} {s:Sn} (h:w.heap[b]?=G (I (imc g p.su H s lg u) 124 (0,0))) :
 w.cell? ⟨b,0,F⟩=G (qh (G ⟨g,0,F⟩))∧w.cell? ⟨b,1,F⟩=G (C D p.v)∧w.cell? ⟨b,2,F⟩=G (C D p.S)∧w.cell? ⟨b,3,F⟩=G (C D p.L)∧w.cell? ⟨b,4,F⟩=G (C D p.a)∧w.cell? ⟨b,5,F⟩=G (C D p.h)∧w.cell? ⟨b,6,F⟩=G (C D p.gl)∧w.cell? ⟨b,7,F⟩=G (C D p.sp) :=
 ⟨zcr _ _ 0 _ 124 (0,0) h,zcr _ _ 1 _ 124 (0,0) h,zcr _ _ 2 _ 124 (0,0) h,zcr _ _ 3 _ 124 (0,0) h,zcr _ _ 4 _ 124 (0,0) h,zcr _ _ 5 _ 124 (0,0) h,zcr _ _ 6 _ 124 (0,0) h,zcr _ _ 7 _ 124 (0,0) h⟩
theorem ziT {w:T} {pn:Nat} {d d':St} {p:Ip} {H hh:Hd} {s:Sn} (h:Rvx w g ((pn,I (imc g p.su H s lg u) 124 (0,0)) :: K) d W) (hK:∀ q∈K,q.1≠pn) (hg:p.gl=0) (ho:hh.Ok)
 (hs:setH d p.v hh=(d',0)) :
 R O 65 #[ptr pn,hh.val] W fun x w'=>x=U (C D 0)∧Rvx w g ((pn,I (imc g p.su hh s lg u) 124 (0,0)) :: K) d' w':=by
 obtain ⟨W1,hW1⟩:∃ W1,W1=W.alloc (I hh.c 110):=⟨_,rfl⟩;obtain ⟨B,hB⟩:∃ B,B=W.heap.size:=⟨_,rfl⟩;have hlp:pn<B:=by rw [hB];exact h.lt _ (zt0 ..)
 obtain ⟨K0,hK0⟩:∃ K0,K0=(B,I hh.c 110 (0,0)) :: K:=⟨_,rfl⟩
 have h1:Rvx w g ((pn,I (imc g p.su H s lg u) 124 (0,0)) :: K0) d W1:=by
  have:=h.al (I hh.c 110)
  rw [hW1,hK0,hB];exact this.drop fun q hq=>by simp only [ztT] at hq ⊢;rcases hq with h|h|h<;>simp [h]
 have hK0n:∀ q∈K0,q.1≠pn:=fun q hq=>by
  rw [hK0] at hq;rcases ztT.1 hq with rfl|hq
  ·show B≠pn;omega
  ·exact hK q hq
 have hm:(B,I hh.c 110 (0,0))∈K0:=by rw [hK0];simp
 have KW:Hid (∀ Z,Rvx w g ((pn,I (imc g p.su H s lg u) 124 (0,0)) :: K0) d Z→R O 54 #[ptr g,C D p.v,qc #[C M hh.tm,C D hh.vo,C M hh.cm]] Z fun x w'=>x=U (C D 0)∧Rvx w g ((pn,I (imc g p.su H s lg u) 124 (0,0)) :: K0) d' w'):=fun Z hZ=>by
  refine hZ.c1 fun L hD=>?_
  have:=J.zet w.heap.size g L d p.v hh Z hD ho
  rw [hs] at this;exact this
 have KC:Hid (∀ Z d',Rvx w g ((pn,I (imc g p.su H s lg u) 124 (0,0)) :: K0) d' Z→(Z.cell? ⟨pn,0,F⟩=G (qh (G ⟨g,0,F⟩))∧Z.cell? ⟨pn,1,F⟩=G (C D p.v)∧Z.cell? ⟨pn,2,F⟩=G (C D p.S)∧Z.cell? ⟨pn,3,F⟩=G (C D p.L)∧Z.cell? ⟨pn,4,F⟩=G (C D p.a)∧Z.cell? ⟨pn,5,F⟩=G (C D p.h)∧Z.cell? ⟨pn,6,F⟩=G (C D p.gl)∧Z.cell? ⟨pn,7,F⟩=G (C D p.sp))∧Z.cell? ⟨B,0,F⟩=G (C M hh.tm)∧Z.cell? ⟨B,1,F⟩=G (C D hh.vo)∧Z.cell? ⟨B,2,F⟩=G (C M hh.cm)):=fun Z d' hZ =>
  ⟨zth hZ.hd,zax (hZ.get (ztK _ hm))⟩
 have KD:Hid (∀ Z c,Rvx w g ((pn,c) :: K0) d' Z→Rvx w g ((pn,c) :: K) d' Z):=fun Z c hZ=>hZ.drop fun q hq=>by
  rw [hK0];simp only [ztT] at hq ⊢;rcases hq with h|h<;>simp [h]
 have H1:=zh h1;have HN:=zh hK0n;have HW1:=zh hW1;have HB:=zh hB;obtain ⟨⟨c0,c1,c2,c3,c4,c5,c6,c7⟩,e0,e1,e2⟩:=KC.out _ _ h1.drew;have c6':W1.cell? ⟨pn,6,F⟩=G (C D 0):=by rw [←hg];exact c6
 clear c6 h1 hm hK0n hK0 hlp hB hW1 h hK hg ho hs;unfold J.Sl.Hd.val ptr at *;go_enter func65,ntmps65
 go_upto_region 1 with fail
 refine zaf (w:=W1) HW1.out.symm ?_;rw [←HB.out]
 go_upto_region 3 with fail
 go_region_held3 (fun w'=>w'.cell? ⟨pn,0,F⟩=G (qh (G ⟨g,0,F⟩))∧w'.cell? ⟨pn,1,F⟩=G (C D p.v)∧w'.cell? ⟨B,0,F⟩=G (C M hh.tm)∧w'.cell? ⟨B,1,F⟩=G (C D hh.vo)∧w'.cell? ⟨B,2,F⟩=G (C M hh.cm)) (first|exact ⟨c0,c1,e0,e1,e2⟩|exact ⟨v0,v1,r0,r1,r2⟩) (first
  | (go_at_call 54;(with_reducible refine (KW.out _ (Rvx.drew H1.out)).mono ?_);rintro q w2 ⟨rfl,H2⟩;obtain ⟨⟨v0,v1,v2,v3,v4,v5,v6,v7⟩,r0,r1,r2⟩:=KC.out _ _ H2))
 obtain ⟨x1,x2,x3,x4,x5,x6,x7,x8,x9,x10,x11,x12,x13,x14,x15⟩:=zmE H2.hd;obtain ⟨y0,y1,y2,y3,y4,y5,y6,y7,y8,y9,y10,y11,y12,y13,y14,y15⟩:=zfv H2.hd;have HH2:=zh H2;clear H2;go_wp2;go_ret;have h9:=HH2.out.puts HN.out [(8,C M hh.tm),(9,C D hh.vo),(10,C M hh.cm)];rw [zjr] at h9;exact ⟨rfl,KD.out _ _ h9⟩
end
section
open Dk
open Ar (Sn sn0)
open J.Sl (Su Hd su0 hd0 sec)
open J (setS setH ldS ldH ldE)
structure zs3 (d:St) (g:Nat) (p:Ip) (H:Hd) (s:Sn) (es lgs:List En) (u:Nat) (d':St):Prop where
 ok:p.Ok
 e:ldE d=0
 su:ldS d=p.su
 hd:ldH d=H
 a:Ar.arR d (p.aA p.a:Nat) (p.S:Nat)=(s,p.v,0)
 r:∀ B L Z,Rf Z B g L d→R O 61 #[ptr g,RG (p.hA p.h:Nat) p.L p.v] Z fun x w'=>∃ A n c,x=U (qi #[V A n c,C D u,C D 0])∧Le Z.heap.size A n c es w'∧P Z.heap.size Z w'
 j:∀ A n c Z,zcx Z.heap.size A n es Z→R O 62 #[C M s.ix,V F 0 0,V A n c] Z fun x w'=>∃ A' n' c',x=U (qi #[V A' n' c',.bool qe])∧Le Z.heap.size A' n' c' lgs w'∧P Z.heap.size Z w'
 on:onB d.n (p.hA p.h) p.L p.v=qe
 le:u≤p.L*64
 w:wipG d (p.hA p.h) p.L u=(d',0)
theorem zmF {w:T} {d d':St} {p:Ip} {H:Hd} {s:Sn} {es lgs:List En} {u:Nat} (h:Rvx w g K d W) (hm:zs3 d g p H s es lgs u d') :
 R O 16 #[ptr g] W fun x w'=>∃ pn A n c K2,x=U (qi #[ptr pn,C D 0])∧Rvx w g ((pn,I (imc g p.su H s (V A n c) u) 124 (0,0)) :: (K2++K)) d' w'∧Lg w.heap.size (K2++K) A n c lgs∧(∀ q∈K2++K,q.1≠pn)∧W.heap.size≤pn∧∀ q∈K2,W.heap.size≤q.1:=by
 have ok:=hm.ok;have haa:p.aA p.a≤1004:=by have:=ok.a;have:=ok.S;unfold Ip.aA;rcases (show p.a=0∨p.a=1 by omega) with h|h<;>rw [h]<;>omega
 have KL:Hid (R O 59 #[ptr g] W fun e w'=>e=U (qi #[qc p.c,qc #[C M H.tm,C D H.vo,C M H.cm],C D 0])∧Rvx w g K d w'∧P W.heap.size W w'):=by
  refine h.q1 fun L hD=>?_
  have:=J.zlM w.heap.size g L d W hD
  rw [hm.e,hm.su,hm.hd] at this;exact this
 have KA:Hid (∀ Z,R O 50 #[qc #[C D p.v,C D p.S,C D p.L,C D p.a,C D p.h,C D p.gl,C D p.sp],C D p.a] Z fun e w'=>e=U (C D (p.aA p.a:Nat))∧P Z.heap.size Z w'):=fun Z=>zdy p ok p.a ok.a Z;have KH:Hid (∀ Z,R O 52 #[qc #[C D p.v,C D p.S,C D p.L,C D p.a,C D p.h,C D p.gl,C D p.sp],C D p.h,C D p.v] Z fun e w'=>e=U (qc #[C D (p.hA p.h:Nat),C D p.L,C D p.v])∧P Z.heap.size Z w'):=fun Z=>zd0 p ok p.h ok.h p.v Z
 have KR1:Hid (∀ K1 Z,Rvx w g K1 d Z→R O 60 #[ptr g,C D (p.aA p.a:Nat),C D p.S] Z fun x w'=>x=U (qi #[qc #[C M s.ix,C M s.tm,qd s.da],C D p.v,C D 0])∧Rvx w g K1 d w'∧P Z.heap.size Z w'):=fun K1 Z hZ=>by
  refine hZ.q1 fun L hD=>?_
  have:=Ar.zo8 w.heap.size g L d (p.aA p.a:Nat) (p.S:Nat) Z hD (by omega)
  rw [hm.a] at this;exact this
 have KR2:Hid (∀ K1 Z,Rvx w g K1 d Z→R O 61 #[ptr g,qc #[C D (p.hA p.h:Nat),C D p.L,C D p.v]] Z fun x w'=>∃ A n c,x=U (qi #[V A n c,C D u,C D 0])∧Le Z.heap.size A n c es w'∧Rvx w g K1 d w'∧P Z.heap.size Z w'):=fun K1 Z hZ=>by
  have hZ0:=hZ;obtain ⟨L,hD,_⟩:=hZ;exact (hm.r _ L Z hD).mono fun x w' ⟨A,n,c,h1,h2,h3⟩=>⟨A,n,c,h1,h2,hZ0.below h3,h3⟩
 have KJ:=zh hm.j
 have KW:Hid (∀ K1 Z,Rvx w g K1 d Z→R O 63 #[ptr g,qc #[C D (p.hA p.h:Nat),C D p.L,C D p.v],C D u] Z fun x w'=>x=U (C D 0)∧Rvx w g K1 d' w'):=fun K1 Z hZ=>by
  refine hZ.c1 fun L hD=>?_
  have:=znG w.heap.size g L d (p.hA p.h) p.L u p.v Z hD hm.on hm.le
  rw [hm.w] at this;exact this
 obtain ⟨x,hx⟩:∃ x:Int,x=((p.hA p.h:Nat):Int):=⟨_,rfl⟩;rw [←hx] at KH KR2 KW;obtain ⟨y,hy⟩:∃ y:Int,y=((p.aA p.a:Nat):Int):=⟨_,rfl⟩;rw [←hy] at KA KR1;clear hx hy haa ok hm h;unfold ptr at *;go_enter func16,ntmps16
 go_upto_region 2 with (go_at_call 59;(with_reducible refine KL.out.mono ?_);rintro q w1 ⟨rfl,h1,b1⟩)
 have h2:=h1.al2 (I p.c 99) (I H.c 110);obtain ⟨B,hB⟩:∃ B,B=w1.heap.size:=⟨_,rfl⟩;rw [←hB] at h2;have hWB:W.heap.size≤B:=by rw [hB];exact b1.size
 obtain ⟨W2,hW2⟩:∃ W2,W2=(w1.alloc (I p.c 99)).alloc (I H.c 110):=⟨_,rfl⟩;have hs2:W2.heap.size=B+2:=by rw [hW2,hB];simp
 rw [←hW2] at h2;refine zaf (w:=W2) hW2.symm ?_;rw [←hB];obtain ⟨K0,hK0⟩:∃ K0,K0=(B+1,I H.c 110 (0,0)) :: (B,I p.c 99 (0,0)) :: K:=⟨_,rfl⟩;rw [←hK0] at h2;have HM4:Hid ((B,I p.c 99 (0,0))∈K0):=by show _∈_;rw [hK0];simp
 have HM5:Hid ((B+1,I H.c 110 (0,0))∈K0):=by show _∈_;rw [hK0];simp
 have HKs:Hid (∀ q∈K,q∈K0):=fun q hq=>by rw [hK0];simp [hq]
 have H0:=zh h2;have HD:=zh h2.drew;have HSZ:Hid (W.heap.size≤B∧W2.heap.size=B+2):=⟨hWB,hs2⟩;have HK0:=zh hK0;have hltd:B<W2.heap.size:=by omega
 obtain ⟨c0,c1,c2,c3,c4,c5,c6⟩:=zao (h2.drew.get HM4.out);clear h2 hK0 hs2 hWB hW2 hB h1 b1 KL;unfold ptr at *
 go_upto_region 4 with fail
 go_cut [7,8,9] from 27 to 37 (fun s7 s8 s9 wx=>s8=C D p.v∧s9=C D 0∧∃ b7,s7=qh (G ⟨b7,0,F⟩)∧B≠b7∧W2.heap.size≤wx.heap.size∧W2.heap.size≤b7∧Hid (Rvx w g ((b7,I s.c 104 (0,0)) :: K0) d wx))
 case first =>
  go_region_held3 (fun w'=>w'.cell? ⟨B,0,F⟩=G (C D p.v)∧w'.cell? ⟨B,1,F⟩=G (C D p.S)∧w'.cell? ⟨B,2,F⟩=G (C D p.L)∧w'.cell? ⟨B,3,F⟩=G (C D p.a)∧w'.cell? ⟨B,4,F⟩=G (C D p.h)∧w'.cell? ⟨B,5,F⟩=G (C D p.gl)∧w'.cell? ⟨B,6,F⟩=G (C D p.sp)) (first|exact ⟨c0,c1,c2,c3,c4,c5,c6⟩|exact ⟨f0,f1,f2,f3,f4,f5,f6⟩|exact ⟨e0,e1,e2,e3,e4,e5,e6⟩|with_reducible exact ⟨(zar hlt2).trans f0,(zar hlt2).trans f1,(zar hlt2).trans f2,(zar hlt2).trans f3,(zar hlt2).trans f4,(zar hlt2).trans f5,(zar hlt2).trans f6⟩|with_reducible exact ⟨(zar hlt1).trans e0,(zar hlt1).trans e1,(zar hlt1).trans e2,(zar hlt1).trans e3,(zar hlt1).trans e4,(zar hlt1).trans e5,(zar hlt1).trans e6⟩|with_reducible exact ⟨(zaT hltd).trans c0,(zaT hltd).trans c1,(zaT hltd).trans c2,(zaT hltd).trans c3,(zaT hltd).trans c4,(zaT hltd).trans c5,(zaT hltd).trans c6⟩|with_reducible exact ⟨(st3 (ztY hlt1)).trans f0,(st3 (ztY hlt1)).trans f1,(st3 (ztY hlt1)).trans f2,(st3 (ztY hlt1)).trans f3,(st3 (ztY hlt1)).trans f4,(st3 (ztY hlt1)).trans f5,(st3 (ztY hlt1)).trans f6⟩|with_reducible exact ⟨(st3 (ztY hltd)).trans f0,(st3 (ztY hltd)).trans f1,(st3 (ztY hltd)).trans f2,(st3 (ztY hltd)).trans f3,(st3 (ztY hltd)).trans f4,(st3 (ztY hltd)).trans f5,(st3 (ztY hltd)).trans f6⟩) (first
   | (go_at_call 50;(with_reducible refine (KA.out _).mono ?_);rintro q w3 ⟨rfl,b3⟩;(first|(have H1:Rvx w g K0 d w3:=by with_reducible exact Rvx.below HD.out b3)|(have H1:Rvx w g ((W2.heap.size,(I #[C M 0,C M 0,qd ⟨#[]⟩] 104)) :: K0) d w3:=by with_reducible exact Rvx.below (Rvx.drew (H0.out.al (I #[C M 0,C M 0,qd ⟨#[]⟩] 104))) b3));obtain ⟨e0,e1,e2,e3,e4,e5,e6⟩:=zao (H1.get (by first|exact HM4.out|exact ztK _ HM4.out));have hlt1:B<w3.heap.size:=(Array.getElem?_eq_some_iff.1 (H1.get (by first|exact HM4.out|exact ztK _ HM4.out))).1)
   | (go_at_call 60;(first|(with_reducible refine (KR1.out _ w3 H1).mono ?_)|(with_reducible refine (KR1.out _ (w3.alloc (I #[C M 0,C M 0,qd ⟨#[]⟩] 104)) (H1.al (I #[C M 0,C M 0,qd ⟨#[]⟩] 104))).mono ?_));rintro q w4 ⟨rfl,H2,b4⟩;obtain ⟨f0,f1,f2,f3,f4,f5,f6⟩:=zao (H2.get (by first|exact HM4.out|exact ztK _ HM4.out));have hlt2:B<w4.heap.size:=(Array.getElem?_eq_some_iff.1 (H2.get (by first|exact HM4.out|exact ztK _ HM4.out))).1;(first|(obtain ⟨z0,z1,z2⟩:=zae (s:=sn0) (Rvx.hd H2);obtain ⟨y0,y1,y2⟩:=zhs (Rvx.hd H2))|skip)))
  all_goals
   go_wp2;go_meet;have hsW1:W2.heap.size≤w3.heap.size:=ztL (by first|(simp;done)|(simp;omega)) b3.size;have hsW:W2.heap.size≤w4.heap.size:=ztL hsW1 (ztL (by first|(simp;done)|(simp;omega)) b4.size);refine ⟨rfl,rfl,_,rfl,?_,by first|(simp;done)|(simp;omega),by first|omega|(simp;done)|(simp;omega),?_⟩
  ·exact ztY hlt2
  ·exact H2.al (I s.c 104)
  ·exact ztY hlt1
  ·show Rvx _ _ _ _ _;have h3:=H2.puts (fun q hq=>ztY (H1.lt q hq)) [(0,C M s.ix),(1,C M s.tm),(2,qd s.da)];rw [show (#[C M 0,C M 0,qd ⟨#[]⟩]:Array qg)=sn0.c from rfl,zjp] at h3;exact h3
  ·exact ztY hltd
  ·show Rvx _ _ _ _ _;have h3:=H2.puts (fun q hq=>ztY (H0.out.lt q hq)) [(0,C M s.ix),(1,C M s.tm),(2,qd s.da)];rw [show (#[C M 0,C M 0,qd ⟨#[]⟩]:Array qg)=sn0.c from rfl,zjp] at h3;exact h3
 case rest =>
  obtain ⟨rfl,rfl,b7,rfl,hne,hWc,hb7,HZ⟩:=hcut;obtain ⟨r0,r1,r2⟩:=zae HZ.out.hd;obtain ⟨g0,g1,g2,g3,g4,g5,g6⟩:=zao (HZ.out.get (ztK _ HM4.out))
  go_upto_region 8 with (go_at_call 52;(with_reducible refine (KH.out _).mono ?_);rintro q w5 ⟨rfl,b5⟩)
  have H6:=(HZ.out.below b5).al (I #[C D x,C D p.L,C D p.v] 107);have hs5:=b5.size;obtain ⟨b10,hb10⟩:∃ b10,b10=w5.heap.size:=⟨_,rfl⟩;obtain ⟨W6,hW6⟩:∃ W6,W6=w5.alloc (I #[C D x,C D p.L,C D p.v] 107):=⟨_,rfl⟩;have hs6:W6.heap.size=b10+1:=by rw [hW6,hb10];simp
  rw [←hW6,←hb10] at H6;rw [←hb10] at hs5;refine zaf (w:=W6) hW6.symm ?_;rw [←hb10];have HH6:=zh H6;have HS6:Hid (W2.heap.size≤b10∧W6.heap.size=b10+1):=⟨by omega,hs6⟩;have k0:=zcr _ _ 0 _ 107 (0,0) H6.hd;have k1:=zcr _ _ 1 _ 107 (0,0) H6.hd;have k2:=zcr _ _ 2 _ 107 (0,0) H6.hd;clear H6 hs5 hs6 hW6 hb10 b5 r0 r1 r2 g0 g1 g2 g3 g4 g5 g6
  go_upto_region 11 with (go_at_call 61;(with_reducible refine (KR2.out _ _ HH6.out).mono ?_);rintro q w7 ⟨A,n,c,rfl,hLe,H7,b7'⟩)
  have HH7:=zh H7;have HE7:=zh hLe.ents;have HS7:Hid (b10+1≤w7.heap.size):=by have:=b7'.size;have:=HS6.out.2;show _≤_;omega
  obtain ⟨r0,r1,r2⟩:=zae (H7.get (ztK _ (zt0 ..)));clear k0 k1 k2 H7 hLe b7'
  go_upto_region 12 with (go_at_call 62;(with_reducible refine (KJ.out _ _ _ _ HE7.out).mono ?_);rintro q w8 ⟨A',n',c',rfl,hLe2,b8⟩)
  obtain ⟨K2,H8,hLg,hK2⟩:=HH7.out.addLe b8 hLe2 (ztI _);have HH8:=zh H8;have HLg:=zh hLg;have HK2:=zh hK2;obtain ⟨g0,g1,g2,g3,g4,g5,g6⟩:=zao (H8.get (ztU _ (ztK _ (ztK _ HM4.out))));obtain ⟨v0,v1,v2⟩:=zae (H8.get (ztU _ (ztK _ (zt0 ..))));have k0:=zcr _ _ 0 _ 107 (0,0) (H8.get (ztU _ (zt0 ..)));have k1:=zcr _ _ 1 _ 107 (0,0) (H8.get (ztU _ (zt0 ..)));have k2:=zcr _ _ 2 _ 107 (0,0) (H8.get (ztU _ (zt0 ..)));clear H8 hLg hK2 hLe2 b8 r0 r1 r2
  go_upto_region 15 with (go_at_call 63;(with_reducible refine (KW.out _ _ HH8.out).mono ?_);rintro q w9 ⟨rfl,H9⟩)
  have HH9:=zh H9;obtain ⟨e0,e1,e2,e3,e4,e5,e6⟩:=zao (H9.get (ztU _ (ztK _ (ztK _ HM4.out))));obtain ⟨o0,o1,o2⟩:=zax (H9.get (ztU _ (ztK _ (ztK _ HM5.out))));obtain ⟨i0,i1,i2⟩:=zae (H9.get (ztU _ (ztK _ (zt0 ..))));clear g0 g1 g2 g3 g4 g5 g6 v0 v1 v2 k0 k1 k2 H9;go_wp2;go_ret2;have hnew:=HH9.out.al (I (imc g p.su H s (V A' n' c') u) 124);have hsz9:∀ q∈K2,q.1<w9.heap.size:=fun q hq=>HH9.out.lt q (zui _ hq);have hB9:B<w9.heap.size:=HH9.out.lt _ (ztU _ (ztK _ (ztK _ HM4.out)));refine ⟨w9.heap.size,A',n',c',K2,rfl,hnew.drop fun q hq=>?_,(HLg.out.sub fun q hq=>zui _ hq).low ?_,fun q hq=>?_,?_,fun q hq=>?_⟩
  ·simp only [ztT,zt1] at hq ⊢;rcases hq with h|h|h
   ·exact .inl h
   ·exact .inr (.inl h)
   ·exact .inr (.inr (.inr (.inr (HKs.out _ h))))
  ·exact HH7.out.be.size
  ·rcases zt1.1 hq with h|h
   ·exact ztY (hsz9 q h)
   ·exact ztY (HH9.out.lt q (ztU _ (ztK _ (ztK _ (HKs.out _ h)))))
  ·have:=HSZ.out.1;omega
  ·have:=HK2.out q hq
   have:=HS7.out
   have:=HS6.out
   have:=HSZ.out
   omega
end
end Go.Proofs.YtidndekacnmihaaGreat
