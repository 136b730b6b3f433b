/- Parts of a proof. -/
import Derived.Test.YtidndekacnmihaaGreatF28
import Derived.Test.YtidndekacnmihaaGreatF31
import Derived.Test.YtidndekacnmihaaGreatF33
import Derived.Test.YtidndekacnmihaaGreatF34
set_option linter.unusedVariables false
set_option linter.unusedSimpArgs false
set_option maxHeartbeats 8000000
set_option maxRecDepth 100000
namespace Go.Proofs.YtidndekacnmihaaGreat
open Go.RowKit
theorem zjA (a b:List En):flat (a++b)=flat a++flat b:=by
 unfold flat;rw [List.flatMap_append]
theorem zoj (es:List En):∀ u∈flat es,u.oneCell'=true:=fun u hu=>by
 unfold flat at hu;obtain ⟨e,_,he⟩:=List.mem_flatMap.1 hu;simp at he;rcases he with rfl|rfl|rfl|rfl|rfl|rfl|rfl|rfl|rfl|rfl|rfl<;>rfl
theorem zhQ (A:Option Addr) (n c:Nat) (ty:TypeId) (w:World) (hn:n≤c) (hA:A=none→n=0∧c=0):(Builtin.append_ #[54,54] ty #[.slice A n c,.slice none 0 0]).run Tryz.prog w=.ok (.slice A n c) w:=by
 obtain ⟨i0,hi,hz0,hz1,hz2⟩:=info_parts Tryz.info69;have hu:=Tryz.underlying54
 cases A with
 | none =>
   obtain ⟨rfl,rfl⟩:=hA rfl;simp [Builtin.append_,underlying,sizeOf,typeInfo,hu,hi,Builtin.lenOf,Builtin.firstCells]
 | some a =>
   simp [Builtin.append_,underlying,sizeOf,typeInfo,hu,hi,Builtin.lenOf,Builtin.firstCells,hn,storeCells,List.foldlM]
theorem zdf {ops:Array Oper} {rest:List Oper} {o:Oper} {a:Act} {Q:Exit→Act→World→Prop} (hgd:o.guard=none) (s x:Operand)
 (ho:o.op=.call { callee:=.builtin .append,args:=#[s,x],argTypes:=#[54,54] }) (w:World) (B B':Nat) (A A':Option Addr) (n c m c':Nat) (es fs:List En)
 (hs:a.eval s=.slice A n c) (hx:a.eval x=.slice A' m c') (hL:Le B A n c es w) (hM:Le B' A' m c' fs w) (hn:n+m≤1000000) (hB:B≤w.heap.size)
 (N:Nat) (hN:N=n+m) (h:∀ A2 c2 w',Le B A2 N c2 (es++fs) w'→Below B w w'→(∀ k,k<w.heap.size→Value.ownBlock (.slice A n c)≠some k→w'.heap[k]?=w.heap[k]?)→wpList Tryz.prog ops Q rest (a.put o.dst (.slice A2 N c2)) w'):wpList Tryz.prog ops Q (o :: rest) a w:=by
 subst hN;rcases hM.form with ⟨rfl,rfl,rfl,rfl⟩|⟨g,rfl,hc,hm,hg⟩
 ·have hf:=hL.form;have hr:=zhQ A n c o.type w (by rcases hf with ⟨_,rfl,rfl,_⟩|⟨_,_,h,_⟩<;>omega) (fun e=>by rcases hf with ⟨_,h1,h2,_⟩|⟨g,h1,_⟩;exact ⟨h1,h2⟩;rw [h1] at e;cases e);refine wpList_plain hgd fun K hK=>?_;unfold Oper.wp execOp;simp only [ho,resolve,invoke,builtin,Sem.run_bind,Sem.run_pure,Result.andThen_ok,List.map_toArray,List.map_cons,List.map_nil,hs,hx,hr];exact hK _ _ (h A c w (by rw [zth];exact hL) (Below.refl B w) fun _ _ _=>rfl)
 ·obtain ⟨i0,hi,hz0,hz1,hz2⟩:=info_parts Tryz.info69
  have hcell:∀ j u,(flat fs)[j]?=some u→w.cell? ((⟨g,0,none⟩:Addr).add j)=some u:=fun j u hu=>by
   have hj:j<(flat fs).length:=(List.getElem?_eq_some_iff.1 hu).1;rw [za2,hM.len] at hj;rw [Addr.add_mid,zs0,hM.own.cellAt j (by omega)];exact hu
  refine wpList_append_own_at w hgd s x 54 ho B 69 i0 (ev ezz) 11 104 Tryz.underlying54 hi hz0 hz1 hz2 rfl (by omega) (.slice A n c) n (flat es) hs hL.own ⟨g,0,none⟩ m c' (flat fs) hx (by rw [za2,hM.len]) hcell (zoj fs) (by unfold maxLen;omega) (by omega) hB ?_;intro v' w' hown hgrow hnil hat;have hb:Below B w w':=(Below.refl B w).grown hgrow hB (fun k hk=>(hL.own.lt k hk).1);have hk:∀ k,k<w.heap.size→Value.ownBlock (.slice A n c)≠some k→w'.heap[k]?=w.heap[k]?:=fun k hk hne=>hgrow.block k hk fun e=>hne e.symm;have hlen:(es++fs).length=n+m:=by rw [zsS,hL.len,hM.len]
  rcases hown.2 with ⟨hv,h0⟩|⟨g',cap,cur,hv,_⟩
  ·subst hv;have h1:Le B none (n+m) 0 (es++fs) w':=⟨by rw [zjA,show n+m=0 by omega];rw [show n+m=0 by omega] at hown;exact hown,hlen⟩;have h2:=h none 0 w' h1 hb hk;rw [show n+m=0 by omega] at h2;exact h2
  ·subst hv;exact h _ cap w' ⟨by rw [zjA];exact hown,hlen⟩ hb hk
def Cs (w:World) (a:Addr) (k:Nat) (e:En):Prop:=w.cell? (a.add (k*11))=some (.int .u64 e.term)∧w.cell? ⟨(a.add (k*11)).block,(a.add (k*11)).off+1,none⟩=some (.int .u64 e.index)∧w.cell? ⟨(a.add (k*11)).block,(a.add (k*11)).off+2,none⟩=some (.int .i64 e.kind)
 ∧ w.cell? ⟨(a.add (k*11)).block,(a.add (k*11)).off+3,none⟩=some (.int .u64 e.client)∧w.cell? ⟨(a.add (k*11)).block,(a.add (k*11)).off+4,none⟩=some (.int .u64 e.seq)∧w.cell? ⟨(a.add (k*11)).block,(a.add (k*11)).off+5,none⟩=some (.int .u64 e.block)
 ∧ w.cell? ⟨(a.add (k*11)).block,(a.add (k*11)).off+6,none⟩=some (.int .u64 e.many)∧w.cell? ⟨(a.add (k*11)).block,(a.add (k*11)).off+7,none⟩=some (.int .i64 e.node)∧w.cell? ⟨(a.add (k*11)).block,(a.add (k*11)).off+8,none⟩=some (.int .i64 e.level)
 ∧ w.cell? ⟨(a.add (k*11)).block,(a.add (k*11)).off+9,none⟩=some (.string e.data)∧w.cell? ⟨(a.add (k*11)).block,(a.add (k*11)).off+10,none⟩=some (.string e.old)
theorem zcJ.cs' {B:Nat} {A:Option Addr} {n:Nat} {es:List En} {w:World} (h:zcJ B A n es w) {k:Nat} {e:En} (he:es[k]?=some e):∃ a,A=some a∧a.block<B∧∀ Z,Below B w Z→Cs Z a k e:=by
 obtain ⟨a,hA,hB,_⟩:=h.cs he;refine ⟨a,hA,hB,fun Z hZ=>?_⟩;obtain ⟨a',hA',_,r⟩:=(h.below hZ).cs he;rw [hA] at hA'
 cases hA'
 exact r
theorem zhO (base:Nat) (A A2:Option Addr) (n c n2 c2:Nat) (l more:List En) (w:World) (hL:zcJ w.heap.size A n l w) (hM:zcJ w.heap.size A2 n2 more w) (hb:base≤1099511627776) (hn:n≤64) (hn2:n2≤64)
 (hix:∀ i e,l[i]?=some e→e.index=((base+i+1:Nat):Int)) (hok:∀ e∈more,e.Ok) :
 Calls Tryz.prog 62 #[.int .u64 base,.slice A n c,.slice A2 n2 c2] w fun q w'=>jnR w.heap.size (jn base l more) q w'∧Below w.heap.size w w':=by
 have HE:=zh hL;have HM:=zh hM;have HIX:=zh hix;have HOK:=zh hok;have hll:Hid (l.length=n):=hL.len;have hml:Hid (more.length=n2):=hM.len;have hB0:=Below.refl w.heap.size w;clear hL hM hix hok;go_enter Tryz.func62,Tryz.ntmps62;go_wp2
 go_loopw [8,9] (fun o i wr=>∃ (k:Nat) (A':Option Addr) (c':Nat),i=.int .i64 k∧o=.slice A' k c'∧k≤n∧Le w.heap.size A' k c' (l.take k) wr∧Below w.heap.size w wr) (fun _ i _=>n-(Go.RowKit.intOf i).toNat)
 case atStart=>exact ⟨0,none,0,rfl,rfl,zsE _,Le.nil _ _,hB0⟩
 case round =>
  obtain ⟨k,A',c',rfl,rfl,hk,hLo,hbw⟩:=hrel
  by_cases hlt:k<n
  ·have t1:decide ((k:Int)<(n:Int))=true:=zsD (by omega);obtain ⟨e,he⟩:∃ e,l[k]?=some e:=⟨_,zsW (by rw [hll.out];exact hlt)⟩;obtain ⟨a,hA,hB,d0,d1,d2,d3,d4,d5,d6,d7,d8,d9,d10⟩:=(HE.out.below hbw).cs he;have hei:e.index=(base:Int)+k+1:=by rw [HIX.out k e he];omega
   have hsn:Hid (l.take (k+1)=l.take k++[e]):=zbw he;have w1:IntKind.u64.wrap (k:Int)=(k:Int):=by rw [zsT];omega
   have w2:IntKind.u64.wrap ((base:Int)+(k:Int))=(base:Int)+(k:Int):=by rw [zsT];omega
   have w3:IntKind.u64.wrap ((base:Int)+(k:Int)+1)=(base:Int)+(k:Int)+1:=by rw [zsT];omega
   obtain ⟨et,ei,ek,ecl_,es_,eb,em,en,el,ed,eo⟩:=e;subst hei;have hq1:((base:Int)+k+1==(base:Int)+k+1)=true:=by simp
   have hq2:((base:Int)+k+1 != (base:Int)+k+1)=false:=by simp
   obtain ⟨E,hE⟩:∃ E,E=(⟨et,(base:Int)+k+1,ek,ecl_,es_,eb,em,en,el,ed,eo⟩:En):=⟨_,rfl⟩;have hbx:Hid (Below w.heap.size w (wr.alloc (.cells (ec ⟨et,(base:Int)+k+1,ek,ecl_,es_,eb,em,en,el,ed,eo⟩) 69))):=hbw.alloc hbw.size _;have hlx:Hid (Le w.heap.size A' k c' (l.take k) (wr.alloc (.cells (ec ⟨et,(base:Int)+k+1,ek,ecl_,es_,eb,em,en,el,ed,eo⟩) 69))):=hLo.below zba;have hpx:Hid ((wr.alloc (.cells (ec ⟨et,(base:Int)+k+1,ek,ecl_,es_,eb,em,en,el,ed,eo⟩) 69)).heap[wr.heap.size]?=some (.cells (ec ⟨et,(base:Int)+k+1,ek,ecl_,es_,eb,em,en,el,ed,eo⟩) 69 (0,0))):=zsz wr _;clear hbw hLo he hB hE;rw [hA];clear hA
   go_wp2_with (at_builtin;refine za8 rfl _ _ rfl _ w.heap.size A' k c' wr.heap.size (l.take k) ⟨et,(base:Int)+k+1,ek,ecl_,es_,eb,em,en,el,ed,eo⟩ rfl rfl hlx.out hpx.out (by omega) hbx.out.size ?_;intro g cap w7 hL7 hb7 hk7)
   go_roundw
   case rel=>exact ⟨k+1,_,cap,by go_num,rfl,by omega,by rw [hsn.out];exact hL7,hbx.out.trans hb7⟩
   case measure=>simp [Go.RowKit.intOf];omega
  ·have hkn:k=n:=by omega
   subst hkn;have t1:decide ((k:Int)<(k:Int))=false:=zsC (by omega);rw [show l.take k=l from zsX (by rw [hll.out];exact zsy _)] at hLo;go_wp2
   go_loopw [8,10] (fun o i wr=>∃ (k:Nat) (A':Option Addr) (m c':Nat) (out:List En),i=.int .i64 k∧o=.slice A' m c'∧k≤n2∧m≤64+k∧Hid (jn base out (more.drop k)=jn base l more)∧Le w.heap.size A' m c' out wr∧Below w.heap.size w wr) (fun _ i _=>n2-(Go.RowKit.intOf i).toNat)
   case atStart=>exact ⟨0,A',k,c',l,rfl,rfl,zsE _,by omega,rfl,hLo,hbw⟩
   case round =>
    clear hlt t1 hLo hbw;obtain ⟨j,A',m,c',out,rfl,rfl,hj,hmk,hjn,hLo,hbw⟩:=hrel
    by_cases hlt:j<n2
    ·have t1:decide ((j:Int)<(n2:Int))=true:=zsD (by omega);obtain ⟨e,he⟩:∃ e,more[j]?=some e:=⟨_,zsW (by rw [hml.out];exact hlt)⟩;obtain ⟨a,hA,hB,hC⟩:=HM.out.cs' he;obtain ⟨d0,d1,d2,d3,d4,d5,d6,d7,d8,d9,d10⟩:=hC wr hbw;have HC:=zh hC
     have hdr:more.drop j=e :: more.drop (j+1):=by
      rw [List.drop_eq_getElem_cons (by rw [hml.out];exact hlt)]
      congr 1
      exact (List.getElem?_eq_some_iff.1 he).2
     have hol:=hLo.len;have hok:=HOK.out e (ztv he);have i0:=hok.i0;have i1:=hok.i1;have hjs:Hid (jn base out (e :: more.drop (j+1))=if e.index≤(base:Int)∨(base:Int)+out.length<e.index-1 then none else jn base (out.take (e.index-1-base).toNat++[e]) (more.drop (j+1))):=rfl;rw [hdr] at hjn;have HLO:=zh hLo;have HBW:=zh hbw;have w1:IntKind.u64.wrap (m:Int)=(m:Int):=by rw [zsT];omega
     have w2:IntKind.u64.wrap ((m:Int)+1)=(m:Int)+1:=by rw [zsT];omega
     clear he hdr hok hLo hbw hC;rw [hA];clear hA
     by_cases hbad:e.index≤(base:Int)∨(base:Int)+m<e.index-1
     ·have hF:Hid (jn base l more=none):=by show _=_;rw [←hjn.out,hjs.out,if_pos (by rw [hol];exact hbad)]
      by_cases hb1:e.index≤(base:Int)
      ·have t2:decide (e.index≤(base:Int))=true:=zsD hb1;clear hbad hol;go_wp2;go_ret2;exact ⟨.inr ⟨hF.out,rfl⟩,HBW.out⟩
      ·have t2:decide (e.index≤(base:Int))=false:=zsC hb1;have w3:IntKind.u64.wrap (e.index-(base:Int))=e.index-(base:Int):=by rw [zsT];omega
       have t3:decide ((m:Int)+1<e.index-(base:Int))=true:=zsD (by omega);clear hbad hol;go_wp2;go_ret2;exact ⟨.inr ⟨hF.out,rfl⟩,HBW.out⟩
     ·have t2:decide (e.index≤(base:Int))=false:=zsC (by omega);have w3:IntKind.u64.wrap (e.index-(base:Int))=e.index-(base:Int):=by rw [zsT];omega
      have t3:decide ((m:Int)+1<e.index-(base:Int))=false:=zsC (by omega);obtain ⟨h,hh⟩:∃ h,h=(e.index-1-base).toNat:=⟨_,rfl⟩;have hhi:e.index-(base:Int)-1=(h:Int):=by omega
      have hhm:h≤m:=by omega
      have w4:IntKind.u64.wrap (h:Int)=(h:Int):=by rw [zsT];omega
      have hnx:Hid (jn base (out.take h++[e]) (more.drop (j+1))=jn base l more):=by
       show _=_;rw [←hjn.out,hjs.out,if_neg (by rw [hol];exact hbad),←hh]
      have hlen:Hid ((out.take h++[e]).length=h+1):=by show _=_;rw [zsS,zsU,hol,Nat.min_eq_left hhm];rfl
      clear hbad hol hh hjs hjn;have HN:Hid (Le wr.heap.size none 0 0 [] wr):=Le.nil _ _;rcases HLO.out.form with ⟨rfl,rfl,rfl,rfl⟩|⟨g,rfl,hmc,hcm,hgl⟩
      ·have hh0:h=0:=by omega
       subst hh0
       go_wp2_with (at_builtin;first
        | (refine zdf rfl _ _ rfl _ wr.heap.size w.heap.size none none 0 0 0 0 [] [] rfl rfl HN.out HLO.out (by omega) (zsy _) 0 (by omega) ?_;intro A8 c8 w8 hL8 hb8 hk8;have hB8:=HBW.out.trans (hb8.mono HBW.out.size);obtain ⟨f0,f1,f2,f3,f4,f5,f6,f7,f8,f9,f10⟩:=HC.out w8 hB8;have HL9:Hid (Le wr.heap.size A8 0 c8 [] (w8.alloc (.cells (ec e) 69))):=hL8.below zba;have HB9:=zh (hB8.alloc hB8.size (.cells (ec e) 69));have HS9:Hid (wr.heap.size≤(w8.alloc (.cells (ec e) 69)).heap.size):=(hb8.alloc hb8.size (.cells (ec e) 69)).size;clear hL8 hb8 hk8 hB8)
        | (refine za8 rfl _ _ rfl _ wr.heap.size A8 0 c8 w8.heap.size [] e rfl rfl HL9.out (zsz w8 _) (by omega) HS9.out ?_;intro g4 cap w9 hL10 hb10 hk10))
       go_roundw
       case rel=>exact ⟨j+1,_,_,cap,_,by go_num,rfl,by omega,by omega,hnx,⟨zbv HBW.out.size hL10.own,hL10.len⟩,HB9.out.trans (hb10.mono HBW.out.size)⟩
       case measure=>simp [Go.RowKit.intOf];omega
      ·have HT:=zh (HLO.out.take hhm);have hhc:¬ (c':Int)<(h:Int):=by omega
       have hhc2:(h:Int)≤(c':Int):=by omega
       go_wp2_with (at_builtin;first
        | (refine zdf rfl _ _ rfl _ wr.heap.size w.heap.size none (some ⟨g,0,none⟩) 0 0 h c' [] (out.take h) rfl rfl HN.out HT.out (by omega) (zsy _) h (by omega) ?_;intro A8 c8 w8 hL8 hb8 hk8;have hB8:=HBW.out.trans (hb8.mono HBW.out.size);obtain ⟨f0,f1,f2,f3,f4,f5,f6,f7,f8,f9,f10⟩:=HC.out w8 hB8;have HL9:Hid (Le wr.heap.size A8 h c8 (out.take h) (w8.alloc (.cells (ec e) 69))):=hL8.below zba;have HB9:=zh (hB8.alloc hB8.size (.cells (ec e) 69));have HS9:Hid (wr.heap.size≤(w8.alloc (.cells (ec e) 69)).heap.size):=(hb8.alloc hb8.size (.cells (ec e) 69)).size;clear hL8 hb8 hk8 hB8)
        | (refine za8 rfl _ _ rfl _ wr.heap.size A8 h c8 w8.heap.size (out.take h) e rfl rfl HL9.out (zsz w8 _) (by omega) HS9.out ?_;intro g4 cap w9 hL10 hb10 hk10))
       go_roundw
       case rel=>exact ⟨j+1,_,_,cap,_,by go_num,rfl,by omega,by omega,hnx,⟨zbv HBW.out.size hL10.own,hL10.len⟩,HB9.out.trans (hb10.mono HBW.out.size)⟩
       case measure=>simp [Go.RowKit.intOf];omega
    ·have t1:decide ((j:Int)<(n2:Int))=false:=zsC (by omega);have hF:more.drop j=[]:=zti (by rw [hml.out];omega);rw [hF] at hjn;have HLO:=zh hLo;clear hLo;go_wp2;go_ret2;exact ⟨.inl ⟨out,A',m,c',hjn.out.symm,rfl,HLO.out⟩,hbw⟩
section
open Dk
def Rvx (w:World) (g:Nat) (K:List (Nat×Obj)) (d:St) (W:World):Prop :=
 ∃ L,Rf W w.heap.size g L d∧(∀ x∈L,w.heap.size≤x)∧Below w.heap.size w W∧∀ p∈K,W.heap[p.1]?=some p.2∧p.1∉L∧w.heap.size≤p.1
section
variable {w W W':World} {g:Nat} {K K':List (Nat×Obj)} {d d':St}
theorem Rvx.c1 {f:Nat} {xs:Array Value} {r:Ending} (h:Rvx w g K d W) (hc:∀ L,Rf W w.heap.size g L d→Calls Tryz.prog f xs W fun x w'=>x=r∧zaA w.heap.size g L d' W w') :
 Calls Tryz.prog f xs W fun x w'=>x=r∧Rvx w g K d' w':=by
 obtain ⟨L,h1,h3,h4,h5⟩:=h;refine (hc L h1).mono fun x w' ⟨hx,a1,a2⟩=>⟨hx,L,a1,h3,zau.below h4 a2 h4.size h3,fun p hp=>?_⟩;obtain ⟨b1,b2,b3⟩:=h5 p hp;exact ⟨(a2.block _ (zgx b1) b2).trans b1,b2,b3⟩
theorem Rvx.be (h:Rvx w g K d W):Below w.heap.size w W:=by obtain ⟨L,h1,h3,h4,h5⟩:=h;exact h4
theorem Rvx.below (h:Rvx w g K d W) (hb:Below W.heap.size W W'):Rvx w g K d W':=by
 obtain ⟨L,h1,h3,h4,h5⟩:=h;exact ⟨L,h1.below hb,h3,h4.trans (hb.mono h4.size),fun p hp=>⟨(hb.block _ (Array.getElem?_eq_some_iff.1 (h5 p hp).1).1).trans (h5 p hp).1,(h5 p hp).2⟩⟩
theorem Rvx.drew (h:Rvx w g K d W):Rvx w g K d W.drew:=h.below (Below.refl _ W).drew
theorem Rvx.get (h:Rvx w g K d W) {k:Nat} {o:Obj} (hm:(k,o)∈K):W.heap[k]?=some o:=by obtain ⟨L,h1,h3,h4,h5⟩:=h;exact (h5 _ hm).1
theorem Rvx.low (h:Rvx w g K d W) {k:Nat} {o:Obj} (hm:(k,o)∈K):w.heap.size≤k:=by obtain ⟨L,h1,h3,h4,h5⟩:=h;exact (h5 _ hm).2.2
theorem Rvx.add (h:Rvx w g K d W) (hb:Below W.heap.size W W') {k:Nat} {o:Obj} (hk:W.heap.size≤k) (ho:W'.heap[k]?=some o):Rvx w g ((k,o) :: K) d W':=by
 have hs:=h.be.size;obtain ⟨L,h1,h3,h4,h5⟩:=h;refine ⟨L,h1.below hb,h3,h4.trans (hb.mono h4.size),fun p hp=>?_⟩;rcases zsL.1 hp with rfl|hp
 ·exact ⟨ho,fun hm=>by have:=h1.lt _ hm;simp at this;omega,zsB hs hk⟩
 ·exact ⟨(hb.block _ (Array.getElem?_eq_some_iff.1 (h5 p hp).1).1).trans (h5 p hp).1,(h5 p hp).2⟩
theorem Rvx.q1 {f:Nat} {xs:Array Value} {r:Ending} (h:Rvx w g K d W) (hc:∀ L,Rf W w.heap.size g L d→Calls Tryz.prog f xs W fun x w'=>x=r∧Below W.heap.size W w') :
 Calls Tryz.prog f xs W fun x w'=>x=r∧Rvx w g K d w'∧Below W.heap.size W w':=by
 have h0:=h;obtain ⟨L,h1,h3,h4,h5⟩:=h;exact (hc L h1).mono fun x w' ⟨hx,hm⟩=>⟨hx,h0.below hm,hm⟩
theorem Rvx.bk (h:Rvx w g K d W):Bk K W:=by obtain ⟨L,h1,h3,h4,h5⟩:=h;exact fun q hq=>(h5 q hq).1
theorem Rvx.drop (h:Rvx w g K d W) (hs:∀ q∈K',q∈K):Rvx w g K' d W:=by obtain ⟨L,h1,h3,h4,h5⟩:=h;exact ⟨L,h1,h3,h4,fun q hq=>h5 q (hs q hq)⟩
theorem Rvx.put {k:Nat} {o o':Obj} (h:Rvx w g ((k,o) :: K) d W) (hn:∀ p∈K,p.1≠k) (h1:W'.heap[k]?=some o') (h2:∀ j,j≠k→W'.heap[j]?=W.heap[j]?) (h3:Below w.heap.size w W'):Rvx w g ((k,o') :: K) d W':=by
 obtain ⟨L,a1,a3,a4,a5⟩:=h;have hk5:=(a5 (k,o) (by simp)).2;refine ⟨L,a1.of_heap fun j hj=>h2 j (fun e=>hk5.1 (by subst e;exact hj)),a3,h3,fun p hp=>?_⟩;rcases zsL.1 hp with rfl|hp
 ·exact ⟨h1,hk5⟩
 ·have:=a5 p (by simp [hp]);exact ⟨(h2 _ (hn p hp)).trans this.1,this.2⟩
theorem Rvx.addLe {B:Nat} {A:Option Addr} {n c:Nat} {es:List En} (h:Rvx w g K d W) (hb:Below W.heap.size W W') (hl:Le B A n c es W') (hB:W.heap.size≤B):∃ K2,Rvx w g (K2++K) d W'∧Lg B K2 A n c es∧∀ q∈K2,W.heap.size≤q.1:=by
 rcases hl.own.2 with ⟨hv,h0⟩|⟨gb,cap,cur,hv,h1,h2,h3⟩
 ·refine ⟨[],h.below hb,fun Z _=>⟨⟨hl.own.1,.inl ⟨hv,h0⟩⟩,hl.len⟩,fun q hq=>by cases hq⟩
 ·refine ⟨[(gb,.cells cur 69 (0,0))],h.add hb (by omega) h2,fun Z hz=>⟨⟨hl.own.1,.inr ⟨gb,cap,cur,hv,h1,hz (gb,.cells cur 69 (0,0)) (by simp),h3⟩⟩,hl.len⟩,fun q hq=>?_⟩;simp at hq;rw [hq];omega
theorem Rvx.hd {w W:World} {g:Nat} {K:List (Nat×Obj)} {d:St} {k:Nat} {o:Obj} (h:Rvx w g ((k,o) :: K) d W):W.heap[k]?=some o:=h.get (by simp)
theorem Rvx.hl {w W:World} {g:Nat} {K:List (Nat×Obj)} {d:St} {k:Nat} {o:Obj} (h:Rvx w g ((k,o) :: K) d W):w.heap.size≤k:=h.low (o:=o) (by simp)
theorem Rvx.puts {w W:World} {g:Nat} {K:List (Nat×Obj)} {d:St} {k t:Nat} {cs:Array Value} (h:Rvx w g ((k,Obj.cells cs t (0,0)) :: K) d W) (hn:∀ q∈K,q.1≠k) (l:List (Nat×Value)) :
 Rvx w g ((k,Obj.cells (setc l cs) t (0,0)) :: K) d (setl k l W):=by
 obtain ⟨i1,i2,i3⟩:=zdC k t l W cs h.hd;exact h.put hn i1 i2 (i3 _ _ h.be h.hl)
theorem Rvx.al {w W:World} {g:Nat} {K:List (Nat×Obj)} {d:St} (h:Rvx w g K d W) (o:Obj):Rvx w g ((W.heap.size,o) :: K) d (W.alloc o):=h.add zba (zsy _) (zsz _ _)
theorem Rvx.lt {w W:World} {g:Nat} {K:List (Nat×Obj)} {d:St} (h:Rvx w g K d W):∀ q∈K,q.1<W.heap.size:=fun q hq=>(Array.getElem?_eq_some_iff.1 (h.bk q hq)).1
theorem Rvx.al2 {w W:World} {g:Nat} {K:List (Nat×Obj)} {d:St} (h:Rvx w g K d W) (x y:Obj):Rvx w g ((W.heap.size+1,y) :: (W.heap.size,x) :: K) d ((W.alloc x).alloc y):=by
 have:=(h.al x).al y
 rw [zsI] at this;exact this
end
end
theorem zdo (p:Ip) (ok:p.Ok) (k:Nat) (hk:k≤1) (w:World):Calls Tryz.prog 50 #[p.val,.int .i64 k] w fun e w'=>e=.returned (.int .i64 (p.aA k:Nat))∧Below w.heap.size w w':=by
 have hB:=(Below.refl w.heap.size w).alloc (zsy _) (.cells p.c 99);have hc:=zsz w (.cells p.c 99);have HB:=zh hB;have hS:=ok.S
 have u1:wrap64 ((k:Int)*(p.S:Int))=(k:Int)*(p.S:Int):=by
  unfold wrap64;rcases (show k=0∨k=1 by omega) with rfl|rfl<;>omega
 have u2:wrap64 (4+(k:Int)*(p.S:Int))=4+(k:Int)*(p.S:Int):=by
  unfold wrap64;rcases (show k=0∨k=1 by omega) with rfl|rfl<;>omega
 have e1:((p.aA k:Nat):Int)=4+(k:Int)*(p.S:Int):=by
  unfold Ip.aA;push_cast;rfl
 obtain ⟨c0,c1,c2,c3,c4,c5,c6⟩:=zao hc;rw [e1];clear hB hc e1 ok;unfold Ip.val at *;go_enter Tryz.func50,Tryz.ntmps50;go_wp2;go_ret;refine ⟨?_,HB.out⟩;show Ending.returned (.int .i64 (wrap64 (4+(k:Int)*(p.S:Int))))=_;rw [u2]
theorem ziE (p:Ip) (ok:p.Ok) (k:Nat) (hk:k≤1) (w:World):Calls Tryz.prog 116 #[p.val,.int .i64 k] w fun e w'=>e=.returned (.int .i64 (p.hA k:Nat))∧Below w.heap.size w w':=by
 have hB:=(Below.refl w.heap.size w).alloc (zsy _) (.cells p.c 99);have hc:=zsz w (.cells p.c 99);have HB:=zh hB;have hS:=ok.S;have hL:=ok.L
 have u1:wrap64 ((k:Int)*(p.L:Int))=(k:Int)*(p.L:Int):=by
  unfold wrap64;rcases (show k=0∨k=1 by omega) with rfl|rfl<;>omega
 have u2:wrap64 (2*(p.S:Int))=2*(p.S:Int):=by unfold wrap64;omega
 have u3:wrap64 (4+2*(p.S:Int))=4+2*(p.S:Int):=by unfold wrap64;omega
 have u4:wrap64 (4+2*(p.S:Int)+(k:Int)*(p.L:Int))=4+2*(p.S:Int)+(k:Int)*(p.L:Int):=by
  unfold wrap64;rcases (show k=0∨k=1 by omega) with rfl|rfl<;>omega
 have e1:((p.hA k:Nat):Int)=4+2*(p.S:Int)+(k:Int)*(p.L:Int):=by
  unfold Ip.hA;push_cast;rfl
 obtain ⟨c0,c1,c2,c3,c4,c5,c6⟩:=zao hc;rw [e1];clear hB hc e1 ok;unfold Ip.val at *;go_enter Tryz.func116,Tryz.ntmps116;go_wp2;go_ret;refine ⟨?_,HB.out⟩;show Ending.returned (.int .i64 (wrap64 (4+2*(p.S:Int)+(k:Int)*(p.L:Int))))=_;rw [u4]
theorem Tryz.rrg3:(Tryz.prog.info? 107).map (fun i=>i.size)=some 3:=by kernel_rfl
theorem zr8 (tmps:Array Value) (w:World) (b:Nat) (c:Array Value) (hc:c.size=3) (hp:tmps.getD 6 undef=.pointer (some ⟨b,0,none⟩)) (hg:w.heap[b]?=some (.cells c 107 (0,0))) :
 (results Tryz.f52 tmps).run Tryz.prog w=.ok (.agg c) w:=by
 rw [zdB Tryz.results52,hp];simp [asAddr,run_loadVar_row w b 107 107 c (0,0) _ hg Tryz.underlying107 rfl (by rw [Tryz.rrg3,hc])]
theorem zdR (p:Ip) (ok:p.Ok) (k:Nat) (hk:k≤1) (v:Int) (w:World):Calls Tryz.prog 52 #[p.val,.int .i64 k,.int .i64 v] w fun e w'=>e=.returned (.agg #[.int .i64 (p.hA k:Nat),.int .i64 p.L,.int .i64 v])∧Below w.heap.size w w':=by
 obtain ⟨W,hW⟩:∃ W,W=(w.alloc (.cells p.c 99)).alloc (.cells #[.int .i64 0,.int .i64 0,.int .i64 0] 107):=⟨_,rfl⟩;have hB:Below w.heap.size w W:=by rw [hW];exact ((Below.refl _ w).alloc (zsy _) _).alloc (by simp) _
 have hc:W.heap[w.heap.size]?=some (.cells p.c 99 (0,0)):=by rw [hW];exact (zsG _ _ _ (by simp)).trans (zsz w _)
 have hd:W.heap[w.heap.size+1]?=some (.cells #[.int .i64 0,.int .i64 0,.int .i64 0] 107 (0,0)):=by rw [hW];exact heap_alloc2_new w _ _
 have HB:=zh hB;have HC:=zh hc;have HD:=zh hd;have HW:=zh hW;have K:=zh (fun W=>ziE p ok k hk W);obtain ⟨x,hx⟩:∃ x:Int,x=((p.hA k:Nat):Int):=⟨_,rfl⟩;rw [←hx] at K ⊢;have hcd:W.drew.heap[w.heap.size]?=some (.cells p.c 99 (0,0)):=hc;obtain ⟨c0,c1,c2,c3,c4,c5,c6⟩:=zao hcd;clear hB hc hd hW hx ok;unfold Ip.val at *;go_enter Tryz.func52,Tryz.ntmps52
 go_upto_region 1 with fail
 refine zaf (w:=W) HW.out.symm ?_;have hdd:W.drew.heap[w.heap.size+1]?=some (.cells #[.int .i64 0,.int .i64 0,.int .i64 0] 107 (0,0)):=HD.out;have g0:=zcr W.drew (w.heap.size+1) 0 _ 107 (0,0) hdd;have g1:=zcr W.drew (w.heap.size+1) 1 _ 107 (0,0) hdd;have g2:=zcr W.drew (w.heap.size+1) 2 _ 107 (0,0) hdd;have f0:=frozen_of_row W.drew (w.heap.size+1) 0 _ 107 hdd;have f1:=frozen_of_row W.drew (w.heap.size+1) 1 _ 107 hdd;have f2:=frozen_of_row W.drew (w.heap.size+1) 2 _ 107 hdd
 go_region_held3 (fun w'=>w'.cell? ⟨w.heap.size,0,none⟩=some (.int .i64 p.v)∧w'.cell? ⟨w.heap.size,1,none⟩=some (.int .i64 p.S)∧w'.cell? ⟨w.heap.size,2,none⟩=some (.int .i64 p.L)∧w'.cell? ⟨w.heap.size,3,none⟩=some (.int .i64 p.a)∧w'.cell? ⟨w.heap.size,4,none⟩=some (.int .i64 p.h)∧w'.cell? ⟨w.heap.size,5,none⟩=some (.int .i64 p.gl)∧w'.cell? ⟨w.heap.size,6,none⟩=some (.int .i64 p.sp)) (first|exact ⟨c0,c1,c2,c3,c4,c5,c6⟩|exact ⟨d0,d1,d2,d3,d4,d5,d6⟩|exact ⟨(sc3 rfl).trans d0,(sc3 rfl).trans d1,(sc3 rfl).trans d2,(sc3 rfl).trans d3,(sc3 rfl).trans d4,(sc3 rfl).trans d5,(sc3 rfl).trans d6⟩) (first
  | (go_at_call 116;(with_reducible refine (K.out _).mono ?_);rintro q w1 ⟨rfl,b1⟩;have HC1:w1.heap[w.heap.size]?=some (.cells p.c 99 (0,0)):=(b1.block _ (zgx HC.out)).trans HC.out;obtain ⟨d0,d1,d2,d3,d4,d5,d6⟩:=zao HC1;have HD1:w1.heap[w.heap.size+1]?=some (.cells #[.int .i64 0,.int .i64 0,.int .i64 0] 107 (0,0)):=(b1.block _ (zgx HD.out)).trans HD.out;have HB1:=HB.out.drew.trans (b1.mono HB.out.size);have k0:=zcr w1 (w.heap.size+1) 0 _ 107 (0,0) HD1;have k1:=zcr w1 (w.heap.size+1) 1 _ 107 (0,0) HD1;have k2:=zcr w1 (w.heap.size+1) 2 _ 107 (0,0) HD1;have l0:=frozen_of_row w1 (w.heap.size+1) 0 _ 107 HD1;have l1:=frozen_of_row w1 (w.heap.size+1) 1 _ 107 HD1;have l2:=frozen_of_row w1 (w.heap.size+1) 2 _ 107 HD1))
 have H9:((((w1.setCell ⟨w.heap.size+1,0,none⟩ (.int .i64 x)).setCell ⟨w.heap.size+1,1,none⟩ (.int .i64 p.L)).setCell ⟨w.heap.size+1,2,none⟩ (.int .i64 v))).heap[w.heap.size+1]?=some (.cells #[.int .i64 x,.int .i64 p.L,.int .i64 v] 107 (0,0)) :=
  (heap_setCell_same _ _ 2 _ 107 _ ((heap_setCell_same _ _ 1 _ 107 _ ((heap_setCell_same _ _ 0 _ 107 _ HD1).trans rfl)).trans rfl)).trans rfl
 have HB9:Below w.heap.size w ((((w1.setCell ⟨w.heap.size+1,0,none⟩ (.int .i64 x)).setCell ⟨w.heap.size+1,1,none⟩ (.int .i64 p.L)).setCell ⟨w.heap.size+1,2,none⟩ (.int .i64 v))) :=
  ((HB1.setCell (by show _≤w.heap.size+1;omega) _).setCell (by show _≤w.heap.size+1;omega) _).setCell (by show _≤w.heap.size+1;omega) _
 go_wp2;exact zsF (v:=_) (zr8 _ _ (w.heap.size+1) _ rfl rfl H9) rfl ⟨rfl,HB9⟩
section
open Dk
open Ar (Sn sn0)
open J.Sl (Su Hd su0 hd0 sec)
open J (setS setH ldS ldH ldE)
theorem Rvx.now {w W:World} {g:Nat} {K:List (Nat×Obj)} {d:St} (h:Rvx w g K d W):∃ g1 k1,W.cell? ⟨g,0,none⟩=some (.slice (some ⟨g1,0,none⟩) d.n k1):=by
 obtain ⟨L,h1,h3,h4,h5⟩:=h;obtain ⟨g1,k1,g2,k2,g3,k3,rfl,hA⟩:=RAt.of_rf h1;exact ⟨g1,k1,hA.c 0⟩
theorem Rvx.gltt {w W:World} {g:Nat} {K:List (Nat×Obj)} {d:St} (h:Rvx w g K d W):g<W.heap.size:=by
 obtain ⟨L,h1,h3,h4,h5⟩:=h;obtain ⟨g1,k1,g2,k2,g3,k3,rfl,hA⟩:=RAt.of_rf h1;exact h1.lt g (by simp)
theorem zko {w W:World} {g:Nat} {K:List (Nat×Obj)} {d d1 d2 d3 d4:St} {v:Int} {S L:Nat} {z:Int} {d5:St} (h:Rvx w g K d W) (ok:(Ip.mk v S L 0 0 0 0).Ok) (hn:4+2*(S+L)≤d.n)
 (e1:Ar.arW d ((Ip.mk v S L 0 0 0 0).aA 0:Nat) (S:Nat) v sn0=(d1,0)) (e2:zdr d1 ((Ip.mk v S L 0 0 0 0).hA 0) L v []=(d2,0)) (e2o:onB d1.n ((Ip.mk v S L 0 0 0 0).hA 0) L v=true) (e3:d2.flush=(d3,0)) (e4:setH d3 v hd0=(d4,0)) (e5:setS d4 (Ip.mk v S L 0 0 0 0).su=(d5,z)) :
 Calls Tryz.prog 14 #[ptr g,.int .i64 v,.int .i64 S,.int .i64 L] W fun x w'=>x=.returned (.int .i64 z)∧Rvx w g K d5 w':=by
 obtain ⟨p,hp⟩:∃ p,p=Ip.mk v S L 0 0 0 0:=⟨_,rfl⟩;have hpc:p.c=#[.int .i64 v,.int .i64 S,.int .i64 L,.int .i64 0,.int .i64 0,.int .i64 0,.int .i64 0]:=by rw [hp];rfl
 have hpsu:p.su.val=.agg p.c:=rfl;have hrgt:J.Sl.rgt p.su=true:=zhc (hp▸ok) (by rw [hp]) (by rw [hp])
 have hsu:sec p.su=4+2*((S:Int)+L):=by
  unfold J.Sl.sec;rw [if_pos hrgt,hp];rfl
 rw [←hp] at ok e1 e2 e2o e5;have hS:=ok.S;have hL:=ok.L;have hh0:p.aA 0=4:=by unfold Ip.aA;omega
 obtain ⟨W1,hW1⟩:∃ W1,W1=W.alloc (.cells p.c 99):=⟨_,rfl⟩;obtain ⟨B,hB⟩:∃ B,B=W.heap.size:=⟨_,rfl⟩;have h1:Rvx w g ((B,Obj.cells p.c 99 (0,0)) :: K) d W1:=by rw [hW1,hB];exact h.al _
 obtain ⟨K1,hK1⟩:∃ K1,K1=(B,Obj.cells p.c 99 (0,0)) :: K:=⟨_,rfl⟩;rw [←hK1] at h1
 have KP:Hid (∀ Z d',Rvx w g K1 d' Z→Z.cell? ⟨B,0,none⟩=some (.int .i64 v)∧Z.cell? ⟨B,1,none⟩=some (.int .i64 S)∧Z.cell? ⟨B,2,none⟩=some (.int .i64 L)∧Z.cell? ⟨B,3,none⟩=some (.int .i64 0)∧Z.cell? ⟨B,4,none⟩=some (.int .i64 0)∧Z.cell? ⟨B,5,none⟩=some (.int .i64 0)∧Z.cell? ⟨B,6,none⟩=some (.int .i64 0)):=fun Z d' hZ=>by
  rw [hK1] at hZ
  have:=zao hZ.hd
  rw [hp] at this;exact this
 have KR:Hid (∀ Z,Rvx w g K1 d Z→Calls Tryz.prog 47 #[.agg #[.int .i64 v,.int .i64 S,.int .i64 L,.int .i64 0,.int .i64 0,.int .i64 0,.int .i64 0]] Z fun e w'=>e=.returned (.bool true)∧Rvx w g K1 d w'):=fun Z hZ=>by
  have:=J.zaW p.su Z
  rw [hrgt,hpsu,hpc] at this;exact this.mono fun e w' ⟨x1,x2⟩=>⟨x1,hZ.below x2⟩
 have KS:Hid (∀ Z,Rvx w g K1 d Z→Calls Tryz.prog 48 #[.agg #[.int .i64 v,.int .i64 S,.int .i64 L,.int .i64 0,.int .i64 0,.int .i64 0,.int .i64 0]] Z fun e w'=>e=.returned (.int .i64 (4+2*((S:Int)+L)))∧Rvx w g K1 d w'∧Below Z.heap.size Z w'):=fun Z hZ=>by
  have:=J.zem p.su Z
  rw [hsu,hpsu,hpc] at this;exact this.mono fun e w' ⟨x1,x2⟩=>⟨x1,hZ.below x2,x2⟩
 have KA:Hid (∀ Z,Rvx w g K1 d Z→Calls Tryz.prog 50 #[.agg #[.int .i64 v,.int .i64 S,.int .i64 L,.int .i64 0,.int .i64 0,.int .i64 0,.int .i64 0],.int .i64 0] Z fun e w'=>e=.returned (.int .i64 (p.aA 0:Nat))∧Rvx w g K1 d w'):=fun Z hZ=>by
  have:=zdo p ok 0 (by omega) Z
  rw [show p.val=.agg p.c from rfl,hpc] at this;exact this.mono fun e w' ⟨x1,x2⟩=>⟨x1,hZ.below x2⟩
 have KH:Hid (∀ Z,Rvx w g K1 d1 Z→Calls Tryz.prog 52 #[.agg #[.int .i64 v,.int .i64 S,.int .i64 L,.int .i64 0,.int .i64 0,.int .i64 0,.int .i64 0],.int .i64 0,.int .i64 v] Z fun e w'=>e=.returned (.agg #[.int .i64 (p.hA 0:Nat),.int .i64 L,.int .i64 v])∧Rvx w g K1 d1 w'):=fun Z hZ=>by
  have:=zdR p ok 0 (by omega) v Z
  rw [show p.val=.agg p.c from rfl,hpc,show p.L=L by rw [hp]] at this;exact this.mono fun e w' ⟨x1,x2⟩=>⟨x1,hZ.below x2⟩
 have KW:Hid (∀ Z,Rvx w g K1 d Z→Calls Tryz.prog 49 #[ptr g,.int .i64 (p.aA 0:Nat),.int .i64 S,.int .i64 v,.agg #[.int .u64 0,.int .u64 0,.string ⟨#[]⟩]] Z fun x w'=>x=.returned (.int .i64 0)∧Rvx w g K1 d1 w'):=fun Z hZ=>by
  refine hZ.c1 fun L' hD=>?_
  have:=Ar.zhN w.heap.size g L' d (p.aA 0:Nat) (S:Nat) v sn0 Z hD hZ.be.size zi9 (by omega)
  rw [e1] at this;exact this
 have KF:Hid (∀ Z,Rvx w g K1 d1 Z→Calls Tryz.prog 51 #[ptr g,.agg #[.int .i64 (p.hA 0:Nat),.int .i64 L,.int .i64 v],.slice none 0 0] Z fun x w'=>x=.returned (.int .i64 0)∧Rvx w g K1 d2 w'):=fun Z hZ=>by
  refine hZ.c1 fun L' hD=>?_
  have:=zh6 w.heap.size g L' d1 (p.hA 0) L v none 0 0 [] Z hD (zcI.nil K1 Z hZ.bk) (by omega) (by simp) e2o (by
   unfold rcO;have hv:=ok.v;rw [show p.v=v by rw [hp]] at hv;show (decide (v=1∨v=2)&&_)=true;rw [zsD hv]
   rfl)
  rw [e2] at this;exact this
 have KL:Hid (∀ Z,Rvx w g K1 d2 Z→Calls Tryz.prog 53 #[ptr g] Z fun x w'=>x=.returned (.int .i64 0)∧Rvx w g K1 d3 w'):=fun Z hZ=>by
  refine hZ.c1 fun L' hD=>?_
  have:=zcn w.heap.size g L' d2 Z hD
  rw [e3] at this;exact this
 have KSH:Hid (∀ Z,Rvx w g K1 d3 Z→Calls Tryz.prog 54 #[ptr g,.int .i64 v,.agg #[.int .u64 0,.int .i64 0,.int .u64 0]] Z fun x w'=>x=.returned (.int .i64 0)∧Rvx w g K1 d4 w'):=fun Z hZ=>by
  refine hZ.c1 fun L' hD=>?_
  have:=J.zel w.heap.size g L' d3 v hd0 Z hD zja
  rw [e4] at this;exact this
 have KSS:Hid (∀ Z,Rvx w g K1 d4 Z→Calls Tryz.prog 55 #[ptr g,.agg #[.int .i64 v,.int .i64 S,.int .i64 L,.int .i64 0,.int .i64 0,.int .i64 0,.int .i64 0]] Z fun x w'=>x=.returned (.int .i64 z)∧Rvx w g K1 d5 w'):=fun Z hZ=>by
  refine hZ.c1 fun L' hD=>?_
  have:=J.zdF w.heap.size g L' d4 p.su Z hD
  rw [e5,hpsu,hpc] at this;exact this
 obtain ⟨X,hX⟩:∃ X:Int,X=4+2*((S:Int)+L):=⟨_,rfl⟩;have t3:decide ((d.n:Int)<X)=false:=zsC (by omega);rw [←hX] at KS;obtain ⟨xa,hxa⟩:∃ x:Int,x=((p.aA 0:Nat):Int):=⟨_,rfl⟩;obtain ⟨xh,hxh⟩:∃ x:Int,x=((p.hA 0:Nat):Int):=⟨_,rfl⟩;rw [←hxa] at KA KW;rw [←hxh] at KH KF;have KN:Hid (∀ Z,Rvx w g K1 d Z→∃ g1 k1,Z.cell? ⟨g,0,none⟩=some (.slice (some ⟨g1,0,none⟩) d.n k1)):=fun Z hZ=>hZ.now;have KD:Hid (∀ Z,Rvx w g K1 d5 Z→Rvx w g K d5 Z):=fun Z hZ=>hZ.drop fun q hq=>by rw [hK1];exact zsA _ hq
 have H1:=zh h1;rw [hpc] at hW1;have HW1:=zh hW1;have HB:=zh hB;obtain ⟨c0,c1,c2,c3,c4,c5,c6⟩:=KP.out _ _ h1;clear hX hxa hxh e1 e2 e2o e3 e4 e5 h1 hK1 hB hW1 hh0 hrgt hsu ok hpsu hpc hp hn h;unfold ptr at *;go_enter Tryz.func14,Tryz.ntmps14
 go_upto_region 2 with fail
 refine zaf (w:=W1) HW1.out.symm ?_;rw [←HB.out]
 go_upto_region 3 with (go_at_call 47;(with_reducible refine (KR.out _ H1.out).mono ?_);rintro q w1 ⟨rfl,h2⟩)
 have H2:=zh h2;obtain ⟨g1,k1,n0⟩:=KN.out _ h2;have n0d:w1.drew.cell? ⟨g,0,none⟩=some (.slice (some ⟨g1,0,none⟩) d.n k1):=n0;obtain ⟨a0,a1,a2,a3,a4,a5,a6⟩:=KP.out _ _ h2.drew;clear h2 c0 c1 c2 c3 c4 c5 c6
 go_region_held3 (fun w'=>w'.cell? ⟨g,0,none⟩=some (.slice (some ⟨g1,0,none⟩) d.n k1)∧w'.cell? ⟨B,0,none⟩=some (.int .i64 v)∧w'.cell? ⟨B,1,none⟩=some (.int .i64 S)∧w'.cell? ⟨B,2,none⟩=some (.int .i64 L)∧w'.cell? ⟨B,3,none⟩=some (.int .i64 0)∧w'.cell? ⟨B,4,none⟩=some (.int .i64 0)∧w'.cell? ⟨B,5,none⟩=some (.int .i64 0)∧w'.cell? ⟨B,6,none⟩=some (.int .i64 0)) (first|exact ⟨n0d,a0,a1,a2,a3,a4,a5,a6⟩|exact ⟨m0,b0,b1,b2,b3,b4,b5,b6⟩) (first
  | (go_at_call 48;(with_reducible refine (KS.out _ (Rvx.drew H2.out)).mono ?_);rintro q w3 ⟨rfl,h3,bb⟩;have m0:w3.cell? ⟨g,0,none⟩=some (.slice (some ⟨g1,0,none⟩) d.n k1):=(bb.cell (by have:=(Rvx.drew H2.out).gltt;exact this)).trans n0d;obtain ⟨b0,b1,b2,b3,b4,b5,b6⟩:=KP.out _ _ h3))
 have H3:=zh h3;clear h3 m0 a0 a1 a2 a3 a4 a5 a6 n0 n0d
 go_upto_region 5 with fail
 go_upto_region 6 with (first
  | (go_at_call 50;(with_reducible refine (KA.out _ H3.out).mono ?_);rintro q w4 ⟨rfl,h4⟩;have H4:=zh h4;clear h4)
  | (go_at_call 49;(with_reducible refine (KW.out _ H4.out).mono ?_);rintro q w5 ⟨rfl,h5⟩))
 have H5:=zh h5;obtain ⟨b0,b1,b2,b3,b4,b5,b6⟩:=KP.out _ _ h5;clear h5
 go_upto_region 8 with (first
  | (go_at_call 52;(with_reducible refine (KH.out _ H5.out).mono ?_);rintro q w6 ⟨rfl,h6⟩;have H6:=zh h6;clear h6)
  | (go_at_call 51;(with_reducible refine (KF.out _ H6.out).mono ?_);rintro q w7 ⟨rfl,h7⟩))
 have H7:=zh h7;clear h7
 go_upto_region 10 with (go_at_call 53;(with_reducible refine (KL.out _ H7.out).mono ?_);rintro q w8 ⟨rfl,h8⟩)
 have H8:=zh h8;clear h8
 go_upto_region 12 with (go_at_call 54;(with_reducible refine (KSH.out _ H8.out).mono ?_);rintro q w9 ⟨rfl,h9⟩)
 have H9:=zh h9;obtain ⟨b0,b1,b2,b3,b4,b5,b6⟩:=KP.out _ _ h9;clear h9
 go_wp2_with (go_at_call 55;(with_reducible refine (KSS.out _ H9.out).mono ?_);rintro q w10 ⟨rfl,h10⟩)
 go_ret;exact ⟨rfl,KD.out _ h10⟩
end
section
open Dk
open Ar (Sn sn0)
open J.Sl (Su Hd su0 hd0 sec)
open J (setS setH ldS ldH ldE)
theorem zfs {w:World} {b g:Nat} {S:Su} {H:Hd} {s:Sn} {lg:Value} {u:Int} (h:w.heap[b]?=some (.cells (imc g S H s lg u) 124 (0,0))) :
 w.cell? ⟨b,0,none⟩=some (.pointer (some ⟨g,0,none⟩))∧w.cell? ⟨b,1,none⟩=some (.int .i64 S.v)∧w.cell? ⟨b,2,none⟩=some (.int .i64 S.sn)∧w.cell? ⟨b,3,none⟩=some (.int .i64 S.lg)∧w.cell? ⟨b,4,none⟩=some (.int .i64 S.ar)∧w.cell? ⟨b,5,none⟩=some (.int .i64 S.hf)∧w.cell? ⟨b,6,none⟩=some (.int .i64 S.gl)∧w.cell? ⟨b,7,none⟩=some (.int .i64 S.sp)∧w.cell? ⟨b,8,none⟩=some (.int .u64 H.tm)∧w.cell? ⟨b,9,none⟩=some (.int .i64 H.vo)∧w.cell? ⟨b,10,none⟩=some (.int .u64 H.cm)∧w.cell? ⟨b,11,none⟩=some (.int .u64 s.ix)∧w.cell? ⟨b,12,none⟩=some (.int .u64 s.tm)∧w.cell? ⟨b,13,none⟩=some (.string s.da)∧w.cell? ⟨b,14,none⟩=some (lg)∧w.cell? ⟨b,15,none⟩=some (.int .i64 u) :=
 ⟨zcr _ _ 0 _ 124 (0,0) h,zcr _ _ 1 _ 124 (0,0) h,zcr _ _ 2 _ 124 (0,0) h,zcr _ _ 3 _ 124 (0,0) h,zcr _ _ 4 _ 124 (0,0) h,zcr _ _ 5 _ 124 (0,0) h,zcr _ _ 6 _ 124 (0,0) h,zcr _ _ 7 _ 124 (0,0) h,zcr _ _ 8 _ 124 (0,0) h,zcr _ _ 9 _ 124 (0,0) h,zcr _ _ 10 _ 124 (0,0) h,zcr _ _ 11 _ 124 (0,0) h,zcr _ _ 12 _ 124 (0,0) h,zcr _ _ 13 _ 124 (0,0) h,zcr _ _ 14 _ 124 (0,0) h,zcr _ _ 15 _ 124 (0,0) h⟩
theorem zl4 {w:World} {b:Nat} {cs:Array Value} (h:w.heap[b]?=some (.cells cs 124 (0,0))) :
 w.frozen? ⟨b,1,none⟩=false∧w.frozen? ⟨b,2,none⟩=false∧w.frozen? ⟨b,3,none⟩=false∧w.frozen? ⟨b,4,none⟩=false∧w.frozen? ⟨b,5,none⟩=false∧w.frozen? ⟨b,6,none⟩=false∧w.frozen? ⟨b,7,none⟩=false∧w.frozen? ⟨b,8,none⟩=false∧w.frozen? ⟨b,9,none⟩=false∧w.frozen? ⟨b,10,none⟩=false∧w.frozen? ⟨b,11,none⟩=false∧w.frozen? ⟨b,12,none⟩=false∧w.frozen? ⟨b,13,none⟩=false∧w.frozen? ⟨b,14,none⟩=false∧w.frozen? ⟨b,15,none⟩=false :=
 ⟨frozen_of_row _ _ 1 _ 124 h,frozen_of_row _ _ 2 _ 124 h,frozen_of_row _ _ 3 _ 124 h,frozen_of_row _ _ 4 _ 124 h,frozen_of_row _ _ 5 _ 124 h,frozen_of_row _ _ 6 _ 124 h,frozen_of_row _ _ 7 _ 124 h,frozen_of_row _ _ 8 _ 124 h,frozen_of_row _ _ 9 _ 124 h,frozen_of_row _ _ 10 _ 124 h,frozen_of_row _ _ 11 _ 124 h,frozen_of_row _ _ 12 _ 124 h,frozen_of_row _ _ 13 _ 124 h,frozen_of_row _ _ 14 _ 124 h,frozen_of_row _ _ 15 _ 124 h⟩
theorem zr9 {w:World} {b g:Nat} {p:Ip} {H:Hd} {s:Sn} {lg:Value} {u:Int} (h:w.heap[b]?=some (.cells (imc g p.su H s lg u) 124 (0,0))) :
 w.cell? ⟨b,0,none⟩=some (.pointer (some ⟨g,0,none⟩))∧w.cell? ⟨b,1,none⟩=some (.int .i64 p.v)∧w.cell? ⟨b,2,none⟩=some (.int .i64 p.S)∧w.cell? ⟨b,3,none⟩=some (.int .i64 p.L)∧w.cell? ⟨b,4,none⟩=some (.int .i64 p.a)∧w.cell? ⟨b,5,none⟩=some (.int .i64 p.h)∧w.cell? ⟨b,6,none⟩=some (.int .i64 p.gl)∧w.cell? ⟨b,7,none⟩=some (.int .i64 p.sp) :=
 ⟨zcr _ _ 0 _ 124 (0,0) h,zcr _ _ 1 _ 124 (0,0) h,zcr _ _ 2 _ 124 (0,0) h,zcr _ _ 3 _ 124 (0,0) h,zcr _ _ 4 _ 124 (0,0) h,zcr _ _ 5 _ 124 (0,0) h,zcr _ _ 6 _ 124 (0,0) h,zcr _ _ 7 _ 124 (0,0) h⟩
theorem ziF {w W:World} {g pn:Nat} {K:List (Nat×Obj)} {d d':St} {p:Ip} {H hh:Hd} {s:Sn} {lg:Value} {u:Int} (h:Rvx w g ((pn,Obj.cells (imc g p.su H s lg u) 124 (0,0)) :: K) d W) (hK:∀ q∈K,q.1≠pn) (hg:p.gl=0) (ho:hh.Ok)
 (hs:setH d p.v hh=(d',0)) :
 Calls Tryz.prog 65 #[ptr pn,hh.val] W fun x w'=>x=.returned (.int .i64 0)∧Rvx w g ((pn,Obj.cells (imc g p.su hh s lg u) 124 (0,0)) :: K) d' w':=by
 obtain ⟨W1,hW1⟩:∃ W1,W1=W.alloc (.cells hh.c 110):=⟨_,rfl⟩;obtain ⟨B,hB⟩:∃ B,B=W.heap.size:=⟨_,rfl⟩;have hlp:pn<B:=by rw [hB];exact h.lt _ (zsO ..)
 obtain ⟨K0,hK0⟩:∃ K0,K0=(B,Obj.cells hh.c 110 (0,0)) :: K:=⟨_,rfl⟩
 have h1:Rvx w g ((pn,Obj.cells (imc g p.su H s lg u) 124 (0,0)) :: K0) d W1:=by
  have:=h.al (.cells hh.c 110)
  rw [hW1,hK0,hB];exact this.drop fun q hq=>by simp only [zsL] at hq ⊢;rcases hq with h|h|h<;>simp [h]
 have hK0n:∀ q∈K0,q.1≠pn:=fun q hq=>by
  rw [hK0] at hq;rcases zsL.1 hq with rfl|hq
  ·show B≠pn;omega
  ·exact hK q hq
 have hm:(B,Obj.cells hh.c 110 (0,0))∈K0:=by rw [hK0];simp
 have KW:Hid (∀ Z,Rvx w g ((pn,Obj.cells (imc g p.su H s lg u) 124 (0,0)) :: K0) d Z→Calls Tryz.prog 54 #[ptr g,.int .i64 p.v,.agg #[.int .u64 hh.tm,.int .i64 hh.vo,.int .u64 hh.cm]] Z fun x w'=>x=.returned (.int .i64 0)∧Rvx w g ((pn,Obj.cells (imc g p.su H s lg u) 124 (0,0)) :: K0) d' w'):=fun Z hZ=>by
  refine hZ.c1 fun L hD=>?_
  have:=J.zel w.heap.size g L d p.v hh Z hD ho
  rw [hs] at this;exact this
 have KC:Hid (∀ Z d',Rvx w g ((pn,Obj.cells (imc g p.su H s lg u) 124 (0,0)) :: K0) d' Z→(Z.cell? ⟨pn,0,none⟩=some (.pointer (some ⟨g,0,none⟩))∧Z.cell? ⟨pn,1,none⟩=some (.int .i64 p.v)∧Z.cell? ⟨pn,2,none⟩=some (.int .i64 p.S)∧Z.cell? ⟨pn,3,none⟩=some (.int .i64 p.L)∧Z.cell? ⟨pn,4,none⟩=some (.int .i64 p.a)∧Z.cell? ⟨pn,5,none⟩=some (.int .i64 p.h)∧Z.cell? ⟨pn,6,none⟩=some (.int .i64 p.gl)∧Z.cell? ⟨pn,7,none⟩=some (.int .i64 p.sp))∧Z.cell? ⟨B,0,none⟩=some (.int .u64 hh.tm)∧Z.cell? ⟨B,1,none⟩=some (.int .i64 hh.vo)∧Z.cell? ⟨B,2,none⟩=some (.int .u64 hh.cm)):=fun Z d' hZ =>
  ⟨zr9 hZ.hd,zaw (hZ.get (zsA _ hm))⟩
 have KD:Hid (∀ Z c,Rvx w g ((pn,c) :: K0) d' Z→Rvx w g ((pn,c) :: K) d' Z):=fun Z c hZ=>hZ.drop fun q hq=>by
  rw [hK0];simp only [zsL] at hq ⊢;rcases hq with h|h<;>simp [h]
 have H1:=zh h1;have HN:=zh hK0n;have HW1:=zh hW1;have HB:=zh hB;obtain ⟨⟨c0,c1,c2,c3,c4,c5,c6,c7⟩,e0,e1,e2⟩:=KC.out _ _ h1.drew;have c6':W1.cell? ⟨pn,6,none⟩=some (.int .i64 0):=by rw [←hg];exact c6
 clear c6 h1 hm hK0n hK0 hlp hB hW1 h hK hg ho hs;unfold J.Sl.Hd.val ptr at *;go_enter Tryz.func65,Tryz.ntmps65
 go_upto_region 1 with fail
 refine zaf (w:=W1) HW1.out.symm ?_;rw [←HB.out]
 go_upto_region 3 with fail
 go_region_held3 (fun w'=>w'.cell? ⟨pn,0,none⟩=some (.pointer (some ⟨g,0,none⟩))∧w'.cell? ⟨pn,1,none⟩=some (.int .i64 p.v)∧w'.cell? ⟨B,0,none⟩=some (.int .u64 hh.tm)∧w'.cell? ⟨B,1,none⟩=some (.int .i64 hh.vo)∧w'.cell? ⟨B,2,none⟩=some (.int .u64 hh.cm)) (first|exact ⟨c0,c1,e0,e1,e2⟩|exact ⟨v0,v1,r0,r1,r2⟩) (first
  | (go_at_call 54;(with_reducible refine (KW.out _ (Rvx.drew H1.out)).mono ?_);rintro q w2 ⟨rfl,H2⟩;obtain ⟨⟨v0,v1,v2,v3,v4,v5,v6,v7⟩,r0,r1,r2⟩:=KC.out _ _ H2))
 obtain ⟨x1,x2,x3,x4,x5,x6,x7,x8,x9,x10,x11,x12,x13,x14,x15⟩:=zl4 H2.hd;obtain ⟨y0,y1,y2,y3,y4,y5,y6,y7,y8,y9,y10,y11,y12,y13,y14,y15⟩:=zfs H2.hd;have HH2:=zh H2;clear H2;go_wp2;go_ret;have h9:=HH2.out.puts HN.out [(8,.int .u64 hh.tm),(9,.int .i64 hh.vo),(10,.int .u64 hh.cm)];rw [zje] at h9;exact ⟨rfl,KD.out _ _ h9⟩
end
section
open Dk
open Ar (Sn sn0)
open J.Sl (Su Hd su0 hd0 sec)
open J (setS setH ldS ldH ldE)
structure zrV (d:St) (g:Nat) (p:Ip) (H:Hd) (s:Sn) (es lgs:List En) (u:Nat) (d':St):Prop where
 ok:p.Ok
 e:ldE d=0
 su:ldS d=p.su
 hd:ldH d=H
 a:Ar.arR d (p.aA p.a:Nat) (p.S:Nat)=(s,p.v,0)
 r:∀ B L Z,Rf Z B g L d→Calls Tryz.prog 61 #[ptr g,RG (p.hA p.h:Nat) p.L p.v] Z fun x w'=>∃ A n c,x=.returned (.tuple #[.slice A n c,.int .i64 u,.int .i64 0])∧Le Z.heap.size A n c es w'∧Below Z.heap.size Z w'
 j:∀ A n c Z,zcJ Z.heap.size A n es Z→Calls Tryz.prog 62 #[.int .u64 s.ix,.slice none 0 0,.slice A n c] Z fun x w'=>∃ A' n' c',x=.returned (.tuple #[.slice A' n' c',.bool true])∧Le Z.heap.size A' n' c' lgs w'∧Below Z.heap.size Z w'
 on:onB d.n (p.hA p.h) p.L p.v=true
 le:u≤p.L*64
 w:wipG d (p.hA p.h) p.L u=(d',0)
theorem zl5 {w W:World} {g:Nat} {K:List (Nat×Obj)} {d d':St} {p:Ip} {H:Hd} {s:Sn} {es lgs:List En} {u:Nat} (h:Rvx w g K d W) (hm:zrV d g p H s es lgs u d') :
 Calls Tryz.prog 16 #[ptr g] W fun x w'=>∃ pn A n c K2,x=.returned (.tuple #[ptr pn,.int .i64 0])∧Rvx w g ((pn,Obj.cells (imc g p.su H s (.slice A n c) u) 124 (0,0)) :: (K2++K)) d' w'∧Lg w.heap.size (K2++K) A n c lgs∧(∀ q∈K2++K,q.1≠pn)∧W.heap.size≤pn∧∀ q∈K2,W.heap.size≤q.1:=by
 have ok:=hm.ok;have haa:p.aA p.a≤1004:=by have:=ok.a;have:=ok.S;unfold Ip.aA;rcases (show p.a=0∨p.a=1 by omega) with h|h<;>rw [h]<;>omega
 have KL:Hid (Calls Tryz.prog 59 #[ptr g] W fun e w'=>e=.returned (.tuple #[.agg p.c,.agg #[.int .u64 H.tm,.int .i64 H.vo,.int .u64 H.cm],.int .i64 0])∧Rvx w g K d w'∧Below W.heap.size W w'):=by
  refine h.q1 fun L hD=>?_
  have:=J.zlj w.heap.size g L d W hD
  rw [hm.e,hm.su,hm.hd] at this;exact this
 have KA:Hid (∀ Z,Calls Tryz.prog 50 #[.agg #[.int .i64 p.v,.int .i64 p.S,.int .i64 p.L,.int .i64 p.a,.int .i64 p.h,.int .i64 p.gl,.int .i64 p.sp],.int .i64 p.a] Z fun e w'=>e=.returned (.int .i64 (p.aA p.a:Nat))∧Below Z.heap.size Z w'):=fun Z=>zdo p ok p.a ok.a Z;have KH:Hid (∀ Z,Calls Tryz.prog 52 #[.agg #[.int .i64 p.v,.int .i64 p.S,.int .i64 p.L,.int .i64 p.a,.int .i64 p.h,.int .i64 p.gl,.int .i64 p.sp],.int .i64 p.h,.int .i64 p.v] Z fun e w'=>e=.returned (.agg #[.int .i64 (p.hA p.h:Nat),.int .i64 p.L,.int .i64 p.v])∧Below Z.heap.size Z w'):=fun Z=>zdR p ok p.h ok.h p.v Z
 have KR1:Hid (∀ K1 Z,Rvx w g K1 d Z→Calls Tryz.prog 60 #[ptr g,.int .i64 (p.aA p.a:Nat),.int .i64 p.S] Z fun x w'=>x=.returned (.tuple #[.agg #[.int .u64 s.ix,.int .u64 s.tm,.string s.da],.int .i64 p.v,.int .i64 0])∧Rvx w g K1 d w'∧Below Z.heap.size Z w'):=fun K1 Z hZ=>by
  refine hZ.q1 fun L hD=>?_
  have:=Ar.zoe w.heap.size g L d (p.aA p.a:Nat) (p.S:Nat) Z hD (by omega)
  rw [hm.a] at this;exact this
 have KR2:Hid (∀ K1 Z,Rvx w g K1 d Z→Calls Tryz.prog 61 #[ptr g,.agg #[.int .i64 (p.hA p.h:Nat),.int .i64 p.L,.int .i64 p.v]] Z fun x w'=>∃ A n c,x=.returned (.tuple #[.slice A n c,.int .i64 u,.int .i64 0])∧Le Z.heap.size A n c es w'∧Rvx w g K1 d w'∧Below Z.heap.size Z w'):=fun K1 Z hZ=>by
  have hZ0:=hZ;obtain ⟨L,hD,_⟩:=hZ;exact (hm.r _ L Z hD).mono fun x w' ⟨A,n,c,h1,h2,h3⟩=>⟨A,n,c,h1,h2,hZ0.below h3,h3⟩
 have KJ:=zh hm.j
 have KW:Hid (∀ K1 Z,Rvx w g K1 d Z→Calls Tryz.prog 63 #[ptr g,.agg #[.int .i64 (p.hA p.h:Nat),.int .i64 p.L,.int .i64 p.v],.int .i64 u] Z fun x w'=>x=.returned (.int .i64 0)∧Rvx w g K1 d' w'):=fun K1 Z hZ=>by
  refine hZ.c1 fun L hD=>?_
  have:=zmW w.heap.size g L d (p.hA p.h) p.L u p.v Z hD hm.on hm.le
  rw [hm.w] at this;exact this
 obtain ⟨x,hx⟩:∃ x:Int,x=((p.hA p.h:Nat):Int):=⟨_,rfl⟩;rw [←hx] at KH KR2 KW;obtain ⟨y,hy⟩:∃ y:Int,y=((p.aA p.a:Nat):Int):=⟨_,rfl⟩;rw [←hy] at KA KR1;clear hx hy haa ok hm h;unfold ptr at *;go_enter Tryz.func16,Tryz.ntmps16
 go_upto_region 2 with (go_at_call 59;(with_reducible refine KL.out.mono ?_);rintro q w1 ⟨rfl,h1,b1⟩)
 have h2:=h1.al2 (.cells p.c 99) (.cells H.c 110);obtain ⟨B,hB⟩:∃ B,B=w1.heap.size:=⟨_,rfl⟩;rw [←hB] at h2;have hWB:W.heap.size≤B:=by rw [hB];exact b1.size
 obtain ⟨W2,hW2⟩:∃ W2,W2=(w1.alloc (.cells p.c 99)).alloc (.cells H.c 110):=⟨_,rfl⟩;have hs2:W2.heap.size=B+2:=by rw [hW2,hB];simp
 rw [←hW2] at h2;refine zaf (w:=W2) hW2.symm ?_;rw [←hB];obtain ⟨K0,hK0⟩:∃ K0,K0=(B+1,Obj.cells H.c 110 (0,0)) :: (B,Obj.cells p.c 99 (0,0)) :: K:=⟨_,rfl⟩;rw [←hK0] at h2;have HM4:Hid ((B,Obj.cells p.c 99 (0,0))∈K0):=by show _∈_;rw [hK0];simp
 have HM5:Hid ((B+1,Obj.cells H.c 110 (0,0))∈K0):=by show _∈_;rw [hK0];simp
 have HKs:Hid (∀ q∈K,q∈K0):=fun q hq=>by rw [hK0];simp [hq]
 have H0:=zh h2;have HD:=zh h2.drew;have HSZ:Hid (W.heap.size≤B∧W2.heap.size=B+2):=⟨hWB,hs2⟩;have HK0:=zh hK0;have hltd:B<W2.heap.size:=by omega
 obtain ⟨c0,c1,c2,c3,c4,c5,c6⟩:=zao (h2.drew.get HM4.out);clear h2 hK0 hs2 hWB hW2 hB h1 b1 KL;unfold ptr at *
 go_upto_region 4 with fail
 go_cut [7,8,9] from 27 to 37 (fun s7 s8 s9 wx=>s8=.int .i64 p.v∧s9=.int .i64 0∧∃ b7,s7=.pointer (some ⟨b7,0,none⟩)∧B≠b7∧W2.heap.size≤wx.heap.size∧W2.heap.size≤b7∧Hid (Rvx w g ((b7,Obj.cells s.c 104 (0,0)) :: K0) d wx))
 case first =>
  go_region_held3 (fun w'=>w'.cell? ⟨B,0,none⟩=some (.int .i64 p.v)∧w'.cell? ⟨B,1,none⟩=some (.int .i64 p.S)∧w'.cell? ⟨B,2,none⟩=some (.int .i64 p.L)∧w'.cell? ⟨B,3,none⟩=some (.int .i64 p.a)∧w'.cell? ⟨B,4,none⟩=some (.int .i64 p.h)∧w'.cell? ⟨B,5,none⟩=some (.int .i64 p.gl)∧w'.cell? ⟨B,6,none⟩=some (.int .i64 p.sp)) (first|exact ⟨c0,c1,c2,c3,c4,c5,c6⟩|exact ⟨f0,f1,f2,f3,f4,f5,f6⟩|exact ⟨e0,e1,e2,e3,e4,e5,e6⟩|with_reducible exact ⟨(zar hlt2).trans f0,(zar hlt2).trans f1,(zar hlt2).trans f2,(zar hlt2).trans f3,(zar hlt2).trans f4,(zar hlt2).trans f5,(zar hlt2).trans f6⟩|with_reducible exact ⟨(zar hlt1).trans e0,(zar hlt1).trans e1,(zar hlt1).trans e2,(zar hlt1).trans e3,(zar hlt1).trans e4,(zar hlt1).trans e5,(zar hlt1).trans e6⟩|with_reducible exact ⟨(zaR hltd).trans c0,(zaR hltd).trans c1,(zaR hltd).trans c2,(zaR hltd).trans c3,(zaR hltd).trans c4,(zaR hltd).trans c5,(zaR hltd).trans c6⟩|with_reducible exact ⟨(st3 (zsN hlt1)).trans f0,(st3 (zsN hlt1)).trans f1,(st3 (zsN hlt1)).trans f2,(st3 (zsN hlt1)).trans f3,(st3 (zsN hlt1)).trans f4,(st3 (zsN hlt1)).trans f5,(st3 (zsN hlt1)).trans f6⟩|with_reducible exact ⟨(st3 (zsN hltd)).trans f0,(st3 (zsN hltd)).trans f1,(st3 (zsN hltd)).trans f2,(st3 (zsN hltd)).trans f3,(st3 (zsN hltd)).trans f4,(st3 (zsN hltd)).trans f5,(st3 (zsN hltd)).trans f6⟩) (first
   | (go_at_call 50;(with_reducible refine (KA.out _).mono ?_);rintro q w3 ⟨rfl,b3⟩;(first|(have H1:Rvx w g K0 d w3:=by with_reducible exact Rvx.below HD.out b3)|(have H1:Rvx w g ((W2.heap.size,(Obj.cells #[.int .u64 0,.int .u64 0,.string ⟨#[]⟩] 104)) :: K0) d w3:=by with_reducible exact Rvx.below (Rvx.drew (H0.out.al (Obj.cells #[.int .u64 0,.int .u64 0,.string ⟨#[]⟩] 104))) b3));obtain ⟨e0,e1,e2,e3,e4,e5,e6⟩:=zao (H1.get (by first|exact HM4.out|exact zsA _ HM4.out));have hlt1:B<w3.heap.size:=(Array.getElem?_eq_some_iff.1 (H1.get (by first|exact HM4.out|exact zsA _ HM4.out))).1)
   | (go_at_call 60;(first|(with_reducible refine (KR1.out _ w3 H1).mono ?_)|(with_reducible refine (KR1.out _ (w3.alloc (Obj.cells #[.int .u64 0,.int .u64 0,.string ⟨#[]⟩] 104)) (H1.al (Obj.cells #[.int .u64 0,.int .u64 0,.string ⟨#[]⟩] 104))).mono ?_));rintro q w4 ⟨rfl,H2,b4⟩;obtain ⟨f0,f1,f2,f3,f4,f5,f6⟩:=zao (H2.get (by first|exact HM4.out|exact zsA _ HM4.out));have hlt2:B<w4.heap.size:=(Array.getElem?_eq_some_iff.1 (H2.get (by first|exact HM4.out|exact zsA _ HM4.out))).1;(first|(obtain ⟨z0,z1,z2⟩:=zae (s:=sn0) (Rvx.hd H2);obtain ⟨y0,y1,y2⟩:=zqW (Rvx.hd H2))|skip)))
  all_goals
   go_wp2;go_meet;have hsW1:W2.heap.size≤w3.heap.size:=zsB (by first|(simp;done)|(simp;omega)) b3.size;have hsW:W2.heap.size≤w4.heap.size:=zsB hsW1 (zsB (by first|(simp;done)|(simp;omega)) b4.size);refine ⟨rfl,rfl,_,rfl,?_,by first|(simp;done)|(simp;omega),by first|omega|(simp;done)|(simp;omega),?_⟩
  ·exact zsN hlt2
  ·exact H2.al (.cells s.c 104)
  ·exact zsN hlt1
  ·show Rvx _ _ _ _ _;have h3:=H2.puts (fun q hq=>zsN (H1.lt q hq)) [(0,.int .u64 s.ix),(1,.int .u64 s.tm),(2,.string s.da)];rw [show (#[.int .u64 0,.int .u64 0,.string ⟨#[]⟩]:Array Value)=sn0.c from rfl,zjc] at h3;exact h3
  ·exact zsN hltd
  ·show Rvx _ _ _ _ _;have h3:=H2.puts (fun q hq=>zsN (H0.out.lt q hq)) [(0,.int .u64 s.ix),(1,.int .u64 s.tm),(2,.string s.da)];rw [show (#[.int .u64 0,.int .u64 0,.string ⟨#[]⟩]:Array Value)=sn0.c from rfl,zjc] at h3;exact h3
 case rest =>
  obtain ⟨rfl,rfl,b7,rfl,hne,hWc,hb7,HZ⟩:=hcut;obtain ⟨r0,r1,r2⟩:=zae HZ.out.hd;obtain ⟨g0,g1,g2,g3,g4,g5,g6⟩:=zao (HZ.out.get (zsA _ HM4.out))
  go_upto_region 8 with (go_at_call 52;(with_reducible refine (KH.out _).mono ?_);rintro q w5 ⟨rfl,b5⟩)
  have H6:=(HZ.out.below b5).al (.cells #[.int .i64 x,.int .i64 p.L,.int .i64 p.v] 107);have hs5:=b5.size;obtain ⟨b10,hb10⟩:∃ b10,b10=w5.heap.size:=⟨_,rfl⟩;obtain ⟨W6,hW6⟩:∃ W6,W6=w5.alloc (.cells #[.int .i64 x,.int .i64 p.L,.int .i64 p.v] 107):=⟨_,rfl⟩;have hs6:W6.heap.size=b10+1:=by rw [hW6,hb10];simp
  rw [←hW6,←hb10] at H6;rw [←hb10] at hs5;refine zaf (w:=W6) hW6.symm ?_;rw [←hb10];have HH6:=zh H6;have HS6:Hid (W2.heap.size≤b10∧W6.heap.size=b10+1):=⟨by omega,hs6⟩;have k0:=zcr _ _ 0 _ 107 (0,0) H6.hd;have k1:=zcr _ _ 1 _ 107 (0,0) H6.hd;have k2:=zcr _ _ 2 _ 107 (0,0) H6.hd;clear H6 hs5 hs6 hW6 hb10 b5 r0 r1 r2 g0 g1 g2 g3 g4 g5 g6
  go_upto_region 11 with (go_at_call 61;(with_reducible refine (KR2.out _ _ HH6.out).mono ?_);rintro q w7 ⟨A,n,c,rfl,hLe,H7,b7'⟩)
  have HH7:=zh H7;have HE7:=zh hLe.ents;have HS7:Hid (b10+1≤w7.heap.size):=by have:=b7'.size;have:=HS6.out.2;show _≤_;omega
  obtain ⟨r0,r1,r2⟩:=zae (H7.get (zsA _ (zsO ..)));clear k0 k1 k2 H7 hLe b7'
  go_upto_region 12 with (go_at_call 62;(with_reducible refine (KJ.out _ _ _ _ HE7.out).mono ?_);rintro q w8 ⟨A',n',c',rfl,hLe2,b8⟩)
  obtain ⟨K2,H8,hLg,hK2⟩:=HH7.out.addLe b8 hLe2 (zsy _);have HH8:=zh H8;have HLg:=zh hLg;have HK2:=zh hK2;obtain ⟨g0,g1,g2,g3,g4,g5,g6⟩:=zao (H8.get (zsJ _ (zsA _ (zsA _ HM4.out))));obtain ⟨v0,v1,v2⟩:=zae (H8.get (zsJ _ (zsA _ (zsO ..))));have k0:=zcr _ _ 0 _ 107 (0,0) (H8.get (zsJ _ (zsO ..)));have k1:=zcr _ _ 1 _ 107 (0,0) (H8.get (zsJ _ (zsO ..)));have k2:=zcr _ _ 2 _ 107 (0,0) (H8.get (zsJ _ (zsO ..)));clear H8 hLg hK2 hLe2 b8 r0 r1 r2
  go_upto_region 15 with (go_at_call 63;(with_reducible refine (KW.out _ _ HH8.out).mono ?_);rintro q w9 ⟨rfl,H9⟩)
  have HH9:=zh H9;obtain ⟨e0,e1,e2,e3,e4,e5,e6⟩:=zao (H9.get (zsJ _ (zsA _ (zsA _ HM4.out))));obtain ⟨o0,o1,o2⟩:=zaw (H9.get (zsJ _ (zsA _ (zsA _ HM5.out))));obtain ⟨i0,i1,i2⟩:=zae (H9.get (zsJ _ (zsA _ (zsO ..))));clear g0 g1 g2 g3 g4 g5 g6 v0 v1 v2 k0 k1 k2 H9;go_wp2;go_ret2;have hnew:=HH9.out.al (.cells (imc g p.su H s (.slice A' n' c') u) 124);have hsz9:∀ q∈K2,q.1<w9.heap.size:=fun q hq=>HH9.out.lt q (zs6 _ hq);have hB9:B<w9.heap.size:=HH9.out.lt _ (zsJ _ (zsA _ (zsA _ HM4.out)));refine ⟨w9.heap.size,A',n',c',K2,rfl,hnew.drop fun q hq=>?_,(HLg.out.sub fun q hq=>zs6 _ hq).low ?_,fun q hq=>?_,?_,fun q hq=>?_⟩
  ·simp only [zsL,zsP] at hq ⊢;rcases hq with h|h|h
   ·exact .inl h
   ·exact .inr (.inl h)
   ·exact .inr (.inr (.inr (.inr (HKs.out _ h))))
  ·exact HH7.out.be.size
  ·rcases zsP.1 hq with h|h
   ·exact zsN (hsz9 q h)
   ·exact zsN (HH9.out.lt q (zsJ _ (zsA _ (zsA _ (HKs.out _ h)))))
  ·have:=HSZ.out.1;omega
  ·have:=HK2.out q hq
   have:=HS7.out
   have:=HS6.out
   have:=HSZ.out
   omega
end
section
open Dk
open Ar (Sn sn0)
open J.Sl (Su Hd su0 hd0 sec)
open J (setS setH ldS ldH ldE)
theorem zjz {w Z:World} {g:Nat} {K K1:List (Nat×Obj)} {d:St} {base:Nat} {A A2:Option Addr} {n c n2 c2:Nat} {es more lgs:List En} (hl:Lg w.heap.size K A n c es) (hm:zcI K A2 n2 more) (hb:base≤1099511627776) (hn:es.length≤64) (hn2:more.length≤64)
 (hix:∀ i e,es[i]?=some e→e.index=((base+i+1:Nat):Int)) (hok:∀ e∈more,e.Ok) (hj:jn base es more=some lgs) (hs:∀ q∈K,q∈K1) (h:Rvx w g K1 d Z) :
 Calls Tryz.prog 62 #[.int .u64 base,.slice A n c,.slice A2 n2 c2] Z fun x w'=>∃ A' n' c' K2,x=.returned (.tuple #[.slice A' n' c',.bool true])∧Rvx w g (K2++K1) d w'∧Lg w.heap.size K2 A' n' c' lgs∧(∀ q∈K2,Z.heap.size≤q.1)∧Z.heap.size≤w'.heap.size:=by
 have hbk:Bk K Z:=fun q hq=>h.bk q (hs q hq);have hL:=hl Z hbk;have hM:=hm Z hbk;refine (zhO base A A2 n c n2 c2 es more Z hL.ents hM hb (by rw [←hL.len];exact hn) (by rw [←hM.len];exact hn2) hix hok).mono ?_;rintro x w' ⟨hjr,hbw⟩;rcases hjr with ⟨r,A',n',c',h1,rfl,h3⟩|⟨h1,rfl⟩
 ·obtain ⟨K2,x1,x2,x3⟩:=h.addLe hbw h3 (zsy _);rw [hj] at h1
  cases h1
  exact ⟨A',n',c',K2,rfl,x1,x2.low h.be.size,x3,hbw.size⟩
 ·rw [hj] at h1;cases h1
theorem zkp {w W:World} {g pn:Nat} {K:List (Nat×Obj)} {d d1 d2:St} {p:Ip} {H:Hd} {s:Sn} {A A2:Option Addr} {n c n2 c2 u:Nat} {u2:Int} {es more lgs:List En} (h:Rvx w g ((pn,Obj.cells (imc g p.su H s (.slice A n c) u) 124 (0,0)) :: K) d W) (hK:∀ q∈K,q.1≠pn) (ok:p.Ok) (hg:p.gl=0)
 (hl:Lg w.heap.size K A n c es) (hm:zcI K A2 n2 more) (hb:s.ix≤1099511627776) (hn:es.length≤64) (hn2:more.length≤64)
 (hix:∀ i e,es[i]?=some e→e.index=((s.ix+i+1:Nat):Int)) (hok:∀ e∈more,e.Ok) (hj:jn s.ix es more=some lgs)
 (hon:onB d.n (p.hA p.h) p.L p.v=true) (hU:u≤p.L*64) (hbg:¬ (p.v=1∧u % 64≠0)) (hO:rcO p.v (pO p.v) more=true)
 (ha:zby d (p.hA p.h) p.L p.v u more=(d1,u2,0)) (hf:d1.flush=(d2,0)) :
 Calls Tryz.prog 71 #[ptr pn,.slice A2 n2 c2] W fun x w'=>x=.returned (.int .i64 0)∧∃ A' n' c' K2,Rvx w g ((pn,Obj.cells (imc g p.su H s (.slice A' n' c') u2) 124 (0,0)) :: (K2++K)) d2 w'∧Lg w.heap.size (K2++K) A' n' c' lgs∧∀ q∈K2,W.heap.size≤q.1:=by
 have KJ:Hid (∀ Z,Rvx w g ((pn,Obj.cells (imc g p.su H s (.slice A n c) u) 124 (0,0)) :: K) d Z→Calls Tryz.prog 62 #[.int .u64 s.ix,.slice A n c,.slice A2 n2 c2] Z fun x w'=>∃ A' n' c' K2,x=.returned (.tuple #[.slice A' n' c',.bool true])∧Rvx w g (K2++((pn,Obj.cells (imc g p.su H s (.slice A n c) u) 124 (0,0)) :: K)) d w'∧Lg w.heap.size K2 A' n' c' lgs∧(∀ q∈K2,Z.heap.size≤q.1)∧Z.heap.size≤w'.heap.size) :=
  fun Z hZ=>zjz hl hm hb hn hn2 hix hok hj (fun q hq=>zsA _ hq) hZ
 have KA:Hid (∀ Z K1,(∀ q∈K,q∈K1)→Rvx w g K1 d Z→Calls Tryz.prog 137 #[ptr g,.agg #[.int .i64 (p.hA p.h:Nat),.int .i64 p.L,.int .i64 p.v],.int .i64 u,.slice A2 n2 c2] Z fun x w'=>x=.returned (.tuple #[.int .i64 u2,.int .i64 0])∧Rvx w g K1 d1 w'):=fun Z K1 hs hZ=>by
  refine hZ.c1 fun L hD=>?_;have hE:=(hm.sub hs) Z hZ.bk
  have:=zoS w.heap.size g L d (p.hA p.h) p.L u p.v A2 n2 c2 more Z hD hE (by rw [←hE.len];exact hn2) hok hon hU hbg hO
  rw [ha] at this;exact this
 have KF:Hid (∀ Z K1,Rvx w g K1 d1 Z→Calls Tryz.prog 53 #[ptr g] Z fun x w'=>x=.returned (.int .i64 0)∧Rvx w g K1 d2 w'):=fun Z K1 hZ=>by
  refine hZ.c1 fun L hD=>?_
  have:=zcn w.heap.size g L d1 Z hD
  rw [hf] at this;exact this
 have KH:Hid (∀ Z,Calls Tryz.prog 52 #[.agg #[.int .i64 p.v,.int .i64 p.S,.int .i64 p.L,.int .i64 p.a,.int .i64 p.h,.int .i64 p.gl,.int .i64 p.sp],.int .i64 p.h,.int .i64 p.v] Z fun e w'=>e=.returned (.agg #[.int .i64 (p.hA p.h:Nat),.int .i64 p.L,.int .i64 p.v])∧Below Z.heap.size Z w'):=fun Z=>zdR p ok p.h ok.h p.v Z
 have KC:Hid (∀ Z K1 d',(pn,Obj.cells (imc g p.su H s (.slice A n c) u) 124 (0,0))∈K1→Rvx w g K1 d' Z→(Z.cell? ⟨pn,0,none⟩=some (.pointer (some ⟨g,0,none⟩))∧Z.cell? ⟨pn,1,none⟩=some (.int .i64 p.v)∧Z.cell? ⟨pn,2,none⟩=some (.int .i64 p.S)∧Z.cell? ⟨pn,3,none⟩=some (.int .i64 p.L)∧Z.cell? ⟨pn,4,none⟩=some (.int .i64 p.a)∧Z.cell? ⟨pn,5,none⟩=some (.int .i64 p.h)∧Z.cell? ⟨pn,6,none⟩=some (.int .i64 p.gl)∧Z.cell? ⟨pn,7,none⟩=some (.int .i64 p.sp))∧Z.cell? ⟨pn,11,none⟩=some (.int .u64 s.ix)∧Z.cell? ⟨pn,14,none⟩=some (.slice A n c)∧Z.cell? ⟨pn,15,none⟩=some (.int .i64 u)):=fun Z K1 d' hm hZ =>
  ⟨zr9 (hZ.get hm),zcr _ _ 11 _ 124 (0,0) (hZ.get hm),zcr _ _ 14 _ 124 (0,0) (hZ.get hm),zcr _ _ 15 _ 124 (0,0) (hZ.get hm)⟩
 have H0:=zh h;have HN:=zh hK;have hlw:Hid (pn<W.heap.size):=h.lt _ (zsO ..);obtain ⟨⟨c0,c1,c2',c3,c4,c5,c6,c7⟩,c11,c14,c15⟩:=KC.out _ _ _ (zsO ..) h.drew;have c6':W.cell? ⟨pn,6,none⟩=some (.int .i64 0):=by rw [←hg];exact c6
 obtain ⟨x,hx⟩:∃ x:Int,x=((p.hA p.h:Nat):Int):=⟨_,rfl⟩;rw [←hx] at KH KA;clear hx hg c6 h hK ok hl hm hb hn hn2 hix hok hj hon hU hbg hO ha hf;unfold ptr at *;go_enter Tryz.func71,Tryz.ntmps71
 go_upto_region 3 with fail
 go_region_held3 (fun w'=>w'.cell? ⟨pn,11,none⟩=some (.int .u64 s.ix)∧w'.cell? ⟨pn,14,none⟩=some (.slice A n c)) (first|exact ⟨c11,c14⟩|exact ⟨v0,v1⟩) (first
  | (go_at_call 62;(with_reducible refine (KJ.out _ (Rvx.drew H0.out)).mono ?_);rintro q w2 ⟨A',n',c',K2,rfl,H2,hLg,hK2,hs2⟩;obtain ⟨⟨_,_,_,_,_,_,_,_⟩,v0,v1,v2⟩:=KC.out _ _ _ (zsJ _ (zsO ..)) H2))
 have HH2:=zh H2;have HLg:=zh hLg;have HK2:=zh hK2;obtain ⟨⟨b0,b1,b2,b3,b4,b5,b6,b7⟩,b11,b14,b15⟩:=KC.out _ _ _ (zsJ _ (zsO ..)) H2.drew;clear H2 hLg hK2 hs2 v0 v1 v2 c0 c1 c2' c3 c4 c5 c6' c7 c11 c14 c15
 go_upto_region 6 with fail
 go_region_held3 (fun w'=>w'.cell? ⟨pn,0,none⟩=some (.pointer (some ⟨g,0,none⟩))∧w'.cell? ⟨pn,1,none⟩=some (.int .i64 p.v)∧w'.cell? ⟨pn,2,none⟩=some (.int .i64 p.S)∧w'.cell? ⟨pn,3,none⟩=some (.int .i64 p.L)∧w'.cell? ⟨pn,4,none⟩=some (.int .i64 p.a)∧w'.cell? ⟨pn,5,none⟩=some (.int .i64 p.h)∧w'.cell? ⟨pn,6,none⟩=some (.int .i64 p.gl)∧w'.cell? ⟨pn,7,none⟩=some (.int .i64 p.sp)∧w'.cell? ⟨pn,15,none⟩=some (.int .i64 u)) (first|exact ⟨b0,b1,b2,b3,b4,b5,b6,b7,b15⟩|exact ⟨e0,e1,e2,e3,e4,e5,e6,e7,e15⟩|exact ⟨f0,f1,f2,f3,f4,f5,f6,f7,f15⟩) (first
  | (go_at_call 52;(with_reducible refine (KH.out _).mono ?_);rintro q w3 ⟨rfl,bb⟩;have H3:=(Rvx.drew HH2.out).below bb;obtain ⟨⟨e0,e1,e2,e3,e4,e5,e6,e7⟩,e11,e14,e15⟩:=KC.out _ _ _ (zsJ _ (zsO ..)) H3)
  | (go_at_call 137;(with_reducible refine (KA.out _ _ (fun q hq=>zsJ _ (zsA _ hq)) H3).mono ?_);rintro q w4 ⟨rfl,H4⟩;obtain ⟨⟨f0,f1,f2,f3,f4,f5,f6,f7⟩,f11,f14,f15⟩:=KC.out _ _ _ (zsJ _ (zsO ..)) H4))
 have HH4:=zh H4;clear H4 H3 bb e0 e1 e2 e3 e4 e5 e6 e7 e11 e14 e15 b0 b1 b2 b3 b4 b5 b6 b7 b11 b14 b15
 go_upto_region 9 with (go_at_call 53;(with_reducible refine (KF.out _ _ HH4.out).mono ?_);rintro q w5 ⟨rfl,H5⟩)
 have h6:Rvx w g ((pn,Obj.cells (imc g p.su H s (.slice A n c) u) 124 (0,0)) :: (K2++K)) d2 w5:=H5.drop fun q hq=>by
  simp only [zsL,zsP] at hq ⊢;rcases hq with h|h|h<;>simp [h]
 obtain ⟨x1,x2,x3,x4,x5,x6,x7,x8,x9,x10,x11,x12,x13,x14,x15⟩:=zl4 h6.hd;obtain ⟨y0,y1,y2,y3,y4,y5,y6,y7,y8,y9,y10,y11,y12,y13,y14,y15⟩:=zfs h6.hd;have HH6:=zh h6;clear h6 H5;go_wp2;go_ret
 have h9:=HH6.out.puts (fun q hq=>by
  rcases zsP.1 hq with h|h
  ·have:=HK2.out q h;have:=hlw.out;have e:W.drew.heap.size=W.heap.size:=rfl;omega
  ·exact HN.out q h) [(14,.slice A' n' c'),(15,.int .i64 u2)]
 rw [zlc] at h9;exact ⟨rfl,A',n',c',K2,h9,HLg.out.sub fun q hq=>zs6 _ hq,HK2.out⟩
end
end Go.Proofs.YtidndekacnmihaaGreat
