/-
  FrameCodes: part G21.
  Conditions: named in each theorem.
-/
import Derived.Deep.RegionLaw
import Derived.Deep.CutRange
import Derived.Test.YtpdbeijfchmlgaaGreatZ0
import Derived.Test.YtpdbeijfchmlgaaGreatG15
set_option linter.unusedVariables false
set_option linter.unusedSimpArgs false
set_option maxHeartbeats 16000000
set_option maxRecDepth 100000
namespace Go.Proofs.YtpdbeijfchmlgaaGreat
open Go.RowKit
theorem nk_r (x:Int):(if x.tmod 10<0 then x.tmod 10+10 else x.tmod 10)=x % 10:=by
 have h1:=Int.tmod_add_mul_tdiv x 10;have h2:=Int.tmod_lt_of_pos x (show (0:Int)<10 by omega)
 have h3:-10<x.tmod 10:=by
  rcases Int.lt_or_le x 0 with h|h
  ·have h4:=Int.tmod_lt_of_pos (-x) (show (0:Int)<10 by omega);rw [Int.neg_tmod] at h4;omega
  ·have:=Int.tmod_nonneg 10 h
   omega
 split<;>omega
def esN (L:List (En×Bool)) (l:List UInt8):List En:=if hasT l 101 then mks L else []
theorem esN_other (L:List (En×Bool)) (l:List UInt8) (x:UInt8) (h:(x.toNat:Int)≠101):esN L (l++[x])=esN L l:=by
 unfold esN;rw [hasT_snoc,beqF h,Bool.or_false]
theorem esN_101 (L:List (En×Bool)) (l:List UInt8) (x:UInt8) (h:(x.toNat:Int)=101):esN L (l++[x])=mks L:=by
 unfold esN;rw [hasT_snoc,h]
 simp
theorem esN_none (L:List (En×Bool)) (l:List UInt8) (h:hasT l 101=false):esN L l=[]:=by
 unfold esN;rw [h,if_neg (by simp)]
def mkL (L:List (En×Bool)) (j:Nat):List En:=(L.take j).map fun p=>mk p.1
theorem mks_done (L:List (En×Bool)) (j:Nat) (h:L.length≤j∨10≤j) (hj:j≤10):(mkL L j)=mks L:=by
 unfold mks mkL
 rcases h with h|h
 ·rw [List.take_of_length_le h,List.take_of_length_le (by omega)]
 ·rw [show j=10 by omega]
theorem mades_snoc (L:List (En×Bool)) (j:Nat) (p:En×Bool) (h:L[j]?=some p):(mkL L (j+1))=(mkL L j)++[mk p.1]:=by
 unfold mkL;rw [List.take_add_one,h,List.map_append];rfl
theorem cell_new_list (W:World) (l:List Value) (T:TypeId) (j:Nat) (u:Value) (h:l[j]?=some u):(W.alloc (.cells l.toArray T)).cell? ((⟨W.heap.size,0,none⟩:Addr).add j)=some u:=by
 rw [Addr.add_mid,Nat.zero_add,World.cell?_alloc_new,List.getElem?_toArray,h]
theorem note_no (m:Ms) (LA:Option Addr) (ln lc:Nat) (w:World):Calls Tryz.prog 10 #[nvv m false LA ln lc] w fun r w'=>r=.returned (mv m)∧Below w.heap.size w w':=by
 go_enter Tryz.func10,Tryz.ntmps10
 go_wp2;refine bodyPost_ret (v:=mv m) (by simp [results,Tryz.results10,go_sem]) rfl ⟨rfl,zba.alloc (by simp) _⟩
theorem note_yes (m:Ms) (LA:Option Addr) (ln lc:Nat) (L:List (En×Bool)) (w:World) (hL:Mades w.heap.size LA ln L w) (hok:∀ p∈L,p.1.Ok) (hln:(ln:Int)≤9223372036854775807) :
 Calls Tryz.prog 10 #[nvv m true LA ln lc] w fun r w'=>∃ A c n,r=.returned (mv (nm m L A n c))∧(nm m L A n c).es.length=n∧Ents w'.heap.size A n (nm m L A n c).es w'∧Below w.heap.size w w':=by
 have HL:=zh hL;have HO:=zh hok;clear hL hok;obtain ⟨i24,hi24,hz24,hs24,hb24⟩:=info_parts (show (Tryz.prog.info? 24).map (fun i=>(i.zero,i.size,i.bytes))=some (some (ev ezz),11,104) by kernel_rfl);have hr1:=nk_r m.kind;obtain ⟨wq,hQ⟩:∃ wq,wq=((w.alloc (Obj.cells (nvc m true LA ln lc) 32)).alloc (Obj.cells (mc mzz) 29)).alloc (Obj.cells (mc m) 29):=⟨_,rfl⟩;have hbq:Below w.heap.size w wq:=by rw [hQ];exact (zba.alloc (by simp) _).alloc (by simp;omega) _
 have hq2:wq.heap[w.heap.size+1+1]?=some (.cells (mc m) 29 (0,0)):=by
  have h:=heap_alloc_new ((w.alloc (Obj.cells (nvc m true LA ln lc) 32)).alloc (Obj.cells (mc mzz) 29)) (Obj.cells (mc m) 29);rw [show ((w.alloc (Obj.cells (nvc m true LA ln lc) 32)).alloc (Obj.cells (mc mzz) 29)).heap.size=w.heap.size+1+1 by simp] at h;rw [hQ];exact h
 have hq1:wq.heap[w.heap.size+1]?=some (.cells (mc mzz) 29 (0,0)):=by
  have h:=heap_alloc_new (w.alloc (Obj.cells (nvc m true LA ln lc) 32)) (Obj.cells (mc mzz) 29);rw [show (w.alloc (Obj.cells (nvc m true LA ln lc) 32)).heap.size=w.heap.size+1 by simp] at h;rw [hQ];exact (Lib.alloc_old _ _ _ (by simp)).trans h
 have hq0:wq.heap[w.heap.size]?=some (.cells (nvc m true LA ln lc) 32 (0,0)):=by
  rw [hQ];exact (Lib.alloc_old _ _ _ (by simp;omega)).trans ((Lib.alloc_old _ _ _ (by simp)).trans (heap_alloc_new w _))
 have hqs:wq.heap.size=w.heap.size+1+1+1:=by rw [hQ];simp
 have HQ:=zh hQ;have HB:=zh hbq;have HS:=zh hqs;have H0:=zh hq0;have H1:=zh hq1;have H2:=zh hq2;clear hQ hbq hqs hq0 hq1 hq2;have HR:=zh hr1;clear hr1
 go_enter Tryz.func10,Tryz.ntmps10
 go_upto_if 22 with fail
 go_cut [4] from 22 to 24 (fun s wx=>s=.int .i64 (m.kind % 10)∧wx=wq)
 case first =>
  by_cases hneg:m.kind.tmod 10<0
  ·have hx:=HR.out;rw [if_pos hneg] at hx;have hw:Hid (wrap64 (m.kind.tmod 10+10)=m.kind % 10):=by show _=_;rw [hx];unfold wrap64;omega
   clear hx
   go_wp2_with fail
   go_meet
   exact ⟨congrArg (Value.int .i64) hw.out,HQ.out.symm⟩
  ·have hx:=HR.out;rw [if_neg hneg] at hx;have hw:Hid (m.kind.tmod 10=m.kind % 10):=hx;clear hx
   go_wp2_with fail
   go_meet
   exact ⟨congrArg (Value.int .i64) hw.out,HQ.out.symm⟩
 case rest =>
  obtain ⟨rfl,rfl⟩:=hcut;obtain ⟨kq,hkq⟩:∃ kq,kq=m.kind % 10:=⟨_,rfl⟩;obtain ⟨r,hr⟩:∃ r,r=m.kind % 10+1:=⟨_,rfl⟩;have hkr:wrap64 (kq+1)=r:=by rw [hkq,hr];unfold wrap64;omega
  have HRR:=zh hr;rw [←hkq];clear hkq hr HR
  go_wp2_with (go_at_call 34;fail)
  first|rw [hkr]|skip
  with_reducible refine (rmfields_any r _).mono ?_
  rintro q w1 ⟨rfl,hb1⟩;have hq0w:w1.heap[w.heap.size]?=some (.cells (nvc m true LA ln lc) 32 (0,0)):=(hb1.block _ (by have:=HS.out;omega)).trans H0.out;have hq1w:w1.heap[w.heap.size+1]?=some (.cells (mc mzz) 29 (0,0)):=(hb1.block _ (by have:=HS.out;omega)).trans H1.out;have hq2w:w1.heap[w.heap.size+1+1]?=some (.cells (mc m) 29 (0,0)):=(hb1.block _ (by have:=HS.out;omega)).trans H2.out;have c1:w1.cell? ⟨w.heap.size+1+1,1,none⟩=some (.int .i64 m.frm):=zcr w1 _ 1 _ 29 (0,0) hq2w;have c2:w1.cell? ⟨w.heap.size+1+1,2,none⟩=some (.int .i64 m.dst):=zcr w1 _ 2 _ 29 (0,0) hq2w;have c3:w1.cell? ⟨w.heap.size+1+1,3,none⟩=some (.int .u64 m.term):=zcr w1 _ 3 _ 29 (0,0) hq2w;have hbw:Below w.heap.size w w1:=HB.out.trans (hb1.mono HB.out.size);have hlt1:w.heap.size+1+1<w1.heap.size:=by have:=HS.out;have:=hb1.size;omega
  have hn0:Nd w m (nvc m true LA ln lc) r w1.heap.size [] none 0 [] (w1.alloc (Obj.cells (mc (npart m r [] none 0 0 [])) 29)) :=
   ⟨(Lib.alloc_old w1 _ _ (by omega)).trans hq0w,(Lib.alloc_old w1 _ _ (by omega)).trans hq1w,(Lib.alloc_old w1 _ _ hlt1).trans hq2w,heap_alloc_new w1 _,World.ownsRow_nil _ _ _ _,hbw.alloc hbw.size _,hlt1⟩
  have HN0:=zh hn0;have hml:(mfl r).size≤5:=mfl_size r;have e1:wrap64 (wrap64 ((IntKind.u64.wrap m.frm).tmod 7)+1)=IntKind.u64.wrap m.frm % 7+1:=node_eq _ 7 (by omega) (by omega);have e2:wrap64 (wrap64 ((IntKind.u64.wrap m.dst).tmod 7)+1)=IntKind.u64.wrap m.dst % 7+1:=node_eq _ 7 (by omega) (by omega);clear hq0w hq1w hq2w hn0 hb1;go_wp2;clear e1 e2 hkr c1 c2 c3 hbw
  go_loopw [8] (fun i wr=>∃ (k:Nat) (A:Option Addr) (c:Nat),k≤(mfl r).size∧i=.int .i64 k∧Nd w m (nvc m true LA ln lc) r w1.heap.size ((mfl r).data.toList.take k) A c (esN L ((mfl r).data.toList.take k)) wr) (fun i _=>(mfl r).size-(intOf i).toNat)
  case atStart=>exact ⟨0,none,0,Nat.zero_le _,rfl,HN0.out⟩
  case round =>
   obtain ⟨k,A,c,hk,rfl,hM⟩:=hrel;clear HN0
   by_cases hlt:k<(mfl r).size
   ·have htk:Hid ((mfl r).data.toList.take (k+1)=(mfl r).data.toList.take k++[(mfl r)[k]]):=by
     show _=_
     rw [List.take_succ_eq_append_getElem (by simpa using hlt)];rfl
    have honce:Hid (((mfl r)[k].toNat:Int)=101→hasT ((mfl r).data.toList.take k) 101=false):=by
     intro hx;refine mfl_once r k (by simpa using hlt) ?_;rw [List.getElem?_eq_getElem (by simpa using hlt)]
     have hy:(mfl r)[k]=(101:UInt8):=by
      rw [←UInt8.toNat_inj]
      have:((101:UInt8)).toNat=101:=rfl
      omega
     exact congrArg some hy
    have s4:wr.cell? ⟨w.heap.size+1+1,4,none⟩=some (.int .u64 m.index):=hM.sc 4;have s5:wr.cell? ⟨w.heap.size+1+1,5,none⟩=some (.int .u64 m.prev):=hM.sc 5;have s6:wr.cell? ⟨w.heap.size+1+1,6,none⟩=some (.int .u64 m.commit):=hM.sc 6;have s7:wr.cell? ⟨w.heap.size+1+1,7,none⟩=some (.int .u64 m.mark):=hM.sc 7;have s8:wr.cell? ⟨w.heap.size+1+1,8,none⟩=some (.bool m.ok):=hM.sc 8;have s10:wr.cell? ⟨w.heap.size+1+1,10,none⟩=some (.string m.snap):=hM.sc 10;obtain ⟨P,hP⟩:∃ P,P=npart m r ((mfl r).data.toList.take k) A (esN L ((mfl r).data.toList.take k)).length c (esN L ((mfl r).data.toList.take k)):=⟨_,rfl⟩;have o4:wr.cell? ⟨w1.heap.size,4,none⟩=some (.int .u64 P.index):=by rw [hP];exact hM.oc 4
    have o5:wr.cell? ⟨w1.heap.size,5,none⟩=some (.int .u64 P.prev):=by rw [hP];exact hM.oc 5
    have o6:wr.cell? ⟨w1.heap.size,6,none⟩=some (.int .u64 P.commit):=by rw [hP];exact hM.oc 6
    have o7:wr.cell? ⟨w1.heap.size,7,none⟩=some (.int .u64 P.mark):=by rw [hP];exact hM.oc 7
    have o8:wr.cell? ⟨w1.heap.size,8,none⟩=some (.bool P.ok):=by rw [hP];exact hM.oc 8
    have o10:wr.cell? ⟨w1.heap.size,10,none⟩=some (.string P.snap):=by rw [hP];exact hM.oc 10
    have fz:∀ i,wr.frozen? ⟨w1.heap.size,i,none⟩=false:=fun i=>Md.of hM.out;have HMM:=zh hM;clear hM hP
    by_cases y105:(((mfl r)[k].toNat:Int)==105)=true
    ·have hx:((mfl r)[k].toNat:Int)=105:=by simpa using y105
     have HX:=zh hx;clear hx;have hes:Hid (esN L ((mfl r).data.toList.take (k+1))=esN L ((mfl r).data.toList.take k)):=by show _=_;rw [htk.out];exact esN_other L _ _ (by rw [HX.out];omega)
     go_wp2
     go_roundw
     case rel=>exact ⟨k+1,A,c,by omega,by go_num,by rw [hes.out,htk.out];exact HMM.out.set1 _ 4 _ (npart_105 m r _ _ A _ c _ HX.out)⟩
     case measure=>simp [intOf];omega
    ·have n105:(((mfl r)[k].toNat:Int)==105)=false:=by simpa using y105
     clear y105
     by_cases y112:(((mfl r)[k].toNat:Int)==112)=true
     ·have hx:((mfl r)[k].toNat:Int)=112:=by simpa using y112
      have HX:=zh hx;clear hx;have hes:Hid (esN L ((mfl r).data.toList.take (k+1))=esN L ((mfl r).data.toList.take k)):=by show _=_;rw [htk.out];exact esN_other L _ _ (by rw [HX.out];omega)
      go_wp2
      go_roundw
      case rel=>exact ⟨k+1,A,c,by omega,by go_num,by rw [hes.out,htk.out];exact HMM.out.set1 _ 5 _ (npart_112 m r _ _ A _ c _ HX.out)⟩
      case measure=>simp [intOf];omega
     ·have n112:(((mfl r)[k].toNat:Int)==112)=false:=by simpa using y112
      clear y112
      by_cases y116:(((mfl r)[k].toNat:Int)==116)=true
      ·have hx:((mfl r)[k].toNat:Int)=116:=by simpa using y116
       have HX:=zh hx;clear hx;have hes:Hid (esN L ((mfl r).data.toList.take (k+1))=esN L ((mfl r).data.toList.take k)):=by show _=_;rw [htk.out];exact esN_other L _ _ (by rw [HX.out];omega)
       go_wp2
       go_roundw
       case rel=>exact ⟨k+1,A,c,by omega,by go_num,by rw [hes.out,htk.out];exact HMM.out.set1 _ 6 _ (npart_116 m r _ _ A _ c _ HX.out)⟩
       case measure=>simp [intOf];omega
      ·have n116:(((mfl r)[k].toNat:Int)==116)=false:=by simpa using y116
       clear y116
       by_cases y107:(((mfl r)[k].toNat:Int)==107)=true
       ·have hx:((mfl r)[k].toNat:Int)=107:=by simpa using y107
        have HX:=zh hx;clear hx;have hes:Hid (esN L ((mfl r).data.toList.take (k+1))=esN L ((mfl r).data.toList.take k)):=by show _=_;rw [htk.out];exact esN_other L _ _ (by rw [HX.out];omega)
        go_wp2
        go_roundw
        case rel=>exact ⟨k+1,A,c,by omega,by go_num,by rw [hes.out,htk.out];exact HMM.out.set1 _ 7 _ (npart_107 m r _ _ A _ c _ HX.out)⟩
        case measure=>simp [intOf];omega
       ·have n107:(((mfl r)[k].toNat:Int)==107)=false:=by simpa using y107
        clear y107
        by_cases y121:(((mfl r)[k].toNat:Int)==121)=true
        ·have hx:((mfl r)[k].toNat:Int)=121:=by simpa using y121
         have HX:=zh hx;clear hx;have hes:Hid (esN L ((mfl r).data.toList.take (k+1))=esN L ((mfl r).data.toList.take k)):=by show _=_;rw [htk.out];exact esN_other L _ _ (by rw [HX.out];omega)
         go_wp2
         go_roundw
         case rel=>exact ⟨k+1,A,c,by omega,by go_num,by rw [hes.out,htk.out];exact HMM.out.set1 _ 8 _ (npart_121 m r _ _ A _ c _ HX.out)⟩
         case measure=>simp [intOf];omega
        ·have n121:(((mfl r)[k].toNat:Int)==121)=false:=by simpa using y121
         clear y121
         by_cases y101:(((mfl r)[k].toNat:Int)==101)=true
         ·have hx:((mfl r)[k].toNat:Int)=101:=by simpa using y101
          have HX:=zh hx;clear hx;have hes:Hid (esN L ((mfl r).data.toList.take k)=[]):=esN_none L _ (honce.out HX.out);have hdone:Hid (esN L ((mfl r).data.toList.take (k+1))=mks L):=by show _=_;rw [htk.out];exact esN_101 L _ _ HX.out
          clear s4 s5 s6 s7 s8 s10 o4 o5 o6 o7 o8 o10 fz
          have hM0:Nd w m (nvc m true LA ln lc) r w1.heap.size ((mfl r).data.toList.take k) A c (mkL L 0) wr:=by
           have h:=HMM.out;rw [hes.out] at h;exact h
          have HM0:=zh hM0;clear hM0 HMM;obtain ⟨l,hl⟩:∃ l,l=(mfl r).data.toList.take k:=⟨_,rfl⟩;rw [←hl] at HM0;have HLL:=zh hl;clear hl;go_wp2
          go_loopw [9] (fun i wr=>∃ (j:Nat) (A:Option Addr) (c:Nat),j≤ln∧j≤10∧i=.int .i64 j∧Nd w m (nvc m true LA ln lc) r w1.heap.size l A c (mkL L j) wr) (fun i _=>10-(intOf i).toNat)
          case atStart=>exact ⟨0,A,c,Nat.zero_le _,Nat.zero_le _,rfl,HM0.out⟩
          case round =>
           obtain ⟨j,A2,c2,hj,hj10,rfl,hJ⟩:=hrel;clear HM0;have b12:wr.cell? ⟨w.heap.size,12,none⟩=some (.slice LA ln lc):=hJ.bc 12;have HJ:=zh hJ;clear hJ
           by_cases h1:j<ln
           ·have t1:decide ((j:Int)<(ln:Int))=true:=decide_eq_true (by omega)
            by_cases h2:j<10
            ·have t2:decide ((j:Int)<10)=true:=decide_eq_true (by omega);obtain ⟨p,hp⟩:∃ p,L[j]?=some p:=⟨_,List.getElem?_eq_getElem (by rw [HL.out.len];exact h1)⟩;obtain ⟨a,hA,hB,hc⟩:=(HL.out.below HJ.out.be).at_ j p hp;obtain ⟨pe,po⟩:=p;have d0:wr.cell? (a.add (j*12))=some (.int .u64 pe.term):=hc 0 (by omega);have d1:wr.cell? ⟨(a.add (j*12)).block,(a.add (j*12)).off+1,none⟩=some (.int .u64 pe.index):=hc 1 (by omega);have d2:wr.cell? ⟨(a.add (j*12)).block,(a.add (j*12)).off+2,none⟩=some (.int .i64 pe.kind):=hc 2 (by omega);have d3:wr.cell? ⟨(a.add (j*12)).block,(a.add (j*12)).off+3,none⟩=some (.int .u64 pe.client):=hc 3 (by omega);have d4:wr.cell? ⟨(a.add (j*12)).block,(a.add (j*12)).off+4,none⟩=some (.int .u64 pe.seq):=hc 4 (by omega);have d5:wr.cell? ⟨(a.add (j*12)).block,(a.add (j*12)).off+5,none⟩=some (.int .u64 pe.block):=hc 5 (by omega);have d6:wr.cell? ⟨(a.add (j*12)).block,(a.add (j*12)).off+6,none⟩=some (.int .u64 pe.many):=hc 6 (by omega);have d7:wr.cell? ⟨(a.add (j*12)).block,(a.add (j*12)).off+7,none⟩=some (.int .i64 pe.node):=hc 7 (by omega);have d8:wr.cell? ⟨(a.add (j*12)).block,(a.add (j*12)).off+8,none⟩=some (.int .i64 pe.level):=hc 8 (by omega);have d9:wr.cell? ⟨(a.add (j*12)).block,(a.add (j*12)).off+9,none⟩=some (.string pe.data):=hc 9 (by omega);have d10:wr.cell? ⟨(a.add (j*12)).block,(a.add (j*12)).off+10,none⟩=some (.string pe.old):=hc 10 (by omega);have d11:wr.cell? ⟨(a.add (j*12)).block,(a.add (j*12)).off+11,none⟩=some (.bool po):=hc 11 (by omega);have K10:=zh (fun (W:World)=>made_yes pe W (HO.out _ (List.mem_of_getElem? hp)));have HP:=zh hp;clear hc hp;rw [hA] at b12;clear hA hB;obtain ⟨E,hE⟩:∃ E,E=mk pe:=⟨_,rfl⟩;obtain ⟨es,hes2⟩:∃ es,es=mkL L j:=⟨_,rfl⟩;have hln2:es.length=j:=by rw [hes2];unfold mkL;rw [List.length_map,List.length_take,HL.out.len];omega
             have hnext:Hid ((mkL L (j+1))=es++[E]):=by show _=_;rw [mades_snoc L j _ HP.out,←hes2,hE]
             rw [←hes2] at HJ;have K10b:∀ (W:World),Calls Tryz.prog 7 #[mdv pe true] W fun r w'=>r=.returned (ev E)∧Below W.heap.size W w':=fun W=>hE▸K10.out W;have K10h:=zh K10b;clear hes2 hE K10 K10b
             go_upto_region 29 with fail
             obtain ⟨W,hW⟩:∃ W,W=wr.alloc (Obj.cells (mdc pe true) 26):=⟨_,rfl⟩;rw [←hW];have hbW:Below wr.heap.size wr W:=by rw [hW];exact zba
             have hNW:Nd w m (nvc m true LA ln lc) r w1.heap.size l A2 c2 es W:=HJ.out.call hbW;have hkW:W.heap[wr.heap.size]?=some (.cells (mdc pe true) 26 (0,0)):=by rw [hW];exact heap_alloc_new wr _
             have hgl:w1.heap.size<W.heap.size:=hNW.gs;have q0:W.drew.cell? ⟨wr.heap.size,0,none⟩=some (.int .u64 pe.term):=zcr W _ 0 _ 26 (0,0) hkW;have q1:W.drew.cell? ⟨wr.heap.size,1,none⟩=some (.int .u64 pe.index):=zcr W _ 1 _ 26 (0,0) hkW;have q2:W.drew.cell? ⟨wr.heap.size,2,none⟩=some (.int .i64 pe.kind):=zcr W _ 2 _ 26 (0,0) hkW;have q3:W.drew.cell? ⟨wr.heap.size,3,none⟩=some (.int .u64 pe.client):=zcr W _ 3 _ 26 (0,0) hkW;have q4:W.drew.cell? ⟨wr.heap.size,4,none⟩=some (.int .u64 pe.seq):=zcr W _ 4 _ 26 (0,0) hkW;have q5:W.drew.cell? ⟨wr.heap.size,5,none⟩=some (.int .u64 pe.block):=zcr W _ 5 _ 26 (0,0) hkW;have q6:W.drew.cell? ⟨wr.heap.size,6,none⟩=some (.int .u64 pe.many):=zcr W _ 6 _ 26 (0,0) hkW;have q7:W.drew.cell? ⟨wr.heap.size,7,none⟩=some (.int .i64 pe.node):=zcr W _ 7 _ 26 (0,0) hkW;have q8:W.drew.cell? ⟨wr.heap.size,8,none⟩=some (.int .i64 pe.level):=zcr W _ 8 _ 26 (0,0) hkW;have q9:W.drew.cell? ⟨wr.heap.size,9,none⟩=some (.string pe.data):=zcr W _ 9 _ 26 (0,0) hkW;have q10:W.drew.cell? ⟨wr.heap.size,10,none⟩=some (.string pe.old):=zcr W _ 10 _ 26 (0,0) hkW;have q11:W.drew.cell? ⟨wr.heap.size,11,none⟩=some (.bool true):=zcr W _ 11 _ 26 (0,0) hkW
             have x9:W.drew.cell? ⟨w1.heap.size,9,none⟩=some (.slice A2 j c2):=by
              have h:=hNW.oc 9;rw [hln2] at h;exact h
             have HNW:=zh hNW;have HLN:=zh hln2;clear hbW hkW hNW hW hln2 HJ d0 d1 d2 d3 d4 d5 d6 d7 d8 d9 d10 d11 b12
             go_region_law (first
              | (refine step_append_lies _ (by rfl) _ _ 27 (by rfl) (w1.heap.size+1) 24 i24 (ev ezz) 11 104 Tryz.underlying27 hi24 hz24 hs24 hb24 (by rfl) (by omega) (.slice A2 j c2) j (flat es) (by rfl) (by exact HOW.out) ⟨w2.heap.size,0,none⟩ 1 1 (ec E).toList (by rfl) rfl (by exact HNEWS.out) (fun u hu=>by simp at hu;rcases hu with rfl|rfl|rfl|rfl|rfl|rfl|rfl|rfl|rfl|rfl|rfl<;>rfl) (by omega) (by unfold maxLen;omega) (by omega) (by exact HBS.out) (w2.heap.size+1) (by simp) ?_;intro g4 cap w4 hown4 hgrow hat hlt4;have z9:w4.cell? ⟨w1.heap.size,9,none⟩=some (.slice A2 j c2):=World.grownBy.cell hgrow (by exact U9.out) (HNE.out);have g0:w4.frozen? ⟨w1.heap.size,9,none⟩=false:=(World.frozen?_of_block (hgrow.block _ (HGL.out) (HNE.out))).trans F9.out)
              | (go_simp;go_at_call 7;(with_reducible refine (K10h.out _).mono ?_);rintro q w2 ⟨rfl,hb2⟩;have HN2:Hid (Nd w m (nvc m true LA ln lc) r w1.heap.size l A2 c2 es (w2.alloc (Obj.cells (ec E) 24))):=((HNW.out.call (Below.refl _ _).drew).call hb2).call zba;have v9:w2.cell? ⟨w1.heap.size,9,none⟩=some (.slice A2 j c2):=(hb2.cell (p:=⟨w1.heap.size,9,none⟩) hgl).trans x9;have U9:Hid ((w2.alloc (Obj.cells (ec E) 24)).cell? ⟨w1.heap.size,9,none⟩=some (.slice A2 j c2)):=(World.cell?_alloc_lt w2 _ ⟨w1.heap.size,9,none⟩ (Nat.lt_of_lt_of_le hgl hb2.size)).trans v9;have t9:=U9.out;have HOW:Hid ((w2.alloc (Obj.cells (ec E) 24)).ownsRow (w1.heap.size+1) 24 11 (.slice A2 j c2) j (flat es)):=HLN.out▸HN2.out.own;have HNEWS:Hid (∀ (i:Nat) u,(ec E).toList[i]?=some u→(w2.alloc (Obj.cells (ec E) 24)).cell? ((⟨w2.heap.size,0,none⟩:Addr).add i)=some u):=fun i u hu=>cell_new_list w2 (ec E).toList 24 i u hu;have HBS:Hid (w1.heap.size+1≤(w2.alloc (Obj.cells (ec E) 24)).heap.size):=HN2.out.gs;have HGL:Hid (w1.heap.size<(w2.alloc (Obj.cells (ec E) 24)).heap.size):=HN2.out.gs;have HNE:Hid (some w1.heap.size≠(Value.slice A2 j c2).ownBlock):=(fun e=>absurd (HOW.out.lt _ e.symm).1 (by omega));have F9:Hid ((w2.alloc (Obj.cells (ec E) 24)).frozen? ⟨w1.heap.size,9,none⟩=false):=Md.of HN2.out.out;clear hb2))
             all_goals
              have HN3:=zh (HN2.out.app HLN.out hown4 rfl hgrow);clear HN2 hown4 hgrow hat hlt4 g0 z9 q0 q1 q2 q3 q4 q5 q6 q7 q8 q9 q10 q11 x9 v9 t9 U9 HOW HNEWS HBS HGL HNE F9 HNW K10h hgl;go_wp2
              go_roundw
              case rel=>first|exact ⟨j+1,some ⟨g4,0,none⟩,cap,h1,h2,by go_num,by rw [hnext.out];exact HN3.out⟩|((repeat apply Exists.intro);exact ⟨⟨j+1,some ⟨g4,0,none⟩,cap,h1,h2,by go_num,by rw [hnext.out];exact HN3.out⟩,rfl⟩)
              case measure=>simp [intOf];omega
            ·have t2:decide ((j:Int)<10)=false:=decide_eq_false (by omega);have hfin:Hid ((mkL L j)=mks L):=mks_done L j (.inr (by omega)) hj10;go_wp2;refine ⟨⟨k+1,A2,c2,by omega,by go_num,?_⟩,by simp [intOf];omega⟩;rw [hdone.out,←hfin.out,htk.out,←HLL.out];exact HJ.out.same _ (npart_101 m r _ _ A2 _ c2 _ HX.out)
           ·have t1:decide ((j:Int)<(ln:Int))=false:=decide_eq_false (by omega);have hfin:Hid ((mkL L j)=mks L):=mks_done L j (.inl (by rw [HL.out.len];omega)) hj10;go_wp2;refine ⟨⟨k+1,A2,c2,by omega,by go_num,?_⟩,by simp [intOf];omega⟩;rw [hdone.out,←hfin.out,htk.out,←HLL.out];exact HJ.out.same _ (npart_101 m r _ _ A2 _ c2 _ HX.out)
         ·have n101:(((mfl r)[k].toNat:Int)==101)=false:=by simpa using y101
          clear y101
          by_cases y115:(((mfl r)[k].toNat:Int)==115)=true
          ·have hx:((mfl r)[k].toNat:Int)=115:=by simpa using y115
           have HX:=zh hx;clear hx;have hes:Hid (esN L ((mfl r).data.toList.take (k+1))=esN L ((mfl r).data.toList.take k)):=by show _=_;rw [htk.out];exact esN_other L _ _ (by rw [HX.out];omega)
           go_wp2
           go_roundw
           case rel=>exact ⟨k+1,A,c,by omega,by go_num,by rw [hes.out,htk.out];exact HMM.out.set1 _ 10 _ (npart_115 m r _ _ A _ c _ HX.out)⟩
           case measure=>simp [intOf];omega
          ·have n115:(((mfl r)[k].toNat:Int)==115)=false:=by simpa using y115
           clear y115
           have hne:Hid (∀ c∈([105,112,116,107,121,115]:List Int),((mfl r)[k].toNat:Int)≠c):=by
            intro c hc h0;simp only [List.mem_cons,List.not_mem_nil,or_false] at hc;rw [h0] at n105 n112 n116 n107 n121 n115
            rcases hc with rfl|rfl|rfl|rfl|rfl|rfl<;>simp at n105 n112 n116 n107 n121 n115
           have hes:Hid (esN L ((mfl r).data.toList.take (k+1))=esN L ((mfl r).data.toList.take k)):=by show _=_;rw [htk.out];exact esN_other L _ _ (fun h=>by rw [h] at n101;simp at n101)
           go_wp2;have hM2:Nd w m (nvc m true LA ln lc) r w1.heap.size ((mfl r).data.toList.take (k+1)) A c (esN L ((mfl r).data.toList.take (k+1))) wr:=by rw [hes.out,htk.out];exact HMM.out.same _ (npart_other m r _ _ A _ c _ hne.out)
           go_roundw
           case rel=>exact ⟨k+1,A,c,by omega,by go_num,hM2⟩
           case measure=>simp [intOf];omega
   ·have hkn:k=(mfl r).size:=by omega
    subst hkn
    have hd:Hid ((mfl r).data.toList.take (mfl r).size=(mfl r).data.toList):=by
     show _=_
     rw [List.take_of_length_le (by simp)]
    rw [hd.out] at hM;obtain ⟨n,hn⟩:∃ n,n=(esN L (mfl r).data.toList).length:=⟨_,rfl⟩;obtain ⟨E,hE⟩:∃ E,E=nm m L A n c:=⟨_,rfl⟩;have hEp:E=npart m r (mfl r).data.toList A n c (esN L (mfl r).data.toList):=by rw [hE,HRR.out];rfl
    have hout:=hM.out;rw [←hn,←hEp] at hout
    have hown:wr.ownsRow (w1.heap.size+1) 24 11 (.slice A n c) n (flat E.es):=by
     have h:=hM.own;rw [←hn] at h;rw [hEp];exact h
    have hlen:E.es.length=n:=by rw [hEp,hn];rfl
    have hEo:∀ i,wr.cell? ⟨w1.heap.size,i,none⟩=(mc E)[i]?:=fun i=>zcr wr _ i _ 29 (0,0) hout;obtain ⟨p0,p1,p2,p3,p4,p5,p6,p7,p8,p9,p10⟩:=zmclf (w:=wr) (b:=w1.heap.size) (e:=E) hEo;obtain ⟨z0,z1,z2,z3,z4,z5,z6,z7,z8,z9,z10⟩:=zmzlf (w:=wr) (b:=w.heap.size+1) hM.rc;have fz:∀ i,wr.frozen? ⟨w.heap.size+1,i,none⟩=false:=fun i=>Md.of hM.res;have HBE:=zh hM.be;have HRES:=zh hM.res;have HOWN:=zh hown;have HLEN:=zh hlen;have HEE:=zh hE;have HGT:=zh hM.lt;clear hout hEo hM hEp hown hlen hE hn hd;go_wp2;obtain ⟨WF,hWF⟩:∃ WF,WF=wrm wr (w.heap.size+1) E:=⟨_,rfl⟩;unfold wrm at hWF;rw [←hWF]
    have hblk:WF.heap[w.heap.size+1]?=some (.cells (mc E) 29 (0,0)):=by
     rw [hWF];exact store_allm E HRES.out
    have hbF:Below w.heap.size w WF:=by
     rw [hWF];exact below_allm E HBE.out (by omega)
    have hownF:WF.ownsRow (w1.heap.size+1) 24 11 (.slice A n c) n (flat E.es):=by
     rw [hWF];exact own_allm E HOWN.out (by have:=HGT.out;omega)
    have hEf:∀ i,WF.cell? ⟨w.heap.size+1,i,none⟩=(mc E)[i]?:=fun i=>zcr WF _ i _ 29 (0,0) hblk;obtain ⟨f0,f1,f2,f3,f4,f5,f6,f7,f8,f9,f10⟩:=zmclf (w:=WF) (b:=w.heap.size+1) (e:=E) hEf;clear hEf hblk hWF;exact bodyPost_ret (v:=mv E) (by simp [results,Tryz.results10,go_sem,f0,f1,f2,f3,f4,f5,f6,f7,f8,f9,f10]) rfl ⟨A,c,n,by rw [←HEE.out],by rw [←HEE.out];exact HLEN.out,by rw [←HEE.out];exact ents_of_own hownF HLEN.out,hbF⟩
end Go.Proofs.YtpdbeijfchmlgaaGreat
