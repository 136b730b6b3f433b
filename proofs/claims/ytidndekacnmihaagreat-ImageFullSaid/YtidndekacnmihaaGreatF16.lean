/- Parts of a proof. -/
import Derived.Test.YtidndekacnmihaaGreatF15
set_option linter.unusedVariables false
set_option linter.unusedSimpArgs false
set_option maxHeartbeats 8000000
set_option maxRecDepth 100000
namespace Go.Proofs.YtidndekacnmihaaGreat
open Go.RowKit
section
open Vi
section
theorem zeroI_yes (w:World):Calls Tryz.prog 326 #[.int .i64 0] w fun e w'=>e=.returned (.bool true)∧w=w':=by
 go_enter Tryz.func326,Tryz.ntmps326;go_wp2;go_ret;exact ⟨rfl,rfl⟩
theorem zeroI_no (v:Int) (w:World) (h:v≠0):Calls Tryz.prog 326 #[.int .i64 v] w fun e w'=>e=.returned (.bool false)∧w=w':=by
 go_enter Tryz.func326,Tryz.ntmps326;go_wp2;go_ret;exact ⟨by simp [h],rfl⟩
theorem zeroU_yes (w:World):Calls Tryz.prog 330 #[.int .u64 0] w fun e w'=>e=.returned (.bool true)∧w=w':=by
 go_enter Tryz.func330,Tryz.ntmps330;go_wp2;go_ret;exact ⟨rfl,rfl⟩
theorem zeroU_no (v:Int) (w:World) (h:v≠0):Calls Tryz.prog 330 #[.int .u64 v] w fun e w'=>e=.returned (.bool false)∧w=w':=by
 go_enter Tryz.func330,Tryz.ntmps330;go_wp2;go_ret;exact ⟨by simp [h],rfl⟩
theorem zeroS_yes (w:World):Calls Tryz.prog 334 #[.string ⟨#[]⟩] w fun e w'=>e=.returned (.bool true)∧w=w':=by
 go_enter Tryz.func334,Tryz.ntmps334;go_wp2;go_ret;exact ⟨rfl,rfl⟩
theorem zeroS_no (s:ByteArray) (w:World) (h:s.size≠0):Calls Tryz.prog 334 #[.string s] w fun e w'=>e=.returned (.bool false)∧w=w':=by
 have h2:¬ s=ByteArray.empty:=fun e=>h (by rw [e];rfl);go_enter Tryz.func334,Tryz.ntmps334;go_wp2;go_ret
 have h3:¬ s.toList=[]:=by
  rw [ztf];intro e
  have:=congrArg List.length e
  exact h (by simpa using this)
 exact ⟨by simp [h2,h3],rfl⟩
theorem zft (n:Nat) (w:World) (h:n<9223372036854775808):Calls Tryz.prog 327 #[.int .i64 n] w fun e w'=>e=.returned (.string (zaH n))∧Below w.heap.size w w':=by
 have hw:IntKind.u64.wrap (n:Int)=(n:Int):=IntWalk.u64_in _ (by omega);have K:=zh (zcR n w (by omega));clear h;go_enter Tryz.func327,Tryz.ntmps327
 go_wp2_with fail
 refine K.out.mono ?_;rintro e w1 ⟨rfl,hb⟩;go_wp2;go_ret;exact ⟨rfl,hb⟩
theorem zch (n:Nat) (w:World) (h:n<18446744073709551616):Calls Tryz.prog 331 #[.int .u64 n] w fun e w'=>e=.returned (.string (zaH n))∧Below w.heap.size w w':=by
 have K:=zh (zcR n w h);have hw:IntKind.u64.wrap (n:Int)=(n:Int):=IntWalk.u64_in _ (by omega);clear h;go_enter Tryz.func331,Tryz.ntmps331
 go_wp2_with fail
 refine K.out.mono ?_;rintro e w1 ⟨rfl,hb⟩;go_wp2;go_ret;exact ⟨rfl,hb⟩
theorem zqn (q:Nat) (w:World):Calls Tryz.prog 305 #[.pointer (some ⟨q,0,none⟩)] w fun e w'=>e=.returned (.pointer (some ⟨q,2,none⟩))∧w=w':=by
 go_enter Tryz.func305,Tryz.ntmps305;go_wp2;go_ret;exact ⟨rfl,rfl⟩
theorem zoq (q a nn p:Nat) (n:Nat) (w:World) (hc:w.cell? ⟨q,2,none⟩=some (.int .i64 n)) (ha:w.cell? ⟨a,0,none⟩=some (.func (.func 305) #[] #[])) (hn:w.cell? ⟨nn,0,none⟩=some (.func (.func 326) #[] #[])) (hp:w.cell? ⟨p,0,none⟩=some (.func (.func 327) #[] #[])) (h:n<9223372036854775808) :
 Calls Tryz.prog 342 #[.pointer (some ⟨q,0,none⟩),.pointer (some ⟨a,0,none⟩),.pointer (some ⟨nn,0,none⟩),.pointer (some ⟨p,0,none⟩)] w fun e w'=>e=.returned (.string (nb n))∧Below w.heap.size w w':=by
 have HAT:=zh (zqn q)
 by_cases h0:n=0
 ·skip;subst h0;have K:=zh zeroI_yes;have e0:nb ((0:Nat):Int)=⟨#[]⟩:=rfl;rw [e0];clear h e0;go_enter Tryz.func342,Tryz.ntmps342
  go_wp2_with fail
  refine (HAT.out _).mono ?_;rintro e w1 ⟨rfl,rfl⟩
  go_wp2_with fail
  refine (K.out _).mono ?_;rintro e w1 ⟨rfl,rfl⟩;go_wp2;go_ret;exact ⟨rfl,Below.refl _ _⟩
 ·skip;have K:=zh (fun W=>zeroI_no (n:Int) W (by omega));have K2:=zh (fun W=>zft n W h);have e0:nb (n:Int)=zaH n:=by unfold nb;rw [if_neg (by omega),zsK]
  rw [e0];clear h e0 h0;go_enter Tryz.func342,Tryz.ntmps342
  go_wp2_with fail
  refine (HAT.out _).mono ?_;rintro e w1 ⟨rfl,rfl⟩
  go_wp2_with fail
  refine (K.out _).mono ?_;rintro e w1 ⟨rfl,rfl⟩
  go_wp2_with fail
  refine (K2.out _).mono ?_;rintro e w1 ⟨rfl,hb⟩;go_wp2;go_ret;exact ⟨rfl,hb⟩
theorem zqo (q:Nat) (w:World):Calls Tryz.prog 307 #[.pointer (some ⟨q,0,none⟩)] w fun e w'=>e=.returned (.pointer (some ⟨q,0,none⟩))∧w=w':=by
 go_enter Tryz.func307,Tryz.ntmps307;go_wp2;go_ret;exact ⟨rfl,rfl⟩
theorem zor (q a nn p:Nat) (n:Nat) (w:World) (hc:w.cell? ⟨q,0,none⟩=some (.int .u64 n)) (ha:w.cell? ⟨a,0,none⟩=some (.func (.func 307) #[] #[])) (hn:w.cell? ⟨nn,0,none⟩=some (.func (.func 330) #[] #[])) (hp:w.cell? ⟨p,0,none⟩=some (.func (.func 331) #[] #[])) (h:n<18446744073709551616) :
 Calls Tryz.prog 345 #[.pointer (some ⟨q,0,none⟩),.pointer (some ⟨a,0,none⟩),.pointer (some ⟨nn,0,none⟩),.pointer (some ⟨p,0,none⟩)] w fun e w'=>e=.returned (.string (nb n))∧Below w.heap.size w w':=by
 have HAT:=zh (zqo q)
 by_cases h0:n=0
 ·skip;subst h0;have K:=zh zeroU_yes;have e0:nb ((0:Nat):Int)=⟨#[]⟩:=rfl;rw [e0];clear h e0;go_enter Tryz.func345,Tryz.ntmps345
  go_wp2_with fail
  refine (HAT.out _).mono ?_;rintro e w1 ⟨rfl,rfl⟩
  go_wp2_with fail
  refine (K.out _).mono ?_;rintro e w1 ⟨rfl,rfl⟩;go_wp2;go_ret;exact ⟨rfl,Below.refl _ _⟩
 ·skip;have K:=zh (fun W=>zeroU_no (n:Int) W (by omega));have K2:=zh (fun W=>zch n W h);have e0:nb (n:Int)=zaH n:=by unfold nb;rw [if_neg (by omega),zsK]
  rw [e0];clear h e0 h0;go_enter Tryz.func345,Tryz.ntmps345
  go_wp2_with fail
  refine (HAT.out _).mono ?_;rintro e w1 ⟨rfl,rfl⟩
  go_wp2_with fail
  refine (K.out _).mono ?_;rintro e w1 ⟨rfl,rfl⟩
  go_wp2_with fail
  refine (K2.out _).mono ?_;rintro e w1 ⟨rfl,hb⟩;go_wp2;go_ret;exact ⟨rfl,hb⟩
theorem zqp (q:Nat) (w:World):Calls Tryz.prog 308 #[.pointer (some ⟨q,0,none⟩)] w fun e w'=>e=.returned (.pointer (some ⟨q,1,none⟩))∧w=w':=by
 go_enter Tryz.func308,Tryz.ntmps308;go_wp2;go_ret;exact ⟨rfl,rfl⟩
theorem zos (q a nn p:Nat) (n:Nat) (w:World) (hc:w.cell? ⟨q,1,none⟩=some (.int .u64 n)) (ha:w.cell? ⟨a,0,none⟩=some (.func (.func 308) #[] #[])) (hn:w.cell? ⟨nn,0,none⟩=some (.func (.func 330) #[] #[])) (hp:w.cell? ⟨p,0,none⟩=some (.func (.func 331) #[] #[])) (h:n<18446744073709551616) :
 Calls Tryz.prog 345 #[.pointer (some ⟨q,0,none⟩),.pointer (some ⟨a,0,none⟩),.pointer (some ⟨nn,0,none⟩),.pointer (some ⟨p,0,none⟩)] w fun e w'=>e=.returned (.string (nb n))∧Below w.heap.size w w':=by
 have HAT:=zh (zqp q)
 by_cases h0:n=0
 ·skip;subst h0;have K:=zh zeroU_yes;have e0:nb ((0:Nat):Int)=⟨#[]⟩:=rfl;rw [e0];clear h e0;go_enter Tryz.func345,Tryz.ntmps345
  go_wp2_with fail
  refine (HAT.out _).mono ?_;rintro e w1 ⟨rfl,rfl⟩
  go_wp2_with fail
  refine (K.out _).mono ?_;rintro e w1 ⟨rfl,rfl⟩;go_wp2;go_ret;exact ⟨rfl,Below.refl _ _⟩
 ·skip;have K:=zh (fun W=>zeroU_no (n:Int) W (by omega));have K2:=zh (fun W=>zch n W h);have e0:nb (n:Int)=zaH n:=by unfold nb;rw [if_neg (by omega),zsK]
  rw [e0];clear h e0 h0;go_enter Tryz.func345,Tryz.ntmps345
  go_wp2_with fail
  refine (HAT.out _).mono ?_;rintro e w1 ⟨rfl,rfl⟩
  go_wp2_with fail
  refine (K.out _).mono ?_;rintro e w1 ⟨rfl,rfl⟩
  go_wp2_with fail
  refine (K2.out _).mono ?_;rintro e w1 ⟨rfl,hb⟩;go_wp2;go_ret;exact ⟨rfl,hb⟩
theorem zqq (q:Nat) (w:World):Calls Tryz.prog 309 #[.pointer (some ⟨q,0,none⟩)] w fun e w'=>e=.returned (.pointer (some ⟨q,3,none⟩))∧w=w':=by
 go_enter Tryz.func309,Tryz.ntmps309;go_wp2;go_ret;exact ⟨rfl,rfl⟩
theorem zot (q a nn p:Nat) (n:Nat) (w:World) (hc:w.cell? ⟨q,3,none⟩=some (.int .u64 n)) (ha:w.cell? ⟨a,0,none⟩=some (.func (.func 309) #[] #[])) (hn:w.cell? ⟨nn,0,none⟩=some (.func (.func 330) #[] #[])) (hp:w.cell? ⟨p,0,none⟩=some (.func (.func 331) #[] #[])) (h:n<18446744073709551616) :
 Calls Tryz.prog 345 #[.pointer (some ⟨q,0,none⟩),.pointer (some ⟨a,0,none⟩),.pointer (some ⟨nn,0,none⟩),.pointer (some ⟨p,0,none⟩)] w fun e w'=>e=.returned (.string (nb n))∧Below w.heap.size w w':=by
 have HAT:=zh (zqq q)
 by_cases h0:n=0
 ·skip;subst h0;have K:=zh zeroU_yes;have e0:nb ((0:Nat):Int)=⟨#[]⟩:=rfl;rw [e0];clear h e0;go_enter Tryz.func345,Tryz.ntmps345
  go_wp2_with fail
  refine (HAT.out _).mono ?_;rintro e w1 ⟨rfl,rfl⟩
  go_wp2_with fail
  refine (K.out _).mono ?_;rintro e w1 ⟨rfl,rfl⟩;go_wp2;go_ret;exact ⟨rfl,Below.refl _ _⟩
 ·skip;have K:=zh (fun W=>zeroU_no (n:Int) W (by omega));have K2:=zh (fun W=>zch n W h);have e0:nb (n:Int)=zaH n:=by unfold nb;rw [if_neg (by omega),zsK]
  rw [e0];clear h e0 h0;go_enter Tryz.func345,Tryz.ntmps345
  go_wp2_with fail
  refine (HAT.out _).mono ?_;rintro e w1 ⟨rfl,rfl⟩
  go_wp2_with fail
  refine (K.out _).mono ?_;rintro e w1 ⟨rfl,rfl⟩
  go_wp2_with fail
  refine (K2.out _).mono ?_;rintro e w1 ⟨rfl,hb⟩;go_wp2;go_ret;exact ⟨rfl,hb⟩
theorem zqr (q:Nat) (w:World):Calls Tryz.prog 310 #[.pointer (some ⟨q,0,none⟩)] w fun e w'=>e=.returned (.pointer (some ⟨q,4,none⟩))∧w=w':=by
 go_enter Tryz.func310,Tryz.ntmps310;go_wp2;go_ret;exact ⟨rfl,rfl⟩
theorem zou (q a nn p:Nat) (n:Nat) (w:World) (hc:w.cell? ⟨q,4,none⟩=some (.int .u64 n)) (ha:w.cell? ⟨a,0,none⟩=some (.func (.func 310) #[] #[])) (hn:w.cell? ⟨nn,0,none⟩=some (.func (.func 330) #[] #[])) (hp:w.cell? ⟨p,0,none⟩=some (.func (.func 331) #[] #[])) (h:n<18446744073709551616) :
 Calls Tryz.prog 345 #[.pointer (some ⟨q,0,none⟩),.pointer (some ⟨a,0,none⟩),.pointer (some ⟨nn,0,none⟩),.pointer (some ⟨p,0,none⟩)] w fun e w'=>e=.returned (.string (nb n))∧Below w.heap.size w w':=by
 have HAT:=zh (zqr q)
 by_cases h0:n=0
 ·skip;subst h0;have K:=zh zeroU_yes;have e0:nb ((0:Nat):Int)=⟨#[]⟩:=rfl;rw [e0];clear h e0;go_enter Tryz.func345,Tryz.ntmps345
  go_wp2_with fail
  refine (HAT.out _).mono ?_;rintro e w1 ⟨rfl,rfl⟩
  go_wp2_with fail
  refine (K.out _).mono ?_;rintro e w1 ⟨rfl,rfl⟩;go_wp2;go_ret;exact ⟨rfl,Below.refl _ _⟩
 ·skip;have K:=zh (fun W=>zeroU_no (n:Int) W (by omega));have K2:=zh (fun W=>zch n W h);have e0:nb (n:Int)=zaH n:=by unfold nb;rw [if_neg (by omega),zsK]
  rw [e0];clear h e0 h0;go_enter Tryz.func345,Tryz.ntmps345
  go_wp2_with fail
  refine (HAT.out _).mono ?_;rintro e w1 ⟨rfl,rfl⟩
  go_wp2_with fail
  refine (K.out _).mono ?_;rintro e w1 ⟨rfl,rfl⟩
  go_wp2_with fail
  refine (K2.out _).mono ?_;rintro e w1 ⟨rfl,hb⟩;go_wp2;go_ret;exact ⟨rfl,hb⟩
theorem zqs (q:Nat) (w:World):Calls Tryz.prog 311 #[.pointer (some ⟨q,0,none⟩)] w fun e w'=>e=.returned (.pointer (some ⟨q,5,none⟩))∧w=w':=by
 go_enter Tryz.func311,Tryz.ntmps311;go_wp2;go_ret;exact ⟨rfl,rfl⟩
theorem zov (q a nn p:Nat) (n:Nat) (w:World) (hc:w.cell? ⟨q,5,none⟩=some (.int .u64 n)) (ha:w.cell? ⟨a,0,none⟩=some (.func (.func 311) #[] #[])) (hn:w.cell? ⟨nn,0,none⟩=some (.func (.func 330) #[] #[])) (hp:w.cell? ⟨p,0,none⟩=some (.func (.func 331) #[] #[])) (h:n<18446744073709551616) :
 Calls Tryz.prog 345 #[.pointer (some ⟨q,0,none⟩),.pointer (some ⟨a,0,none⟩),.pointer (some ⟨nn,0,none⟩),.pointer (some ⟨p,0,none⟩)] w fun e w'=>e=.returned (.string (nb n))∧Below w.heap.size w w':=by
 have HAT:=zh (zqs q)
 by_cases h0:n=0
 ·skip;subst h0;have K:=zh zeroU_yes;have e0:nb ((0:Nat):Int)=⟨#[]⟩:=rfl;rw [e0];clear h e0;go_enter Tryz.func345,Tryz.ntmps345
  go_wp2_with fail
  refine (HAT.out _).mono ?_;rintro e w1 ⟨rfl,rfl⟩
  go_wp2_with fail
  refine (K.out _).mono ?_;rintro e w1 ⟨rfl,rfl⟩;go_wp2;go_ret;exact ⟨rfl,Below.refl _ _⟩
 ·skip;have K:=zh (fun W=>zeroU_no (n:Int) W (by omega));have K2:=zh (fun W=>zch n W h);have e0:nb (n:Int)=zaH n:=by unfold nb;rw [if_neg (by omega),zsK]
  rw [e0];clear h e0 h0;go_enter Tryz.func345,Tryz.ntmps345
  go_wp2_with fail
  refine (HAT.out _).mono ?_;rintro e w1 ⟨rfl,rfl⟩
  go_wp2_with fail
  refine (K.out _).mono ?_;rintro e w1 ⟨rfl,rfl⟩
  go_wp2_with fail
  refine (K2.out _).mono ?_;rintro e w1 ⟨rfl,hb⟩;go_wp2;go_ret;exact ⟨rfl,hb⟩
theorem zqt (q:Nat) (w:World):Calls Tryz.prog 312 #[.pointer (some ⟨q,0,none⟩)] w fun e w'=>e=.returned (.pointer (some ⟨q,6,none⟩))∧w=w':=by
 go_enter Tryz.func312,Tryz.ntmps312;go_wp2;go_ret;exact ⟨rfl,rfl⟩
theorem zow (q a nn p:Nat) (n:Nat) (w:World) (hc:w.cell? ⟨q,6,none⟩=some (.int .u64 n)) (ha:w.cell? ⟨a,0,none⟩=some (.func (.func 312) #[] #[])) (hn:w.cell? ⟨nn,0,none⟩=some (.func (.func 330) #[] #[])) (hp:w.cell? ⟨p,0,none⟩=some (.func (.func 331) #[] #[])) (h:n<18446744073709551616) :
 Calls Tryz.prog 345 #[.pointer (some ⟨q,0,none⟩),.pointer (some ⟨a,0,none⟩),.pointer (some ⟨nn,0,none⟩),.pointer (some ⟨p,0,none⟩)] w fun e w'=>e=.returned (.string (nb n))∧Below w.heap.size w w':=by
 have HAT:=zh (zqt q)
 by_cases h0:n=0
 ·skip;subst h0;have K:=zh zeroU_yes;have e0:nb ((0:Nat):Int)=⟨#[]⟩:=rfl;rw [e0];clear h e0;go_enter Tryz.func345,Tryz.ntmps345
  go_wp2_with fail
  refine (HAT.out _).mono ?_;rintro e w1 ⟨rfl,rfl⟩
  go_wp2_with fail
  refine (K.out _).mono ?_;rintro e w1 ⟨rfl,rfl⟩;go_wp2;go_ret;exact ⟨rfl,Below.refl _ _⟩
 ·skip;have K:=zh (fun W=>zeroU_no (n:Int) W (by omega));have K2:=zh (fun W=>zch n W h);have e0:nb (n:Int)=zaH n:=by unfold nb;rw [if_neg (by omega),zsK]
  rw [e0];clear h e0 h0;go_enter Tryz.func345,Tryz.ntmps345
  go_wp2_with fail
  refine (HAT.out _).mono ?_;rintro e w1 ⟨rfl,rfl⟩
  go_wp2_with fail
  refine (K.out _).mono ?_;rintro e w1 ⟨rfl,rfl⟩
  go_wp2_with fail
  refine (K2.out _).mono ?_;rintro e w1 ⟨rfl,hb⟩;go_wp2;go_ret;exact ⟨rfl,hb⟩
theorem zqu (q:Nat) (w:World):Calls Tryz.prog 313 #[.pointer (some ⟨q,0,none⟩)] w fun e w'=>e=.returned (.pointer (some ⟨q,7,none⟩))∧w=w':=by
 go_enter Tryz.func313,Tryz.ntmps313;go_wp2;go_ret;exact ⟨rfl,rfl⟩
theorem zox (q a nn p:Nat) (n:Nat) (w:World) (hc:w.cell? ⟨q,7,none⟩=some (.int .i64 n)) (ha:w.cell? ⟨a,0,none⟩=some (.func (.func 313) #[] #[])) (hn:w.cell? ⟨nn,0,none⟩=some (.func (.func 326) #[] #[])) (hp:w.cell? ⟨p,0,none⟩=some (.func (.func 327) #[] #[])) (h:n<9223372036854775808) :
 Calls Tryz.prog 342 #[.pointer (some ⟨q,0,none⟩),.pointer (some ⟨a,0,none⟩),.pointer (some ⟨nn,0,none⟩),.pointer (some ⟨p,0,none⟩)] w fun e w'=>e=.returned (.string (nb n))∧Below w.heap.size w w':=by
 have HAT:=zh (zqu q)
 by_cases h0:n=0
 ·skip;subst h0;have K:=zh zeroI_yes;have e0:nb ((0:Nat):Int)=⟨#[]⟩:=rfl;rw [e0];clear h e0;go_enter Tryz.func342,Tryz.ntmps342
  go_wp2_with fail
  refine (HAT.out _).mono ?_;rintro e w1 ⟨rfl,rfl⟩
  go_wp2_with fail
  refine (K.out _).mono ?_;rintro e w1 ⟨rfl,rfl⟩;go_wp2;go_ret;exact ⟨rfl,Below.refl _ _⟩
 ·skip;have K:=zh (fun W=>zeroI_no (n:Int) W (by omega));have K2:=zh (fun W=>zft n W h);have e0:nb (n:Int)=zaH n:=by unfold nb;rw [if_neg (by omega),zsK]
  rw [e0];clear h e0 h0;go_enter Tryz.func342,Tryz.ntmps342
  go_wp2_with fail
  refine (HAT.out _).mono ?_;rintro e w1 ⟨rfl,rfl⟩
  go_wp2_with fail
  refine (K.out _).mono ?_;rintro e w1 ⟨rfl,rfl⟩
  go_wp2_with fail
  refine (K2.out _).mono ?_;rintro e w1 ⟨rfl,hb⟩;go_wp2;go_ret;exact ⟨rfl,hb⟩
theorem zqv (q:Nat) (w:World):Calls Tryz.prog 314 #[.pointer (some ⟨q,0,none⟩)] w fun e w'=>e=.returned (.pointer (some ⟨q,8,none⟩))∧w=w':=by
 go_enter Tryz.func314,Tryz.ntmps314;go_wp2;go_ret;exact ⟨rfl,rfl⟩
theorem zoy (q a nn p:Nat) (n:Nat) (w:World) (hc:w.cell? ⟨q,8,none⟩=some (.int .i64 n)) (ha:w.cell? ⟨a,0,none⟩=some (.func (.func 314) #[] #[])) (hn:w.cell? ⟨nn,0,none⟩=some (.func (.func 326) #[] #[])) (hp:w.cell? ⟨p,0,none⟩=some (.func (.func 327) #[] #[])) (h:n<9223372036854775808) :
 Calls Tryz.prog 342 #[.pointer (some ⟨q,0,none⟩),.pointer (some ⟨a,0,none⟩),.pointer (some ⟨nn,0,none⟩),.pointer (some ⟨p,0,none⟩)] w fun e w'=>e=.returned (.string (nb n))∧Below w.heap.size w w':=by
 have HAT:=zh (zqv q)
 by_cases h0:n=0
 ·skip;subst h0;have K:=zh zeroI_yes;have e0:nb ((0:Nat):Int)=⟨#[]⟩:=rfl;rw [e0];clear h e0;go_enter Tryz.func342,Tryz.ntmps342
  go_wp2_with fail
  refine (HAT.out _).mono ?_;rintro e w1 ⟨rfl,rfl⟩
  go_wp2_with fail
  refine (K.out _).mono ?_;rintro e w1 ⟨rfl,rfl⟩;go_wp2;go_ret;exact ⟨rfl,Below.refl _ _⟩
 ·skip;have K:=zh (fun W=>zeroI_no (n:Int) W (by omega));have K2:=zh (fun W=>zft n W h);have e0:nb (n:Int)=zaH n:=by unfold nb;rw [if_neg (by omega),zsK]
  rw [e0];clear h e0 h0;go_enter Tryz.func342,Tryz.ntmps342
  go_wp2_with fail
  refine (HAT.out _).mono ?_;rintro e w1 ⟨rfl,rfl⟩
  go_wp2_with fail
  refine (K.out _).mono ?_;rintro e w1 ⟨rfl,rfl⟩
  go_wp2_with fail
  refine (K2.out _).mono ?_;rintro e w1 ⟨rfl,hb⟩;go_wp2;go_ret;exact ⟨rfl,hb⟩
theorem zoz (q:Nat) (w:World):Calls Tryz.prog 316 #[.pointer (some ⟨q,0,none⟩)] w fun e w'=>e=.returned (.pointer (some ⟨q,9,none⟩))∧w=w':=by
 go_enter Tryz.func316,Tryz.ntmps316;go_wp2;go_ret;exact ⟨rfl,rfl⟩
theorem zmb (q a nn p:Nat) (d:ByteArray) (w:World) (hc:w.cell? ⟨q,9,none⟩=some (.string d)) (ha:w.cell? ⟨a,0,none⟩=some (.func (.func 316) #[] #[])) (hn:w.cell? ⟨nn,0,none⟩=some (.func (.func 334) #[] #[])) (hp:w.cell? ⟨p,0,none⟩=some (.func (.func 335) #[] #[])) (h:d.size≤140737488355328) :
 Calls Tryz.prog 348 #[.pointer (some ⟨q,0,none⟩),.pointer (some ⟨a,0,none⟩),.pointer (some ⟨nn,0,none⟩),.pointer (some ⟨p,0,none⟩)] w fun e w'=>e=.returned (.string (tb d))∧Below w.heap.size w w':=by
 have HAT:=zh (zoz q)
 by_cases h0:d.size=0
 ·skip;have hd:=(zoD d).1 h0;subst hd;have e0:tb ⟨#[]⟩=⟨#[]⟩:=rfl;rw [e0];have K:=zh zeroS_yes;clear h e0 h0;go_enter Tryz.func348,Tryz.ntmps348
  go_wp2_with fail
  refine (HAT.out _).mono ?_;rintro e w1 ⟨rfl,rfl⟩
  go_wp2_with fail
  refine (K.out _).mono ?_;rintro e w1 ⟨rfl,rfl⟩;go_wp2;go_ret;exact ⟨rfl,Below.refl _ _⟩
 ·skip;have K:=zh (fun W=>zeroS_no d W h0);have K2:=zh (fun W=>zjC d W h);have e0:tb d=zaH d.size++d:=by unfold tb;rw [if_neg h0]
  rw [e0];clear h e0 h0;go_enter Tryz.func348,Tryz.ntmps348
  go_wp2_with fail
  refine (HAT.out _).mono ?_;rintro e w1 ⟨rfl,rfl⟩
  go_wp2_with fail
  refine (K.out _).mono ?_;rintro e w1 ⟨rfl,rfl⟩
  go_wp2_with fail
  refine (K2.out _).mono ?_;rintro e w1 ⟨rfl,hb⟩;go_wp2;go_ret;exact ⟨rfl,hb⟩
theorem zoA (q:Nat) (w:World):Calls Tryz.prog 317 #[.pointer (some ⟨q,0,none⟩)] w fun e w'=>e=.returned (.pointer (some ⟨q,10,none⟩))∧w=w':=by
 go_enter Tryz.func317,Tryz.ntmps317;go_wp2;go_ret;exact ⟨rfl,rfl⟩
theorem zmc (q a nn p:Nat) (d:ByteArray) (w:World) (hc:w.cell? ⟨q,10,none⟩=some (.string d)) (ha:w.cell? ⟨a,0,none⟩=some (.func (.func 317) #[] #[])) (hn:w.cell? ⟨nn,0,none⟩=some (.func (.func 334) #[] #[])) (hp:w.cell? ⟨p,0,none⟩=some (.func (.func 335) #[] #[])) (h:d.size≤140737488355328) :
 Calls Tryz.prog 348 #[.pointer (some ⟨q,0,none⟩),.pointer (some ⟨a,0,none⟩),.pointer (some ⟨nn,0,none⟩),.pointer (some ⟨p,0,none⟩)] w fun e w'=>e=.returned (.string (tb d))∧Below w.heap.size w w':=by
 have HAT:=zh (zoA q)
 by_cases h0:d.size=0
 ·skip;have hd:=(zoD d).1 h0;subst hd;have e0:tb ⟨#[]⟩=⟨#[]⟩:=rfl;rw [e0];have K:=zh zeroS_yes;clear h e0 h0;go_enter Tryz.func348,Tryz.ntmps348
  go_wp2_with fail
  refine (HAT.out _).mono ?_;rintro e w1 ⟨rfl,rfl⟩
  go_wp2_with fail
  refine (K.out _).mono ?_;rintro e w1 ⟨rfl,rfl⟩;go_wp2;go_ret;exact ⟨rfl,Below.refl _ _⟩
 ·skip;have K:=zh (fun W=>zeroS_no d W h0);have K2:=zh (fun W=>zjC d W h);have e0:tb d=zaH d.size++d:=by unfold tb;rw [if_neg h0]
  rw [e0];clear h e0 h0;go_enter Tryz.func348,Tryz.ntmps348
  go_wp2_with fail
  refine (HAT.out _).mono ?_;rintro e w1 ⟨rfl,rfl⟩
  go_wp2_with fail
  refine (K.out _).mono ?_;rintro e w1 ⟨rfl,rfl⟩
  go_wp2_with fail
  refine (K2.out _).mono ?_;rintro e w1 ⟨rfl,hb⟩;go_wp2;go_ret;exact ⟨rfl,hb⟩
end
end
section
open Vi
theorem zbO (n:Nat) (h:n<18446744073709551616):(zaH n).size≤10:=za9 n h
theorem zsb (v:Int) (h:v≤18446744073709551615):(nb v).size≤10:=by
 unfold nb
 split
 ·exact zsE _
 ·exact zbO _ (by omega)
theorem zry (d:ByteArray) (h:d.size≤64):(tb d).size≤74:=by
 unfold tb
 split
 ·exact zsE _
 ·rw [zsH]
  have:=zbO d.size (by omega)
  omega
theorem zeg {X:En} (ok:X.Ok) (fw:zgP X) (t:Nat):(fP t X).size≤74:=by
 obtain ⟨a1,a2,a3,a4,a5,a6,a7,a8,a9,a10,a11⟩:=zgR ok fw;have nn:∀ v:Int,v≤18446744073709551615→(nb v).size≤74:=fun v h=>zsB (zsb v h) (by omega);unfold fP
 split
 ·exact nn _ (by omega)
 ·exact nn _ a2.2
 ·exact nn _ a3.2
 ·exact nn _ a4.2
 ·exact nn _ a5.2
 ·exact nn _ a6.2
 ·exact nn _ a7.2
 ·exact nn _ (by omega)
 ·exact nn _ (by omega)
 ·exact zry _ a10
 ·exact zry _ a11
 ·exact zsE _
theorem zrz {X:En} (ok:X.Ok) (fw:zgP X) (t:Nat) (ht:t<12):(fdB eF X t).size≤84:=by
 unfold fdB
 split
 ·exact zsE _
 ·rw [zsH]
  have:=zbO t (by omega)
  have h:(fP t X).size≤74:=zeg ok fw t;have h2:(eF.P t X).size≤74:=h;omega
theorem ziL {X:En} (ok:X.Ok) (fw:zgP X):∀ k,k≤11→(zeM eF X k).size≤84*k
 | 0,_=>zsE _
 | k+1,h=>by
   have ih:=ziL ok fw k (by omega);have h1:=zrz ok fw (k+1) (by omega);show (zeM eF X k++fdB eF X (k+1)).size≤_;rw [zsH];omega
theorem zqw {X:En} (k:Nat) (h:(fP (k+1) X).size=0):zeM eF X (k+1)=zeM eF X k:=by
 show zeM eF X k++fdB eF X (k+1)=_;have h2:(eF.P (k+1) X).size=0:=h;unfold fdB;rw [if_pos h2];apply ByteArray.ext
 simp
theorem zoB {X:En} (k:Nat) (h:(fP (k+1) X).size≠0):zeM eF X (k+1)=zeM eF X k++zaH (k+1)++fP (k+1) X:=by
 show zeM eF X k++fdB eF X (k+1)=_;have h2:¬ (eF.P (k+1) X).size=0:=h;unfold fdB;rw [if_neg h2,zaI]
structure Ps (w0:World) (fb:Nat) (X:En) (x:ByteArray) (w:World):Prop where
 t:zmg (w0.heap.size+1) (w0.heap.size+1) x w
 be:Below w0.heap.size w0 w
 box:w.heap[w0.heap.size]?=some (.cells (ec X) 69 (0,0))
 fl:zpj fb w
section
variable {w0 w w1:World} {fb:Nat} {X:En} {x y:ByteArray}
theorem zmg.blk {B b:Nat} {x:ByteArray} {w:World} (h:zmg B b x w):∃ cs,w.heap[b]?=some (.cells cs 151 (0,0)):=by
 rcases h with ⟨_,v,hbk,_⟩|⟨_,v,hbk,_⟩<;>exact ⟨_,hbk⟩
theorem Ps.sz (h:Ps w0 fb X x w):w0.heap.size+1<w.heap.size:=by
 obtain ⟨cs,hb⟩:=h.t.blk;exact (zgx hb)
theorem Ps.call (h:Ps w0 fb X x w) (hb:Below w.heap.size w w1):Ps w0 fb X x w1:=by
 have hs:=h.sz;exact ⟨h.t.below hb,h.be.trans (hb.mono (by omega)),(hb.block _ (by omega)).trans h.box,h.fl.on (zd4.below hb)⟩
theorem Ps.write (h:Ps w0 fb X x w) (ht:zmg (w0.heap.size+1) (w0.heap.size+1) y w1) (hb:Below (w0.heap.size+1) w w1) (ho:Lib.OthersKept 5 (some (w0.heap.size+1)) w w1):Ps w0 fb X y w1:=by
 obtain ⟨cs,hc⟩:=h.t.blk;exact ⟨ht,h.be.trans (hb.mono (by omega)),(hb.block _ (by omega)).trans h.box,h.fl.on (zd4.others ho hc (.inr (.inr rfl)))⟩
theorem Ps.cell (h:Ps w0 fb X x w) (i:Nat):w.cell? ⟨w0.heap.size,i,none⟩=(ec X)[i]?:=zcr w _ i _ 69 (0,0) h.box
end
theorem zjB (w0:World) (fb:Nat) (X:En) (x s:ByteArray) (w:World) (h:Ps w0 fb X x w) (hl:x.size+s.size≤140737488355328) :
 Calls Tryz.prog 182 #[.pointer (some ⟨w0.heap.size+1,0,none⟩),.string s] w fun e w'=>e=.returned (.tuple #[.int .i64 s.size,.nilIface])∧Ps w0 fb X (x++s) w':=by
 have hs:=h.sz;exact (zoF _ _ x s w h.t hl (by omega)).mono fun e w' ⟨h1,h2,h3,h4⟩=>⟨h1,h.write h2 h3 h4⟩
theorem zpk (w0:World) (fb:Nat) (X:En) (x:ByteArray) (t:Nat) (w:World) (h:Ps w0 fb X x w) (hl:x.size≤10000) (ht:t<12) :
 Calls Tryz.prog 303 #[.int .i64 t,.pointer (some ⟨w0.heap.size+1,0,none⟩)] w fun e w'=>e=.returned (.tuple #[])∧Ps w0 fb X (x++zaH t) w':=by
 have hw:IntKind.u64.wrap (t:Int)=(t:Int):=IntWalk.u64_in _ (by omega);have K1:=zh (zcR t w (by omega));have hps:=zbO t (by omega);have K2:Hid (∀ W,Below w.heap.size w W→Calls Tryz.prog 182 #[.pointer (some ⟨w0.heap.size+1,0,none⟩),.string (zaH t)] W fun e w'=>e=.returned (.tuple #[.int .i64 (zaH t).size,.nilIface])∧Ps w0 fb X (x++zaH t) w'):=fun W hb=>zjB w0 fb X x (zaH t) W (h.call hb) (by omega);clear h hl ht hps;go_enter Tryz.func303,Tryz.ntmps303
 go_wp2_with fail
 refine K1.out.mono ?_;rintro e w1 ⟨rfl,hb⟩
 go_wp2_with fail
 refine (K2.out _ hb).mono ?_;rintro e w2 ⟨rfl,hP⟩;go_wp2;go_end0;exact ⟨rfl,hP⟩
theorem zbk {f:Nat} {xs:Array Value} {w:World} {s P:ByteArray} (h:Calls Tryz.prog f xs w fun e w'=>e=.returned (.string s)∧Below w.heap.size w w') (hP:P=s):Calls Tryz.prog f xs w fun e w'=>e=.returned (.string P)∧Below w.heap.size w w':=by rw [hP];exact h
def Ix (t:Nat):Prop:=t<12∧(zaH t).size≤10
theorem zpl {w W:World} {fb t:Nat} {X:En} {v:Value} {y:ByteArray} (h:Ix t) (he:zeM eF X t=y) (hv:v=.int .i64 ((t+1:Nat):Int)) (hp:Ps w fb X y W):∃ k:Nat,k≤11∧v=.int .i64 ((k+1:Nat):Int)∧Ps w fb X (zeM eF X k) W:=⟨t,by have:=h.1;omega,hv,by rw [he];exact hp⟩
theorem zrA {w W:World} {fb t:Nat} {X:En} {x:ByteArray} (i:Ix t) (h:Ps w fb X x W) (hl:x.size≤10000):Calls Tryz.prog 303 #[.int .i64 t,.pointer (some ⟨w.heap.size+1,0,none⟩)] W fun e w'=>e=.returned (.tuple #[])∧Ps w fb X (x++zaH t) w':=zpk w fb X x t W h hl i.1
theorem zmd {X:En} {k:Nat} (ok:X.Ok) (fw:zgP X) (hk:k<11):∃ x P,x=zeM eF X k∧P=fP (k+1) X∧P.size≤74∧Ix (k+1)∧(P.size=0→zeM eF X (k+1)=x)∧(P.size≠0→zeM eF X (k+1)=x++zaH (k+1)++P) :=
 ⟨_,_,rfl,rfl,zeg ok fw (k+1),⟨by omega,zbO (k+1) (by omega)⟩,zqw k,zoB k⟩
theorem zgO (fb:Nat) (X:En) (w:World) (ok:X.Ok) (fw:zgP X) (hF:zpj fb w) :
 Calls Tryz.prog 283 #[.slice (some ⟨fb,0,none⟩) 12 12,ev X] w fun e w'=>e=.returned (.string (sbE X))∧Below w.heap.size w w':=by
 have hmf:=zmL;obtain ⟨W0,hW0⟩:∃ W0,W0=(w.alloc (Obj.cells (ec X) 69)).alloc (Obj.cells #[.pointer none,.slice none 0 0] 151):=⟨_,rfl⟩
 have P0:Ps w fb X (zeM eF X 0) W0:=by
  have hb:Below w.heap.size w W0:=by rw [hW0];exact zba.alloc (by simp) _
  have k0:W0.heap[w.heap.size]?=some (.cells (ec X) 69 (0,0)):=by
   rw [hW0];exact (zsG _ _ _ (by simp)).trans (zsz w _)
  have k1:W0.heap[w.heap.size+1]?=some (.cells #[.pointer none,.slice none 0 0] 151 (0,0)):=by
   have h:=zsz (w.alloc (Obj.cells (ec X) 69)) (Obj.cells #[.pointer none,.slice none 0 0] 151);rw [show (w.alloc (Obj.cells (ec X) 69)).heap.size=w.heap.size+1 by simp] at h;rw [hW0];exact h
  refine ⟨.inl ⟨zsy _,_,k1,ztq _ _ _ _,by simp [Value.ownBlock]⟩,hb,k0,hF.on (zd4.below hb)⟩
 have HW:=zh hW0;have HP0:=zh P0;have HOK:=zh ok;have HFW:=zh fw;obtain ⟨b1,b2,b3,b4,b5,b6,b7,b8,b9,b10,b11⟩:=zgR ok fw;clear hW0 P0 ok fw hF;go_enter Tryz.func283,Tryz.ntmps283
 go_wp2_with fail
 rw [←HW.out];clear HW hmf
 go_loopw [7] (fun i wr=>∃ k:Nat,k≤11∧i=.int .i64 ((k+1:Nat):Int)∧Ps w fb X (zeM eF X k) wr) (fun i _=>12-(Go.RowKit.intOf i).toNat)
 case atStart=>exact ⟨0,zsE _,rfl,HP0.out⟩
 case round =>
  obtain ⟨k,hk,rfl,hr⟩:=hrel;clear HP0;have hsz:=ziL HOK.out HFW.out k hk
  by_cases hlt:k<11
  ·have h11:k=0∨k=1∨k=2∨k=3∨k=4∨k=5∨k=6∨k=7∨k=8∨k=9∨k=10:=by omega
   obtain ⟨v,hblk,g1,g2,g3,g4,g5,g6,g7,g8,g9,g10,g11⟩:=hr.fl;rcases h11 with rfl|rfl|rfl|rfl|rfl|rfl|rfl|rfl|rfl|rfl|rfl;obtain ⟨a,n,p,r,_,hv1,hv2,ha0,hn0,hp0,hr0⟩:=id g1;have hf:wr.cell? ⟨fb,2,none⟩=some _:=(zcr wr fb 2 _ 354 (0,0) hblk).trans (congrArg some hv1);obtain ⟨m,hm⟩:=zsM b1.1;have hK:=zoq w.heap.size a n p m wr (by rw [←hm];exact hr.cell 2) (zcr wr a 0 _ _ (0,0) ha0) (zcr wr n 0 _ _ (0,0) hn0) (zcr wr p 0 _ _ (0,0) hp0) (by omega);rw [←hm] at hK;clear hm;obtain ⟨x,P,hx,hP,hle,hpl,HS0,HS1⟩:=zmd (k:=0) HOK.out HFW.out (by decide);have HK:=zh (zbk hK hP);rw [←hx] at hr hsz
   rotate_left
   obtain ⟨a,n,p,r,_,hv1,hv2,ha0,hn0,hp0,hr0⟩:=id g2;have hf:wr.cell? ⟨fb,4,none⟩=some _:=(zcr wr fb 4 _ 354 (0,0) hblk).trans (congrArg some hv1);obtain ⟨m,hm⟩:=zsM b2.1;have hK:=zor w.heap.size a n p m wr (by rw [←hm];exact hr.cell 0) (zcr wr a 0 _ _ (0,0) ha0) (zcr wr n 0 _ _ (0,0) hn0) (zcr wr p 0 _ _ (0,0) hp0) (by omega);rw [←hm] at hK;clear hm;obtain ⟨x,P,hx,hP,hle,hpl,HS0,HS1⟩:=zmd (k:=1) HOK.out HFW.out (by decide);have HK:=zh (zbk hK hP);rw [←hx] at hr hsz
   rotate_left
   obtain ⟨a,n,p,r,_,hv1,hv2,ha0,hn0,hp0,hr0⟩:=id g3;have hf:wr.cell? ⟨fb,6,none⟩=some _:=(zcr wr fb 6 _ 354 (0,0) hblk).trans (congrArg some hv1);obtain ⟨m,hm⟩:=zsM b3.1;have hK:=zos w.heap.size a n p m wr (by rw [←hm];exact hr.cell 1) (zcr wr a 0 _ _ (0,0) ha0) (zcr wr n 0 _ _ (0,0) hn0) (zcr wr p 0 _ _ (0,0) hp0) (by omega);rw [←hm] at hK;clear hm;obtain ⟨x,P,hx,hP,hle,hpl,HS0,HS1⟩:=zmd (k:=2) HOK.out HFW.out (by decide);have HK:=zh (zbk hK hP);rw [←hx] at hr hsz
   rotate_left
   obtain ⟨a,n,p,r,_,hv1,hv2,ha0,hn0,hp0,hr0⟩:=id g4;have hf:wr.cell? ⟨fb,8,none⟩=some _:=(zcr wr fb 8 _ 354 (0,0) hblk).trans (congrArg some hv1);obtain ⟨m,hm⟩:=zsM b4.1;have hK:=zot w.heap.size a n p m wr (by rw [←hm];exact hr.cell 3) (zcr wr a 0 _ _ (0,0) ha0) (zcr wr n 0 _ _ (0,0) hn0) (zcr wr p 0 _ _ (0,0) hp0) (by omega);rw [←hm] at hK;clear hm;obtain ⟨x,P,hx,hP,hle,hpl,HS0,HS1⟩:=zmd (k:=3) HOK.out HFW.out (by decide);have HK:=zh (zbk hK hP);rw [←hx] at hr hsz
   rotate_left
   obtain ⟨a,n,p,r,_,hv1,hv2,ha0,hn0,hp0,hr0⟩:=id g5;have hf:wr.cell? ⟨fb,10,none⟩=some _:=(zcr wr fb 10 _ 354 (0,0) hblk).trans (congrArg some hv1);obtain ⟨m,hm⟩:=zsM b5.1;have hK:=zou w.heap.size a n p m wr (by rw [←hm];exact hr.cell 4) (zcr wr a 0 _ _ (0,0) ha0) (zcr wr n 0 _ _ (0,0) hn0) (zcr wr p 0 _ _ (0,0) hp0) (by omega);rw [←hm] at hK;clear hm;obtain ⟨x,P,hx,hP,hle,hpl,HS0,HS1⟩:=zmd (k:=4) HOK.out HFW.out (by decide);have HK:=zh (zbk hK hP);rw [←hx] at hr hsz
   rotate_left
   obtain ⟨a,n,p,r,_,hv1,hv2,ha0,hn0,hp0,hr0⟩:=id g6;have hf:wr.cell? ⟨fb,12,none⟩=some _:=(zcr wr fb 12 _ 354 (0,0) hblk).trans (congrArg some hv1);obtain ⟨m,hm⟩:=zsM b6.1;have hK:=zov w.heap.size a n p m wr (by rw [←hm];exact hr.cell 5) (zcr wr a 0 _ _ (0,0) ha0) (zcr wr n 0 _ _ (0,0) hn0) (zcr wr p 0 _ _ (0,0) hp0) (by omega);rw [←hm] at hK;clear hm;obtain ⟨x,P,hx,hP,hle,hpl,HS0,HS1⟩:=zmd (k:=5) HOK.out HFW.out (by decide);have HK:=zh (zbk hK hP);rw [←hx] at hr hsz
   rotate_left
   obtain ⟨a,n,p,r,_,hv1,hv2,ha0,hn0,hp0,hr0⟩:=id g7;have hf:wr.cell? ⟨fb,14,none⟩=some _:=(zcr wr fb 14 _ 354 (0,0) hblk).trans (congrArg some hv1);obtain ⟨m,hm⟩:=zsM b7.1;have hK:=zow w.heap.size a n p m wr (by rw [←hm];exact hr.cell 6) (zcr wr a 0 _ _ (0,0) ha0) (zcr wr n 0 _ _ (0,0) hn0) (zcr wr p 0 _ _ (0,0) hp0) (by omega);rw [←hm] at hK;clear hm;obtain ⟨x,P,hx,hP,hle,hpl,HS0,HS1⟩:=zmd (k:=6) HOK.out HFW.out (by decide);have HK:=zh (zbk hK hP);rw [←hx] at hr hsz
   rotate_left
   obtain ⟨a,n,p,r,_,hv1,hv2,ha0,hn0,hp0,hr0⟩:=id g8;have hf:wr.cell? ⟨fb,16,none⟩=some _:=(zcr wr fb 16 _ 354 (0,0) hblk).trans (congrArg some hv1);obtain ⟨m,hm⟩:=zsM b8.1;have hK:=zox w.heap.size a n p m wr (by rw [←hm];exact hr.cell 7) (zcr wr a 0 _ _ (0,0) ha0) (zcr wr n 0 _ _ (0,0) hn0) (zcr wr p 0 _ _ (0,0) hp0) (by omega);rw [←hm] at hK;clear hm;obtain ⟨x,P,hx,hP,hle,hpl,HS0,HS1⟩:=zmd (k:=7) HOK.out HFW.out (by decide);have HK:=zh (zbk hK hP);rw [←hx] at hr hsz
   rotate_left
   obtain ⟨a,n,p,r,_,hv1,hv2,ha0,hn0,hp0,hr0⟩:=id g9;have hf:wr.cell? ⟨fb,18,none⟩=some _:=(zcr wr fb 18 _ 354 (0,0) hblk).trans (congrArg some hv1);obtain ⟨m,hm⟩:=zsM b9.1;have hK:=zoy w.heap.size a n p m wr (by rw [←hm];exact hr.cell 8) (zcr wr a 0 _ _ (0,0) ha0) (zcr wr n 0 _ _ (0,0) hn0) (zcr wr p 0 _ _ (0,0) hp0) (by omega);rw [←hm] at hK;clear hm;obtain ⟨x,P,hx,hP,hle,hpl,HS0,HS1⟩:=zmd (k:=8) HOK.out HFW.out (by decide);have HK:=zh (zbk hK hP);rw [←hx] at hr hsz
   rotate_left
   obtain ⟨a,n,p,r,_,hv1,hv2,ha0,hn0,hp0,hr0⟩:=id g10;have hf:wr.cell? ⟨fb,20,none⟩=some _:=(zcr wr fb 20 _ 354 (0,0) hblk).trans (congrArg some hv1);have hK:=zmb w.heap.size a n p X.data wr (hr.cell 9) (zcr wr a 0 _ _ (0,0) ha0) (zcr wr n 0 _ _ (0,0) hn0) (zcr wr p 0 _ _ (0,0) hp0) (by omega);obtain ⟨x,P,hx,hP,hle,hpl,HS0,HS1⟩:=zmd (k:=9) HOK.out HFW.out (by decide);have HK:=zh (zbk hK hP);rw [←hx] at hr hsz
   rotate_left
   obtain ⟨a,n,p,r,_,hv1,hv2,ha0,hn0,hp0,hr0⟩:=id g11;have hf:wr.cell? ⟨fb,22,none⟩=some _:=(zcr wr fb 22 _ 354 (0,0) hblk).trans (congrArg some hv1);have hK:=zmc w.heap.size a n p X.old wr (hr.cell 10) (zcr wr a 0 _ _ (0,0) ha0) (zcr wr n 0 _ _ (0,0) hn0) (zcr wr p 0 _ _ (0,0) hp0) (by omega);obtain ⟨x,P,hx,hP,hle,hpl,HS0,HS1⟩:=zmd (k:=10) HOK.out HFW.out (by decide);have HK:=zh (zbk hK hP);rw [←hx] at hr hsz
   rotate_left
   all_goals
    have HR:=zh hr;clear g1 g2 g3 g4 g5 g6 g7 g8 g9 g10 g11 b1 b2 b3 b4 b5 b6 b7 b8 b9 b10 b11 hx hP hK hv1 hv2 ha0 hn0 hp0 hr0 hblk hr
    by_cases hz:P.size=0
    ·have hPe:=(zoD P).1 hz;have HE:=zh (HS0 hz);clear hz HS0 HS1 hle;subst hPe
     go_wp2_with fail
     refine HK.out.mono ?_;rintro e w1 ⟨rfl,hb⟩;go_wp2
     go_roundw
     case rel=>exact zpl hpl HE.out (by go_num) (HR.out.call hb)
     case measure=>simp [Go.RowKit.intOf]
    ·have HE:=zh (HS1 hz);have h2:¬ P=ByteArray.empty:=fun e=>hz (by rw [e];rfl)
     have h3:¬ P.toList=[]:=by
      rw [ztf];intro e
      have:=congrArg List.length e
      exact hz (by simpa using this)
     have h6:(!P.toList.isEmpty)=true:=by
      cases hq:P.toList with
      | nil=>exact absurd hq h3
      | cons a l=>rfl
     clear hz HS0 HS1
     go_wp2_with fail
     refine HK.out.mono ?_;rintro e w1 ⟨rfl,hb⟩
     go_wp2_with fail
     refine (zrA hpl (HR.out.call hb) (by omega)).mono ?_;rintro e w2 ⟨rfl,h4⟩
     go_wp2_with fail
     refine (zjB w fb X _ P _ h4 (by have:=hpl.2;rw [zsH];omega)).mono ?_;rintro e w3 ⟨rfl,h5⟩;go_wp2
     go_roundw
     case rel=>exact zpl hpl HE.out (by go_num) h5
     case measure=>simp [Go.RowKit.intOf]
  ·have hk11:k=11:=by omega
   subst hk11;have hr2:=hr;have K2:=zh (zpk w fb X (zeM eF X 11) 0 wr hr (by omega) (by omega));have hlen:0<(zeM eF X 11++zaH 0).size:=by rw [zsH];have:=zef 0;omega
   have K3:=zh (fun (W:World) (h:Ps w fb X (zeM eF X 11++zaH 0) W)=>(zmh _ _ _ W h.t hlen).mono fun e w' ⟨h1,h2⟩=>And.intro h1 (h.be.trans (h2.mono (Nat.le_succ _))));have HE:Hid (sbE X=zeM eF X 11++zaH 0):=rfl;clear hr hr2 hlen hsz b1 b2 b3 b4 b5 b6 b7 b8 b9 b10 b11 HOK HFW hlt hk
   go_wp2_with fail
   refine K2.out.mono ?_;rintro e w1 ⟨rfl,h4⟩
   go_wp2_with fail
   refine (K3.out _ h4).mono ?_;rintro e w2 ⟨rfl,h5⟩;go_wp2;go_ret;exact ⟨by rw [HE.out];rfl,h5⟩
end
end Go.Proofs.YtidndekacnmihaaGreat
