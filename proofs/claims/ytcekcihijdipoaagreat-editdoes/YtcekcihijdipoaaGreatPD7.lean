/- A pack of texts: Mesh1, Mesh4, Tx1, Tx2, Ed1, Ed2. -/
import Derived.Deep.RegionHeld3
import Derived.BigRegion
import Derived.Test.YtcekcihijdipoaaGreatPD6
namespace Go.Proofs.YtcekcihijdipoaaGreat
set_option maxRecDepth 100000
set_option maxHeartbeats 16000000
open Go.RowKit Go.ChangeShapes Go.WideShapes Go.ChangeAt
set_option linter.unusedSimpArgs false
set_option linter.unusedVariables false
attribute [local go_sem] qn qZ A2 zg zz zA t5 qJ zf qO qD t6
section
theorem L1{n:Int}(h:0≤n∧n≤9223372036854775807):IntKind.i64.wrap n=n:=by
 simp[IntKind.wrap,IntKind.bits,IntKind.signed];omega
theorem a2K{T:World}{x:List ad4}{d:Nat}:∃y,plus T [⟨blocks x,d⟩]=plus (plus T x) y:=⟨[⟨#[],d⟩],by simp[plus,blocks,draws]⟩
theorem snM{w w':World}(h:∃y,w'=plus w y:=by with_reducible repeat(first|exact j5 _|exact a2K|apply qE|apply zt|apply al9|apply ab5|(apply ZM;assumption))):∃y,w'=plus w y:=h
theorem skM{w w':World}(h:∃y,w'=plus w y:=by with_reducible repeat(first|exact j5 _|exact a2K|apply qE|apply zt|apply al9|apply ab5)):∃y,w'=plus w y:=h
theorem QU{P:Program}{e:TypeId}{z:Value}{c b:Nat}(h:(P.info? e).map (fun i=>(i.zero,i.size,i.bytes))=some (some z,c,b))(hc:z.cells.size=c):∃i z,P.info? e=some i∧i.zero=some z∧i.size=c∧i.bytes=b∧z.cells.size=c:=by
 obtain⟨i0,hi,hz0,hz1,hz2⟩:=info_parts h;exact⟨i0,z,hi,hz0,hz1,hz2,hc⟩
theorem a6Q:Kin Tryz.prog 219 40 3 24:=⟨Tryz.underlying219,QU (z:=.agg #[.int .i64 0,.int .i64 0,.int .i64 0]) kr0 rfl,dc0⟩
theorem a9c:Kin Tryz.prog 47 3 1 8:=⟨Tryz.underlying47,QU (z:=.int .i64 0) kr0 rfl,dc0⟩
theorem a9P:Kin Tryz.prog 57 43 3 24:=⟨Tryz.underlying57,QU (z:=.agg #[.int .i64 0,.int .i64 0,.int .i64 0]) kr0 rfl,dc0⟩
theorem a9x:Kin Tryz.prog 58 137 2 16:=⟨Tryz.underlying58,QU (z:=.agg #[.int .i64 0,.int .i64 0]) kr0 rfl,dc0⟩
theorem a9K:Kin Tryz.prog 59 131 2 32:=⟨Tryz.underlying59,QU (z:=.agg #[.int .u8 0,.slice none 0 0]) kr0 rfl,dc0⟩
theorem arr_40(n:Nat)(a0 a1 a2 b0 b1 b2:Int)(w:World):(Op.equalIn (n+1+1) 40 (.agg #[.int .i64 a0,.int .i64 a1,.int .i64 a2]) (.agg #[.int .i64 b0,.int .i64 b1,.int .i64 b2])).run Tryz.prog w=.ok (a0==b0&&(a1==b1&&(a2==b2))) w:=by
 have u3:=Tryz.underlying3;have a3:=Tryz.isAgg3;have z3:=Tryz.sizeOf3;rw[Op.equalIn];simp only[Sem.run_bind,run_underlying Tryz.underlying40,Result.andThen_ok];simp only[Std.Legacy.Range.forIn_eq_forIn_range',Std.Legacy.Range.size,Nat.sub_zero,Nat.add_sub_cancel,Nat.div_one,List.range'_succ,List.range'_zero,List.forIn_cons,List.forIn_nil];go_simp;by_cases h0:a0=b0<;>by_cases h1:a1=b1<;>by_cases h2:a2=b2<;>simp[h0,h1,h2]
theorem eqarr_40(a0 a1 a2 b0 b1 b2:Int)(w:World):(binOp .eql 40 (.agg #[.int .i64 a0,.int .i64 a1,.int .i64 a2]) (.agg #[.int .i64 b0,.int .i64 b1,.int .i64 b2])).run Tryz.prog w=.ok (.bool (a0==b0&&(a1==b1&&(a2==b2)))) w:=by
 simp only[binOp];simp[Op.equal,Op.maxDepth,arr_40 9998]
theorem larr_40(a0 a1 a2 b0 b1 b2:Int)(w:World):(Op.equalIn 10000 40 (.agg #[.int .i64 a0,.int .i64 a1,.int .i64 a2]) (.agg #[.int .i64 b0,.int .i64 b1,.int .i64 b2])).run Tryz.prog w=.ok (a0==b0&&(a1==b1&&(a2==b2))) w:=arr_40 9998 a0 a1 a2 b0 b1 b2 w
theorem nearr_40(a0 a1 a2 b0 b1 b2:Int)(w:World):(binOp .neq 40 (.agg #[.int .i64 a0,.int .i64 a1,.int .i64 a2]) (.agg #[.int .i64 b0,.int .i64 b1,.int .i64 b2])).run Tryz.prog w=.ok (.bool (!(a0==b0&&(a1==b1&&(a2==b2))))) w:=by
 simp only[binOp];simp[Op.equal,Op.maxDepth,arr_40 9998]
theorem arr_137(n:Nat)(a0 a1 b0 b1:Int)(w:World):(Op.equalIn (n+1+1) 137 (.agg #[.int .i64 a0,.int .i64 a1]) (.agg #[.int .i64 b0,.int .i64 b1])).run Tryz.prog w=.ok (a0==b0&&(a1==b1)) w:=by
 have u3:=Tryz.underlying3;have a3:=Tryz.isAgg3;have z3:=Tryz.sizeOf3;rw[Op.equalIn];simp only[Sem.run_bind,run_underlying Tryz.underlying137,Result.andThen_ok];simp only[Std.Legacy.Range.forIn_eq_forIn_range',Std.Legacy.Range.size,Nat.sub_zero,Nat.add_sub_cancel,Nat.div_one,List.range'_succ,List.range'_zero,List.forIn_cons,List.forIn_nil];go_simp;by_cases h0:a0=b0<;>by_cases h1:a1=b1<;>simp[h0,h1]
theorem eqarr_137(a0 a1 b0 b1:Int)(w:World):(binOp .eql 137 (.agg #[.int .i64 a0,.int .i64 a1]) (.agg #[.int .i64 b0,.int .i64 b1])).run Tryz.prog w=.ok (.bool (a0==b0&&(a1==b1))) w:=by
 simp only[binOp];simp[Op.equal,Op.maxDepth,arr_137 9998]
theorem larr_137(a0 a1 b0 b1:Int)(w:World):(Op.equalIn 10000 137 (.agg #[.int .i64 a0,.int .i64 a1]) (.agg #[.int .i64 b0,.int .i64 b1])).run Tryz.prog w=.ok (a0==b0&&(a1==b1)) w:=arr_137 9998 a0 a1 b0 b1 w
theorem nearr_137(a0 a1 b0 b1:Int)(w:World):(binOp .neq 137 (.agg #[.int .i64 a0,.int .i64 a1]) (.agg #[.int .i64 b0,.int .i64 b1])).run Tryz.prog w=.ok (.bool (!(a0==b0&&(a1==b1)))) w:=by
 simp only[binOp];simp[Op.equal,Op.maxDepth,arr_137 9998]
theorem isnil_47(ao:Option Addr)(n cap:Nat)(w:World):(binOp .eql 47 (.slice ao n cap) (.slice none 0 0)).run Tryz.prog w=.ok (.bool ao.isNone) w:=Lib.run_eql_slice_nil w _ _ ao n cap 0 0 Tryz.underlying47
theorem isnil_57(ao:Option Addr)(n cap:Nat)(w:World):(binOp .eql 57 (.slice ao n cap) (.slice none 0 0)).run Tryz.prog w=.ok (.bool ao.isNone) w:=Lib.run_eql_slice_nil w _ _ ao n cap 0 0 Tryz.underlying57
theorem isnil_58(ao:Option Addr)(n cap:Nat)(w:World):(binOp .eql 58 (.slice ao n cap) (.slice none 0 0)).run Tryz.prog w=.ok (.bool ao.isNone) w:=Lib.run_eql_slice_nil w _ _ ao n cap 0 0 Tryz.underlying58
theorem isnil_59(ao:Option Addr)(n cap:Nat)(w:World):(binOp .eql 59 (.slice ao n cap) (.slice none 0 0)).run Tryz.prog w=.ok (.bool ao.isNone) w:=Lib.run_eql_slice_nil w _ _ ao n cap 0 0 Tryz.underlying59
theorem S2(ao:Option Addr)(n cap:Nat)(ix:List Int)(w:World)(hl:Lay fI w ao n ix)(hn:n≤10000):
  Calls Tryz.prog 193 #[.slice ao n cap] w fun e w'=>∃ao' cap',e=.returned (.slice ao' (n / 3) cap')∧(∃y,w'=plus w y)∧Own 40 3 fV w w' ao' (n / 3) cap' (J1 (R4 ix) (n / 3)):=by
 go_enter Tryz.func193,Tryz.ntmps193;go_wp2;go_loopw [3,4] (fun v i wr=>∃(k:Nat) (ao':Option Addr) (cap':Nat),k≤n / 3∧i=.int .i64 (3*k:Nat)∧v=.slice ao' k cap'∧(∃y,wr=plus w y)∧Own 40 3 fV w wr ao' k cap' (J1 (R4 ix) k)) (fun _ i _=>n - (intOf i).toNat)
 case atStart=>exact⟨0,none,0,om0,rfl,rfl,skM,zd⟩
 case round=>
  obtain⟨k,ao',cap',hk,rfl,rfl,⟨y,rfl⟩,hown⟩:=hrel;obtain⟨j,hj⟩:∃j,3*k=j:=⟨_,rfl⟩;rw[hj];by_cases hkl:j+2<n
  ·obtain⟨g,off,rfl,hg,hcell⟩:=hl.some om0;have c0:=Qh hl.len hcell (k:=j) om0;have c1:=Qh hl.len hcell (k:=j+1) om0;have c2:=Qh hl.len hcell (k:=j+2) om0;have ik0:(j:Int)<(n:Int):=om0;have ik1:(j:Int)+1<(n:Int):=om0;have ip1:(0:Int)≤(j:Int)+1:=om0;have iw1:IntKind.i64.wrap ((j:Int)+1)=(j:Int)+1:=L1 om0;have it1:((j:Int)+1).toNat=j+1:=om0;have ik2:(j:Int)+2<(n:Int):=om0;have ip2:(0:Int)≤(j:Int)+2:=om0;have iw2:IntKind.i64.wrap ((j:Int)+2)=(j:Int)+2:=L1 om0;have it2:((j:Int)+2).toNat=j+2:=om0;go_wp2;go_region_held3 (fun w'=>w'.cell? ⟨g,off+j,none⟩=some (.int .i64 (nth 0 ix j))∧w'.cell? ⟨g,off+(j+1),none⟩=some (.int .i64 (nth 0 ix (j+1)))∧w'.cell? ⟨g,off+(j+2),none⟩=some (.int .i64 (nth 0 ix (j+2)))) (first|(simp[go_sem,↓IntWalk.iteOmega,c0,c1,c2];done)) (first|(refine P2 (T:=w) rfl _ _ rfl a6Q a1x a4o rfl skM (hown.ex skM) rfl (l2:=[R4 ix k]) ⟨rfl,.inr ⟨_,0,rfl,by simp[go_sem];try omega,fun jj u hu=>by match jj,hu with|0,hu=>(simp[fV,R4,hj]at hu;subst hu;simp[go_sem,↓IntWalk.iteOmega])|1,hu=>(simp[fV,R4,hj]at hu;subst hu;simp[go_sem,↓IntWalk.iteOmega])|2,hu=>(simp[fV,R4,hj]at hu;subst hu;simp[go_sem,↓IntWalk.iteOmega])|jj+3,hu=>simp[fV]at hu⟩⟩ om0 dc0 ?_;intro ao' cap' y' hown'));go_wp2;go_roundw
   case rel=>exact⟨k+1,ao',cap',om0,by subst hj;go_num,by subst hj;rfl,⟨y',rfl⟩,by subst hj;rw[←J8];exact hown'⟩
   case measure=>simp[intOf];omega
  ·have ik:¬(j:Int)+2<(n:Int):=om0;obtain rfl:k=n / 3:=om0;go_wp2;go_ret;exact⟨ao',cap',rfl,⟨y,rfl⟩,hown⟩
theorem ZT(ao:Option Addr)(n cap:Nat)(ix:List Int)(w:World)(hl:Lay fI w ao n ix)(hn:n≤10000):
  Calls Tryz.prog 192 #[.slice ao n cap] w fun e w'=>∃ao' cap',e=.returned (.slice ao' (n - 2) cap')∧(∃y,w'=plus w y)∧Own 40 3 fV w w' ao' (n - 2) cap' (J1 (a29 ix) (n - 2)):=by
 go_enter Tryz.func192,Tryz.ntmps192;go_wp2;go_loopw [3,4] (fun v i wr=>∃(k:Nat) (ao':Option Addr) (cap':Nat),k≤n - 2∧i=.int .i64 (k+1:Nat)∧v=.slice ao' k cap'∧(∃y,wr=plus w y)∧Own 40 3 fV w wr ao' k cap' (J1 (a29 ix) k)) (fun _ i _=>n - (intOf i).toNat)
 case atStart=>exact⟨0,none,0,om0,rfl,rfl,skM,zd⟩
 case round=>
  obtain⟨k,ao',cap',hk,rfl,rfl,⟨y,rfl⟩,hown⟩:=hrel;obtain⟨j,hj⟩:∃j,k+1=j:=⟨_,rfl⟩;rw[hj];by_cases hkl:j+1<n
  ·obtain⟨g,off,rfl,hg,hcell⟩:=hl.some om0;have z0:=Qh hl.len hcell (k:=0) om0;rw[Nat.add_zero]at z0;have c0:=Qh hl.len hcell (k:=j) om0;have c1:=Qh hl.len hcell (k:=j+1) om0;have iz:(0:Int)<(n:Int):=om0;have iz1:0<n:=om0;have iz2:¬n=0:=om0;have iz3:¬(n:Int)≤0:=om0;have ik0:(j:Int)<(n:Int):=om0;have ik1:(j:Int)+1<(n:Int):=om0;have ip1:(0:Int)≤(j:Int)+1:=om0;have iw1:IntKind.i64.wrap ((j:Int)+1)=(j:Int)+1:=L1 om0;have it1:((j:Int)+1).toNat=j+1:=om0;go_wp2;go_region_held3 (fun w'=>w'.cell? ⟨g,off,none⟩=some (.int .i64 (nth 0 ix 0))∧w'.cell? ⟨g,off+j,none⟩=some (.int .i64 (nth 0 ix j))∧w'.cell? ⟨g,off+(j+1),none⟩=some (.int .i64 (nth 0 ix (j+1)))) (first|(simp[go_sem,↓IntWalk.iteOmega,z0,c0,c1];done)) (first|(refine P2 (T:=w) rfl _ _ rfl a6Q a1x a4o rfl skM (hown.ex skM) rfl (l2:=[a29 ix k]) ⟨rfl,.inr ⟨_,0,rfl,by simp[go_sem];try omega,fun jj u hu=>by match jj,hu with|0,hu=>(simp[fV,a29,show k+1=j from hj,show k+2=j+1 by omega]at hu;subst hu;simp[go_sem,↓IntWalk.iteOmega])|1,hu=>(simp[fV,a29,show k+1=j from hj,show k+2=j+1 by omega]at hu;subst hu;simp[go_sem,↓IntWalk.iteOmega])|2,hu=>(simp[fV,a29,show k+1=j from hj,show k+2=j+1 by omega]at hu;subst hu;simp[go_sem,↓IntWalk.iteOmega])|jj+3,hu=>simp[fV]at hu⟩⟩ om0 dc0 ?_;intro ao' cap' y' hown'));go_wp2;go_roundw
   case rel=>exact⟨k+1,ao',cap',om0,by subst hj;go_num,by subst hj;rfl,⟨y',rfl⟩,by subst hj;rw[←J8];exact hown'⟩
   case measure=>simp[intOf];omega
  ·have ik:¬(j:Int)+1<(n:Int):=om0;obtain rfl:k=n - 2:=om0;go_wp2;go_ret;exact⟨ao',cap',rfl,⟨y,rfl⟩,hown⟩
end
section
attribute [local go_sem] eqarr_40 nearr_40 larr_40
attribute [local go_sem] eqarr_137 nearr_137 larr_137
attribute [local go_sem] isnil_47
attribute [local go_sem] isnil_57
attribute [local go_sem] isnil_58
attribute [local go_sem] isnil_59
theorem C4{p:Nat→Prop}{k:Nat}(h:∀j,j<k→p j)(hk:p k):∀j,j<k+1→p j:=by
 intro j hj;rcases Nat.lt_or_eq_of_le (Nat.le_of_lt_succ hj)with e|e
 ·exact h j e
 ·exact e▸hk
theorem R3(n lo hi:Int)(w:World):Calls Tryz.prog 183 #[.int .i64 n,.int .i64 lo,.int .i64 hi] w fun e w'=>e=.returned (.bool (inR lo hi n))∧Below w.heap.size w w':=by
 by_cases h1:lo≤n
 ·by_cases h2:n≤hi
  ·rw[show inR lo hi n=true by simp[inR,h1,h2]];go_enter Tryz.func183,Tryz.ntmps183;go_wp2;go_ret;exact⟨rfl,skB⟩
  ·rw[show inR lo hi n=false by simp[inR,h2]];have d2:decide (n≤hi)=false:=decide_eq_false h2;go_enter Tryz.func183,Tryz.ntmps183;go_wp2;go_ret;exact⟨rfl,skB⟩
 ·rw[show inR lo hi n=false by simp[inR,h1]];have d1:decide (lo≤n)=false:=decide_eq_false h1;go_enter Tryz.func183,Tryz.ntmps183;go_wp2;go_ret;exact⟨rfl,skB⟩
theorem N2(lo hi:Int)(ao:Option Addr)(n cap:Nat)(l:List Int)(w:World)(hl:Lay fI w ao n l)(hn:n≤10000):
  Calls Tryz.prog 172 #[.int .i64 lo,.int .i64 hi,.slice ao n cap] w fun e w'=>e=.returned (.bool (l.all (inR lo hi)))∧Below w.heap.size w w':=by
 have hlen:=hl.len;go_enter Tryz.func172,Tryz.ntmps172;go_wp2;go_loopw [11] (fun i wr=>∃k:Nat,k≤n∧i=.int .i64 k∧(∀j,j<k→inR lo hi (nth 0 l j)=true)∧∃x,wr=plus w x) (fun i _=>n - (intOf i).toNat)
 case atStart=>exact⟨0,Nat.zero_le _,rfl,fun j hj=>om0,skM⟩
 case round=>
  obtain⟨k,hk,rfl,hs,x,rfl⟩:=hrel;by_cases hkl:k<n
  ·obtain⟨g,off,rfl,hg,hcell⟩:=hl.some om0;have c0:=Qh hlen hcell (k:=k) hkl;have ik:(k:Int)<(n:Int):=om0;by_cases h1:nth 0 l k<lo
   ·go_wp2;go_ret;exact⟨by rw[C1 (d:=0) (k:=k) om0 (by simp[inR];omega)];rfl,skB⟩
   ·by_cases h2:hi<nth 0 l k
    ·go_wp2;go_ret;exact⟨by rw[C1 (d:=0) (k:=k) om0 (by simp[inR];omega)];rfl,skB⟩
    ·go_wp2;go_roundw
     case rel=>exact⟨k+1,om0,by go_num,C4 hs (by simp[inR];omega),skM⟩
     case measure=>simp[intOf];omega
  ·have ik:¬(k:Int)<(n:Int):=om0;go_wp2;go_ret;exact⟨by rw[K5 (d:=0) (fun j hj=>hs j om0)];rfl,skB⟩
theorem zY(ao ao2:Option Addr)(n n2 cap cap2:Nat)(l l2:List Int)(w:World)(hl:Lay fI w ao n l)(hl2:Lay fI w ao2 n2 l2)(hn:n≤10000)(hn2:n2≤10000):
  Calls Tryz.prog 62 #[.slice ao n cap,.slice ao2 n2 cap2] w fun e w'=>e=.returned (.bool (W5 l l2))∧Below w.heap.size w w':=by
 have hlen:=hl.len;have hlen2:=hl2.len;by_cases hne:n=n2;rotate_left
 ·rw[show W5 l l2=false from L2 om0];have ine:¬(n:Int)=(n2:Int):=om0;have dne:((n:Int)==(n2:Int))=false:=by rw[beq_eq_false_iff_ne];omega
  go_enter Tryz.func62,Tryz.ntmps62;go_wp2;go_ret;exact⟨rfl,skB⟩
 subst hne;go_enter Tryz.func62,Tryz.ntmps62;go_wp2;go_loopw [5] (fun i wr=>∃k:Nat,k≤n∧i=.int .i64 k∧(∀j,j<k→eqI (nth 0 l j) (nth 0 l2 j)=true)∧∃x,wr=plus w x) (fun i _=>n - (intOf i).toNat)
 case atStart=>exact⟨0,Nat.zero_le _,rfl,fun j hj=>om0,skM⟩
 case round=>
  obtain⟨k,hk,rfl,hs,x,rfl⟩:=hrel;by_cases hkl:k<n
  ·obtain⟨g,off,rfl,hg,hcell⟩:=hl.some om0;obtain⟨g2,off2,rfl,hg2,hcell2⟩:=hl2.some om0;have ik:(k:Int)<(n:Int):=om0;have c0:=Qh hlen hcell hkl;have c1:=Qh hlen2 hcell2 hkl;by_cases q0:(nth 0 l k)=(nth 0 l2 k);rotate_left
   ·have dq:((nth 0 l k)==(nth 0 l2 k))=false:=by simp[q0]
    go_wp2;refine qg kr0 kr0 ?_
    (repeat(go_big_quiet_step (fail)))
    refine wpQuiet_nil ?_;rintro _ ⟨x2,rfl⟩;go_wp2;go_ret;exact⟨by rw[show W5 l l2=false from D7 (k:=k) om0 (by simp[eqI,q0])];rfl,skB⟩
   go_wp2;refine qg kr0 kr0 ?_
   (repeat(go_big_quiet_step (fail)))
   refine wpQuiet_nil ?_;rintro _ ⟨x2,rfl⟩;go_wp2;go_roundw
   case rel=>exact⟨k+1,om0,by go_num,C4 hs (by simp[eqI,q0]),skM⟩
   case measure=>simp[intOf];omega
  ·have ik:¬(k:Int)<(n:Int):=om0;go_wp2;go_ret;exact⟨by rw[show W5 l l2=true from L0 om0 (fun j hj=>hs j om0)];rfl,skB⟩
theorem G5(ao ao2:Option Addr)(n n2 cap cap2:Nat)(l l2:List Int)(w:World)(hl:Lay fI w ao n l)(hl2:Lay fI w ao2 n2 l2)(hn:n≤10000)(hn2:n2≤10000):
  Calls Tryz.prog 93 #[.slice ao n cap,.slice ao2 n2 cap2] w fun e w'=>e=.returned (.bool (W5 l l2))∧Below w.heap.size w w':=by
 have hlen:=hl.len;have hlen2:=hl2.len;by_cases hne:n=n2;rotate_left
 ·rw[show W5 l l2=false from L2 om0];have ine:¬(n:Int)=(n2:Int):=om0;have dne:((n:Int)==(n2:Int))=false:=by rw[beq_eq_false_iff_ne];omega
  go_enter Tryz.func93,Tryz.ntmps93;go_wp2;go_ret;exact⟨rfl,skB⟩
 subst hne;go_enter Tryz.func93,Tryz.ntmps93;go_wp2;go_loopw [13] (fun i wr=>∃k:Nat,k≤n∧i=.int .i64 k∧(∀j,j<k→eqI (nth 0 l j) (nth 0 l2 j)=true)∧∃x,wr=plus w x) (fun i _=>n - (intOf i).toNat)
 case atStart=>exact⟨0,Nat.zero_le _,rfl,fun j hj=>om0,skM⟩
 case round=>
  obtain⟨k,hk,rfl,hs,x,rfl⟩:=hrel;by_cases hkl:k<n
  ·obtain⟨g,off,rfl,hg,hcell⟩:=hl.some om0;obtain⟨g2,off2,rfl,hg2,hcell2⟩:=hl2.some om0;have ik:(k:Int)<(n:Int):=om0;have c0:=Qh hlen hcell hkl;have c1:=Qh hlen2 hcell2 hkl;by_cases q0:(nth 0 l k)=(nth 0 l2 k);rotate_left
   ·have dq:((nth 0 l k)==(nth 0 l2 k))=false:=by simp[q0]
    go_wp2;refine qg kr0 kr0 ?_
    (repeat(go_big_quiet_step (fail)))
    refine wpQuiet_nil ?_;rintro _ ⟨x2,rfl⟩;go_wp2;go_ret;exact⟨by rw[show W5 l l2=false from D7 (k:=k) om0 (by simp[eqI,q0])];rfl,skB⟩
   go_wp2;refine qg kr0 kr0 ?_
   (repeat(go_big_quiet_step (fail)))
   refine wpQuiet_nil ?_;rintro _ ⟨x2,rfl⟩;go_wp2;go_roundw
   case rel=>exact⟨k+1,om0,by go_num,C4 hs (by simp[eqI,q0]),skM⟩
   case measure=>simp[intOf];omega
  ·have ik:¬(k:Int)<(n:Int):=om0;go_wp2;go_ret;exact⟨by rw[show W5 l l2=true from L0 om0 (fun j hj=>hs j om0)];rfl,skB⟩
end
section
theorem a2J{n:Int}(h:0≤n∧n≤9223372036854775807):IntKind.i64.wrap n=n:=by
 simp[IntKind.wrap,IntKind.bits,IntKind.signed];omega
theorem a6T{T:World}{x:List ad4}{d:Nat}:∃y,plus T [⟨blocks x,d⟩]=plus (plus T x) y:=⟨[⟨#[],d⟩],by simp[plus,blocks,draws]⟩
theorem sk9{w w':World}(h:∃y,w'=plus w y:=by with_reducible repeat(first|exact j5 _|exact a6T|apply qE|apply zt|apply al9|apply ab5)):∃y,w'=plus w y:=h
theorem a2z(n:Int)(w:World):Calls Tryz.prog 137 #[.int .i64 n] w fun e w'=>e=.returned (.bool (ap1 n))∧w'=w:=by
 by_cases h0:1≤n
 ·by_cases h1:n≤16
  ·rw[show ap1 n=true by simp[ap1,h0,h1]];go_enter Tryz.func137,Tryz.ntmps137;go_wp2;go_ret;exact⟨rfl,rfl⟩
  ·rw[show ap1 n=false by simp[ap1,h1]];go_enter Tryz.func137,Tryz.ntmps137;go_wp2;go_ret;exact⟨rfl,rfl⟩
 ·rw[show ap1 n=false by simp[ap1,h0]];go_enter Tryz.func137,Tryz.ntmps137;go_wp2;go_ret;exact⟨rfl,rfl⟩
theorem ai8{n:Int}{b:Bool}{w:World}(h:ap1 n=b):Calls Tryz.prog 137 #[.int .i64 n] w fun e w'=>e=.returned (.bool b)∧w'=w:=h▸a2z n w
theorem ag5(W H:Int)(ao:Option Addr)(n cap:Nat)(w:World):Calls Tryz.prog 78 #[.agg #[.int .i64 W,.int .i64 H,.slice ao n cap]] w fun e w'=>e=.returned (.int .i64 (a1r W H n))∧∃y,w'=plus w y:=by
 cases hw:ap1 W
 ·rw[show a1r W H n=8 by rw[a1r,a5k hw];rfl];go_enter Tryz.func78,Tryz.ntmps78;go_wp2_with (go_at_call 137;refine(ai8 (by first|exact hw|exact hh)).mono ?_;rintro e w' ⟨rfl,ew⟩;obtain rfl:=ew.symm);go_ret;exact⟨rfl,sk9⟩
 cases hh:ap1 H
 ·rw[show a1r W H n=8 by rw[a1r,a30 hh];rfl];go_enter Tryz.func78,Tryz.ntmps78;go_wp2_with (go_at_call 137;refine(ai8 (by first|exact hw|exact hh)).mono ?_;rintro e w' ⟨rfl,ew⟩;obtain rfl:=ew.symm);go_ret;exact⟨rfl,sk9⟩
 have b:=a2I (aw1.1 hw) (aw1.1 hh);have ew:IntKind.i64.wrap (W*H)=W*H:=a2J om0;have ew2:wrap64 (W*H)=W*H:=by rw[IntWalk.wrap64_in]<;>omega
 by_cases hn:(n:Int)=W*H
 ·rw[show a1r W H n=0 by rw[a1r,a6i hw hh hn];rfl];have hb:((n:Int)==W*H)=true:=by rw[beq_iff_eq];exact hn
  go_enter Tryz.func78,Tryz.ntmps78;go_wp2_with (go_at_call 137;refine(ai8 (by first|exact hw|exact hh)).mono ?_;rintro e w' ⟨rfl,ew⟩;obtain rfl:=ew.symm);go_ret;exact⟨rfl,sk9⟩
 ·rw[show a1r W H n=8 by rw[a1r,a2B hn];rfl];have hb:((n:Int)==W*H)=false:=by rw[beq_eq_false_iff_ne];exact hn
  go_enter Tryz.func78,Tryz.ntmps78;go_wp2_with (go_at_call 137;refine(ai8 (by first|exact hw|exact hh)).mono ?_;rintro e w' ⟨rfl,ew⟩;obtain rfl:=ew.symm);go_ret;exact⟨rfl,sk9⟩
end
section
structure qw (p:Prop):Prop where
 it:p
theorem C9{P:Program}{f:FuncId}{args:Array Value}{w:World}{x:List ad4}{v:Value}
  (h:Calls P f args (plus w x) fun e w'=>e=.returned v∧∃y,w'=plus (plus w x) y):Calls P f args (plus w x) fun e w'=>e=.returned v∧∃y,w'=plus w y:=
 h.mono fun _ _ ⟨he,hb⟩=>⟨he,i9 ⟨x,rfl⟩ hb⟩
theorem zX{p:Nat→Prop}{k:Nat}(h:∀j,j<k→p j)(hk:p k):∀j,j<k+1→p j:=by
 intro j hj;rcases Nat.lt_or_eq_of_le (Nat.le_of_lt_succ hj)with e|e
 ·exact h j e
 ·exact e▸hk
theorem a14{hs:List TH}(h:16<hs.length):S1 hs=4:=if_pos h
theorem a3M{hs:List TH}{k:Nat}(h:¬16<hs.length)(hk:k<hs.length)(hb:a6c (nth th0 hs k)=false):S1 hs=8:=by
 rw[S1,if_neg h,if_neg];rw[C1 hk hb];decide
theorem a1v{hs:List TH}(h:¬16<hs.length)(hb:∀k,k<hs.length→a6c (nth th0 hs k)=true):S1 hs=0:=by
 rw[S1,if_neg h,if_pos (K5 hb)]
theorem a8z{t:TH}(h:a6c t=false):a1r t.w t.h t.n=8:=by rw[a1r,if_neg];rw[show ad2 t.w t.h t.n=false from h];decide
theorem a85{t:TH}(h:a6c t=true):a1r t.w t.h t.n=0:=by rw[a1r,if_pos];exact h
theorem a0j{W H e:Int}{ao:Option Addr}{n cap:Nat}{w:World}(h:a1r W H n=e):Calls Tryz.prog 78 #[.agg #[.int .i64 W,.int .i64 H,.slice ao n cap]] w fun e' w'=>e'=.returned (.int .i64 e)∧∃y,w'=plus w y:=h▸ag5 W H ao n cap w
theorem a1V(W H:Int)(ao:Option Addr)(n cap:Nat)(w:World):Calls Tryz.prog 143 #[.agg #[.int .i64 W,.int .i64 H,.slice ao n cap]] w fun e w'=>e=.returned (.bool (ad2 W H n))∧∃y,w'=plus w y:=by
 by_cases h0:1≤W;rotate_left
 ·rw[show ad2 W H n=false by simp[ad2,ap1,h0]];go_enter Tryz.func143,Tryz.ntmps143;go_wp2;go_ret;exact⟨rfl,sk9⟩
 by_cases h1:W≤16;rotate_left
 ·rw[show ad2 W H n=false by simp[ad2,ap1,h1]];go_enter Tryz.func143,Tryz.ntmps143;go_wp2;go_ret;exact⟨rfl,sk9⟩
 by_cases h2:1≤H;rotate_left
 ·rw[show ad2 W H n=false by simp[ad2,ap1,h2]];go_enter Tryz.func143,Tryz.ntmps143;go_wp2;go_ret;exact⟨rfl,sk9⟩
 by_cases h3:H≤16;rotate_left
 ·rw[show ad2 W H n=false by simp[ad2,ap1,h3]];go_enter Tryz.func143,Tryz.ntmps143;go_wp2;go_ret;exact⟨rfl,sk9⟩
 have b:=a2I ⟨h0,h1⟩ ⟨h2,h3⟩;have ew:IntKind.i64.wrap (W*H)=W*H:=a2J om0;have ew2:wrap64 (W*H)=W*H:=by rw[IntWalk.wrap64_in]<;>omega
 by_cases hn:(n:Int)=W*H
 ·rw[show ad2 W H n=true by exact a6o.2 ⟨⟨h0,h1⟩,⟨h2,h3⟩,hn⟩];have hb:((n:Int)==W*H)=true:=by rw[beq_iff_eq];exact hn
  go_enter Tryz.func143,Tryz.ntmps143;go_wp2;go_ret;exact⟨rfl,sk9⟩
 ·rw[show ad2 W H n=false by exact a2B hn];have hb:((n:Int)==W*H)=false:=by rw[beq_eq_false_iff_ne];exact hn
  go_enter Tryz.func143,Tryz.ntmps143;go_wp2;go_ret;exact⟨rfl,sk9⟩
theorem ac9{W H:Int}{ao:Option Addr}{n cap:Nat}{b:Bool}{w:World}(h:ad2 W H n=b):Calls Tryz.prog 143 #[.agg #[.int .i64 W,.int .i64 H,.slice ao n cap]] w fun e w'=>e=.returned (.bool b)∧∃y,w'=plus w y:=h▸a1V W H ao n cap w
theorem a0b(ao:Option Addr)(n cap:Nat)(hs:List TH)(w:World)(hl:Lay fTh w ao n hs)(hn:n≤9223372036854775807):
  Calls Tryz.prog 30 #[.slice ao n cap] w fun e w'=>e=.returned (.int .i64 (S1 hs))∧∃y,w'=plus w y:=by
 have hlen:=hl.len;by_cases hbig:16<n
 ·rw[a14 om0];have ib:(16:Int)<(n:Int):=om0;go_enter Tryz.func30,Tryz.ntmps30;go_wp2;go_ret;exact⟨rfl,sk9⟩
 have ib:¬(16:Int)<(n:Int):=om0;go_enter Tryz.func30,Tryz.ntmps30;go_wp2;go_loopw [11] (fun i wr=>∃k:Nat,k≤n∧i=.int .i64 k∧(∀j,j<k→a6c (nth th0 hs j)=true)∧∃y,wr=plus w y) (fun i _=>n - (intOf i).toNat)
 case atStart=>exact⟨0,Nat.zero_le _,rfl,fun j hj=>om0,sk9⟩
 case round=>
  obtain⟨k,hk,rfl,hs',y,rfl⟩:=hrel;by_cases hkl:k<n
  ·obtain⟨g,off,rfl,hg,hcell⟩:=hl.some om0;obtain⟨c0,c1,c2⟩:=a0T hlen hcell hkl;have ik:(k:Int)<(n:Int):=om0;cases hm:a6c (nth th0 hs k)
   ·have he:=a8z hm;go_wp2_with (go_at_call 78;refine pq0 (a0j he) fun nx=>?_);go_ret;exact⟨by rw[a3M om0 om0 hm];rfl,sk9⟩
   ·have he:=a85 hm;go_wp2_with (go_at_call 78;refine pq0 (a0j he) fun nx=>?_);go_roundw
    case rel=>exact⟨k+1,om0,by go_num,zX hs' hm,sk9⟩
    case measure=>simp[intOf];omega
  ·have ik:¬(k:Int)<(n:Int):=om0;go_wp2;go_ret;exact⟨by rw[a1v om0 (fun j hj=>hs' j om0)];rfl,sk9⟩
theorem P9{ao:Option Addr}{n cap:Nat}{hs:List TH}{w:World}{k:Int}(h:S1 hs=k)(hl:Lay fTh w ao n hs)(hn:n≤9223372036854775807):
  Calls Tryz.prog 30 #[.slice ao n cap] w fun e w'=>e=.returned (.int .i64 k)∧∃y,w'=plus w y:=h▸a0b ao n cap hs w hl hn
theorem a9n(a b:Int):(if b<a then b else a)=min a b:=by
 split<;>omega
attribute [local go_sem] a9n
def a58 (l:List TH):Nat:=(l.map fun t=>min t.n 100000).sum
def Y9 (hs:List TH):Bool:=decide (40<hs.length)||decide (20000<a58 (hs.take 100))
theorem a5f{hs:List TH}{k:Nat}(hk:k<hs.length):a58 (hs.take (k+1))=a58 (hs.take k)+min (nth th0 hs k).n 100000:=by
 rw[P1 (d:=th0) hk];simp[a58]
theorem a2R{t:TH}:∀{l:List TH},t∈l→min t.n 100000≤a58 l
 |[],h=>by cases h
 |a::l,h=>by
  have e:a58 (a::l)=min a.n 100000+a58 l:=by simp[a58]
  rcases List.mem_cons.1 h with rfl|h
  ·omega
  ·have:=a2R h;omega
theorem a4R{hs:List TH}(h:Y9 hs=false):hs.length≤40∧∀k,k<hs.length→(nth th0 hs k).n≤20000:=by
 simp only[Y9,Bool.or_eq_false_iff,decide_eq_false_iff_not,Nat.not_lt]at h;refine⟨h.1,fun k hk=>?_⟩;have h2:=h.2;rw[List.take_of_length_le om0]at h2;have:=a2R (F3 (d:=th0) hk);omega
theorem a0q{hs:List TH}(h:40<hs.length):Y9 hs=true:=by simp[Y9,h]
theorem a0R{hs:List TH}{q:Nat}(h:¬40<hs.length)(hq:a58 (hs.take hs.length)=q):Y9 hs=decide (20000<q):=by
 rw[List.take_length]at hq;rw[Y9,List.take_of_length_le om0,hq];simp[h]
theorem B8(ao:Option Addr)(n cap:Nat)(hs:List TH)(w:World)(hl:Lay fTh w ao n hs)(hn:n≤9223372036854775807)(hm:∀k,k<n→(nth th0 hs k).n≤9223372036854775807):
  Calls Tryz.prog 33 #[.slice ao n cap] w fun e w'=>e=.returned (.bool (Y9 hs))∧∃y,w'=plus w y:=by
 have hlen:=hl.len;go_enter Tryz.func33,Tryz.ntmps33;go_wp2;go_loopw [3,4] (fun s i wr=>∃k q:Nat,k≤n∧k≤100∧q≤k*100000∧s=.int .i64 q∧i=.int .i64 k∧a58 (hs.take k)=q∧∃y,wr=plus w y) (fun _ i _=>n - (intOf i).toNat)
 case atStart=>exact⟨0,0,Nat.zero_le _,Nat.zero_le _,Nat.zero_le _,rfl,rfl,rfl,sk9⟩
 case round=>
  obtain⟨k,q,hk,hk1,hq,rfl,rfl,hs',y,rfl⟩:=hrel;by_cases hkl:k<n
  ·have ik:(k:Int)<(n:Int):=om0;by_cases hk2:k<100
   ·have ik2:(k:Int)<100:=om0;obtain⟨g,off,rfl,hg,hcell⟩:=hl.some om0;obtain⟨c0,c1,c2⟩:=a0T hlen hcell hkl;have hmk:=hm k hkl;obtain⟨p,hp⟩:∃p:Nat,min (nth th0 hs k).n 100000=p:=⟨_,rfl⟩;have em:min ((nth th0 hs k).n:Int) 100000=(p:Int):=om0;go_wp2;go_roundw
    case rel=>exact⟨k+1,q+p,om0,om0,om0,by go_num,by go_num,by rw[a5f om0,hs',hp],sk9⟩
    case measure=>simp[intOf];omega
   ·have ik2:¬(k:Int)<100:=om0;have i40:(40:Int)<(n:Int):=om0;go_wp2;go_ret;exact⟨by rw[a0q om0];rfl,sk9⟩
  ·have ik:¬(k:Int)<(n:Int):=om0;obtain rfl:n=k:=om0;by_cases h40:40<n
   ·have i40:(40:Int)<(n:Int):=om0;go_wp2;go_ret;exact⟨by rw[a0q om0];rfl,sk9⟩
   ·have i40:¬(40:Int)<(n:Int):=om0;by_cases hq2:20000<q
    ·have iq:(20000:Int)<(q:Int):=om0;go_wp2;go_ret;exact⟨by rw[a0R (q:=q) om0 (by rw[hlen];exact hs'),decide_eq_true hq2];rfl,sk9⟩
    ·have iq:¬(20000:Int)<(q:Int):=om0;go_wp2;go_ret;exact⟨by rw[a0R (q:=q) om0 (by rw[hlen];exact hs'),decide_eq_false hq2];rfl,sk9⟩
end
section
def U0 (l:List Int) (k:Nat):Bool:=decide (0≤nth 0 l k)&&(decide (nth 0 l k≤8192)&&(decide (k=0)||decide (nth 0 l (k - 1)≤nth 0 l k)))
def G8 (l:List Int):Bool:=(List.range l.length).all (U0 l)&&decide (l.length≤16)
theorem ab0{l:List Int}{k:Nat}(hk:k<l.length)(h:U0 l k=false):G8 l=false:=by
 cases h2:G8 l
 ·rfl
 ·simp only[G8,Bool.and_eq_true,List.all_eq_true,List.mem_range]at h2;rw[h2.1 k hk]at h;cases h
theorem a2X{l:List Int}(h:∀k,k<l.length→U0 l k=true):G8 l=decide (l.length≤16):=by
 have:(List.range l.length).all (U0 l)=true:=List.all_eq_true.2 fun k hk=>h k (List.mem_range.1 hk)
 simp[G8,this]
def z7 (a b:Nd):Bool:=decide (a.f.kind=b.f.kind)&&(ap7 a.f.m b.f.m&&(decide (a.f.on=b.f.on)&&(eqv a.f.cen b.f.cen&&(W5 a.far b.far&&(decide (a.f.mesh=b.f.mesh)&&a3V a.f.sty b.f.sty)))))
theorem an5(a:Nd):z7 a a=true:=by simp[z7,a0w,az8,a0r,show W5 a.far a.far=true from G2 aw0 _]
theorem a31(ao:Option Addr)(n cap:Nat)(l:List Int)(w:World)(hl:Lay fI w ao n l)(hn:n≤9223372036854775807):
  Calls Tryz.prog 100 #[.slice ao n cap] w fun e w'=>e=.returned (.bool (G8 l))∧∃y,w'=plus w y:=by
 have hlen:=hl.len;go_enter Tryz.func100,Tryz.ntmps100;go_wp2;go_loopw [3] (fun i wr=>∃k:Nat,k≤n∧i=.int .i64 k∧(∀j,j<k→U0 l j=true)∧∃y,wr=plus w y) (fun i _=>n - (intOf i).toNat)
 case atStart=>exact⟨0,Nat.zero_le _,rfl,fun j hj=>om0,sk9⟩
 case round=>
  obtain⟨k,hk,rfl,hs,y,rfl⟩:=hrel;by_cases hkl:k<n
  ·obtain⟨g,off,rfl,hg,hcell⟩:=hl.some om0;have c0:=Qh hlen hcell hkl;have ik:(k:Int)<(n:Int):=om0;by_cases h0:nth 0 l k<0
   ·have e0:=decide_eq_true h0;have hf:U0 l k=false:=by simp[U0];omega
    replace hf:=qw.mk hf
    go_wp2;refine qg kr0 kr0 ?_
    (repeat(go_big_quiet_step (fail)))
    refine wpQuiet_nil ?_;rintro _ ⟨x2,rfl⟩;go_wp2;go_ret;exact⟨by rw[ab0 om0 hf.it];rfl,sk9⟩
   have e0:=decide_eq_false h0;by_cases h1:8192<nth 0 l k
   ·have e1:=decide_eq_true h1;have hf:U0 l k=false:=by simp[U0];omega
    replace hf:=qw.mk hf
    go_wp2;refine qg kr0 kr0 ?_
    (repeat(go_big_quiet_step (fail)))
    refine wpQuiet_nil ?_;rintro _ ⟨x2,rfl⟩;go_wp2;go_ret;exact⟨by rw[ab0 om0 hf.it];rfl,sk9⟩
   have e1:=decide_eq_false h1;by_cases hk0:k=0
   ·subst hk0;rw[Nat.add_zero]at c0;have hf:U0 l 0=true:=by simp[U0];omega
    replace hf:=qw.mk hf
    go_wp2;refine qg kr0 kr0 ?_
    (repeat(go_big_quiet_step (fail)))
    refine wpQuiet_nil ?_;rintro _ ⟨x2,rfl⟩;go_wp2;go_roundw
    case rel=>exact⟨1,om0,by go_num,zX hs hf.it,sk9⟩
    case measure=>simp[intOf];omega
   ·obtain⟨j,rfl⟩:∃j,k=j+1:=⟨k - 1,om0⟩;have d0:=Qh hlen hcell (k:=j) om0;have ik0:(0:Int)<((j+1:Nat):Int):=om0;have ij:((j+1:Nat):Int) - 1=(j:Int):=om0;have ij2:(j:Int)<(n:Int):=om0;have e2:decide ((0:Int)<(j:Int)+1)=true:=decide_eq_true om0;by_cases h2:nth 0 l (j+1)<nth 0 l j
    ·have e3:=decide_eq_true h2;have hf:U0 l (j+1)=false:=by simp[U0];omega
     replace hf:=qw.mk hf
     go_wp2;refine qg kr0 kr0 ?_
     (repeat(go_big_quiet_step (fail)))
     refine wpQuiet_nil ?_;rintro _ ⟨x2,rfl⟩;go_wp2;go_ret;exact⟨by rw[ab0 om0 hf.it];rfl,sk9⟩
    ·have e3:=decide_eq_false h2;have hf:U0 l (j+1)=true:=by simp[U0];omega
     replace hf:=qw.mk hf
     go_wp2;refine qg kr0 kr0 ?_
     (repeat(go_big_quiet_step (fail)))
     refine wpQuiet_nil ?_;rintro _ ⟨x2,rfl⟩;go_wp2;go_roundw
     case rel=>exact⟨j+2,om0,by go_num,zX hs hf.it,sk9⟩
     case measure=>simp[intOf];omega
  ·have ik:¬(k:Int)<(n:Int):=om0;obtain rfl:n=k:=om0;have he:=a2X (l:=l) (fun j hj=>hs j om0);rw[hlen]at he
   replace he:=qw.mk he
   clear hs;by_cases h16:n≤16
   ·have i16:(n:Int)≤16:=om0;go_wp2;go_ret;exact⟨by rw[he.it,decide_eq_true h16];rfl,sk9⟩
   ·have i16:¬(n:Int)≤16:=om0;go_wp2;go_ret;exact⟨by rw[he.it,decide_eq_false h16];rfl,sk9⟩
theorem zD{ao:Option Addr}{n cap:Nat}{l:List Int}{w:World}{b:Bool}(h:G8 l=b)(hl:Lay fI w ao n l)(hn:n≤9223372036854775807):
  Calls Tryz.prog 100 #[.slice ao n cap] w fun e w'=>e=.returned (.bool b)∧∃y,w'=plus w y:=h▸a31 ao n cap l w hl hn
end
section
theorem ag8(ak am0 am1 am2 am3 am4 am5 am6 am7 am8 am9 am10 am11 ao ac0 ac1 ac2 ae as0 as1 as2 as3 as4 as5 as6 as7 as8 as9 as10 as11 as13:Int)(as12:Bool)(aa:Option Addr)(an ax:Nat)(af:List Int)(bk bm0 bm1 bm2 bm3 bm4 bm5 bm6 bm7 bm8 bm9 bm10 bm11 bo bc0 bc1 bc2 be bs0 bs1 bs2 bs3 bs4 bs5 bs6 bs7 bs8 bs9 bs10 bs11 bs13:Int)(bs12:Bool)(ba:Option Addr)(bn bx:Nat)(bf:List Int)(w:World)(hl:Lay fI w aa an af)(hl2:Lay fI w ba bn bf)(hn:an≤10000)(hn2:bn≤10000):
  Calls Tryz.prog 24 #[.agg (List.toArray (.int .u8 ak::.int .i64 am0::.int .i64 am1::.int .i64 am2::.int .i64 am3::.int .i64 am4::.int .i64 am5::.int .i64 am6::.int .i64 am7::.int .i64 am8::.int .i64 am9::.int .i64 am10::.int .i64 am11::.int .u16 ao::.int .i64 ac0::.int .i64 ac1::.int .i64 ac2::.slice aa an ax::.int .i64 ae::.int .u8 as0::.int .u8 as1::.int .u8 as2::.int .u8 as3::.int .u8 as4::.int .u8 as5::.int .u8 as6::.int .u8 as7::.int .u8 as8::.int .i64 as9::.int .u8 as10::.int .i64 as11::.bool as12::.int .i64 as13::[])),.agg (List.toArray (.int .u8 bk::.int .i64 bm0::.int .i64 bm1::.int .i64 bm2::.int .i64 bm3::.int .i64 bm4::.int .i64 bm5::.int .i64 bm6::.int .i64 bm7::.int .i64 bm8::.int .i64 bm9::.int .i64 bm10::.int .i64 bm11::.int .u16 bo::.int .i64 bc0::.int .i64 bc1::.int .i64 bc2::.slice ba bn bx::.int .i64 be::.int .u8 bs0::.int .u8 bs1::.int .u8 bs2::.int .u8 bs3::.int .u8 bs4::.int .u8 bs5::.int .u8 bs6::.int .u8 bs7::.int .u8 bs8::.int .i64 bs9::.int .u8 bs10::.int .i64 bs11::.bool bs12::.int .i64 bs13::[]))] w fun e w'=>e=.returned (.bool (z7 ⟨⟨ak,⟨⟨⟨am0,am1,am2⟩,⟨am3,am4,am5⟩,⟨am6,am7,am8⟩⟩,⟨am9,am10,am11⟩⟩,ao,⟨ac0,ac1,ac2⟩,ae,⟨as0,as1,as2,as3,as4,⟨as5,as6,as7,as8,as9,as10,as11,as12,as13⟩⟩⟩,af⟩ ⟨⟨bk,⟨⟨⟨bm0,bm1,bm2⟩,⟨bm3,bm4,bm5⟩,⟨bm6,bm7,bm8⟩⟩,⟨bm9,bm10,bm11⟩⟩,bo,⟨bc0,bc1,bc2⟩,be,⟨bs0,bs1,bs2,bs3,bs4,⟨bs5,bs6,bs7,bs8,bs9,bs10,bs11,bs12,bs13⟩⟩⟩,bf⟩))∧∃y,w'=plus w y:=by
 by_cases hk:ak=bk;rotate_left
 ·rw[show z7 ⟨⟨ak,⟨⟨⟨am0,am1,am2⟩,⟨am3,am4,am5⟩,⟨am6,am7,am8⟩⟩,⟨am9,am10,am11⟩⟩,ao,⟨ac0,ac1,ac2⟩,ae,⟨as0,as1,as2,as3,as4,⟨as5,as6,as7,as8,as9,as10,as11,as12,as13⟩⟩⟩,af⟩ ⟨⟨bk,⟨⟨⟨bm0,bm1,bm2⟩,⟨bm3,bm4,bm5⟩,⟨bm6,bm7,bm8⟩⟩,⟨bm9,bm10,bm11⟩⟩,bo,⟨bc0,bc1,bc2⟩,be,⟨bs0,bs1,bs2,bs3,bs4,⟨bs5,bs6,bs7,bs8,bs9,bs10,bs11,bs12,bs13⟩⟩⟩,bf⟩=false by simp[z7,hk]];have dk:(ak==bk)=false:=by rw[beq_eq_false_iff_ne];exact hk
  go_enter Tryz.func24,Tryz.ntmps24;go_wp2_with (go_at_call 62;refine pm0 (zY _ _ _ _ _ _ af bf _ (hl.ex sk9) (hl2.ex sk9) hn hn2) fun nx=>?_);exact bodyPost_ret (v:=.bool false) (by simp[results,Tryz.results24,go_sem]) rfl ⟨rfl,sk9⟩
 subst hk;cases hm:ap7 ⟨⟨⟨am0,am1,am2⟩,⟨am3,am4,am5⟩,⟨am6,am7,am8⟩⟩,⟨am9,am10,am11⟩⟩ ⟨⟨⟨bm0,bm1,bm2⟩,⟨bm3,bm4,bm5⟩,⟨bm6,bm7,bm8⟩⟩,⟨bm9,bm10,bm11⟩⟩
 ·rw[show z7 ⟨⟨ak,⟨⟨⟨am0,am1,am2⟩,⟨am3,am4,am5⟩,⟨am6,am7,am8⟩⟩,⟨am9,am10,am11⟩⟩,ao,⟨ac0,ac1,ac2⟩,ae,⟨as0,as1,as2,as3,as4,⟨as5,as6,as7,as8,as9,as10,as11,as12,as13⟩⟩⟩,af⟩ ⟨⟨ak,⟨⟨⟨bm0,bm1,bm2⟩,⟨bm3,bm4,bm5⟩,⟨bm6,bm7,bm8⟩⟩,⟨bm9,bm10,bm11⟩⟩,bo,⟨bc0,bc1,bc2⟩,be,⟨bs0,bs1,bs2,bs3,bs4,⟨bs5,bs6,bs7,bs8,bs9,bs10,bs11,bs12,bs13⟩⟩⟩,bf⟩=false by simp[z7,hm]];have qM:=Y0 hm;go_enter Tryz.func24,Tryz.ntmps24;go_wp2_with (go_at_call 62;refine pm0 (zY _ _ _ _ _ _ af bf _ (hl.ex sk9) (hl2.ex sk9) hn hn2) fun nx=>?_);exact bodyPost_ret (v:=.bool false) (by simp[results,Tryz.results24,go_sem]) rfl ⟨rfl,sk9⟩
 have qM:=Y0 hm;by_cases ho:ao=bo;rotate_left
 ·rw[show z7 ⟨⟨ak,⟨⟨⟨am0,am1,am2⟩,⟨am3,am4,am5⟩,⟨am6,am7,am8⟩⟩,⟨am9,am10,am11⟩⟩,ao,⟨ac0,ac1,ac2⟩,ae,⟨as0,as1,as2,as3,as4,⟨as5,as6,as7,as8,as9,as10,as11,as12,as13⟩⟩⟩,af⟩ ⟨⟨ak,⟨⟨⟨bm0,bm1,bm2⟩,⟨bm3,bm4,bm5⟩,⟨bm6,bm7,bm8⟩⟩,⟨bm9,bm10,bm11⟩⟩,bo,⟨bc0,bc1,bc2⟩,be,⟨bs0,bs1,bs2,bs3,bs4,⟨bs5,bs6,bs7,bs8,bs9,bs10,bs11,bs12,bs13⟩⟩⟩,bf⟩=false by simp[z7,ho]];have dk:(ao==bo)=false:=by rw[beq_eq_false_iff_ne];exact ho
  go_enter Tryz.func24,Tryz.ntmps24;go_wp2_with (go_at_call 62;refine pm0 (zY _ _ _ _ _ _ af bf _ (hl.ex sk9) (hl2.ex sk9) hn hn2) fun nx=>?_);exact bodyPost_ret (v:=.bool false) (by simp[results,Tryz.results24,go_sem]) rfl ⟨rfl,sk9⟩
 subst ho;cases hc:eqv ⟨ac0,ac1,ac2⟩ ⟨bc0,bc1,bc2⟩
 ·rw[show z7 ⟨⟨ak,⟨⟨⟨am0,am1,am2⟩,⟨am3,am4,am5⟩,⟨am6,am7,am8⟩⟩,⟨am9,am10,am11⟩⟩,ao,⟨ac0,ac1,ac2⟩,ae,⟨as0,as1,as2,as3,as4,⟨as5,as6,as7,as8,as9,as10,as11,as12,as13⟩⟩⟩,af⟩ ⟨⟨ak,⟨⟨⟨bm0,bm1,bm2⟩,⟨bm3,bm4,bm5⟩,⟨bm6,bm7,bm8⟩⟩,⟨bm9,bm10,bm11⟩⟩,ao,⟨bc0,bc1,bc2⟩,be,⟨bs0,bs1,bs2,bs3,bs4,⟨bs5,bs6,bs7,bs8,bs9,bs10,bs11,bs12,bs13⟩⟩⟩,bf⟩=false by simp[z7,hc]];have qV:=X7 hc;go_enter Tryz.func24,Tryz.ntmps24;go_wp2_with (go_at_call 62;refine pm0 (zY _ _ _ _ _ _ af bf _ (hl.ex sk9) (hl2.ex sk9) hn hn2) fun nx=>?_);exact bodyPost_ret (v:=.bool false) (by simp[results,Tryz.results24,go_sem]) rfl ⟨rfl,sk9⟩
 have qV:=X7 hc;cases hf:W5 af bf
 ·rw[show z7 ⟨⟨ak,⟨⟨⟨am0,am1,am2⟩,⟨am3,am4,am5⟩,⟨am6,am7,am8⟩⟩,⟨am9,am10,am11⟩⟩,ao,⟨ac0,ac1,ac2⟩,ae,⟨as0,as1,as2,as3,as4,⟨as5,as6,as7,as8,as9,as10,as11,as12,as13⟩⟩⟩,af⟩ ⟨⟨ak,⟨⟨⟨bm0,bm1,bm2⟩,⟨bm3,bm4,bm5⟩,⟨bm6,bm7,bm8⟩⟩,⟨bm9,bm10,bm11⟩⟩,ao,⟨bc0,bc1,bc2⟩,be,⟨bs0,bs1,bs2,bs3,bs4,⟨bs5,bs6,bs7,bs8,bs9,bs10,bs11,bs12,bs13⟩⟩⟩,bf⟩=false by simp[z7,hf]];go_enter Tryz.func24,Tryz.ntmps24;go_wp2_with (go_at_call 62;refine pm0 (zY _ _ _ _ _ _ af bf _ (hl.ex sk9) (hl2.ex sk9) hn hn2) fun nx=>?_);exact bodyPost_ret (v:=.bool false) (by simp[results,Tryz.results24,go_sem]) rfl ⟨rfl,sk9⟩
 by_cases he:ae=be;rotate_left
 ·rw[show z7 ⟨⟨ak,⟨⟨⟨am0,am1,am2⟩,⟨am3,am4,am5⟩,⟨am6,am7,am8⟩⟩,⟨am9,am10,am11⟩⟩,ao,⟨ac0,ac1,ac2⟩,ae,⟨as0,as1,as2,as3,as4,⟨as5,as6,as7,as8,as9,as10,as11,as12,as13⟩⟩⟩,af⟩ ⟨⟨ak,⟨⟨⟨bm0,bm1,bm2⟩,⟨bm3,bm4,bm5⟩,⟨bm6,bm7,bm8⟩⟩,⟨bm9,bm10,bm11⟩⟩,ao,⟨bc0,bc1,bc2⟩,be,⟨bs0,bs1,bs2,bs3,bs4,⟨bs5,bs6,bs7,bs8,bs9,bs10,bs11,bs12,bs13⟩⟩⟩,bf⟩=false by simp[z7,he]];have dk:(ae==be)=false:=by rw[beq_eq_false_iff_ne];exact he
  go_enter Tryz.func24,Tryz.ntmps24;go_wp2_with (go_at_call 62;refine pm0 (zY _ _ _ _ _ _ af bf _ (hl.ex sk9) (hl2.ex sk9) hn hn2) fun nx=>?_);exact bodyPost_ret (v:=.bool false) (by simp[results,Tryz.results24,go_sem]) rfl ⟨rfl,sk9⟩
 subst he;cases hs:a3V ⟨as0,as1,as2,as3,as4,⟨as5,as6,as7,as8,as9,as10,as11,as12,as13⟩⟩ ⟨bs0,bs1,bs2,bs3,bs4,⟨bs5,bs6,bs7,bs8,bs9,bs10,bs11,bs12,bs13⟩⟩
 ·rw[show z7 ⟨⟨ak,⟨⟨⟨am0,am1,am2⟩,⟨am3,am4,am5⟩,⟨am6,am7,am8⟩⟩,⟨am9,am10,am11⟩⟩,ao,⟨ac0,ac1,ac2⟩,ae,⟨as0,as1,as2,as3,as4,⟨as5,as6,as7,as8,as9,as10,as11,as12,as13⟩⟩⟩,af⟩ ⟨⟨ak,⟨⟨⟨bm0,bm1,bm2⟩,⟨bm3,bm4,bm5⟩,⟨bm6,bm7,bm8⟩⟩,⟨bm9,bm10,bm11⟩⟩,ao,⟨bc0,bc1,bc2⟩,ae,⟨bs0,bs1,bs2,bs3,bs4,⟨bs5,bs6,bs7,bs8,bs9,bs10,bs11,bs12,bs13⟩⟩⟩,bf⟩=false by simp[z7,hs]];have qS:=aw4 hs;go_enter Tryz.func24,Tryz.ntmps24;go_wp2_with (go_at_call 62;refine pm0 (zY _ _ _ _ _ _ af bf _ (hl.ex sk9) (hl2.ex sk9) hn hn2) fun nx=>?_);exact bodyPost_ret (v:=.bool false) (by simp[results,Tryz.results24,go_sem]) rfl ⟨rfl,sk9⟩
 have qS:=aw4 hs;rw[show z7 ⟨⟨ak,⟨⟨⟨am0,am1,am2⟩,⟨am3,am4,am5⟩,⟨am6,am7,am8⟩⟩,⟨am9,am10,am11⟩⟩,ao,⟨ac0,ac1,ac2⟩,ae,⟨as0,as1,as2,as3,as4,⟨as5,as6,as7,as8,as9,as10,as11,as12,as13⟩⟩⟩,af⟩ ⟨⟨ak,⟨⟨⟨bm0,bm1,bm2⟩,⟨bm3,bm4,bm5⟩,⟨bm6,bm7,bm8⟩⟩,⟨bm9,bm10,bm11⟩⟩,ao,⟨bc0,bc1,bc2⟩,ae,⟨bs0,bs1,bs2,bs3,bs4,⟨bs5,bs6,bs7,bs8,bs9,bs10,bs11,bs12,bs13⟩⟩⟩,bf⟩=true by simp[z7,hm,hc,hf,hs]];go_enter Tryz.func24,Tryz.ntmps24;go_wp2_with (go_at_call 62;refine pm0 (zY _ _ _ _ _ _ af bf _ (hl.ex sk9) (hl2.ex sk9) hn hn2) fun nx=>?_);exact bodyPost_ret (v:=.bool true) (by simp[results,Tryz.results24,go_sem]) rfl ⟨rfl,sk9⟩
end
end Go.Proofs.YtcekcihijdipoaaGreat
