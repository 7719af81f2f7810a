/- A pack of texts: Lay2, Arena1, Arena2, Arena3, Arena4, Rel3, Two. -/
import Derived.Test.YtcekcihijdipoaaGreatProg
import Derived.Test.YtcekcihijdipoaaGreatPD3
namespace Go.Proofs.YtcekcihijdipoaaGreat
set_option maxRecDepth 100000
set_option maxHeartbeats 16000000
section
open Go.RowKit
section
variable {α β:Type} {f:α→List Value} {f':β→List Value} {P:Program} {w w1 T T':World} {ao ao2:Option Addr} {n m cap c c' c2:Nat} {l l2:List α} {l':List β} {e e' t:TypeId} {b:Nat} {o:Oper} {a:Act} {K:Act→World→Prop} {Q:Exit→Act→World→Prop}
theorem ad8(w:World)(r:Option Nat):w.grownBy w r:=⟨rfl,rfl,rfl,Nat.le_refl _,fun _ _ _=>rfl⟩
theorem an2{ty:TypeId}(hk:Kin P t e c b)(hc:∀x,(f x).length=c)(h1:∀x,∀u∈f x,u.oneCell'=true)
  (hT:∃y,w=plus T y) (hown:Own e c f T w ao n cap l) (c2:Nat) (hl:Lay f w ao2 m l2) (hm:n+m≤maxLen) (hb:(n+m)*b≤140737488355328):
  ∃ao' cap' w1,(Builtin.append_ #[t,t] ty #[.slice ao n cap,.slice ao2 m c2]).run P w=.ok (.slice ao' (n+m) cap') w1∧Own e c f T w1 ao' (n+m) cap' (l++l2)∧(∃y,w1=plus T y)∧w.grownBy w1 (Value.ownBlock (.slice ao n cap)):=by
 by_cases h0:m=0
 ·subst h0;have hnc:n≤cap:=by
   rcases hown.2.2 with⟨e,_⟩|⟨g,cp,cur,e,_,_,hcp,_⟩
   ·simp only[Value.slice.injEq]at e;omega
   ·simp only[Value.slice.injEq]at e;omega
  refine⟨ao,cap,w,QM hk hnc c2,?_,hT,ad8 w _⟩;rw[hl.zero,List.append_nil,Nat.add_zero];exact hown
 obtain⟨g,off,rfl,hg,hcell⟩:=hl.some om0;obtain⟨i,z,hi,hz,hz1,hz2,hz3⟩:=hk.info;obtain⟨y,rfl⟩:=hT;obtain⟨v',w1,hr,ho,hgr,_,_⟩:=run_append_own_at (P:=P) (plus T y) T.heap.size t ty e i z c b hk.und hi hz hz1 hz2 hz3 hk.pos (.slice ao n cap) n (l.flatMap f) hown.2 ⟨g,off,none⟩ m c2 (l2.flatMap f)
  (by rw[zE hc,hl.len]) (fun j u hu=>by have hadd:(⟨g,off,none⟩:Addr).add j=⟨g,off+j,none⟩:=(by unfold Addr.add;split<;>simp_all);rw[hadd];exact hcell j u hu) (Zy h1 l2) hm hb (by rw[qn];omega)
 have hB:Below T.heap.size T w1:=(A3 T y).grown hgr (by rw[qn];omega) (fun k hk=>(World.ownsRow.lt hown.2 k hk).1);obtain⟨g',cap',rfl,_,_⟩:=World.ownsRow.form ho om0;exact⟨_,cap',w1,hr,⟨by rw[List.length_append,hown.1,hl.len],by rw[List.flatMap_append];exact ho⟩,C3 hB,hgr⟩
theorem Z6(s x:Operand)(ho:o.op=.call {callee:=.builtin .append,args:=#[s,x],argTypes:=#[t,t]})(hk:Kin P t e c b)(hc:∀x,(f x).length=c)(h1:∀x,∀u∈f x,u.oneCell'=true)
  (hs:a.eval s=.slice ao n cap) (hT:∃y,w=plus T y) (hown:Own e c f T w ao n cap l) (hx:a.eval x=.slice ao2 m c2) (hl:Lay f w ao2 m l2) (hm:n+m≤100000) (hb:b≤100000)
  (h:∀ao' cap' w1,Own e c f T w1 ao' (n+m) cap' (l++l2)→(∃y,w1=plus T y)→w.grownBy w1 (Value.ownBlock (.slice ao n cap))→K (a.put o.dst (.slice ao' (n+m) cap')) w1):o.wp P a w K Q:=by
 obtain⟨ao',cap',w1,hr,h2,h3,h4⟩:=an2 (ty:=o.type) hk hc h1 hT hown c2 hl (by unfold maxLen;omega) (Nat.le_trans (Nat.mul_le_mul hm hb) dc0);unfold Oper.wp execOp;simp only[ho,resolve,invoke,builtin,Sem.run_bind,Sem.run_pure,Result.andThen_ok,List.map_toArray,List.map_cons,List.map_nil,hs,hx,hr];exact h ao' cap' w1 h2 h3 h4
theorem qW{ops:Array Oper}{rest:List Oper}(hgd:o.guard=none)(s x:Operand)(ho:o.op=.call {callee:=.builtin .append,args:=#[s,x],argTypes:=#[t,t]})(hk:Kin P t e c b)(hc:∀x,(f x).length=c)(h1:∀x,∀u∈f x,u.oneCell'=true)
  (hs:a.eval s=.slice ao n cap) (hT:∃y,w=plus T y) (hown:Own e c f T w ao n cap l) (hx:a.eval x=.slice ao2 m c2) (hl:Lay f w ao2 m l2) (hm:n+m≤100000) (hb:b≤100000)
  (h:∀ao' cap' w1,Own e c f T w1 ao' (n+m) cap' (l++l2)→(∃y,w1=plus T y)→w.grownBy w1 (Value.ownBlock (.slice ao n cap))→wpList P ops Q rest (a.put o.dst (.slice ao' (n+m) cap')) w1):wpList P ops Q (o::rest) a w:=
 wpList_plain hgd fun _ hK=>Z6 s x ho hk hc h1 hs hT hown hx hl hm hb fun ao' cap' w1 h2 h3 h4=>hK _ _ (h ao' cap' w1 h2 h3 h4)
theorem t8{g:Nat}{cur:Array Value}(hgr:w.grownBy w1 (Value.ownBlock (.slice ao n cap)))(hown:Own e c f T w ao n cap l)(hb:w.heap[g]?=some (.cells cur e'))(he:e'≠e):w1.heap[g]?=some (.cells cur e'):=by
 rw[hgr.block g (qi hb) ?_]
 ·exact hb
 ·intro e0;cases ao with
  |none=>simp[Value.ownBlock]at e0
  |some a0=>
   simp only[Value.ownBlock,Option.some.injEq]at e0;rcases hown.2.2 with⟨h1,_⟩|⟨k,cp,cu,h1,h2,h3,_⟩
   ·simp at h1
   ·simp only[Value.slice.injEq,Option.some.injEq]at h1;rw[h1.1]at e0;simp only at e0;rw[←e0,hb]at h3;cases h3;exact he rfl
theorem zj(hgr:w.grownBy w1 (Value.ownBlock (.slice ao n cap)))(hown:Own e c f T w ao n cap l)(h:Own e' c' f' T' w ao2 m c2 l')(he:e'≠e):Own e' c' f' T' w1 ao2 m c2 l':=by
 refine⟨h.1,h.2.1,h.2.2.imp id ?_⟩;rintro⟨k,cp,cu,h1,h2,h3,h4⟩;exact⟨k,cp,cu,h1,h2,t8 hgr hown h3 he,h4⟩
end
end
open Go.RowKit Go.ChangeShapes Go.WideShapes Go.ChangeAt
set_option linter.unusedSimpArgs false
set_option linter.unusedVariables false
attribute [local go_sem] qn qZ A2 zg zz zA t5 qJ zf qO qD t6
section
theorem L5{n:Int}(h:0≤n∧n≤9223372036854775807):IntKind.i64.wrap n=n:=by
 simp[IntKind.wrap,IntKind.bits,IntKind.signed];omega
theorem a50{T:World}{x:List ad4}{d:Nat}:∃y,plus T [⟨blocks x,d⟩]=plus (plus T x) y:=⟨[⟨#[],d⟩],by simp[plus,blocks,draws]⟩
theorem sn0{w w':World}(h:∃y,w'=plus w y:=by with_reducible repeat(first|exact j5 _|exact a50|apply qE|apply zt|apply al9|apply ab5|(apply ZM;assumption))):∃y,w'=plus w y:=h
theorem sk0{w w':World}(h:∃y,w'=plus w y:=by with_reducible repeat(first|exact j5 _|exact a50|apply qE|apply zt|apply al9|apply ab5)):∃y,w'=plus w y:=h
theorem ZU{P:Program}{e:TypeId}{z:Value}{c b:Nat}(h:(P.info? e).map (fun i=>(i.zero,i.size,i.bytes))=some (some z,c,b))(hc:z.cells.size=c):∃i z,P.info? e=some i∧i.zero=some z∧i.size=c∧i.bytes=b∧z.cells.size=c:=by
 obtain⟨i0,hi,hz0,hz1,hz2⟩:=info_parts h;exact⟨i0,z,hi,hz0,hz1,hz2,hc⟩
theorem a8t:Kin Tryz.prog 22 86 2 16:=⟨Tryz.underlying22,ZU (z:=.agg #[.int .i64 0,.bool false]) kr0 rfl,dc0⟩
theorem ad6:Kin Tryz.prog 88 32 2 16:=⟨Tryz.underlying88,ZU (z:=.agg #[.int .i64 0,.int .i64 0]) kr0 rfl,dc0⟩
def fS (s:Sl):List Value:=[.int .i64 s.gen,.bool s.live]
theorem a1s:∀x,(fS x).length=2:=fun _=>rfl
theorem a8W:∀x,∀u∈fS x,u.oneCell'=true:=by intro x u hu;simp only[fS,List.mem_cons,List.not_mem_nil,or_false]at hu;rcases hu with rfl|rfl<;>rfl
theorem Y3{w:World}{g off n k:Nat}{l:List Sl}(hl:l.length=n)(h:∀j u,(l.flatMap fS)[j]?=some u→w.cell? ⟨g,off+j,none⟩=some u)(hk:k<n):
  w.cell? ⟨g,off+k*2,none⟩=some (.int .i64 (nth dSl l k).gen)∧w.cell? ⟨g,off+k*2+1,none⟩=some (.bool (nth dSl l k).live):=by
 have h0:=A6 (d:=dSl) hl a1s h k 0 _ hk dc0 rfl;have h1:=A6 (d:=dSl) hl a1s h k 1 _ hk dc0 rfl;rw[Nat.add_zero]at h0;rw[←Nat.add_assoc]at h1;exact⟨h0,h1⟩
theorem B0{p:Nat→Prop}{k:Nat}(h:∀j,j<k→p j)(hk:p k):∀j,j<k+1→p j:=by
 intro j hj;rcases Nat.lt_or_eq_of_le (Nat.le_of_lt_succ hj)with e|e
 ·exact h j e
 ·exact e▸hk
theorem ay8{α:Type}{p:α→Bool}{d:α}{l:List α}{k:Nat}(hk:k<l.length)(h:p (nth d l k)=false):l.all p=false:=C1 hk h
theorem M7(ao:Option Addr)(n cap:Nat)(l:List Sl)(w:World)(hl:Lay fS w ao n l)(hn:n≤9223372036854775807):
  Calls Tryz.prog 139 #[.agg #[.slice ao n cap]] w fun e w'=>e=.returned (.bool (S5 l))∧Below w.heap.size w w':=by
 have hlen:=hl.len;go_enter Tryz.func139,Tryz.ntmps139;go_wp2;go_loopw [3] (fun i wr=>∃k:Nat,k≤n∧i=.int .i64 k∧(∀j,j<k→a19 (nth dSl l j)=true)∧∃x,wr=plus (w.alloc (.cells #[.slice ao n cap] 24)) x) (fun i _=>n - (intOf i).toNat)
 case atStart=>exact⟨0,Nat.zero_le _,rfl,fun j hj=>om0,sk0⟩
 case round=>
  obtain⟨k,hk,rfl,hs,x,rfl⟩:=hrel;by_cases hkl:k<n
  ·obtain⟨g,off,rfl,hg,hcell⟩:=hl.some om0;obtain⟨c0,c1⟩:=Y3 hlen hcell hkl;have ik:(k:Int)<(n:Int):=om0;by_cases h1:(nth dSl l k).gen<1
   ·have hno:S5 l=false:=by rw[S5,ay8 (d:=dSl) (k:=k) om0 (by simp[a19];omega),Bool.false_and]
    go_wp2;go_ret;exact⟨by first|rfl|(rw[hno];rfl),skB⟩
   have d1:=decide_eq_false h1;by_cases h2:1073741824<(nth dSl l k).gen
   ·have hno:S5 l=false:=by rw[S5,ay8 (d:=dSl) (k:=k) om0 (by simp[a19];omega),Bool.false_and]
    go_wp2;go_ret;exact⟨by first|rfl|(rw[hno];rfl),skB⟩
   ·have d2:=decide_eq_false h2;have hok:a19 (nth dSl l k)=true:=by simp[a19];omega
    go_wp2;go_roundw
    case rel=>exact⟨k+1,om0,by go_num,B0 hs hok,sk0⟩
    case measure=>simp[intOf];omega
  ·have ik:¬(k:Int)<(n:Int):=om0;have hall:l.all a19=true:=K5 (d:=dSl) (fun j hj=>hs j om0);by_cases h3:n≤128
   ·have i3:(n:Int)≤128:=om0;go_wp2;go_ret;exact⟨by rw[S5,hall,hlen,decide_eq_true h3];rfl,skB⟩
   ·have i3:¬(n:Int)≤128:=om0;have d3:=decide_eq_false i3;go_wp2;go_ret;exact⟨by rw[S5,hall,hlen,decide_eq_false h3];rfl,skB⟩
theorem ZK(ao:Option Addr)(n cap:Nat)(l:List Sl)(s g:Int)(w:World)(hl:Lay fS w ao n l)(hn:n≤9223372036854775807):
  Calls Tryz.prog 140 #[.agg #[.slice ao n cap],.agg #[.int .i64 s,.int .i64 g]] w fun e w'=>e=.returned (.bool (qG l s g))∧Below w.heap.size w w':=by
 have hlen:=hl.len;by_cases h0:0≤s;rotate_left
 ·rw[show qG l s g=false by simp[qG,h0]];have d0:decide (0≤s)=false:=decide_eq_false h0;go_enter Tryz.func140,Tryz.ntmps140;go_wp2;refine qg kr0 kr0 ?_
  (repeat(go_big_quiet_step (fail)))
  refine wpQuiet_nil ?_;rintro _ ⟨x2,rfl⟩;go_wp2;go_ret;exact⟨rfl,skB⟩
 by_cases h1:s<n;rotate_left
 ·rw[show qG l s g=false by simp[qG,hlen,h1]];have d1:decide (s<(n:Int))=false:=decide_eq_false h1;go_enter Tryz.func140,Tryz.ntmps140;go_wp2;refine qg kr0 kr0 ?_
  (repeat(go_big_quiet_step (fail)))
  refine wpQuiet_nil ?_;rintro _ ⟨x2,rfl⟩;go_wp2;go_ret;exact⟨rfl,skB⟩
 obtain⟨k,rfl⟩:∃k:Nat,s=(k:Int):=⟨s.toNat,om0⟩;obtain⟨gm,off,rfl,hg,hcell⟩:=hl.some om0;obtain⟨c0,c1⟩:=Y3 hlen hcell (k:=k) om0;cases h2:(nth dSl l k).live
 ·rw[show qG l k g=false by simp[qG,h2]];go_enter Tryz.func140,Tryz.ntmps140;go_wp2;refine qg kr0 kr0 ?_
  (repeat(go_big_quiet_step (fail)))
  refine wpQuiet_nil ?_;rintro _ ⟨x2,rfl⟩;go_wp2;go_ret;exact⟨rfl,skB⟩
 by_cases h3:(nth dSl l k).gen=g
 ·rw[show qG l k g=true by rw[C6,Int.toNat_natCast,hlen];exact⟨⟨h0,h1⟩,h2,h3⟩];go_enter Tryz.func140,Tryz.ntmps140;go_wp2;refine qg kr0 kr0 ?_
  (repeat(go_big_quiet_step (fail)))
  refine wpQuiet_nil ?_;rintro _ ⟨x2,rfl⟩;go_wp2;go_ret;exact⟨rfl,skB⟩
 ·rw[show qG l k g=false by simp[qG,h3]];have d3:((nth dSl l k).gen==g)=false:=by rw[beq_eq_false_iff_ne];exact h3
  go_enter Tryz.func140,Tryz.ntmps140;go_wp2;refine qg kr0 kr0 ?_
  (repeat(go_big_quiet_step (fail)))
  refine wpQuiet_nil ?_;rintro _ ⟨x2,rfl⟩;go_wp2;go_ret;exact⟨rfl,skB⟩
end
section
def ad5 (l:List Sl):Nat→List (Int × Int)
 |0=>[]
 |k+1=>ad5 l k++(if (nth dSl l k).live=true then[((k:Int),(nth dSl l k).gen)]else[])
theorem a1D(l:List Sl):∀k,(ad5 l k).length≤k
 |0=>Nat.le_refl _
 |k+1=>by
  have:=a1D l k;unfold ad5;rw[List.length_append];split
  ·simp only[List.length_cons,List.length_nil];omega
  ·simp only[List.length_nil];omega
def eqS (a b:Sl):Bool:=decide (a.gen=b.gen∧a.live=b.live)
def a0G (l l2:List Sl):Bool:=V4 eqS dSl l l2
theorem a68(a:Sl):eqS a a=true:=by simp[eqS]
def E7 (l:List Sl):Int:=if S5 l=true then 0 else 8
def Q2 (l:List Sl):List (Int × Int):=if S5 l=true then ad5 l l.length else[]
theorem Y8(ao ao2:Option Addr)(n n2 cap cap2:Nat)(l l2:List Sl)(w:World)(hl:Lay fS w ao n l)(hl2:Lay fS w ao2 n2 l2)(hn:n≤10000)(hn2:n2≤10000):
  Calls Tryz.prog 101 #[.agg #[.slice ao n cap],.agg #[.slice ao2 n2 cap2]] w fun e w'=>e=.returned (.bool (a0G l l2))∧Below w.heap.size w w':=by
 have hlen:=hl.len;have hlen2:=hl2.len;by_cases hne:n=n2;rotate_left
 ·rw[show a0G l l2=false from L2 om0];have ine:¬(n:Int)=(n2:Int):=om0;have dne:((n:Int)==(n2:Int))=false:=by rw[beq_eq_false_iff_ne];omega
  go_enter Tryz.func101,Tryz.ntmps101;go_wp2;go_ret;exact⟨rfl,skB⟩
 subst hne;go_enter Tryz.func101,Tryz.ntmps101;go_wp2;go_loopw [5] (fun i wr=>∃k:Nat,k≤n∧i=.int .i64 k∧(∀j,j<k→eqS (nth dSl l j) (nth dSl l2 j)=true)∧∃x,wr=plus ((w.alloc (.cells #[.slice ao n cap] 24)).alloc (.cells #[.slice ao2 n cap2] 24)) x) (fun i _=>n - (intOf i).toNat)
 case atStart=>exact⟨0,Nat.zero_le _,rfl,fun j hj=>om0,sk0⟩
 case round=>
  obtain⟨k,hk,rfl,hs,x,rfl⟩:=hrel;by_cases hkl:k<n
  ·obtain⟨g,off,rfl,hg,hcell⟩:=hl.some om0;obtain⟨g2,off2,rfl,hg2,hcell2⟩:=hl2.some om0;have ik:(k:Int)<(n:Int):=om0;obtain⟨c0,c1⟩:=Y3 hlen hcell hkl;obtain⟨d0,d1⟩:=Y3 hlen2 hcell2 hkl;by_cases q0:(nth dSl l k).gen=(nth dSl l2 k).gen;rotate_left
   ·have dq:((nth dSl l k).gen==(nth dSl l2 k).gen)=false:=by simp[q0]
    go_wp2;refine qg kr0 kr0 ?_
    (repeat(go_big_quiet_step (fail)))
    refine wpQuiet_nil ?_;rintro _ ⟨x2,rfl⟩;go_wp2;go_ret;exact⟨by rw[show a0G l l2=false from D7 (k:=k) om0 (by simp[eqS,q0])];rfl,skB⟩
   by_cases q1:(nth dSl l k).live=(nth dSl l2 k).live;rotate_left
   ·have dq:((nth dSl l k).live==(nth dSl l2 k).live)=false:=by simp[q1]
    go_wp2;refine qg kr0 kr0 ?_
    (repeat(go_big_quiet_step (fail)))
    refine wpQuiet_nil ?_;rintro _ ⟨x2,rfl⟩;go_wp2;go_ret;exact⟨by rw[show a0G l l2=false from D7 (k:=k) om0 (by simp[eqS,q1])];rfl,skB⟩
   go_wp2;refine qg kr0 kr0 ?_
   (repeat(go_big_quiet_step (fail)))
   refine wpQuiet_nil ?_;rintro _ ⟨x2,rfl⟩;go_wp2;go_roundw
   case rel=>exact⟨k+1,om0,by go_num,B0 hs (by simp[eqS,q0,q1]),sk0⟩
   case measure=>simp[intOf];omega
  ·have ik:¬(k:Int)<(n:Int):=om0;go_wp2;go_ret;exact⟨by rw[show a0G l l2=true from L0 om0 (fun j hj=>hs j om0)];rfl,skB⟩
end
section
theorem a1y(ao ao2:Option Addr)(n n2 cap cap2:Nat)(l l2:List (Int × Int))(w:World)(hl:Lay f2 w ao n l)(hl2:Lay f2 w ao2 n2 l2)(hn:n≤10000)(hn2:n2≤10000):
  Calls Tryz.prog 102 #[.slice ao n cap,.slice ao2 n2 cap2] w fun e w'=>e=.returned (.bool (ZQ l l2))∧Below w.heap.size w w':=by
 have hlen:=hl.len;have hlen2:=hl2.len;by_cases hne:n=n2;rotate_left
 ·rw[show ZQ l l2=false from L2 om0];have ine:¬(n:Int)=(n2:Int):=om0;have dne:((n:Int)==(n2:Int))=false:=by rw[beq_eq_false_iff_ne];omega
  go_enter Tryz.func102,Tryz.ntmps102;go_wp2;go_ret;exact⟨rfl,skB⟩
 subst hne;go_enter Tryz.func102,Tryz.ntmps102;go_wp2;go_loopw [5] (fun i wr=>∃k:Nat,k≤n∧i=.int .i64 k∧(∀j,j<k→eq2 (nth (0,0) l j) (nth (0,0) l2 j)=true)∧∃x,wr=plus w x) (fun i _=>n - (intOf i).toNat)
 case atStart=>exact⟨0,Nat.zero_le _,rfl,fun j hj=>om0,sk0⟩
 case round=>
  obtain⟨k,hk,rfl,hs,x,rfl⟩:=hrel;by_cases hkl:k<n
  ·obtain⟨g,off,rfl,hg,hcell⟩:=hl.some om0;obtain⟨g2,off2,rfl,hg2,hcell2⟩:=hl2.some om0;have ik:(k:Int)<(n:Int):=om0;obtain⟨c0,c1⟩:=Y4 hlen hcell hkl;obtain⟨d0,d1⟩:=Y4 hlen2 hcell2 hkl;by_cases q0:(nth (0,0) l k).1=(nth (0,0) l2 k).1;rotate_left
   ·have dq:((nth (0,0) l k).1==(nth (0,0) l2 k).1)=false:=by simp[q0]
    go_wp2;refine qg kr0 kr0 ?_
    (repeat(go_big_quiet_step (fail)))
    refine wpQuiet_nil ?_;rintro _ ⟨x2,rfl⟩;go_wp2;go_ret;exact⟨by rw[show ZQ l l2=false from D7 (k:=k) om0 (by simp[eq2,q0])];rfl,skB⟩
   by_cases q1:(nth (0,0) l k).2=(nth (0,0) l2 k).2;rotate_left
   ·have dq:((nth (0,0) l k).2==(nth (0,0) l2 k).2)=false:=by simp[q1]
    go_wp2;refine qg kr0 kr0 ?_
    (repeat(go_big_quiet_step (fail)))
    refine wpQuiet_nil ?_;rintro _ ⟨x2,rfl⟩;go_wp2;go_ret;exact⟨by rw[show ZQ l l2=false from D7 (k:=k) om0 (by simp[eq2,q1])];rfl,skB⟩
   go_wp2;refine qg kr0 kr0 ?_
   (repeat(go_big_quiet_step (fail)))
   refine wpQuiet_nil ?_;rintro _ ⟨x2,rfl⟩;go_wp2;go_roundw
   case rel=>exact⟨k+1,om0,by go_num,B0 hs (by simp[eq2,q0,q1]),sk0⟩
   case measure=>simp[intOf];omega
  ·have ik:¬(k:Int)<(n:Int):=om0;go_wp2;go_ret;exact⟨by rw[show ZQ l l2=true from L0 om0 (fun j hj=>hs j om0)];rfl,skB⟩
theorem ZI(ao:Option Addr)(n cap:Nat)(l:List Sl)(w:World)(hl:Lay fS w ao n l)(hn:n≤10000):
  Calls Tryz.prog 80 #[.agg #[.slice ao n cap]] w fun e w'=>∃ao' cap',e=.returned (.agg #[.slice ao' n cap'])∧(∃y,w'=plus w y)∧Own 86 2 fS w w' ao' n cap' l:=by
 have hlen:=hl.len;go_enter Tryz.func80,Tryz.ntmps80;go_wp2_with (at_builtin;refine qo (T:=(((w.alloc (.cells #[.slice ao n cap] 24)).alloc (.cells #[.slice none 0 0] 24)).alloc (.cells #[.slice none 0 0] 24))) (l:=[]) rfl _ _ rfl a8t a1s a8W rfl sk0 zd rfl (hl.ex sk0) om0 dc0 ?_;intro ao' cap' yv hown';rw[Nat.zero_add,List.nil_append]at hown');exact bodyPost_ret (v:=.agg #[.slice ao' n cap']) (by simp[results,Tryz.results80,go_sem,↓IntWalk.iteOmega]) rfl ⟨ao',cap',rfl,sk0,(hown'.swap (T':=(((w.alloc (.cells #[.slice ao n cap] 24)).alloc (.cells #[.slice ao' n cap'] 24)).alloc (.cells #[.slice ao' n cap'] 24))) (by simp[go_sem])).base (by simp[go_sem];omega)⟩
end
section
def H1 (l:List Sl) (s g:Int):List Sl:=if D8 l s g=0 then qK l s else[]
def a9A (w:World) (l:List Sl) (r:Int) (e:Ending) (w':World):Prop:=∃ao' cap',e=.returned (.tuple #[.agg #[.slice ao' l.length cap'],.int .i64 r])∧(∃y,w'=plus w y)∧Own 86 2 fS w w' ao' l.length cap' l
theorem a20(ao:Option Addr)(n cap:Nat)(l:List Sl)(s g:Int)(w:World)(hl:Lay fS w ao n l)(hn:n≤1000):
  Calls Tryz.prog 159 #[.agg #[.slice ao n cap],.agg #[.int .i64 s,.int .i64 g]] w fun e w'=>a9A w (H1 l s g) (D8 l s g) e w':=by
 have hlen:=hl.len;cases ho:S5 l
 ·have he:D8 l s g=8:=by rw[D8,ho];rfl
  rw[he,show H1 l s g=[]by rw[H1,he];rfl];go_enter Tryz.func159,Tryz.ntmps159;go_wp2_with (go_at_call 139;refine pm0 (M7 _ _ _ l _ (hl.ex sk0) om0) fun nx=>?_;rw[ho]);exact bodyPost_ret (v:=.tuple #[.agg #[.slice none 0 0],.int .i64 8]) (by simp[results,Tryz.results159,go_sem,↓IntWalk.iteOmega]) rfl ⟨none,0,rfl,sk0,zd⟩
 cases hh:qG l s g
 ·have he:D8 l s g=50:=by rw[D8,ho,hh];rfl
  rw[he,show H1 l s g=[]by rw[H1,he];rfl];go_enter Tryz.func159,Tryz.ntmps159;go_wp2_with (first|(go_at_call 139;refine pm0 (M7 _ _ _ l _ (hl.ex sk0) om0) fun nx=>?_;rw[ho])|(go_at_call 140;refine pm0 (ZK _ _ _ l _ _ _ (hl.ex sk0) om0) fun nx=>?_;rw[hh]));exact bodyPost_ret (v:=.tuple #[.agg #[.slice none 0 0],.int .i64 50]) (by simp[results,Tryz.results159,go_sem,↓IntWalk.iteOmega]) rfl ⟨none,0,rfl,sk0,zd⟩
 have he:D8 l s g=0:=by rw[D8,ho,hh];rfl
 rw[he,show H1 l s g=qK l s by rw[H1,he];rfl];obtain⟨⟨s0,s1⟩,_⟩:=C6.1 hh;obtain⟨k,rfl⟩:∃k:Nat,s=(k:Int):=⟨s.toNat,om0⟩;have hk:k<n:=om0;have ik:(k:Int)<(n:Int):=om0;have hkl:(qK l (k:Int)).length=n:=by rw[qK,List.length_set];exact hlen
 go_enter Tryz.func159,Tryz.ntmps159;go_wp2_with (first|(go_at_call 139;refine pm0 (M7 _ _ _ l _ (hl.ex sk0) om0) fun nx=>?_;rw[ho])|(go_at_call 140;refine pm0 (ZK _ _ _ l _ _ _ (hl.ex sk0) om0) fun nx=>?_;rw[hh])|(go_at_call 80;refine(ZI _ _ _ l _ (hl.ex sk0) om0).mono ?_;rintro e w1 ⟨a1,c1,rfl,hw1,o1⟩;have b0:w1.cell? ⟨w.heap.size+1,0,none⟩=some (.int .i64 k):=qf hw1 (by simp[go_sem,↓IntWalk.iteOmega]);have hres:w1.heap[w.heap.size+1+1]?=some (.cells #[.slice none 0 0] 24):=i7 (w:=((w.alloc (.cells #[.slice ao n cap] 24)).alloc (.cells #[.int .i64 k,.int .i64 g] 32)).alloc (.cells #[.slice none 0 0] 24)) sn0 (by rw[qe,if_pos (by simp[go_sem])]);obtain⟨g1,cur,rfl,hg1,hb1,hsz⟩:=o1.blk om0;obtain⟨_,_,eqa,hlt1,hc1⟩:=o1.lay.some om0;cases eqa;obtain⟨x0,x1⟩:=Y3 o1.1 hc1 (k:=k) hk;rw[Nat.zero_add]at x0 x1;have z1:=j9 (i:=k*2+1) hb1;have y0:=i6 (i:=0) hres rfl;have zy:=j9 (i:=0) hres;have hrl:=qi hres));have hgw:w.heap.size≤g1:=by simp[go_sem]at hg1;omega
 have hne:g1≠w.heap.size+1+1:=by
  intro e0;rw[e0,hres]at hb1;cases hb1
 have o2:=o1.set_self (u:=.bool false) k 1 ⟨(nth dSl l k).gen,false⟩ dSl hk a1s dc0 rfl;have hres2:(w1.setCell ⟨g1,k*2+1,none⟩ (.bool false)).heap[w.heap.size+1+1]?=_:=(qd hne).trans hres;have o3:=(o2.set_other (i:=0) (u:=.slice (some ⟨g1,0,none⟩) n c1) hres2 dc0).ex (qE (o:=.cells #[.slice (some ⟨g1,0,none⟩) n c1] 24) (j5 _));have hres3:=i7 (qE (o:=.cells #[.slice (some ⟨g1,0,none⟩) n c1] 24) (j5 _)) (j7 (i:=0) (u:=.slice (some ⟨g1,0,none⟩) n c1) hres2);have hx3:∃y,((w1.setCell ⟨g1,k*2+1,none⟩ (.bool false)).setCell ⟨w.heap.size+1+1,0,none⟩ (.slice (some ⟨g1,0,none⟩) n c1)).alloc (.cells #[.slice (some ⟨g1,0,none⟩) n c1] 24)=plus w y:=qE (qb (qb sn0 hgw) om0);generalize ((w1.setCell ⟨g1,k*2+1,none⟩ (.bool false)).setCell ⟨w.heap.size+1+1,0,none⟩ (.slice (some ⟨g1,0,none⟩) n c1)).alloc (.cells #[.slice (some ⟨g1,0,none⟩) n c1] 24)=w4 at*;have c0:=i6 (i:=0) hres3 rfl;exact bodyPost_ret (v:=.tuple #[.agg #[.slice (some ⟨g1,0,none⟩) n c1],.int .i64 0]) (by simp[results,Tryz.results159,go_sem,c0]) rfl ⟨some ⟨g1,0,none⟩,c1,by rw[hkl],hx3,by rw[hkl];exact o3.base (by simp[go_sem];omega)⟩
end
section
open Go.RowKit
def a8L (G:World→World→Prop) (P:Program) (md:Region.Mode) (ops:Array Oper) (n:Nat) (Φ:Nat→(Nat→Value)→World→Prop) (a0:Act) (w0:World) (Q:Exit→Act→World→Prop):List Oper→Nat→Prop:=
 ab3 fun i o=>∀a w,G w0 w→(∀s,(ops.any fun o=>o.dst==some s)=false→got a s=got a0 s)→(∀j,N5 md ops ops.size 8 i j=true→Φ j (got a) w)→
   o.wp P a w (fun a' w'=>∃v,a'=a.put o.dst v∧G w w'∧Φ i (upd (got a) o.dst v) w') Q
theorem M5{P:Program}{Q:Exit→Act→World→Prop}{id:Nat}{l:List Oper}(n:Nat)(S:Nat→List Nat)(Φ:Nat→(Nat→Value)→World→Prop){a:Act}{w:World}(G:World→World→Prop)(hG:∀w1 w2 w3,G w1 w2→G w2 w3→G w1 w3)(hd:G w {w with drawn:=w.drawn+1})(hm:P.follows .mixedOrders=true)(hB:a3G .any l.toArray n S a.tmps.size=true)(hn:n≤l.length)
  (hmono:∀i t t' w w',Φ i t w→(∀s∈S i,t' s=t s)→G w w'→Φ i t' w')
  (hst:a8L G P .any l.toArray n Φ a w Q (l.take n) 0)
  (hend:∀t w',G w w'→(∀j,j<n→Φ j t w')→wpList P l.toArray Q (l.drop n) (zh t (l.take n) a) w'):(Code.region id l.toArray true).wp P Q a w:=
 X0 n S (fun i t _ w=>Φ i t w) (fun _ w _ w'=>G w w') (fun _ _ _ _ _ _=>hG _ _ _) hd hm hB hn (fun i t t' _ w _ w'=>hmono i t t' w w')
  (T7 (fun _ _ q a _ w h1 h2 h3 _=>q a w h1 (fun s hs=>h2 s (az1 hs)) h3) _ _ hst) (fun t _ w' _=>hend t w')
end
section
open Go.RowKit
structure Two (b1:Nat) (o1:Obj) (b2:Nat) (o2:Obj) (w w':World):Prop where
 os:w'.os=w.os
 tape:w'.tape=w.tape
 output:w'.output=w.output
 size:w.heap.size≤w'.heap.size
 rest:∀k,k<w.heap.size→k≠b1→k≠b2→w'.heap[k]?=w.heap[k]?
 one:w'.heap[b1]?=w.heap[b1]?∨w'.heap[b1]?=some o1
 two:w'.heap[b2]?=w.heap[b2]?∨w'.heap[b2]?=some o2
section
variable {b1 b2:Nat} {o1 o2:Obj} {w w1 w2 w3:World}
theorem zL(w:World):Two b1 o1 b2 o2 w w:=⟨rfl,rfl,rfl,Nat.le_refl _,fun _ _ _ _=>rfl,.inl rfl,.inl rfl⟩
theorem V5(w:World):Two b1 o1 b2 o2 w {w with drawn:=w.drawn+1}:=⟨rfl,rfl,rfl,Nat.le_refl _,fun _ _ _ _=>rfl,.inl rfl,.inl rfl⟩
theorem R0:∀w1 w2 w3:World,Two b1 o1 b2 o2 w1 w2→Two b1 o1 b2 o2 w2 w3→Two b1 o1 b2 o2 w1 w3:=by
 intro w1 w2 w3 h1 h2;refine⟨h2.os.trans h1.os,h2.tape.trans h1.tape,h2.output.trans h1.output,Nat.le_trans h1.size h2.size,fun k hk n1 n2=>?_,?_,?_⟩
 ·rw[h2.rest k (Nat.lt_of_lt_of_le hk h1.size) n1 n2];exact h1.rest k hk n1 n2
 ·rcases h2.one with e|e
  ·rw[e];exact h1.one
  ·exact .inr e
 ·rcases h2.two with e|e
  ·rw[e];exact h1.two
  ·exact .inr e
theorem A1{g i:Nat}{v:Value}(h:Two b1 o1 b2 o2 w w1)(hc:w.cell? ⟨g,i,none⟩=some v)(n1:g≠b1)(n2:g≠b2):w1.cell? ⟨g,i,none⟩=some v:=by
 have hg:=zC hc;rw[World.cell?_of_block (w:=w) (h.rest g hg n1 n2)];exact hc
theorem QT{o:Obj}(h:Two b1 o1 b2 o2 w w1)(hb:w.heap[b1]?=some o):w1.heap[b1]?=some o∨w1.heap[b1]?=some o1:=by
 rcases h.one with e|e
 ·exact .inl (e.trans hb)
 ·exact .inr e
theorem QI{o:Obj}(h:Two b1 o1 b2 o2 w w1)(hb:w.heap[b2]?=some o):w1.heap[b2]?=some o∨w1.heap[b2]?=some o2:=by
 rcases h.two with e|e
 ·exact .inl (e.trans hb)
 ·exact .inr e
theorem Zn{i:Nat}{u:Value}(hne:b1≠b2)(h:(w.setCell ⟨b1,i,none⟩ u).heap[b1]?=some o1):Two b1 o1 b2 o2 w (w.setCell ⟨b1,i,none⟩ u):=
 ⟨rfl,rfl,rfl,by rw[B9];exact Nat.le_refl _,fun k _ n1 _=>qd (fun e=>n1 e.symm),.inr h,.inl (qd hne)⟩
theorem J0{i j:Nat}{u v:Value}(hne:b1≠b2)(h:((w.setCell ⟨b2,i,none⟩ u).setCell ⟨b2,j,none⟩ v).heap[b2]?=some o2):Two b1 o1 b2 o2 w ((w.setCell ⟨b2,i,none⟩ u).setCell ⟨b2,j,none⟩ v):=
 ⟨rfl,rfl,rfl,by rw[B9,B9];exact Nat.le_refl _,fun k _ _ n2=>(qd (fun e=>n2 e.symm)).trans (qd (fun e=>n2 e.symm)),.inl ((qd (fun e=>hne e.symm)).trans (qd (fun e=>hne e.symm))),.inr h⟩
theorem al7{T:World}(h:Two b1 o1 b2 o2 w w1)(hw:∃y,w=plus T y)(h1:T.heap.size≤b1)(h2:T.heap.size≤b2):∃y,w1=plus T y:=by
 obtain⟨y,rfl⟩:=hw;apply C3;have hb:=A3 T y;refine⟨h.os.trans hb.os,h.tape.trans hb.tape,h.output.trans hb.output,Nat.le_trans hb.size h.size,fun n hn=>?_⟩;have hlt:n<(plus T y).heap.size:=Nat.lt_of_lt_of_le hn hb.size;rw[h.rest n hlt om0 om0];exact hb.block n hn
end
theorem Own.two{α:Type}{f:α→List Value}{b1 b2:Nat}{o1 o2:Obj}{w w1 T:World}{ao:Option Addr}{n cap c:Nat}{l:List α}{e e1 e2:TypeId}{c1 c2:Array Value}(h:Own e c f T w ao n cap l)(ht:Two b1 o1 b2 o2 w w1)(h1:w.heap[b1]?=some (.cells c1 e1))(h2:w.heap[b2]?=some (.cells c2 e2))(n1:e1≠e)(n2:e2≠e):Own e c f T w1 ao n cap l:=by
 refine⟨h.1,h.2.1,h.2.2.imp id ?_⟩;rintro⟨k,cp,cu,a1,a2,a3,a4⟩;refine⟨k,cp,cu,a1,a2,?_,a4⟩;rw[ht.rest k (qi a3) ?_ ?_]
 ·exact a3
 ·intro e0;rw[e0,h1]at a3;cases a3;exact n1 rfl
 ·intro e0;rw[e0,h2]at a3;cases a3;exact n2 rfl
end
end Go.Proofs.YtcekcihijdipoaaGreat
