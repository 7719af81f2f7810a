/- A pack of texts: NdP1. -/
import Derived.Maps.OwnSet
import Derived.Maps.AppendAt
import Derived.Laws.EntriesVeiled
import Derived.Test.YtcekcihijdipoaaGreatPD16
namespace Go.Proofs.YtcekcihijdipoaaGreat
set_option maxRecDepth 100000
set_option maxHeartbeats 16000000
open Go.RowKit Go.ChangeShapes Go.WideShapes Go.ChangeAt
set_option linter.unusedSimpArgs false
set_option linter.unusedVariables false
attribute [local go_sem] qn qZ A2 zg zz zA t5 qJ zf qO qD t6
section
theorem isnil_88(ao:Option Addr)(n cap:Nat)(w:World):(binOp .eql 88 (.slice ao n cap) (.slice none 0 0)).run Tryz.prog w=.ok (.bool ao.isNone) w:=Lib.run_eql_slice_nil w _ _ ao n cap 0 0 Tryz.underlying88
attribute [local go_sem] isnil_88
theorem a83(ao:Option Addr)(n cap:Nat)(l:List (Int × Int))(w:World)(hl:Lay f2 w ao n l)(hn:n≤10000)(hz:ao=none→cap=0):
  Calls Tryz.prog 138 #[.slice ao n cap] w fun e w'=>a7z 32 2 f2 w l e w':=by
 cases ao with
 |none=>
  obtain rfl:n=0:=by rcases hl.at0 with h|⟨g,off,h,_⟩;exact h;cases h
  obtain rfl:=hz rfl;obtain rfl:=hl.zero;go_enter Tryz.func138,Tryz.ntmps138;go_wp2;go_ret;exact⟨none,0,0,rfl,sk0,zd⟩
 |some a=>
  go_enter Tryz.func138,Tryz.ntmps138;go_wp2_with (at_builtin;(refine qo (T:=w) (l:=[]) rfl _ _ rfl ad6 Q1 ZV rfl sk0 ⟨rfl,World.ownsRow_made w _ 0 (Nat.le_refl _) dc0 rfl⟩ rfl (hl.ex sk0) om0 dc0 ?_;intro ao' cap' y' hown'));go_ret;rw[Nat.zero_add,List.nil_append]at hown';exact⟨ao',_,cap',rfl,sk0,hown'⟩
end
/- What nodes.twinKids and Twin give. -/
section
theorem ab2{α:Type}{f:α→List Value}{w:World}{g off n:Nat}{l:List α}(h:Lay f w (some ⟨g,off,none⟩) n l)(hn:0<n):∀j u,(l.flatMap f)[j]?=some u→w.cell? ⟨g,off+j,none⟩=some u:=by
 obtain⟨g',o',e,_,h2⟩:=h.some hn;cases e;exact h2
theorem a2Y:∀n,(List.replicate n dRH).flatMap fR=List.replicate n (.slice none 0 0)
 |0=>rfl
 |n+1=>by rw[List.replicate_succ,List.flatMap_cons,a2Y n,List.replicate_succ];rfl
theorem av3(n:Nat)(hn:n≤100000)(w:World):(Instr.makeSlice 25 (.int .i64 n) (.int .i64 n)).run Tryz.prog w=.ok (.slice (some ⟨w.heap.size,0,none⟩) n n) (w.alloc (.cells ((List.replicate n dRH).flatMap fR).toArray 88)):=by
 obtain⟨i,hi,hz,hz1,hz2⟩:=info_parts (show(Tryz.prog.info? 88).map (fun i=>(i.zero,i.size,i.bytes))=some (some (.slice none 0 0),1,24)by kernel_rfl);have hb1:i.bytes*n≤281474976710656:=by rw[hz2];omega
 have h:=run_make w 25 88 i (.slice none 0 0) Tryz.underlying25 hi hz .i64 .i64 n n om0 (Int.le_refl _) (by rw[←Int.natCast_mul];omega) om0;rw[Int.toNat_natCast,hz1,Nat.mul_one]at h;rw[h,a2Y,←toList_madeCells_one,Array.toArray_toList];rfl
def a1P (hs:List RH):Prop:=∀j k,j<hs.length→k<hs.length→j≠k→∀a b,(nth dRH hs j).ao=some a→(nth dRH hs k).ao=some b→a.block≠b.block
theorem a51{n j:Nat}:nth dRH (List.replicate n dRH) j=dRH:=by
 unfold nth;by_cases h:j<n
 ·simp[h]
 ·simp[h]
theorem a4I(n:Nat):a1P (List.replicate n dRH):=by
 intro j k _ _ _ a b ha;rw[a51]at ha;cases ha
theorem a1p{hs:List RH}{k:Nat}{r:RH}(h:a1P hs)(hk:k<hs.length)(hr:∀j,j<hs.length→j≠k→∀a b,(nth dRH hs j).ao=some a→r.ao=some b→a.block≠b.block):a1P (hs.set k r):=by
 intro i j hi hj hne a b ha hb;rw[List.length_set]at hi hj;rw[qR hk]at ha hb;by_cases ei:i=k
 ·rw[if_pos ei]at ha;rw[if_neg (fun e=>hne om0)]at hb;exact fun e=>hr j hj (fun e=>hne om0) b a hb ha e.symm
 ·rw[if_neg ei]at ha;by_cases ej:j=k
  ·rw[if_pos ej]at hb;exact hr i hi ei a b ha hb
  ·rw[if_neg ej]at hb;exact h i j hi hj hne a b ha hb
theorem a48{α:Type}{f:α→List Value}{T w:World}{ao:Option Addr}{n cap c:Nat}{l:List α}{e:TypeId}(h:Own e c f T w ao n cap l){a:Addr}(ha:ao=some a):T.heap.size≤a.block∧a.block<w.heap.size:=by
 rcases h.2.2 with⟨h1,_⟩|⟨k,cp,cu,h1,h2,h3,_⟩
 ·simp only[Value.slice.injEq,ha]at h1;cases h1.1
 ·simp only[Value.slice.injEq,ha,Option.some.injEq]at h1;have:=qi h3;rw[h1.1];exact⟨h2,this⟩
structure an6 (T w:World) (ko:Option Addr) (kn kcap:Nat) (hs:List RH) (ks:List (List (Int × Int))):Prop where
 kh:Own 88 1 fR T w ko kn kcap hs
 len:hs.length=ks.length
 row:∀k,k<hs.length→Own 32 2 f2 T w (nth dRH hs k).ao (nth dRH hs k).n (nth dRH hs k).cap (nth [] ks k)
 apart:a1P hs
section
variable {T T' w w':World} {ko:Option Addr} {kn kcap:Nat} {hs:List RH} {ks:List (List (Int × Int))}
theorem an6.ex(h:an6 T w ko kn kcap hs ks)(hw:∃x,w'=plus w x):an6 T w' ko kn kcap hs ks:=⟨h.kh.ex hw,h.len,fun k hk=>(h.row k hk).ex hw,h.apart⟩
theorem an6.base(h:an6 T w ko kn kcap hs ks)(hT:T'.heap.size≤T.heap.size):an6 T' w ko kn kcap hs ks:=⟨h.kh.base hT,h.len,fun k hk=>(h.row k hk).base hT,h.apart⟩
theorem an6.set_other{gb i:Nat}{u:Value}{cur:Array Value}{e':TypeId}(h:an6 T w ko kn kcap hs ks)(hb:w.heap[gb]?=some (.cells cur e'))(h2:e'≠88)(h3:e'≠32):an6 T (w.setCell ⟨gb,i,none⟩ u) ko kn kcap hs ks:=
 ⟨h.kh.set_other hb h2,h.len,fun k hk=>(h.row k hk).set_other hb h3,h.apart⟩
theorem an6.kl(h:an6 T w ko kn kcap hs ks):ks.length=kn:=h.len.symm.trans h.kh.1
theorem zS.mk2{ao:Option Addr}{n cap:Nat}{l:List Sl}(h:an6 T w ko kn kcap hs ks)(hsl:Own 86 2 fS T w ao n cap l):zS T w ao n cap ko kn kcap hs ⟨l,ks⟩:=⟨hsl,h.kh,h.len,h.row⟩
end
def aD1 (w:World) (kn:Nat) (ks:List (List (Int × Int))) (e:Ending) (w':World):Prop:=∃ko' kcap' hs',e=.returned (.slice ko' kn kcap')∧(∃y,w'=plus w y)∧an6 w w' ko' kn kcap' hs' ks
theorem ZB(ao:Option Addr)(n cap:Nat)(ko:Option Addr)(kn kcap:Nat)(hs:List RH)(gr:Gr)(w:World)(hG:QL w ao n ko kn hs gr):
  Calls Tryz.prog 82 #[.slice ko kn kcap] w fun e w'=>aD1 w kn gr.ks e w':=by
 have hlen:=hG.kl;have hkh:=hG.kh.len;have b3:=hG.n2;have hmk:=av3 kn om0;go_enter Tryz.func82,Tryz.ntmps82;go_wp2;go_loopw [11] (fun i wr=>∃(k:Nat) (hs':List RH),k≤kn∧i=.int .i64 k∧(∃y,wr=plus w y)∧Own 88 1 fR w wr (some ⟨w.heap.size,0,none⟩) kn kn hs'∧(∀j,j<k→Own 32 2 f2 w wr (nth dRH hs' j).ao (nth dRH hs' j).n (nth dRH hs' j).cap (nth [] gr.ks j))∧(∀j,k≤j→nth dRH hs' j=dRH)∧a1P hs') (fun i _=>kn - (intOf i).toNat)
 case atStart=>exact⟨0,List.replicate kn dRH,Nat.zero_le _,rfl,sk0,Z9 (by simp) a4O (by rw[qe,if_pos rfl]) (Nat.le_refl _) (by unfold maxLen;omega),fun j hj=>om0,fun j _=>a51,a4I kn⟩
 case round=>
  obtain⟨k,hs',hk,rfl,hx,okh,orow,hlate,hap⟩:=hrel;by_cases hkl:k<kn
  ·have ik:(k:Int)<(kn:Int):=om0;obtain⟨g1,o1,rfl,hg1,hc1⟩:=hG.kh.some om0;have c1:=qf hx (O9 hG.kh.len hc1 hkl);have r1:=(hG.row k om0).ex hx;have m1:=hG.n3 k om0;have m5:=hG.n5 k om0;obtain⟨gb,cur,eb,hgb,hbb,hsz⟩:=okh.blk om0;cases eb;have lb:=qi hbb;have hlt:∀j,j<k→∀a,(nth dRH hs' j).ao=some a→a.block<wr.heap.size:=fun j hj a ha=>(a48 (orow j hj) ha).2
   go_wp2_with (go_at_call 138;refine(a83 _ _ _ (nth [] gr.ks k) _ (r1.ex sk0) om0 (fun h=>(m5 h).2)).mono ?_;rintro e w1 ⟨a1,m1',c1',rfl,hw1,o1'⟩;have hgt:∀b,a1=some b→wr.heap.size≤b.block:=(fun b hb=>(a48 o1' hb).1);have q1:=o1'.1;have okh1:=okh.ex hw1;have bb1:=i7 hw1 hbb;have k0:=O9 okh1.1 (g:=w.heap.size) (off:=0) (w:=w1) (ab2 okh1.lay om0) hkl;rw[Nat.zero_add]at k0;have z0:=j9 (i:=k) bb1;have okh2:=okh1.set_self (u:=.slice a1 m1' c1') k 0 ⟨a1,m1',c1'⟩ dRH hkl a4O dc0 rfl;rw[Nat.mul_one,Nat.add_zero]at okh2;have hx2:=qb (i:=k) (u:=.slice a1 m1' c1') (g:=w.heap.size) (i9 hx hw1) (Nat.le_refl _);have on2:=(o1'.base (T':=w) (by have:=qu hx;omega)).set_other (i:=k) (u:=.slice a1 m1' c1') bb1 dc0;have orow2:=fun j hj=>((orow j hj).ex hw1).set_other (i:=k) (u:=.slice a1 m1' c1') bb1 dc0;have lh:=okh.1);clear okh okh1 orow o1' hbb c1 r1;go_roundw
   case rel=>
    refine⟨k+1,hs'.set k ⟨a1,m1',c1'⟩,om0,by go_num,hx2,okh2,fun j hj=>?_,fun j hj=>?_,a1p hap om0 fun j hj hjk a b ha hb=>?_⟩
    ·rw[ZR om0];by_cases ej:j=k
     ·subst ej;rw[if_pos rfl];exact on2
     ·rw[if_neg ej];exact orow2 j om0
    ·rw[ZR om0,if_neg om0];exact hlate j om0
    ·by_cases hj2:j<k
     ·have q2:=hlt j hj2 a ha;have q3:=hgt b hb;omega
     ·rw[hlate j om0]at ha;cases ha
   case measure=>simp[intOf];omega
  ·have ik:¬(k:Int)<(kn:Int):=om0;obtain rfl:k=kn:=om0;go_wp2;go_ret;exact⟨_,_,hs',rfl,hx,okh,by rw[okh.1,hlen],fun j hj=>orow j (by rw[←okh.1];exact hj),hap⟩
def ntS (i:Nat):List Nat:=match i with|0=>[3]|1=>[4]|2=>[5]|3=>[6]|4=>[7]|5=>[8]|6=>[9,5,8]|_=>[]
def ntΦ (w T:World) (ao:Option Addr) (n cap:Nat) (ko:Option Addr) (kn kcap:Nat) (gr:Gr) (i:Nat) (t:Nat→Value) (w':World):Prop:=match i with
 |0=>t 3=.pointer (some ⟨w.heap.size,0,none⟩)
 |1=>t 4=.agg #[.slice ao n cap]
 |2=>∃a c,t 5=.agg #[.slice a n c]∧Own 86 2 fS T w' a n c gr.sl
 |3=>t 6=.pointer (some ⟨w.heap.size,1,none⟩)
 |4=>t 7=.slice ko kn kcap
 |5=>∃a c hs,t 8=.slice a kn c∧an6 T w' a kn c hs gr.ks
 |6=>∃a b c,t 9=.agg #[.slice a n b,c]∧t 5=.agg #[.slice a n b]∧t 8=c
 |_=>True
theorem a6p(w T:World)(ao:Option Addr)(n cap:Nat)(ko:Option Addr)(kn kcap:Nat)(gr:Gr):∀i t t' w' x,ntΦ w T ao n cap ko kn kcap gr i t w'→(∀s∈ntS i,t' s=t s)→ntΦ w T ao n cap ko kn kcap gr i t' (plus w' x):=by
 intro i t t' w' x h hs'
 match i with
 |0=>exact(hs' 3 dc0).trans h
 |1=>exact(hs' 4 dc0).trans h
 |2=>obtain⟨a,c,e,o⟩:=h;exact⟨a,c,(hs' 5 dc0).trans e,o.plus x⟩
 |3=>exact(hs' 6 dc0).trans h
 |4=>exact(hs' 7 dc0).trans h
 |5=>obtain⟨a,c,q,e,o⟩:=h;exact⟨a,c,q,(hs' 8 dc0).trans e,o.ex ⟨x,rfl⟩⟩
 |6=>obtain⟨a,b,c,e1,e2,e3⟩:=h;exact⟨a,b,c,(hs' 9 dc0).trans e1,(hs' 5 dc0).trans e2,(hs' 8 dc0).trans e3⟩
 |i+7=>trivial
def a9d (w:World) (n kn:Nat) (g:Gr) (e:Ending) (w':World):Prop:=∃ao' cap' ko' kcap' hs',e=.returned (.agg #[.slice ao' n cap',.slice ko' kn kcap'])∧(∃y,w'=plus w y)∧zS w w' ao' n cap' ko' kn kcap' hs' g∧a1P hs'
theorem Za(ao:Option Addr)(n cap:Nat)(ko:Option Addr)(kn kcap:Nat)(hs:List RH)(gr:Gr)(w:World)(hG:QL w ao n ko kn hs gr):
  Calls Tryz.prog 39 #[.agg #[.slice ao n cap,.slice ko kn kcap]] w fun e w'=>a9d w n kn gr e w':=by
 have b1:=hG.n1;have b3:=hG.n2;go_enter Tryz.func39,Tryz.ntmps39;go_wp2;refine M6 7 ntS (ntΦ w ((w.alloc (.cells #[.slice ao n cap,.slice ko kn kcap] 27)).alloc (.cells #[.slice none 0 0,.slice none 0 0] 27)) ao n cap ko kn kcap gr) kr0 kr0 rfl (a6p w ((w.alloc (.cells #[.slice ao n cap,.slice ko kn kcap] 27)).alloc (.cells #[.slice none 0 0,.slice none 0 0] 27)) ao n cap ko kn kcap gr) ?steps ?fin
 case steps=>
  refine⟨?_,?_,?_,?_,?_,?_,?_,trivial⟩<;>intro a w' hg hfree hdeep<;>obtain⟨x,rfl⟩:=hg
  ·have f1_:=hfree 1 kr0;simp only[ntΦ,got]at f1_;simp[go_sem]at f1_;unfold Oper.wp;simp[go_sem,execOp,Act.eval,↓IntWalk.iteOmega,f1_];exact⟨_,rfl,j5 _,by simp[ntΦ,upd]⟩
  ·have d0:=hdeep 0 kr0;simp only[ntΦ,got]at d0;unfold Oper.wp;simp[go_sem,execOp,Act.eval,↓IntWalk.iteOmega,d0];exact⟨_,rfl,j5 _,by simp[ntΦ,upd]⟩
  ·have d1:=hdeep 1 kr0;simp only[ntΦ,got]at d1;unfold Oper.wp;simp[go_sem,execOp,Act.eval,↓IntWalk.iteOmega,d1];refine(W7 _ _ _ gr.sl _ (hG.sl.ex sk0) om0).mono ?_;rintro e w1 ⟨a1,c1,rfl,hw1,o1⟩;exact⟨_,rfl,hw1,a1,c1,by simp[upd],o1.base (by rw[qn];omega)⟩
  ·have f1_:=hfree 1 kr0;simp only[ntΦ,got]at f1_;simp[go_sem]at f1_;unfold Oper.wp;simp[go_sem,execOp,Act.eval,↓IntWalk.iteOmega,f1_];exact⟨_,rfl,j5 _,by simp[ntΦ,upd]⟩
  ·have d3:=hdeep 3 kr0;simp only[ntΦ,got]at d3;unfold Oper.wp;simp[go_sem,execOp,Act.eval,↓IntWalk.iteOmega,d3];exact⟨_,rfl,j5 _,by simp[ntΦ,upd]⟩
  ·have d4:=hdeep 4 kr0;simp only[ntΦ,got]at d4;unfold Oper.wp;simp[go_sem,execOp,Act.eval,↓IntWalk.iteOmega,d4];refine(ZB ao n cap _ _ _ hs gr _ (hG.ex sk0)).mono ?_;rintro e w1 ⟨k1,c1,hs1,rfl,hw1,o1⟩;exact⟨_,rfl,hw1,k1,c1,hs1,by simp[upd],o1.base (by rw[qn];omega)⟩
  ·obtain⟨a5,c5,e5,_⟩:∃a_ c,got a 5=.agg #[.slice a_ n c]∧_:=hdeep 2 kr0;obtain⟨a8,c8,_,e8,_⟩:∃a_ c hs,got a 8=.slice a_ kn c∧_:=hdeep 5 kr0;have g5:=e5;have g8:=e8;simp only[got]at g5 g8;simp at g5 g8;unfold Oper.wp;simp[go_sem,execOp,Act.eval,↓IntWalk.iteOmega,g5,g8];exact⟨_,rfl,j5 _,a5,c5,.slice a8 kn c8,by simp[upd],by simp[upd];exact e5,by simp[upd];exact e8⟩
 case fin=>
  rintro t w1 hg hΦ o ho;have h0:=hΦ 0 dc0;have h1:=hΦ 1 dc0;obtain⟨a5,c5,e5,o5⟩:=hΦ 2 dc0;have h3:=hΦ 3 dc0;have h4:=hΦ 4 dc0;obtain⟨a8,c8,hs8,e8,o8⟩:=hΦ 5 dc0;obtain⟨a9,b9,c9,e9,e9a,e9b⟩:=hΦ 6 dc0;simp only[ntΦ]at h0 h1 h3 h4;rw[e5]at e9a;rw[e8]at e9b;cases e9a;cases e9b;simp only[List.getElem?_cons_succ,List.getElem?_cons_zero,Option.some.injEq]at ho;subst ho;simp only[zh,List.take_succ_cons,List.take_zero,h0,h1,e5,h3,h4,e8,e9];simp only[Act.put];simp only[List.setIfInBounds_toArray,List.set_cons_succ,List.set_cons_zero];have hgb:w1.heap[w.heap.size+1]?=some (.cells #[.slice none 0 0,.slice none 0 0] 27):=i7 hg (by rw[qe,if_pos (by simp[go_sem])]);have k0:=i6 (i:=0) hgb rfl;have k1:=i6 (i:=1) hgb rfl;have z0:=j9 (i:=0) hgb;have z1:=j9 (i:=1) hgb;unfold Oper.wp;simp[go_sem,execOp,Act.eval,k0,k1,z0,z1];have o52:=(o5.set_other (i:=0) (u:=.slice a5 n c5) hgb dc0).set_other (i:=1) (u:=.slice a8 kn c8) (j7 hgb) dc0;have o82:=(o8.set_other (i:=0) (u:=.slice a5 n c5) hgb dc0 dc0).set_other (i:=1) (u:=.slice a8 kn c8) (j7 hgb) dc0 dc0;have rf:=j7 (i:=1) (u:=.slice a8 kn c8) (j7 (i:=0) (u:=.slice a5 n c5) hgb);have hxf:=qb (i:=1) (u:=.slice a8 kn c8) (g:=w.heap.size+1) (qb (i:=0) (u:=.slice a5 n c5) (g:=w.heap.size+1) (i9 (show∃y,((w.alloc (.cells #[.slice ao n cap,.slice ko kn kcap] 27)).alloc (.cells #[.slice none 0 0,.slice none 0 0] 27))=plus w y from sk0) hg) om0) om0;clear o5 o8 k0 k1 z0 z1 hgb hΦ;generalize (w1.setCell ⟨w.heap.size+1,0,none⟩ (.slice a5 n c5)).setCell ⟨w.heap.size+1,1,none⟩ (.slice a8 kn c8)=w9 at*;have f0:=i6 (i:=0) rf rfl;have f1:=i6 (i:=1) rf rfl;have hB:w.heap.size≤((w.alloc (.cells #[.slice ao n cap,.slice ko kn kcap] 27)).alloc (.cells #[.slice none 0 0,.slice none 0 0] 27)).heap.size:=by simp[go_sem];omega
  go_wp2;exact bodyPost_ret (v:=.agg #[.slice a5 n c5,.slice a8 kn c8]) (by simp[results,Tryz.results39,go_sem,f0,f1]) rfl ⟨a5,c5,a8,c8,hs8,rfl,hxf,(zS.mk2 (o82.base hB) (o52.base hB)),o82.apart⟩
theorem a1U(ao:Option Addr)(n cap:Nat)(ko:Option Addr)(kn kcap:Nat)(hs:List RH)(gr:Gr)(w:World)(hG:QL w ao n ko kn hs gr):
  Calls Tryz.prog 39 #[.agg #[.slice ao n cap,.slice ko kn kcap]] w fun e w'=>a82 w n kn gr e w':=
 (Za ao n cap ko kn kcap hs gr w hG).mono fun e w' ⟨a,c,k,kc,hs1,h1,h2,h3,_⟩=>⟨a,c,k,kc,hs1,h1,h2,h3⟩
end
/- Who reaches whom,by a closure that calls itself,with a map of what was seen. -/
section
open Go.Maps Go.RowKit Go.ChangeShapes Go.WideShapes Go.ChangeAt
theorem a9q:Keyed Tryz.prog 3:=int_keyed Tryz.underlying3
theorem a7M(w:World):(zeroValue 175).run Tryz.prog w=.ok (.agg #[]) w:=kr0
theorem a8m{k:Nat}(hk:k≤1000):keyOf Tryz.prog 3 (.int .i64 (k:Int))=some (.int .i64 (k:Int)):=by
 refine keyOf_int_mk Tryz.underlying3 ?_;exact WalkArith.wf_i64 om0
def ap9 (w:World) (b:Nat) (o:List Bool):Prop:=∃D:DataW Unit,w.ownsMap Tryz.prog 3 (unitElem (H:=Unit)) b (cnt o) D∧∀k,k<o.length→Maps.has D (.int .i64 (k:Int))=nth false o k
theorem ap9.map{w:World}{b:Nat}{o:List Bool}(h:ap9 w b o):∃es c,w.heap[b]?=some (.map es c):=by
 obtain⟨D,⟨es,c,hb,_⟩,_⟩:=h;exact⟨es,c,hb⟩
theorem ap9.kept{w w':World}{b:Nat}{o:List Bool}(h:ap9 w b o)(hg:w.grownBy w' none):ap9 w' b o:=by
 obtain⟨D,ho,hD⟩:=h;exact⟨D,ho.kept hg (by simp),hD⟩
theorem O7{w w':World}(r:Option Nat)(h:∃y,w'=plus w y):w.grownBy w' r:=by
 obtain⟨y,rfl⟩:=h;exact⟨rfl,rfl,rfl,by rw[qn];omega,fun k hk _=>M8 w y k hk⟩
theorem ai6{T w w':World}{b:Nat}(h:∃y,w=plus T y)(hg:w.grownBy w' (some b))(hb:T.heap.size≤b):∃y,w'=plus T y:=by
 obtain⟨y,rfl⟩:=h;apply C3;have hp:=A3 T y;refine⟨hg.os.trans hp.os,hg.tape.trans hp.tape,hg.output.trans hp.output,Nat.le_trans hp.size hg.size,fun n hn=>?_⟩;rw[hg.block n (by rw[qn];omega) (by intro e;cases e;omega)];exact hp.block n hn
section
variable {w w':World} {b:Nat} {es:Array MapEntry} {c:Nat}
theorem F0{g:Nat}{cs:Array Value}{t:TypeId}(hg:w.grownBy w' (some b))(hm:∃es c,w.heap[b]?=some (.map es c))(h:w.heap[g]?=some (.cells cs t)):w'.heap[g]?=some (.cells cs t):=by
 obtain⟨es,c,hm⟩:=hm;rw[hg.block g (qi h) ?_]
 ·exact h
 ·intro e;cases e;rw[hm]at h;cases h
theorem Qy{α:Type}{f:α→List Value}{ao:Option Addr}{n:Nat}{l:List α}(hg:w.grownBy w' (some b))(hm:∃es c,w.heap[b]?=some (.map es c))(h:Lay f w ao n l):Lay f w' ao n l:=by
 refine⟨h.len,h.at0.imp id ?_⟩;rintro⟨g,off,e,hl,hc⟩;refine⟨g,off,e,Nat.lt_of_lt_of_le hl hg.size,fun j u hu=>?_⟩;have h1:=hc j u hu;obtain⟨es,c,hm⟩:=hm;have hne:some g≠some b:=by
  intro e2;cases e2;simp[World.cell?,hm]at h1
 exact(World.cell?_of_block (w:=w) (hg.block g hl hne)).trans h1
theorem a5N{ao ko:Option Addr}{n kn:Nat}{hs:List RH}{g:Gr}(hg:w.grownBy w' (some b))(hm:∃es c,w.heap[b]?=some (.map es c))(h:QL w ao n ko kn hs g):QL w' ao n ko kn hs g:=
 ⟨Qy hg hm h.sl,Qy hg hm h.kh,h.len,fun k hk=>Qy hg hm (h.row k hk),h.n1,h.n2,h.n3,h.n4,h.n5⟩
end
structure Env (w:World) (p3 p4 p1 b:Nat) (ao:Option Addr) (n cap:Nat) (ko:Option Addr) (kn kcap:Nat) (hs:List RH) (gr:Gr):Prop where
 seen:w.heap[p3]?=some (.cells #[.map (some b)] 216)
 self:w.heap[p4]?=some (.cells #[.func (.func 169) #[] #[.pointer (some ⟨p3,0,none⟩),.pointer (some ⟨p4,0,none⟩),.pointer (some ⟨p1,0,none⟩)]] 177)
 box:w.heap[p1]?=some (.cells #[.slice ao n cap,.slice ko kn kcap] 27)
 gr:QL w ao n ko kn hs gr
section
variable {w w':World} {p3 p4 p1 b:Nat} {ao:Option Addr} {n cap:Nat} {ko:Option Addr} {kn kcap:Nat} {hs:List RH} {gr:Gr}
theorem Env.grown(h:Env w p3 p4 p1 b ao n cap ko kn kcap hs gr)(hg:w.grownBy w' (some b))(hm:∃es c,w.heap[b]?=some (.map es c)):Env w' p3 p4 p1 b ao n cap ko kn kcap hs gr:=
 ⟨F0 hg hm h.seen,F0 hg hm h.self,F0 hg hm h.box,a5N hg hm h.gr⟩
end
def Y7 (gr:Gr):Prop:=gr.ks.length=gr.sl.length∧∀i,i<gr.ks.length→∀x,x∈nth [] gr.ks i→qG gr.sl x.1 x.2=true
theorem Y7.of(gr:Gr)(h2:gr.ks.length=gr.sl.length)(h3:E8 gr=true):Y7 gr:=⟨h2,fun i hi x hx=>(Qk h3 hi).2.2 x hx⟩
structure a5M (gr:Gr) (s:Nat) (o o':List Bool):Prop where
 le:Le o o'
 cl:∀i,nth false o' i=true→nth false o i=false→∀c,c∈kof gr.ks i→c≠s∧nth false o' c=true
theorem a5M.refl(gr:Gr)(s:Nat)(o:List Bool):a5M gr s o o:=⟨Qo o,fun i h1 h2=>by rw[h1]at h2;cases h2⟩
theorem a5M.step{gr:Gr}{s h:Nat}{o o1 o2:List Bool}(a:a5M gr s o o1)(hl:h<o1.length)(b:a5M gr s (o1.set h true) o2)(hk:∀c,c∈kof gr.ks h→c≠s∧nth false o2 c=true):a5M gr s o o2:=by
 have l2:Le o1 o2:=O6 (ak4 o1 h) b.le;refine⟨O6 a.le l2,fun i h1 h2 c hc=>?_⟩;by_cases e:i=h
 ·subst e;exact hk c hc
 cases e1:nth false o1 i
 ·exact b.cl i h1 (by rw[qR hl,if_neg e];exact e1) c hc
 ·have:=a.cl i e1 h2 c hc;exact⟨this.1,l2.2 c this.2⟩
structure a7L (gr:Gr) (fl:List (Int × Int)) (s:Nat) (o:List Bool) (r:Bool) (o':List Bool):Prop where
 yes:r=true→∃x,x∈fl∧Reach (kof gr.ks) x.1.toNat s
 no:r=false→a5M gr s o o'∧∀x,x∈fl→x.1.toNat≠s∧nth false o' x.1.toNat=true
def aB2 (w:World) (b:Nat) (gr:Gr) (fl:List (Int × Int)) (s:Nat) (o:List Bool) (e:Ending) (w':World):Prop:=∃r o',e=.returned (.bool r)∧w.grownBy w' (some b)∧ap9 w' b o'∧o'.length=o.length∧a7L gr fl s o r o'
def r9S (i:Nat):List Nat:=match i with|0=>[33]|1=>[34]|2=>[35]|3=>[36]|4=>[37]|5=>[38]|6=>[39]|7=>[40]|_=>[]
def r9Φ (fv:Value) (p1 q kg kf kn kcap h:Nat) (rv hv:Value) (i:Nat) (t:Nat→Value) (w':World):Prop:=match i with
 |0=>t 33=fv
 |1=>t 34=.pointer (some ⟨p1,1,none⟩)
 |2=>t 35=.slice (some ⟨kg,kf,none⟩) kn kcap
 |3=>t 36=.pointer (some ⟨q,0,none⟩)
 |4=>t 37=.int .i64 (h:Int)
 |5=>t 38=.pointer (some ⟨kg,kf+h,none⟩)
 |6=>t 39=rv
 |7=>t 40=hv
 |_=>True
theorem a5U(fv:Value)(p1 q kg kf kn kcap h:Nat)(rv hv:Value):∀i t t' w' x,r9Φ fv p1 q kg kf kn kcap h rv hv i t w'→(∀s∈r9S i,t' s=t s)→r9Φ fv p1 q kg kf kn kcap h rv hv i t' (plus w' x):=by
 intro i t t' w' x h hs'
 match i with
 |0=>exact(hs' 33 dc0).trans h
 |1=>exact(hs' 34 dc0).trans h
 |2=>exact(hs' 35 dc0).trans h
 |3=>exact(hs' 36 dc0).trans h
 |4=>exact(hs' 37 dc0).trans h
 |5=>exact(hs' 38 dc0).trans h
 |6=>exact(hs' 39 dc0).trans h
 |7=>exact(hs' 40 dc0).trans h
 |i+8=>trivial
theorem a86(p3 p4 p1 b:Nat)(ao:Option Addr)(n cap:Nat)(ko:Option Addr)(kn kcap:Nat)(hs0:List RH)(gr:Gr)(hK:Y7 gr)(s:Nat)(g:Int)(hs:qG gr.sl s g=true):∀(m:Nat) (o:List Bool) (fo:Option Addr) (fn fcap:Nat) (fl:List (Int × Int)) (w:World),o.length=kn→kn - cnt o=m→Env w p3 p4 p1 b ao n cap ko kn kcap hs0 gr→ap9 w b o→Lay f2 w fo fn fl→fn≤1000→(∀x,x∈fl→qG gr.sl x.1 x.2=true)→
  Calls Tryz.prog 169 #[.slice fo fn fcap,.agg #[.int .i64 (s:Int),.int .i64 g],.pointer (some ⟨p3,0,none⟩),.pointer (some ⟨p4,0,none⟩),.pointer (some ⟨p1,0,none⟩)] w fun e w'=>aB2 w b gr fl s o e w':=by
 intro m
 induction m using Nat.strongRecOn with
 |_ m ih=>
 intro o fo fn fcap fl w hol hm hE hS hL hfn hfl;have hlen:=hE.gr.kl;have hkh:=hE.gr.kh.len;have bkn:=hE.gr.n2;go_enter Tryz.func169,Tryz.ntmps169;go_wp2;go_loopw [14] (fun i_ wr=>∃(k:Nat) (o':List Bool),k≤fn∧i_=.int .i64 k∧w.grownBy wr (some b)∧Env wr p3 p4 p1 b ao n cap ko kn kcap hs0 gr∧ap9 wr b o'∧Lay f2 wr fo fn fl∧wr.heap[w.heap.size]?=some (.cells #[.int .i64 (s:Int),.int .i64 g] 32)∧a5M gr s o o'∧(∀j,j<k→(nth (0,0) fl j).1.toNat≠s∧nth false o' (nth (0,0) fl j).1.toNat=true)) (fun i_ _=>fn - (intOf i_).toNat)
 case atStart=>exact⟨0,o,Nat.zero_le _,rfl,World.grownBy_alloc _ _ _,hE.grown (World.grownBy_alloc _ _ _) hS.map,hS.kept (World.grownBy_alloc _ _ _),Qy (World.grownBy_alloc _ _ _) hS.map hL,by rw[qe,if_pos rfl],a5M.refl _ _ _,fun j hj=>om0⟩
 case round=>
  clear hE hS hL;obtain⟨k,o',hk,rfl,hg,hE,hS,hL,hq,hseen,hdone⟩:=hrel;have hol':o'.length=kn:=hseen.le.1.symm.trans hol;by_cases hkl:k<fn;rotate_left
  ·have ik:¬(k:Int)<(fn:Int):=om0;obtain rfl:k=fn:=om0;go_wp2;go_ret;refine⟨false,o',rfl,hg,hS,om0,fun h=>(by cases h),fun _=>⟨hseen,fun x hx=>?_⟩⟩;obtain⟨j,hj,rfl⟩:=List.getElem_of_mem hx;have:=hdone j (by rw[←hL.len];exact hj);rwa[Qv hj]at this
  have ik:(k:Int)<(fn:Int):=om0;have hxl:=hfl _ (F3 (d:=(0,0)) (k:=k) (by rw[hL.len];exact hkl));have hxm:=F3 (d:=((0,0):Int × Int)) (l:=fl) (k:=k) (by rw[hL.len];exact hkl);obtain⟨fg,ff,rfl,hfg,hfc⟩:=hL.some om0;obtain⟨c0,c1⟩:=Y4 hL.len hfc hkl;generalize hxe:nth ((0,0):Int × Int) fl k=x at*;obtain⟨xs,xg⟩:=x;have hlt:=A8 hxl;simp only at hlt hxl c0 c1;obtain⟨h,rfl⟩:∃h:Nat,xs=(h:Int):=⟨xs.toNat,om0⟩;rw[Int.toNat_natCast]at hlt;have hhk:h<kn:=by rw[←hlen,hK.1];exact hlt.1
  have q0:=i6 (i:=0) hq rfl;have q1:=i6 (i:=1) hq rfl;have lq:=qi hq;have s0:=i6 (i:=0) hE.seen rfl;have ls:=qi hE.seen;by_cases he:(h:Int)=(s:Int)
  ·have hgg:xg=g:=by
    have h1:=C6.1 hxl;have h2:=C6.1 hs;rw[he]at h1;exact h1.2.2.symm.trans h2.2.2
   subst hgg;obtain rfl:h=s:=om0;go_wp2;go_ret;exact⟨true,o',rfl,hg.trans (World.grownBy_alloc _ _ _),hS.kept (World.grownBy_alloc _ _ _),om0,fun _=>⟨_,hxm,by rw[Int.toNat_natCast];exact K9 _⟩,fun h=>(by cases h)⟩
  have de:((h:Int)==(s:Int))=false:=by rw[beq_eq_false_iff_ne];exact he
  obtain⟨D,hown,hD⟩:=id hS;have hhas:=hD h om0;have hkey:=a8m (k:=h) om0;cases hmk:nth false o' h;rotate_left
  ·rw[hmk]at hhas;go_wp2_with (at_lookup;refine wpList_lookup_own_unit _ rfl _ _ 216 rfl 3 175 a9q Tryz.underlying216 (a7M _) b _ _ rfl (hown.alloc _) _ _ rfl hkey ?_;rw[hhas]);go_roundw
   case rel=>
    refine⟨k+1,o',om0,by go_num,(hg.trans (World.grownBy_alloc _ _ _)).trans (World.grownBy_alloc _ _ _),(hE.grown (World.grownBy_alloc _ _ _) hS.map).grown (World.grownBy_alloc _ _ _) (hS.kept (World.grownBy_alloc _ _ _)).map,(hS.kept (World.grownBy_alloc _ _ _)).kept (World.grownBy_alloc _ _ _),(hL.ex sk0),i7 sk0 hq,hseen,B0 hdone ?_⟩;rw[hxe];simp only[Int.toNat_natCast];exact⟨om0,hmk⟩
   case measure=>simp[intOf];omega
  rw[hmk]at hhas;have hcn:cnt o'<cnt (o'.set h true):=au8 h (ak4 o' h) hmk (by rw[qR om0,if_pos rfl]);have hcl:=ax2 (o'.set h true);have hcm:=a4D hseen.le;rw[List.length_set]at hcl;go_upto_region 9 with(first|(at_lookup;refine wpList_lookup_own_unit _ rfl _ _ 216 rfl 3 175 a9q Tryz.underlying216 (a7M _) b _ _ rfl (hown.alloc _) _ _ rfl hkey ?_;rw[hhas])|(at_mapUpdate;refine wpList_mapUpdate_own _ rfl _ _ _ 216 rfl 3 175 a9q Tryz.underlying216 (unitElem (H:=Unit)) b (cnt o') _ rfl ((hown.alloc _).alloc _) (by unfold maxLen;omega) _ _ _ rfl rfl hkey _ [] unitElem_mk ?_;intro w3 hown3 hgr3));have hg1:wr.grownBy ((wr.alloc (.cells #[.int .i64 (h:Int),.int .i64 xg] 32)).alloc (.cells #[] 175)) (some b):=(World.grownBy_alloc _ _ _).trans (World.grownBy_alloc _ _ _);have hm1:∃es c,((wr.alloc (.cells #[.int .i64 (h:Int),.int .i64 xg] 32)).alloc (.cells #[] 175)).heap[b]?=some (.map es c):=((hS.kept (World.grownBy_alloc _ _ _)).kept (World.grownBy_alloc _ _ _)).map;have hb3:=F0 hgr3 hm1 (g:=wr.heap.size) (cs:=#[.int .i64 (h:Int),.int .i64 xg]) (t:=32) (by rw[qe,if_neg (by simp),qe,if_pos rfl]);have hg3:=hg1.trans hgr3;have hE3:=hE.grown hg3 hS.map;have hL3:=Qy hg3 hS.map hL;have hq3:=F0 hg3 hS.map hq;have hS3:ap9 w3 b (o'.set h true):=by
   refine⟨_,hown3.mono om0,fun j hj=>?_⟩;rw[List.length_set]at hj;rw[qR om0];by_cases ej:j=h
   ·subst ej;rw[if_pos rfl];exact Maps.has_put_same (k:=.int .i64 (j:Int)) hown.isMap True.intro _
   ·rw[if_neg ej,Maps.has_put_other (by intro e9;injection e9 with _ e9;omega)];exact hD j om0
  have hgw:=hg.trans hg3;clear hgr3 hg1 hm1 hown3 hown hD hE hS hL hq q0 q1 lq s0 ls c0 c1 hfc hfg hg hg3;have q0:=i6 (i:=0) hq3 rfl;have q1:=i6 (i:=1) hq3 rfl;have lq:=qi hq3;have h0:=i6 (i:=0) hb3 rfl;have lh:=qi hb3;have s4:=i6 (i:=0) hE3.self rfl;have l4:=qi hE3.self;have b1:=i6 (i:=1) hE3.box rfl;have lb:=qi hE3.box;obtain⟨kg,kf,rfl,hkg,hkc⟩:=hE3.gr.kh.some om0;have cr:=O9 hE3.gr.kh.len hkc hhk;have ih1:(h:Int)<(kn:Int):=om0;have hrow:=hE3.gr.row h om0;have hrn:=hE3.gr.n3 h om0;have hrh:∀x,x∈nth [] gr.ks h→qG gr.sl x.1 x.2=true:=hK.2 h om0;simp only[Act.put,List.setIfInBounds_toArray,List.set_cons_succ,List.set_cons_zero];refine zJ 8 r9S (r9Φ (.func (.func 169) #[] #[.pointer (some ⟨p3,0,none⟩),.pointer (some ⟨p4,0,none⟩),.pointer (some ⟨p1,0,none⟩)]) p1 wr.heap.size kg kf kn kcap h (.slice (nth dRH hs0 h).ao (nth dRH hs0 h).n (nth dRH hs0 h).cap) (.agg #[.int .i64 (s:Int),.int .i64 g])) kr0 kr0 dc0 (a5U (.func (.func 169) #[] #[.pointer (some ⟨p3,0,none⟩),.pointer (some ⟨p4,0,none⟩),.pointer (some ⟨p1,0,none⟩)]) p1 wr.heap.size kg kf kn kcap h (.slice (nth dRH hs0 h).ao (nth dRH hs0 h).n (nth dRH hs0 h).cap) (.agg #[.int .i64 (s:Int),.int .i64 g])) ?steps ?fin
  case steps=>
   refine⟨?_,?_,?_,?_,?_,?_,?_,?_,trivial⟩<;>intro a w' hg hfree hdeep<;>obtain⟨x,rfl⟩:=hg
   ·have f3_:=hfree 3 kr0;simp only[r9Φ,got]at f3_;simp[go_sem]at f3_;unfold Oper.wp;simp[go_sem,execOp,Act.eval,↓IntWalk.iteOmega,f3_,s4];exact⟨_,rfl,j5 _,by simp[r9Φ,upd]⟩
   ·have f4_:=hfree 4 kr0;simp only[r9Φ,got]at f4_;simp[go_sem]at f4_;unfold Oper.wp;simp[go_sem,execOp,Act.eval,↓IntWalk.iteOmega,f4_];exact⟨_,rfl,j5 _,by simp[r9Φ,upd]⟩
   ·have d1:=hdeep 1 kr0;simp only[r9Φ,got]at d1;unfold Oper.wp;simp[go_sem,execOp,Act.eval,↓IntWalk.iteOmega,d1,b1];exact⟨_,rfl,j5 _,by simp[r9Φ,upd]⟩
   ·have f9_:=hfree 9 kr0;simp only[r9Φ,got]at f9_;simp[go_sem]at f9_;unfold Oper.wp;simp[go_sem,execOp,Act.eval,↓IntWalk.iteOmega,f9_];exact⟨_,rfl,j5 _,by simp[r9Φ,upd]⟩
   ·have d3:=hdeep 3 kr0;simp only[r9Φ,got]at d3;unfold Oper.wp;simp[go_sem,execOp,Act.eval,↓IntWalk.iteOmega,d3,h0];exact⟨_,rfl,j5 _,by simp[r9Φ,upd]⟩
   ·have d2:=hdeep 2 kr0;have d4:=hdeep 4 kr0;simp only[r9Φ,got]at d2 d4;unfold Oper.wp;simp[go_sem,execOp,Act.eval,↓IntWalk.iteOmega,d2,d4,ih1];exact⟨_,rfl,j5 _,by simp[r9Φ,upd]⟩
   ·have d5:=hdeep 5 kr0;simp only[r9Φ,got]at d5;unfold Oper.wp;simp[go_sem,execOp,Act.eval,↓IntWalk.iteOmega,d5,cr];exact⟨_,rfl,j5 _,by simp[r9Φ,upd]⟩
   ·have f6_:=hfree 6 kr0;simp only[r9Φ,got]at f6_;simp[go_sem]at f6_;unfold Oper.wp;simp[go_sem,execOp,Act.eval,↓IntWalk.iteOmega,f6_,q0,q1];exact⟨_,rfl,j5 _,by simp[r9Φ,upd]⟩
  case fin=>
   rintro t w' ⟨x2,rfl⟩ hΦ;have r0:=hΦ 0 dc0;have r1:=hΦ 1 dc0;have r2:=hΦ 2 dc0;have r3:=hΦ 3 dc0;have r4:=hΦ 4 dc0;have r5:=hΦ 5 dc0;have r6:=hΦ 6 dc0;have r7:=hΦ 7 dc0;simp only[r9Φ]at r0 r1 r2 r3 r4 r5 r6 r7;simp only[zh,List.take_succ_cons,List.take_zero,List.drop_succ_cons,List.drop_zero,r0,r1,r2,r3,r4,r5,r6,r7];simp only[Act.put];simp only[List.setIfInBounds_toArray,List.set_cons_succ,List.set_cons_zero];clear hΦ r0 r1 r2 r3 r4 r5 r6 r7;go_wp2_with (go_at_call 169;refine(ih (kn - cnt (o'.set h true)) om0 (o'.set h true) _ _ _ (nth [] gr.ks h) _ (by rw[List.length_set];exact hol') rfl (hE3.grown (O7 _ ⟨_,rfl⟩) hS3.map) (hS3.kept (O7 _ ⟨_,rfl⟩)) (hrow.ex ⟨_,rfl⟩) hrn hrh).mono ?_;rintro e w4 ⟨r,o2,rfl,hg4,hS4,hl4,hT⟩)
   ·obtain rfl:r=true:=by assumption
    go_ret;obtain⟨y,hy,hr⟩:=hT.yes rfl;exact⟨true,o2,rfl,(hgw.trans (O7 _ ⟨_,rfl⟩)).trans hg4,hS4,by rw[hl4,List.length_set];omega,fun _=>⟨_,hxm,Zt (by rw[Int.toNat_natCast];exact J4.2 ⟨y,hy,rfl⟩) hr⟩,fun h=>(by cases h)⟩
   ·obtain rfl:r=false:=by first|assumption|(cases r<;>simp_all)
    obtain⟨hs2,hk2⟩:=hT.no rfl;have hcl2:=hs2.le;go_roundw
    case rel=>
     refine⟨k+1,o2,om0,by go_num,(hgw.trans (O7 _ ⟨_,rfl⟩)).trans hg4,(hE3.grown (O7 _ ⟨_,rfl⟩) hS3.map).grown hg4 (hS3.kept (O7 _ ⟨_,rfl⟩)).map,hS4,Qy hg4 (hS3.kept (O7 _ ⟨_,rfl⟩)).map (hL3.ex ⟨_,rfl⟩),F0 hg4 (hS3.kept (O7 _ ⟨_,rfl⟩)).map (i7 ⟨_,rfl⟩ hq3),hseen.step om0 hs2 (fun c hc=>?_),fun j hj=>?_⟩
     ·obtain⟨y,hy,rfl⟩:=J4.1 hc;exact hk2 y hy
     ·by_cases ej:j=k
      ·subst ej;rw[hxe];simp only[Int.toNat_natCast];exact⟨om0,hcl2.2 h (by rw[qR om0,if_pos rfl])⟩
      ·have:=hdone j om0;exact⟨this.1,hcl2.2 _ ((ak4 o' h).2 _ this.2)⟩
    case measure=>simp[intOf];omega
end
/- What nodes.reacher and loops give. -/
section
open Go.Maps Go.RowKit Go.ChangeShapes Go.WideShapes Go.ChangeAt
theorem Y7.lt{gr:Gr}(h:Y7 gr):∀i,i<gr.ks.length→∀c,c∈kof gr.ks i→c<gr.ks.length:=by
 intro i hi c hc;obtain⟨x,hx,rfl⟩:=J4.1 hc;rw[h.1];exact(A8 (h.2 i hi x hx)).1
theorem Y7.reach{gr:Gr}(h:Y7 gr){a b:Int × Int}(ha:qG gr.sl a.1 a.2=true):ab7 gr a b=true↔Reach (kof gr.ks) a.1.toNat b.1.toNat:=
 Ql h.lt (by rw[h.1];exact(A8 ha).1) _
def a0A (gr:Gr) (fl:List (Int × Int)) (h:Int × Int):Bool:=fl.any fun x=>ab7 gr x h
theorem ai9{gr:Gr}(hK:Y7 gr){fl:List (Int × Int)}{h:Int × Int}(hf:∀x,x∈fl→qG gr.sl x.1 x.2=true):a0A gr fl h=true↔∃x,x∈fl∧Reach (kof gr.ks) x.1.toNat h.1.toNat:=by
 rw[a0A,List.any_eq_true];exact⟨fun⟨x,hx,hr⟩=>⟨x,hx,(hK.reach (hf x hx)).1 hr⟩,fun⟨x,hx,hr⟩=>⟨x,hx,(hK.reach (hf x hx)).2 hr⟩⟩
theorem a7L.is{gr:Gr}{fl:List (Int × Int)}{s:Nat}{g:Int}{r:Bool}{m:Nat}{o':List Bool}(hK:Y7 gr)(hf:∀x,x∈fl→qG gr.sl x.1 x.2=true)(h:a7L gr fl s (List.replicate m false) r o'):r=a0A gr fl ((s:Int),g):=by
 cases r with
 |true=>
  obtain⟨x,hx,hr⟩:=h.yes rfl;exact((ai9 hK hf).2 ⟨x,hx,by simpa using hr⟩).symm
 |false=>
  cases hA:a0A gr fl ((s:Int),g)with
  |false=>rfl
  |true=>
   exfalso;obtain⟨x,hx,hr⟩:=(ai9 hK hf).1 hA;simp only[Int.toNat_natCast]at hr;obtain⟨hs,hn⟩:=h.no rfl;have:=Qw (K:=kof gr.ks) (P:=fun i=>i≠s∧nth false o' i=true) (fun i c hi hc=>hs.cl i hi.2 (E9 m i) c hc) (hn x hx) hr;exact this.1 rfl
theorem av6{w:World}{b:Nat}(hm:∃es c,w.heap[b]?=some (.map es c))(m:Nat):∃w',(∀ty,(Builtin.clear_ #[216] ty #[.map (some b)]).run Tryz.prog w=.ok (.tuple #[]) w')∧w.grownBy w' (some b)∧ap9 w' b (List.replicate m false):=by
 obtain⟨es,c,hb⟩:=hm;refine⟨ChangeMaps.setBlock w b (.map #[] c),fun ty=>?_,⟨rfl,rfl,rfl,by simp[ChangeMaps.setBlock],fun i _ hi=>ChangeMaps.heap_setBlock_other hb _ (fun e=>hi (by rw[e]))⟩,.map [],⟨#[],c,ChangeMaps.heap_setBlock_same hb _,⟨by simp,MapKept.stamped_empty c,by simp⟩,Nat.zero_le _,rfl⟩,fun k hk=>?_⟩
 ·simp[Builtin.clear_,run_underlying Tryz.underlying216,MapKept.run_getObj_map hb,MapKept.run_setObj_map _ hb,Result.andThen,ChangeMaps.setBlock]
 ·rw[E9];rfl
theorem a4t(p3 p4 p1 b:Nat)(ao:Option Addr)(n cap:Nat)(ko:Option Addr)(kn kcap:Nat)(hs:List RH)(gr:Gr)(hK:Y7 gr)(s:Nat)(g:Int)(hh:qG gr.sl s g=true)(fo:Option Addr)(fn fcap:Nat)(fl:List (Int × Int))(w:World)(hE:Env w p3 p4 p1 b ao n cap ko kn kcap hs gr)(hm:∃es c,w.heap[b]?=some (.map es c))(hL:Lay f2 w fo fn fl)(hfn:fn≤1000)(hfl:∀x,x∈fl→qG gr.sl x.1 x.2=true):
  Calls Tryz.prog 170 #[.slice fo fn fcap,.agg #[.int .i64 (s:Int),.int .i64 g],.pointer (some ⟨p3,0,none⟩),.pointer (some ⟨p4,0,none⟩)] w fun e w'=>e=.returned (.bool (a0A gr fl ((s:Int),g)))∧w.grownBy w' (some b)∧∃es c,w'.heap[b]?=some (.map es c):=by
 have hg0:w.grownBy (w.alloc (.cells #[.int .i64 (s:Int),.int .i64 g] 32)) (some b):=World.grownBy_alloc _ _ _;have hE1:=hE.grown hg0 hm;have hm1:∃es c,(w.alloc (.cells #[.int .i64 (s:Int),.int .i64 g] 32)).heap[b]?=some (.map es c):=by
  obtain⟨es,c,h⟩:=hm;exact⟨es,c,by rw[qe,if_neg (Nat.ne_of_lt (qi h))];exact h⟩
 obtain⟨w2,hcl,hg2,hS2⟩:=av6 hm1 kn;have hE2:=hE1.grown hg2 hm1;have hL2:=Qy (hg0.trans hg2) hm hL;have hq2:=F0 hg2 hm1 (g:=w.heap.size) (cs:=#[.int .i64 (s:Int),.int .i64 g]) (t:=32) (by rw[qe,if_pos rfl]);have s0:=i6 (i:=0) hE.seen rfl;have ls:=qi hE.seen;have s4:=i6 (i:=0) hE2.self rfl;have q0:=i6 (i:=0) hq2 rfl;have q1:=i6 (i:=1) hq2 rfl;have hcn:cnt (List.replicate kn false)=0:=by simp[cnt,List.countP_replicate]
 go_enter Tryz.func170,Tryz.ntmps170;go_wp2_with (go_at_call 169;refine(a86 p3 p4 p1 b ao n cap ko kn kcap hs gr hK s g hh kn (List.replicate kn false) _ _ _ fl _ (by simp) (by rw[hcn];rfl) hE2 hS2 hL2 hfn hfl).mono ?_;rintro e w4 ⟨r,o2,rfl,hg4,hS4,hl4,hT⟩);go_ret;exact⟨by rw[←hT.is (g:=g) hK hfl];rfl,(hg0.trans hg2).trans hg4,hS4.map⟩
def aB3 (w:World) (ao:Option Addr) (n cap:Nat) (ko:Option Addr) (kn kcap:Nat) (hs:List RH) (gr:Gr) (e:Ending) (w':World):Prop:=∃p3 p4 p1 b,e=.returned (.func (.func 170) #[] #[.pointer (some ⟨p3,0,none⟩),.pointer (some ⟨p4,0,none⟩)])∧(∃y,w'=plus w y)∧Env w' p3 p4 p1 b ao n cap ko kn kcap hs gr∧w.heap.size≤b∧∃es c,w'.heap[b]?=some (.map es c)
theorem W9(ao:Option Addr)(n cap:Nat)(ko:Option Addr)(kn kcap:Nat)(hs:List RH)(gr:Gr)(w:World)(hG:QL w ao n ko kn hs gr):Calls Tryz.prog 130 #[.agg #[.slice ao n cap,.slice ko kn kcap]] w fun e w'=>aB3 w ao n cap ko kn kcap hs gr e w':=by
 have hmm:=@run_makeMap Tryz.prog;have hmf:∀(fn:Fn) (first cap:Array Value) (w:World),(Instr.makeFunc fn first cap).run Tryz.prog w=.ok (.func fn first cap) w:=fun _ _ _ _=>rfl
 go_enter Tryz.func130,Tryz.ntmps130;go_wp2;go_ret;refine⟨w.heap.size+1+1,w.heap.size+1+1+1,w.heap.size,w.heap.size+1,rfl,sk0,⟨(by simp only[qe];simp[go_sem,↓IntWalk.iteOmega]),(by simp only[qe];simp[go_sem,↓IntWalk.iteOmega]),(by simp only[qe];simp[go_sem,↓IntWalk.iteOmega]),hG.ex sk0⟩,om0,#[],0,(by simp only[qe];simp[go_sem,↓IntWalk.iteOmega])⟩
def lrS (i:Nat):List Nat:=match i with|0=>[5]|1=>[6]|2=>[7]|3=>[8]|4=>[9]|5=>[10]|6=>[11]|7=>[12]|_=>[]
def lrΦ (fv:Value) (p2 q kg kf kn kcap h:Nat) (rv hv:Value) (i:Nat) (t:Nat→Value) (w':World):Prop:=match i with
 |0=>t 5=fv
 |1=>t 6=.pointer (some ⟨p2,1,none⟩)
 |2=>t 7=.slice (some ⟨kg,kf,none⟩) kn kcap
 |3=>t 8=.pointer (some ⟨q,0,none⟩)
 |4=>t 9=.int .i64 (h:Int)
 |5=>t 10=.pointer (some ⟨kg,kf+h,none⟩)
 |6=>t 11=rv
 |7=>t 12=hv
 |_=>True
theorem a5R(fv:Value)(p2 q kg kf kn kcap h:Nat)(rv hv:Value):∀i t t' w' x,lrΦ fv p2 q kg kf kn kcap h rv hv i t w'→(∀s∈lrS i,t' s=t s)→lrΦ fv p2 q kg kf kn kcap h rv hv i t' (plus w' x):=by
 intro i t t' w' x h hs'
 match i with
 |0=>exact(hs' 5 dc0).trans h
 |1=>exact(hs' 6 dc0).trans h
 |2=>exact(hs' 7 dc0).trans h
 |3=>exact(hs' 8 dc0).trans h
 |4=>exact(hs' 9 dc0).trans h
 |5=>exact(hs' 10 dc0).trans h
 |6=>exact(hs' 11 dc0).trans h
 |7=>exact(hs' 12 dc0).trans h
 |i+8=>trivial
theorem ao0{w w':World}{b:Nat}(hm:∃es c,w.heap[b]?=some (.map es c))(h:∃y,w'=plus w y):∃es c,w'.heap[b]?=some (.map es c):=by
 obtain⟨es,c,hb⟩:=hm;exact⟨es,c,i7 h hb⟩
theorem a9y(p2 p5 p3 p4 p1 b:Nat)(ao:Option Addr)(n cap:Nat)(ko:Option Addr)(kn kcap:Nat)(hs:List RH)(gr:Gr)(hK:Y7 gr)(s:Nat)(g:Int)(hh:qG gr.sl s g=true)(w:World)(hE:Env w p3 p4 p1 b ao n cap ko kn kcap hs gr)(hm:∃es c,w.heap[b]?=some (.map es c))(h5:w.heap[p5]?=some (.cells #[.func (.func 170) #[] #[.pointer (some ⟨p3,0,none⟩),.pointer (some ⟨p4,0,none⟩)]] 177))(h2:w.heap[p2]?=some (.cells #[.slice ao n cap,.slice ko kn kcap] 27)):
  Calls Tryz.prog 132 #[.agg #[.int .i64 (s:Int),.int .i64 g],.pointer (some ⟨p5,0,none⟩),.pointer (some ⟨p2,0,none⟩)] w fun e w'=>e=.returned (.bool (a0A gr (K0 gr ((s:Int),g)) ((s:Int),g)))∧w.grownBy w' (some b)∧∃es c,w'.heap[b]?=some (.map es c):=by
 have hlen:=hE.gr.kl;have hkh:=hE.gr.kh.len;have bkn:=hE.gr.n2;have hlt:=A8 hh;rw[Int.toNat_natCast]at hlt;have hsk:s<kn:=by rw[←hlen,hK.1];exact hlt.1
 have is1:(s:Int)<(kn:Int):=om0;have hra:K0 gr ((s:Int),g)=nth [] gr.ks s:=by rw[K0];simp
 have hg0:w.grownBy (w.alloc (.cells #[.int .i64 (s:Int),.int .i64 g] 32)) (some b):=World.grownBy_alloc _ _ _;have s5:=i6 (i:=0) h5 rfl;have l5:=qi h5;have g1:=i6 (i:=1) h2 rfl;have l2:=qi h2;obtain⟨kg,kf,rfl,hkg,hkc⟩:=hE.gr.kh.some om0;have cr:=O9 hE.gr.kh.len hkc hsk;have hrow:=hE.gr.row s om0;have hrn:=hE.gr.n3 s om0;rw[hra];go_enter Tryz.func132,Tryz.ntmps132;go_wp2;refine zJ 8 lrS (lrΦ (.func (.func 170) #[] #[.pointer (some ⟨p3,0,none⟩),.pointer (some ⟨p4,0,none⟩)]) p2 w.heap.size kg kf kn kcap s (.slice (nth dRH hs s).ao (nth dRH hs s).n (nth dRH hs s).cap) (.agg #[.int .i64 (s:Int),.int .i64 g])) kr0 kr0 dc0 (a5R (.func (.func 170) #[] #[.pointer (some ⟨p3,0,none⟩),.pointer (some ⟨p4,0,none⟩)]) p2 w.heap.size kg kf kn kcap s (.slice (nth dRH hs s).ao (nth dRH hs s).n (nth dRH hs s).cap) (.agg #[.int .i64 (s:Int),.int .i64 g])) ?steps ?fin
 case steps=>
  refine⟨?_,?_,?_,?_,?_,?_,?_,?_,trivial⟩<;>intro a w' hg hfree hdeep<;>obtain⟨x,rfl⟩:=hg
  ·have f1_:=hfree 1 kr0;simp only[lrΦ,got]at f1_;simp[go_sem]at f1_;unfold Oper.wp;simp[go_sem,execOp,Act.eval,↓IntWalk.iteOmega,f1_,s5];exact⟨_,rfl,j5 _,by simp[lrΦ,upd]⟩
  ·have f2_:=hfree 2 kr0;simp only[lrΦ,got]at f2_;simp[go_sem]at f2_;unfold Oper.wp;simp[go_sem,execOp,Act.eval,↓IntWalk.iteOmega,f2_];exact⟨_,rfl,j5 _,by simp[lrΦ,upd]⟩
  ·have d1:=hdeep 1 kr0;simp only[lrΦ,got]at d1;unfold Oper.wp;simp[go_sem,execOp,Act.eval,↓IntWalk.iteOmega,d1,g1];exact⟨_,rfl,j5 _,by simp[lrΦ,upd]⟩
  ·have f3_:=hfree 3 kr0;simp only[lrΦ,got]at f3_;simp[go_sem]at f3_;unfold Oper.wp;simp[go_sem,execOp,Act.eval,↓IntWalk.iteOmega,f3_];exact⟨_,rfl,j5 _,by simp[lrΦ,upd]⟩
  ·have d3:=hdeep 3 kr0;simp only[lrΦ,got]at d3;unfold Oper.wp;simp[go_sem,execOp,Act.eval,↓IntWalk.iteOmega,d3];exact⟨_,rfl,j5 _,by simp[lrΦ,upd]⟩
  ·have d2:=hdeep 2 kr0;have d4:=hdeep 4 kr0;simp only[lrΦ,got]at d2 d4;unfold Oper.wp;simp[go_sem,execOp,Act.eval,↓IntWalk.iteOmega,d2,d4,is1];exact⟨_,rfl,j5 _,by simp[lrΦ,upd]⟩
  ·have d5:=hdeep 5 kr0;simp only[lrΦ,got]at d5;unfold Oper.wp;simp[go_sem,execOp,Act.eval,↓IntWalk.iteOmega,d5,cr];exact⟨_,rfl,j5 _,by simp[lrΦ,upd]⟩
  ·have f3_:=hfree 3 kr0;simp only[lrΦ,got]at f3_;simp[go_sem]at f3_;unfold Oper.wp;simp[go_sem,execOp,Act.eval,↓IntWalk.iteOmega,f3_];exact⟨_,rfl,j5 _,by simp[lrΦ,upd]⟩
 case fin=>
  rintro t w' ⟨x2,rfl⟩ hΦ;have r0:=hΦ 0 dc0;have r1:=hΦ 1 dc0;have r2:=hΦ 2 dc0;have r3:=hΦ 3 dc0;have r4:=hΦ 4 dc0;have r5:=hΦ 5 dc0;have r6:=hΦ 6 dc0;have r7:=hΦ 7 dc0;simp only[lrΦ]at r0 r1 r2 r3 r4 r5 r6 r7;simp only[zh,List.take_succ_cons,List.take_zero,List.drop_succ_cons,List.drop_zero,r0,r1,r2,r3,r4,r5,r6,r7];simp only[Act.put];simp only[List.setIfInBounds_toArray,List.set_cons_succ,List.set_cons_zero];clear hΦ r0 r1 r2 r3 r4 r5 r6 r7;go_wp2_with (go_at_call 170;refine(a4t p3 p4 p1 b ao n cap _ kn kcap hs gr hK s g hh _ _ _ (nth [] gr.ks s) _ (hE.grown (hg0.trans (O7 _ ⟨x2,rfl⟩)) hm) (ao0 hm (zt (qE (j5 _)))) (hrow.ex (zt (qE (j5 _)))) hrn (hK.2 s om0)).mono ?_;rintro e w4 ⟨rfl,hg4,hm4⟩);go_ret;exact⟨rfl,(hg0.trans (O7 _ ⟨x2,rfl⟩)).trans hg4,hm4⟩
theorem aA4(p2 p5 p3 p4 p1 b:Nat)(ao:Option Addr)(n cap:Nat)(ko:Option Addr)(kn kcap:Nat)(hs:List RH)(gr:Gr)(hK:Y7 gr)(fo:Option Addr)(fn fcap:Nat)(fl:List (Int × Int))(w:World)(hE:Env w p3 p4 p1 b ao n cap ko kn kcap hs gr)(hm:∃es c,w.heap[b]?=some (.map es c))(h5:w.heap[p5]?=some (.cells #[.func (.func 170) #[] #[.pointer (some ⟨p3,0,none⟩),.pointer (some ⟨p4,0,none⟩)]] 177))(h2:w.heap[p2]?=some (.cells #[.slice ao n cap,.slice ko kn kcap] 27))(hL:Lay f2 w fo fn fl)(hfn:fn≤1000)(hfl:∀x,x∈fl→qG gr.sl x.1 x.2=true):
  Calls Tryz.prog 171 #[.slice fo fn fcap,.func (.func 132) #[] #[.pointer (some ⟨p5,0,none⟩),.pointer (some ⟨p2,0,none⟩)]] w fun e w'=>∃v:Int,e=.returned (.int .i64 v)∧(fl.any fun h=>a0A gr (K0 gr h) h)=decide (0≤v)∧w.grownBy w' (some b):=by
 go_enter Tryz.func171,Tryz.ntmps171;go_wp2;go_loopw [8] (fun i_ wr=>∃k:Nat,k≤fn∧i_=.int .i64 k∧w.grownBy wr (some b)∧Env wr p3 p4 p1 b ao n cap ko kn kcap hs gr∧(∃es c,wr.heap[b]?=some (.map es c))∧wr.heap[p5]?=some (.cells #[.func (.func 170) #[] #[.pointer (some ⟨p3,0,none⟩),.pointer (some ⟨p4,0,none⟩)]] 177)∧wr.heap[p2]?=some (.cells #[.slice ao n cap,.slice ko kn kcap] 27)∧Lay f2 wr fo fn fl∧(∀j,j<k→a0A gr (K0 gr (nth (0,0) fl j)) (nth (0,0) fl j)=false)) (fun i_ _=>fn - (intOf i_).toNat)
 case atStart=>exact⟨0,Nat.zero_le _,rfl,ad8 _ _,hE,hm,h5,h2,hL,fun j hj=>om0⟩
 case round=>
  clear hE hm h5 h2 hL;obtain⟨k,hk,rfl,hg,hE,hm,h5,h2,hL,hno⟩:=hrel;by_cases hkl:k<fn;rotate_left
  ·have ik:¬(k:Int)<(fn:Int):=om0;obtain rfl:k=fn:=om0;go_wp2;go_ret;refine⟨-1,rfl,?_,hg⟩;cases hA:(fl.any fun h=>a0A gr (K0 gr h) h)
   ·rfl
   ·exfalso;obtain⟨x,hx,hr⟩:=List.any_eq_true.1 hA;obtain⟨j,hj,rfl⟩:=List.getElem_of_mem hx;have:=hno j (by rw[←hL.len];exact hj);rw[Qv hj,hr]at this;cases this
  have ik:(k:Int)<(fn:Int):=om0;have hxl:=hfl _ (F3 (d:=(0,0)) (k:=k) (by rw[hL.len];exact hkl));have hxm:=F3 (d:=((0,0):Int × Int)) (l:=fl) (k:=k) (by rw[hL.len];exact hkl);obtain⟨fg,ff,rfl,hfg,hfc⟩:=hL.some om0;obtain⟨c0,c1⟩:=Y4 hL.len hfc hkl;generalize hxe:nth ((0,0):Int × Int) fl k=x at*;obtain⟨xs,xg⟩:=x;have hlt:=A8 hxl;simp only at hlt hxl c0 c1;obtain⟨h,rfl⟩:∃h:Nat,xs=(h:Int):=⟨xs.toNat,om0⟩;cases hA:a0A gr (K0 gr ((h:Int),xg)) ((h:Int),xg)
  ·go_wp2_with (go_at_call 132;refine(a9y p2 p5 p3 p4 p1 b ao n cap ko kn kcap hs gr hK h xg hxl _ hE hm h5 h2).mono ?_;rintro e w1 ⟨rfl,hg1,hm1⟩;rw[hA]);go_roundw
   case rel=>exact⟨k+1,om0,by go_num,hg.trans hg1,hE.grown hg1 hm,hm1,F0 hg1 hm h5,F0 hg1 hm h2,Qy hg1 hm hL,B0 hno (by rw[hxe];exact hA)⟩
   case measure=>simp[intOf];omega
  ·go_wp2_with (go_at_call 132;refine(a9y p2 p5 p3 p4 p1 b ao n cap ko kn kcap hs gr hK h xg hxl _ hE hm h5 h2).mono ?_;rintro e w1 ⟨rfl,hg1,hm1⟩;rw[hA]);go_ret;exact⟨k,rfl,by rw[show(fl.any fun h=>a0A gr (K0 gr h) h)=true from List.any_eq_true.2 ⟨_,hxm,hA⟩];simp,hg.trans hg1⟩
theorem aB8(p2 p5 p3 p4 p1 b:Nat)(ao:Option Addr)(n cap:Nat)(ko:Option Addr)(kn kcap:Nat)(hs:List RH)(gr:Gr)(hK:Y7 gr)(fo:Option Addr)(fn fcap:Nat)(fl:List (Int × Int))(w:World)(hE:Env w p3 p4 p1 b ao n cap ko kn kcap hs gr)(hm:∃es c,w.heap[b]?=some (.map es c))(h5:w.heap[p5]?=some (.cells #[.func (.func 170) #[] #[.pointer (some ⟨p3,0,none⟩),.pointer (some ⟨p4,0,none⟩)]] 177))(h2:w.heap[p2]?=some (.cells #[.slice ao n cap,.slice ko kn kcap] 27))(hL:Lay f2 w fo fn fl)(hfn:fn≤1000)(hfl:∀x,x∈fl→qG gr.sl x.1 x.2=true):
  Calls Tryz.prog 131 #[.slice fo fn fcap,.func (.func 132) #[] #[.pointer (some ⟨p5,0,none⟩),.pointer (some ⟨p2,0,none⟩)]] w fun e w'=>e=.returned (.bool (fl.any fun h=>a0A gr (K0 gr h) h))∧w.grownBy w' (some b):=by
 go_enter Tryz.func131,Tryz.ntmps131;go_wp2_with (go_at_call 171;refine(aA4 p2 p5 p3 p4 p1 b ao n cap ko kn kcap hs gr hK _ _ _ fl _ hE hm h5 h2 hL hfn hfl).mono ?_;rintro e w1 ⟨v,rfl,hv,hg1⟩);go_ret;exact⟨by rw[hv];rfl,hg1⟩
theorem aj3(ao:Option Addr)(n cap:Nat)(ko:Option Addr)(kn kcap:Nat)(hs:List RH)(gr:Gr)(hK:Y7 gr)(fo:Option Addr)(fn fcap:Nat)(fl:List (Int × Int))(w:World)(hG:QL w ao n ko kn hs gr)(hL:Lay f2 w fo fn fl)(hfn:fn≤1000)(hfl:∀x,x∈fl→qG gr.sl x.1 x.2=true):
  Calls Tryz.prog 73 #[.agg #[.slice ao n cap,.slice ko kn kcap],.slice fo fn fcap] w fun e w'=>e=.returned (.bool (fl.any fun h=>a0A gr (K0 gr h) h))∧Below w.heap.size w w':=by
 have hmf:∀(fn:Fn) (first cap:Array Value) (w:World),(Instr.makeFunc fn first cap).run Tryz.prog w=.ok (.func fn first cap) w:=fun _ _ _ _=>rfl
 go_enter Tryz.func73,Tryz.ntmps73;go_wp2_with (first|(go_at_call 130;refine(W9 ao n cap ko kn kcap hs gr _ (hG.ex sk0)).mono ?_;rintro e w1 ⟨p3,p4,p1,b,rfl,hw1,hE1,hb1,hm1⟩)|(go_at_call 131;refine(aB8 w.heap.size w1.heap.size p3 p4 p1 b ao n cap ko kn kcap hs gr hK _ _ _ fl _ (hE1.grown (World.grownBy_alloc _ _ _) hm1) (ao0 hm1 sk0) (by simp only[qe];simp[go_sem,↓IntWalk.iteOmega]) (i7 (qE (j5 _)) (i7 hw1 (by simp only[qe];simp[go_sem,↓IntWalk.iteOmega]))) (hL.ex sn0) hfn hfl).mono ?_;rintro e w2 ⟨rfl,hg2⟩));go_ret;have hxx:=ai6 (T:=w) (b:=b) sn0 hg2 (by have:=hb1;simp[go_sem]at this ⊢;omega);exact⟨rfl,B5 hxx⟩
end
/- A map whose keys are handles:a set. -/
section
open Go.Maps Go.RowKit Go.ChangeShapes Go.WideShapes Go.ChangeAt
def hv (h:Int × Int):Value:=.agg #[.int .i64 h.1,.int .i64 h.2]
theorem a3o(x y:Int × Int)(w:World):(Op.equal 32 (hv x) (hv y)).run Tryz.prog w=.ok (decide (x=y)) w:=by
 obtain⟨a,b⟩:=x;obtain⟨c,d⟩:=y;have u3:=Tryz.underlying3;have a3:=Tryz.isAgg3;have z3:=Tryz.sizeOf3;simp only[hv,Op.equal,Op.maxDepth];go_simp;by_cases h0:a=c<;>by_cases h1:b=d<;>simp[h0,h1]
theorem af2(em:Bool)(x:Int × Int)(w:World):(Instr.checkKey em 10000 32 (hv x)).run Tryz.prog w=.ok () w:=by
 kernel_rfl
def a6f (w:World) (b:Nat) (L:List (Int × Int)):Prop:=∃es c,w.heap[b]?=some (.map es c)∧es.toList.map (fun e=>(e.key,e.val))=L.map (fun h=>(hv h,.agg #[]))
theorem a4U(x:Int × Int)(w:World):∀(es:List MapEntry) (L:List (Int × Int)) (i:Nat),es.map (fun e=>(e.key,e.val))=L.map (fun h=>(hv h,.agg #[]))→
  (x ∉ L∧(Instr.findAsking 32 (hv x) es i).run Tryz.prog w=.ok none w)∨(x∈L∧∃j,(Instr.findAsking 32 (hv x) es i).run Tryz.prog w=.ok (some (j,.agg #[])) w)
 |[],L,i,h=>by
  obtain rfl:L=[]:=by cases L<;>simp_all
  exact .inl ⟨by simp,by simp[Instr.findAsking]⟩
 |e::es,L,i,h=>by
  cases L with
  |nil=>simp at h
  |cons y L=>
   simp only[List.map_cons,List.cons.injEq,Prod.mk.injEq]at h;obtain⟨⟨hk,hvv⟩,h⟩:=h;have hq:=a3o x y w;by_cases exy:x=y
   ·subst exy;refine .inr ⟨by simp,i,?_⟩;rw[Instr.findAsking];simp[hk,hvv,hq,Result.andThen]
   ·have hq':(Op.equal 32 (hv x) (hv y)).run Tryz.prog w=.ok false w:=by rw[hq];simp[exy]
    rcases a4U x w es L (i+1) h with⟨h1,h2⟩|⟨h1,j,h2⟩
    ·refine .inl ⟨by simp[exy,h1],?_⟩;rw[Instr.findAsking];simp[hk,hq',h2,Result.andThen]
    ·refine .inr ⟨by simp[h1],j,?_⟩;rw[Instr.findAsking];simp[hk,hq',h2,Result.andThen]
theorem a26(x:Int × Int)(w:World)(es:List MapEntry)(L:List (Int × Int))(h:es.map (fun e=>(e.key,e.val))=L.map (fun h=>(hv h,.agg #[]))):
  (x ∉ L∧(Instr.findKey 32 (hv x) es).run Tryz.prog w=.ok none w)∨(x∈L∧∃j,(Instr.findKey 32 (hv x) es).run Tryz.prog w=.ok (some (j,.agg #[])) w):=by
 cases es with
 |nil=>
  obtain rfl:L=[]:=by cases L<;>simp_all
  exact .inl ⟨by simp,by simp[Instr.findKey,run_underlying Tryz.underlying32,Instr.findNow,Result.andThen]⟩
 |cons e es=>
  have hn:∀fs,Instr.findNow (.struct fs) (hv x) (e::es) 0=none:=fun fs=>by
   rw[Instr.findNow];simp[Instr.sameNow]
  have hr:=a4U x w (e::es) L 0 h;have hu:(Instr.findKey 32 (hv x) (e::es)).run Tryz.prog w=(Instr.findAsking 32 (hv x) (e::es)).run Tryz.prog w:=by
   simp[Instr.findKey,run_underlying Tryz.underlying32,hn,Result.andThen]
  rw[hu];exact hr
section
variable {w w':World} {b:Nat} {L:List (Int × Int)} {ops:Array Oper} {rest:List Oper} {o:Oper} {a:Act} {Q:Exit→Act→World→Prop}
theorem a6f.map(h:a6f w b L):∃es c,w.heap[b]?=some (.map es c):=by
 obtain⟨es,c,hb,_⟩:=h;exact⟨es,c,hb⟩
theorem a6f.ex(h:a6f w b L)(hw:∃y,w'=plus w y):a6f w' b L:=by
 obtain⟨es,c,hb,hk⟩:=h;exact⟨es,c,i7 hw hb,hk⟩
theorem Zf(hgd:o.guard=none)(m x:Operand)(hop:o.op=Op.lookup 174 m x true)(hm:a.eval m=.map (some b))(hS:a6f w b L)(h:Int × Int)(hx:a.eval x=hv h)
  (hK:wpList Tryz.prog ops Q rest (a.put o.dst (.tuple #[.agg #[],.bool (decide (h∈L))])) w):wpList Tryz.prog ops Q (o::rest) a w:=by
 refine wpList_plain hgd fun K' hK'=>?_
 obtain⟨es,c,hb,hk⟩:=hS;have hrun:(Instr.lookup 174 (.map (some b)) (hv h) true).run Tryz.prog w=.ok (.tuple #[.agg #[],.bool (decide (h∈L))]) w:=by
  rcases a26 h w es.toList L hk with⟨h1,h2⟩|⟨h1,j,h2⟩
  ·simp[Instr.lookup,run_underlying Tryz.underlying174,MapKept.run_getObj_map hb,af2,h2,h1,a7M,Result.andThen]
  ·simp[Instr.lookup,run_underlying Tryz.underlying174,MapKept.run_getObj_map hb,af2,h2,h1,Result.andThen]
 unfold Oper.wp;simp only[execOp,hop,hm,hx];simp[hrun,Result.andThen];exact hK' _ _ hK
theorem ZW(hgd:o.guard=none)(m x v:Operand)(hop:o.op=Op.mapUpdate 174 m x v)(hm:a.eval m=.map (some b))(hS:a6f w b L)(h:Int × Int)(hx:a.eval x=hv h)(hvv:a.eval v=.agg #[])(hn:h ∉ L)
  (hK:∀w',a6f w' b (L++[h])→w.grownBy w' (some b)→wpList Tryz.prog ops Q rest (a.put o.dst undef) w'):wpList Tryz.prog ops Q (o::rest) a w:=by
 refine wpList_plain hgd fun K' hK'=>?_
 obtain⟨es,c,hb,hk⟩:=hS;have hrun:(Instr.mapUpdate 174 (.map (some b)) (hv h) (.agg #[])).run Tryz.prog w=.ok () (ChangeMaps.setBlock w b (.map (es.push {key:=hv h,val:=.agg #[],born:=c}) (c+1))):=by
  rcases a26 h w es.toList L hk with⟨h1,h2⟩|⟨h1,j,h2⟩
  ·simp[Instr.mapUpdate,run_underlying Tryz.underlying174,MapKept.run_getObj_map hb,af2,h2,MapKept.run_setObj_map _ hb,Result.andThen,ChangeMaps.setBlock]
  ·exact absurd h1 hn
 unfold Oper.wp;simp only[execOp,hop,hm,hx,hvv];simp[hrun,Result.andThen];refine hK' _ _ (hK _ ⟨_,_,ChangeMaps.heap_setBlock_same hb _,?_⟩ ⟨rfl,rfl,rfl,by simp[ChangeMaps.setBlock],fun i _ hi=>ChangeMaps.heap_setBlock_other hb _ (fun e=>hi (by rw[e]))⟩);simp[hk]
end
end
/- What nodes.kidsMayBe gives. -/
section
open Go.Maps Go.RowKit Go.ChangeShapes Go.WideShapes Go.ChangeAt
theorem ah2{α:Type}{d:α}:∀{l:List α} {k:Nat},l.Nodup→k<l.length→nth d l k ∉ l.take k
 |[],k,_,h=>by simp at h
 |a::l,0,_,_=>by simp
 |a::l,k+1,hn,h=>by
  rw[List.nodup_cons]at hn;have hk:k<l.length:=by simpa using h
  rw[G9,List.take_succ_cons,List.mem_cons];rintro(e|e)
  ·exact hn.1 (e▸F3 hk)
  ·exact ah2 hn.2 hk e
theorem a1i(n:Nat)(w:World):(Instr.makeMap 174 (some (.int .i64 (n:Int)))).run Tryz.prog w=.ok (.map (some w.heap.size)) (w.alloc (.map #[] 0)):=by
 simp[Instr.makeMap,run_underlying Tryz.underlying174,asInt,Result.andThen];rfl
theorem ZJ(ao:Option Addr)(n cap:Nat)(ko:Option Addr)(kn kcap:Nat)(hs:List RH)(gr:Gr)(fo:Option Addr)(fn fcap:Nat)(fl:List (Int × Int))(w:World)(hG:QL w ao n ko kn hs gr)(hL:Lay f2 w fo fn fl)(hfn:fn≤1000)(hN:fl.Nodup)(hF:∀x,decide (x∈fl)=qG gr.sl x.1 x.2):
  Calls Tryz.prog 72 #[.agg #[.slice ao n cap,.slice ko kn kcap],.slice fo fn fcap] w fun e w'=>e=.returned (.bool (decide (gr.ks.length=gr.sl.length)&&E8 gr))∧Below w.heap.size w w':=by
 have hlen:=hG.kl;have hkh:=hG.kh.len;have hsl:=hG.sl.len;have bkn:=hG.n2;have hmm:=a1i;by_cases hne:kn=n;rotate_left
 ·rw[decide_eq_false (show¬gr.ks.length=gr.sl.length by omega)];have ine:¬(kn:Int)=(n:Int):=om0;have dne:((kn:Int)==(n:Int))=false:=by rw[beq_eq_false_iff_ne];omega
  go_enter Tryz.func72,Tryz.ntmps72;go_wp2;go_ret;exact⟨rfl,skB⟩
 subst hne;rw[decide_eq_true (show gr.ks.length=gr.sl.length by omega),Bool.true_and];have hll:=hL.len;go_enter Tryz.func72,Tryz.ntmps72;go_wp2;go_loopw [27] (fun i_ wr=>∃k:Nat,k≤fn∧i_=.int .i64 k∧(∃y,wr=plus (w.alloc (.cells #[.slice ao kn cap,.slice ko kn kcap] 27)) y)∧a6f wr (w.heap.size+1) (fl.take k)) (fun i_ _=>fn - (intOf i_).toNat)
 case atStart=>exact⟨0,Nat.zero_le _,rfl,sk0,#[],0,by rw[qe,if_pos (by simp)],by simp⟩
 case round=>
  obtain⟨k,hk,rfl,hx2,hS⟩:=hrel;have hbox:wr.heap[w.heap.size]?=some (.cells #[.slice ao kn cap,.slice ko kn kcap] 27):=i7 hx2 (by rw[qe,if_pos rfl]);have lb:=qi hbox;by_cases hkl:k<fn
  ·have ik:(k:Int)<(fn:Int):=om0;have hLw:=hL.ex (w':=wr) (i9 (qE (j5 _)) hx2);obtain⟨fg,ff,rfl,hfg,hfc⟩:=hLw.some om0;obtain⟨c0,c1⟩:=Y4 hLw.len hfc hkl;have hnin:=ah2 (d:=((0,0):Int × Int)) hN (k:=k) om0;go_wp2_with (at_mapUpdate;refine ZW rfl _ _ _ rfl rfl (hS.ex sk0) (nth (0,0) fl k) rfl rfl hnin ?_;intro w3 hS3 hg3;simp only[Act.put,List.setIfInBounds_toArray,List.set_cons_succ,List.set_cons_zero]);go_roundw
   case rel=>exact⟨k+1,om0,by go_num,ai6 (qE hx2) hg3 (by simp),by rw[P1 (d:=((0,0):Int × Int)) om0];exact hS3⟩
   case measure=>simp[intOf];omega
  have ik:¬(k:Int)<(fn:Int):=om0;obtain rfl:k=fn:=om0;rw[List.take_of_length_le om0]at hS;have hGw:=hG.ex (w':=wr) (i9 (qE (j5 _)) hx2);have hbl:Below w.heap.size w wr:=B5 (i9 (qE (j5 _)) hx2);have g0:=i6 (i:=0) hbox rfl;have g1:=i6 (i:=1) hbox rfl;clear hx2 hG hbox;go_wp2;go_loopw [38] (fun i_ wz=>∃i:Nat,i≤kn∧i_=.int .i64 i∧(∀j,j<i→T3 gr.sl j (nth [] gr.ks j)=true)∧∃x,wz=plus wr x) (fun i_ _=>kn - (intOf i_).toNat)
  case atStart=>exact⟨0,Nat.zero_le _,rfl,fun j hj=>om0,sk0⟩
  case round=>
   obtain⟨i,hi,rfl,hrows,x,rfl⟩:=hrel;by_cases hil:i<kn;rotate_left
   ·have ii:¬(i:Int)<(kn:Int):=om0;have hR:E8 gr=true:=a3g fun j hj=>hrows j om0
    go_wp2;go_ret;exact⟨by first|rfl|(rw[hR];rfl),hbl.trans ((B5 sk0).mono hbl.size)⟩
   have ii:(i:Int)<(kn:Int):=om0;obtain⟨kg,kf,rfl,hkg,hkc⟩:=hGw.kh.some om0;obtain⟨sg,sf,rfl,hsg,hsc⟩:=hGw.sl.some om0;have c1:=O9 hkh hkc hil;obtain⟨v0,v1⟩:=Y3 hsl hsc hil;have hrow:=hGw.row i om0;have hrl:=hrow.len;have hn3:=hGw.n3 i om0;by_cases h16:16<(nth dRH hs i).n
   ·have i16:(16:Int)<((nth dRH hs i).n:Int):=om0;have hno:E8 gr=false:=af8 (i:=i) om0 (by rw[T3,decide_eq_false om0,Bool.false_and]);go_wp2;go_ret;exact⟨by first|rfl|(rw[hno];rfl),hbl.trans ((B5 sk0).mono hbl.size)⟩
   have i16:¬(16:Int)<((nth dRH hs i).n:Int):=om0;have d16:=decide_eq_false i16;by_cases h0:(nth dRH hs i).n=0
   ·have i0:¬(0:Int)<((nth dRH hs i).n:Int):=om0;have d0:decide (0<(nth dRH hs i).n)=false:=decide_eq_false om0;have hok:T3 gr.sl i (nth [] gr.ks i)=true:=by
     have e:nth [] gr.ks i=[]:=List.eq_nil_of_length_eq_zero om0;rw[e];rfl
    go_wp2;go_loopw [63] (fun k_ wz=>∃k:Nat,k≤(nth dRH hs i).n∧k_=.int .i64 k∧(∀j,j<k→qG gr.sl (nth (0,0) (nth [] gr.ks i) j).1 (nth (0,0) (nth [] gr.ks i) j).2=true)∧∃y,wz=plus (plus wr x) y) (fun k_ _=>(nth dRH hs i).n - (intOf k_).toNat)
    case atStart=>exact⟨0,Nat.zero_le _,rfl,fun j hj=>om0,sk0⟩
    case round=>
     obtain⟨k,hk,rfl,hh,y,rfl⟩:=hrel;obtain rfl:k=0:=om0;have ikk:¬((0:Nat):Int)<((nth dRH hs i).n:Int):=om0;go_wp2;go_roundw
     case rel=>exact⟨i+1,om0,by go_num,B0 hrows hok,sk0⟩
     case measure=>simp[intOf];omega
   have i0:(0:Int)<((nth dRH hs i).n:Int):=om0;have d0:decide (0<(nth dRH hs i).n)=true:=decide_eq_true om0;cases hv:(nth dSl gr.sl i).live
   ·rw[hv]at v1;have hno:E8 gr=false:=af8 (i:=i) om0 (by rw[T3,hv,decide_eq_false (show¬(nth [] gr.ks i).length=0 by omega)];simp);go_wp2;go_ret;exact⟨by first|rfl|(rw[hno];rfl),hbl.trans ((B5 sk0).mono hbl.size)⟩
   rw[hv]at v1;have hpre:T3 gr.sl i (nth [] gr.ks i)=(nth [] gr.ks i).all fun h=>qG gr.sl h.1 h.2:=by
    rw[T3,hv,decide_eq_true (show(nth [] gr.ks i).length≤16 by omega),Bool.or_true,Bool.true_and,Bool.true_and]
   obtain⟨rg,ro,hra,hrg,hrc⟩:=hrow.some om0;rw[hra]at c1;go_wp2;go_loopw [63] (fun k_ wz=>∃k:Nat,k≤(nth dRH hs i).n∧k_=.int .i64 k∧(∀j,j<k→qG gr.sl (nth (0,0) (nth [] gr.ks i) j).1 (nth (0,0) (nth [] gr.ks i) j).2=true)∧∃y,wz=plus (plus wr x) y) (fun k_ _=>(nth dRH hs i).n - (intOf k_).toNat)
   case atStart=>exact⟨0,Nat.zero_le _,rfl,fun j hj=>om0,sk0⟩
   case round=>
    obtain⟨k,hk,rfl,hh,y,rfl⟩:=hrel;by_cases hkl:k<(nth dRH hs i).n;rotate_left
    ·have ikk:¬(k:Int)<((nth dRH hs i).n:Int):=om0;have hok:T3 gr.sl i (nth [] gr.ks i)=true:=by
      rw[hpre];exact K5 (d:=((0,0):Int × Int)) (fun j hj=>hh j om0)
     go_wp2;go_roundw
     case rel=>exact⟨i+1,om0,by go_num,B0 hrows hok,sk0⟩
     case measure=>simp[intOf];omega
    have ikk:(k:Int)<((nth dRH hs i).n:Int):=om0;obtain⟨x0,x1⟩:=Y4 hrl hrc hkl;have hin:=hF (nth (0,0) (nth [] gr.ks i) k);cases hq:qG gr.sl (nth (0,0) (nth [] gr.ks i) k).1 (nth (0,0) (nth [] gr.ks i) k).2
    ·rw[hq]at hin;have hno:E8 gr=false:=af8 (i:=i) om0 (by rw[hpre];exact C1 (d:=((0,0):Int × Int)) (k:=k) om0 hq);go_wp2_with (at_lookup;refine Zf rfl _ _ rfl rfl (hS.ex sk0) (nth (0,0) (nth [] gr.ks i) k) rfl ?_;rw[hin]);go_ret;exact⟨by first|rfl|(rw[hno];rfl),hbl.trans ((B5 sk0).mono hbl.size)⟩
    ·rw[hq]at hin;go_wp2_with (at_lookup;refine Zf rfl _ _ rfl rfl (hS.ex sk0) (nth (0,0) (nth [] gr.ks i) k) rfl ?_;rw[hin]);go_roundw
     case rel=>exact⟨k+1,om0,by go_num,B0 hh hq,sk0⟩
     case measure=>simp[intOf];omega
end
/- What nodes.Check and refused give. -/
section
open Go.Maps Go.RowKit Go.ChangeShapes Go.WideShapes Go.ChangeAt
theorem ai0(l:List Sl)(x:Int × Int):∀k,x∈ad5 l k↔∃j:Nat,j<k∧x=((j:Int),(nth dSl l j).gen)∧(nth dSl l j).live=true
 |0=>by simp[ad5]
 |k+1=>by
  rw[ad5,List.mem_append,ai0 l x k];constructor
  ·rintro(⟨j,hj,h⟩|h)
   ·exact⟨j,om0,h⟩
   ·by_cases hv:(nth dSl l k).live=true
    ·rw[if_pos hv,List.mem_singleton]at h;exact⟨k,om0,h,hv⟩
    ·rw[if_neg hv]at h;cases h
  ·rintro⟨j,hj,h,hv⟩;by_cases e:j=k
   ·subst e;right;rw[if_pos hv,List.mem_singleton];exact h
   ·exact .inl ⟨j,om0,h,hv⟩
theorem af9(l:List Sl):∀k,(ad5 l k).Nodup
 |0=>by simp[ad5]
 |k+1=>by
  rw[ad5];by_cases hv:(nth dSl l k).live=true
  ·rw[if_pos hv,List.nodup_append];refine⟨af9 l k,by simp,?_⟩;intro a ha b hb e;subst e;rw[List.mem_singleton]at hb;subst hb;obtain⟨j,hj,e,_⟩:=(ai0 l _ k).1 ha;have:=congrArg Prod.fst e;simp only at this;omega
  ·rw[if_neg hv,List.append_nil];exact af9 l k
theorem a3i(l:List Sl)(x:Int × Int):decide (x∈ad5 l l.length)=qG l x.1 x.2:=by
 rw[Bool.eq_iff_iff,decide_eq_true_iff,ai0,C6];constructor
 ·rintro⟨j,hj,rfl,hv⟩;simp only[Int.toNat_natCast];exact⟨⟨om0,om0⟩,hv,by first|trivial|rfl⟩
 ·rintro⟨⟨h0,h1⟩,hv,hg⟩;refine⟨x.1.toNat,om0,?_,hv⟩;obtain⟨a,b⟩:=x;simp only at*;rw[hg,Int.toNat_of_nonneg h0]
theorem a6K{gr:Gr}(h2:gr.ks.length=gr.sl.length)(h3:E8 gr=true):((ad5 gr.sl gr.sl.length).any fun h=>a0A gr (K0 gr h) h)=!Zh gr:=by
 have hK:=Y7.of gr h2 h3;have hAll:∀x,x∈ad5 gr.sl gr.sl.length↔qG gr.sl x.1 x.2=true:=fun x=>by rw[←a3i,decide_eq_true_iff]
 have hr:∀h,qG gr.sl h.1 h.2=true→∀x,x∈K0 gr h→qG gr.sl x.1 x.2=true:=fun h hh x hx=>hK.2 _ (by rw[h2];exact(A8 hh).1) x hx
 rw[Bool.eq_iff_iff,List.any_eq_true,Bool.not_eq_true',←Bool.not_eq_true,T8 h2 h3];constructor
 ·rintro⟨h,hm,ha⟩ hA;have hh:=(hAll h).1 hm;obtain⟨x,hx,hrx⟩:=(ai9 hK (hr h hh)).1 ha;exact hA h.1.toNat (by rw[h2];exact(A8 hh).1) x.1.toNat (J4.2 ⟨x,hx,rfl⟩) hrx
 ·intro hA;have:∃i,i<gr.ks.length∧∃c,c∈kof gr.ks i∧Reach (kof gr.ks) c i:=by
   refine Classical.byContradiction fun hno=>hA ?_
   intro i hi c hc hrc;exact hno ⟨i,hi,c,hc,hrc⟩
  obtain⟨i,hi,c,hc,hrc⟩:=this;obtain⟨x,hx,rfl⟩:=J4.1 hc;have hv:(nth dSl gr.sl i).live=true:=by
   rcases(Qk h3 hi).2.1 with h0|h0
   ·rw[List.eq_nil_of_length_eq_zero h0]at hx;cases hx
   ·exact h0
  have hmem:((i:Int),(nth dSl gr.sl i).gen)∈ad5 gr.sl gr.sl.length:=(ai0 _ _ _).2 ⟨i,om0,rfl,hv⟩;have hrow:K0 gr ((i:Int),(nth dSl gr.sl i).gen)=nth [] gr.ks i:=by rw[K0];simp
  exact⟨_,hmem,(ai9 hK (hr _ ((hAll _).1 hmem))).2 ⟨x,by rw[hrow];exact hx,by simpa using hrc⟩⟩
theorem G7(ao:Option Addr)(n cap:Nat)(ko:Option Addr)(kn kcap:Nat)(hs:List RH)(gr:Gr)(w:World)(hG:QL w ao n ko kn hs gr):Calls Tryz.prog 27 #[.agg #[.slice ao n cap,.slice ko kn kcap]] w fun e w'=>e=.returned (.int .i64 (QE gr))∧Below w.heap.size w w':=by
 have b1:=hG.n1;have hsl:=hG.sl.len;have hlen:=hG.kl;cases ho:S5 gr.sl
 ·have hA:E7 gr.sl=8:=by rw[E7,ho];rfl
  rw[show QE gr=8 by rw[QE,QV,ho];rfl];go_enter Tryz.func27,Tryz.ntmps27;go_wp2_with (go_at_call 71;refine(Zx _ _ _ gr.sl _ (hG.sl.ex sk0) om0).mono ?_;rintro e w1 ⟨fo,fn,fcap,rfl,hw1,hLf⟩;rw[hA];have hlf:=hLf.len;have bx:w1.heap[w.heap.size]?=some (.cells #[.slice ao n cap,.slice ko kn kcap] 27):=i7 hw1 (by rw[qe,if_pos rfl]);have g0:=i6 (i:=0) bx rfl;have g1:=i6 (i:=1) bx rfl;have lbx:=qi bx);go_ret;exact⟨rfl,B5 sn0⟩
 have hA:E7 gr.sl=0:=by rw[E7,ho];rfl
 have hAL:Q2 gr.sl=ad5 gr.sl gr.sl.length:=by rw[Q2,if_pos ho]
 have hle:=a1D gr.sl gr.sl.length;have hh:=a3i gr.sl;have hnd:=af9 gr.sl gr.sl.length;rw[←hAL]at hle hh hnd;cases hM:(decide (gr.ks.length=gr.sl.length)&&E8 gr)
 ·rw[show QE gr=8 by rw[QE,QV,ho,Bool.true_and,←Bool.and_assoc,hM];rfl];go_enter Tryz.func27,Tryz.ntmps27;go_wp2_with (first|(go_at_call 71;refine(Zx _ _ _ gr.sl _ (hG.sl.ex sk0) om0).mono ?_;rintro e w1 ⟨fo,fn,fcap,rfl,hw1,hLf⟩;rw[hA];have hlf:=hLf.len;have bx:w1.heap[w.heap.size]?=some (.cells #[.slice ao n cap,.slice ko kn kcap] 27):=i7 hw1 (by rw[qe,if_pos rfl]);have g0:=i6 (i:=0) bx rfl;have g1:=i6 (i:=1) bx rfl;have lbx:=qi bx)|(go_at_call 72;refine pm0 (ZJ _ _ _ _ _ _ hs gr _ _ _ (Q2 gr.sl) _ (hG.ex sn0) (hLf.ex sk0) om0 hnd hh) fun nx=>?_;rw[hM]));go_ret;exact⟨rfl,B5 sn0⟩
 have hM2:=hM;rw[Bool.and_eq_true,decide_eq_true_iff]at hM2;have hK:=Y7.of gr hM2.1 hM2.2;have hlp:=a6K hM2.1 hM2.2;rw[←hAL]at hlp;cases hO:Zh gr
 ·rw[show QE gr=8 by rw[QE,QV,hO,Bool.and_false,Bool.and_false];rfl];rw[hO]at hlp;go_enter Tryz.func27,Tryz.ntmps27;go_wp2_with (first|(go_at_call 71;refine(Zx _ _ _ gr.sl _ (hG.sl.ex sk0) om0).mono ?_;rintro e w1 ⟨fo,fn,fcap,rfl,hw1,hLf⟩;rw[hA];have hlf:=hLf.len;have bx:w1.heap[w.heap.size]?=some (.cells #[.slice ao n cap,.slice ko kn kcap] 27):=i7 hw1 (by rw[qe,if_pos rfl]);have g0:=i6 (i:=0) bx rfl;have g1:=i6 (i:=1) bx rfl;have lbx:=qi bx)|(go_at_call 72;refine pm0 (ZJ _ _ _ _ _ _ hs gr _ _ _ (Q2 gr.sl) _ (hG.ex sn0) (hLf.ex sk0) om0 hnd hh) fun nx=>?_;rw[hM])|(go_at_call 73;refine(A4 (aj3 _ _ _ _ _ _ hs gr hK _ _ _ (Q2 gr.sl) _ (hG.ex sn0) (hLf.ex sk0) om0 (fun x hx=>by rw[←hh,decide_eq_true_iff];exact hx))).mono ?_;rintro e w' ⟨rfl,ny,rfl⟩;rw[hlp]));go_ret;exact⟨rfl,B5 sn0⟩
 ·rw[show QE gr=0 by rw[QE,QV,hO,ho,hM2.2,decide_eq_true hM2.1];rfl];rw[hO]at hlp;go_enter Tryz.func27,Tryz.ntmps27;go_wp2_with (first|(go_at_call 71;refine(Zx _ _ _ gr.sl _ (hG.sl.ex sk0) om0).mono ?_;rintro e w1 ⟨fo,fn,fcap,rfl,hw1,hLf⟩;rw[hA];have hlf:=hLf.len;have bx:w1.heap[w.heap.size]?=some (.cells #[.slice ao n cap,.slice ko kn kcap] 27):=i7 hw1 (by rw[qe,if_pos rfl]);have g0:=i6 (i:=0) bx rfl;have g1:=i6 (i:=1) bx rfl;have lbx:=qi bx)|(go_at_call 72;refine pm0 (ZJ _ _ _ _ _ _ hs gr _ _ _ (Q2 gr.sl) _ (hG.ex sn0) (hLf.ex sk0) om0 hnd hh) fun nx=>?_;rw[hM])|(go_at_call 73;refine(A4 (aj3 _ _ _ _ _ _ hs gr hK _ _ _ (Q2 gr.sl) _ (hG.ex sn0) (hLf.ex sk0) om0 (fun x hx=>by rw[←hh,decide_eq_true_iff];exact hx))).mono ?_;rintro e w' ⟨rfl,ny,rfl⟩;rw[hlp]));go_ret;exact⟨rfl,B5 sn0⟩
def ae2 (g:Gr) (fl:List (Int × Int)):Int:=if (fl.all fun h=>qG g.sl h.1 h.2)=true then 0 else 50
def aa7 (g:Gr) (fl:List (Int × Int)):Int:=if QV g=true then ae2 g fl else 8
theorem a7O(g:Gr)(h:Int × Int):aa7 g [h]=zH g h h:=by simp[aa7,ae2,zH]
theorem a8p(g:Gr)(h i:Int × Int):aa7 g [h,i]=zH g h i:=by simp[aa7,ae2,zH]
theorem Zj{g:Gr}{e:Int}(h:QE g=e)(ao:Option Addr)(n cap:Nat)(ko:Option Addr)(kn kcap:Nat)(hs:List RH){w:World}(hG:QL w ao n ko kn hs g):Calls Tryz.prog 27 #[.agg #[.slice ao n cap,.slice ko kn kcap]] w fun e' w'=>e'=.returned (.int .i64 e)∧Below w.heap.size w w':=by
 subst h;exact G7 _ _ _ _ _ _ _ _ _ hG
theorem ad0(ao:Option Addr)(n cap:Nat)(ko:Option Addr)(kn kcap:Nat)(hs:List RH)(gr:Gr)(fo:Option Addr)(fn fcap:Nat)(fl:List (Int × Int))(w:World)(hG:QL w ao n ko kn hs gr)(hL:Lay f2 w fo fn fl)(hfn:fn≤1000):Calls Tryz.prog 162 #[.agg #[.slice ao n cap,.slice ko kn kcap],.slice fo fn fcap] w fun e w'=>e=.returned (.int .i64 (aa7 gr fl))∧Below w.heap.size w w':=by
 have b1:=hG.n1;have hll:=hL.len;cases hO:QV gr
 ·have he:QE gr=8:=by rw[QE,hO];rfl
  rw[show aa7 gr fl=8 by rw[aa7,hO];rfl];go_enter Tryz.func162,Tryz.ntmps162;go_wp2_with (go_at_call 27;refine pm0 (Zj he _ _ _ _ _ _ hs (hG.ex sk0)) fun nx=>?_);go_ret;exact⟨rfl,skB⟩
 have he:QE gr=0:=by rw[QE,hO];rfl
 have har:=(zx hO).1;rw[show aa7 gr fl=ae2 gr fl by rw[aa7,if_pos hO]];go_enter Tryz.func162,Tryz.ntmps162;go_wp2_with (go_at_call 27;refine pm0 (Zj he _ _ _ _ _ _ hs (hG.ex sk0)) fun nx=>?_);go_loopw [15] (fun i_ wr=>∃k:Nat,k≤fn∧i_=.int .i64 k∧(∀j,j<k→qG gr.sl (nth (0,0) fl j).1 (nth (0,0) fl j).2=true)∧∃x,wr=plus (plus (w.alloc (.cells #[.slice ao n cap,.slice ko kn kcap] 27)) nx) x) (fun i_ _=>fn - (intOf i_).toNat)
 case atStart=>exact⟨0,Nat.zero_le _,rfl,fun j hj=>om0,sk0⟩
 case round=>
  obtain⟨k,hk,rfl,hh,x,rfl⟩:=hrel;by_cases hkl:k<fn;rotate_left
  ·have ik:¬(k:Int)<(fn:Int):=om0;go_wp2;go_ret;exact⟨by rw[ae2,if_pos (K5 (d:=((0,0):Int × Int)) (fun j hj=>hh j om0))];rfl,skB⟩
  have ik:(k:Int)<(fn:Int):=om0;obtain⟨fg,ff,rfl,hfg,hfc⟩:=hL.some om0;obtain⟨c0,c1⟩:=Y4 hL.len hfc hkl;cases hq:qG gr.sl (nth (0,0) fl k).1 (nth (0,0) fl k).2
  ·have hH:ZO gr.sl (nth (0,0) fl k).1 (nth (0,0) fl k).2=false:=by rw[ZO,hq,Bool.and_false]
   go_wp2_with (go_at_call 79;refine(A4 (R1 _ _ _ gr.sl _ _ _ (hG.sl.ex sk0) om0)).mono ?_;rintro e w' ⟨rfl,nh,rfl⟩;rw[hH]);go_ret;exact⟨by rw[ae2,if_neg (by rw[C1 (d:=((0,0):Int × Int)) (k:=k) om0 hq];decide)];rfl,skB⟩
  ·have hH:ZO gr.sl (nth (0,0) fl k).1 (nth (0,0) fl k).2=true:=by rw[ZO,hq,har];rfl
   go_wp2_with (go_at_call 79;refine(A4 (R1 _ _ _ gr.sl _ _ _ (hG.sl.ex sk0) om0)).mono ?_;rintro e w' ⟨rfl,nh,rfl⟩;rw[hH]);go_roundw
   case rel=>exact⟨k+1,om0,by go_num,B0 hh hq,sk0⟩
   case measure=>simp[intOf];omega
end
end Go.Proofs.YtcekcihijdipoaaGreat
