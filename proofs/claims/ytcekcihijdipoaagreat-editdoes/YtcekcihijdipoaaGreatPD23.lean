/- A pack of texts: NdP2. -/
import Derived.Test.YtcekcihijdipoaaGreatPD21
import Derived.Test.YtcekcihijdipoaaGreatPD22
namespace Go.Proofs.YtcekcihijdipoaaGreat
set_option maxRecDepth 100000
set_option maxHeartbeats 16000000
set_option linter.unusedSimpArgs false
set_option linter.unusedVariables false
attribute [local go_sem] qn qZ A2 zg zz zA t5 qJ zf qO qD t6
section
open Go.Maps Go.RowKit Go.ChangeShapes Go.WideShapes Go.ChangeAt
def aC8 (w:World) (l:List (Int × Int)) (er:Int) (e:Ending) (w':World):Prop:=∃ao m cap,e=.returned (.tuple #[.slice ao m cap,.int .i64 er])∧(∃y,w'=plus w y)∧Own 32 2 f2 w w' ao m cap l
theorem Zc{w:World}{g:Nat}{a b:Int}{t:TypeId}(h:w.heap[g]?=some (.cells #[.int .i64 a,.int .i64 b] t)):Lay f2 w (some ⟨g,0,none⟩) 1 [(a,b)]:=by
 refine⟨rfl,.inr ⟨g,0,rfl,qi h,fun j u hu=>?_⟩⟩;rw[Nat.zero_add]
 match j,hu with
 |0,hu=>exact i6 h hu
 |1,hu=>exact i6 h hu
 |j+2,hu=>simp[f2]at hu
theorem a8q{w:World}{g:Nat}{a b c d:Int}{t:TypeId}(h:w.heap[g]?=some (.cells #[.int .i64 a,.int .i64 b,.int .i64 c,.int .i64 d] t)):Lay f2 w (some ⟨g,0,none⟩) 2 [(a,b),(c,d)]:=by
 refine⟨rfl,.inr ⟨g,0,rfl,qi h,fun j u hu=>?_⟩⟩;rw[Nat.zero_add]
 match j,hu with
 |0,hu=>exact i6 h hu
 |1,hu=>exact i6 h hu
 |2,hu=>exact i6 h hu
 |3,hu=>exact i6 h hu
 |j+4,hu=>simp[f2]at hu
theorem ak9{gr:Gr}{s g er:Int}(he:zH gr (s,g) (s,g)=er){ao:Option Addr}{n cap:Nat}{ko:Option Addr}{kn kcap:Nat}{hs:List RH}{q cq:Nat}{w:World}(hG:QL w ao n ko kn hs gr)(hL:w.heap[q]?=some (.cells #[.int .i64 s,.int .i64 g] 32)):Calls Tryz.prog 162 #[.agg #[.slice ao n cap,.slice ko kn kcap],.slice (some ⟨q,0,none⟩) 1 cq] w fun e w'=>e=.returned (.int .i64 er)∧Below w.heap.size w w':=by
 rw[←he,←a7O];exact ad0 _ _ _ _ _ _ _ _ _ _ _ _ _ hG (Zc hL) dc0
theorem ZE{gr:Gr}{s g s2 g2 er:Int}(he:zH gr (s,g) (s2,g2)=er){ao:Option Addr}{n cap:Nat}{ko:Option Addr}{kn kcap:Nat}{hs:List RH}{q cq:Nat}{w:World}(hG:QL w ao n ko kn hs gr)(hL:w.heap[q]?=some (.cells #[.int .i64 s,.int .i64 g,.int .i64 s2,.int .i64 g2] 32)):Calls Tryz.prog 162 #[.agg #[.slice ao n cap,.slice ko kn kcap],.slice (some ⟨q,0,none⟩) 2 cq] w fun e w'=>e=.returned (.int .i64 er)∧Below w.heap.size w w':=by
 rw[←he,←a8p];exact ad0 _ _ _ _ _ _ _ _ _ _ _ _ _ hG (a8q hL) dc0
end
/- What nodes.Reaches gives. -/
section
open Go.Maps Go.RowKit Go.ChangeShapes Go.WideShapes Go.ChangeAt
def rcS (i:Nat):List Nat:=match i with|0=>[17]|1=>[18]|2=>[19]|3=>[20]|4=>[21]|_=>[]
def rcΦ (W:World) (ao:Option Addr) (n cap:Nat) (ko:Option Addr) (kn kcap:Nat) (hs:List RH) (gr:Gr) (f1 f2 t1 t2:Int) (i:Nat) (t:Nat→Value) (w':World):Prop:=match i with
 |0=>t 17=.agg #[.slice ao n cap,.slice ko kn kcap]
 |1=>∃p3 p4 p1 b,t 18=.func (.func 170) #[] #[.pointer (some ⟨p3,0,none⟩),.pointer (some ⟨p4,0,none⟩)]∧Env w' p3 p4 p1 b ao n cap ko kn kcap hs gr∧W.heap.size≤b∧∃es c,w'.heap[b]?=some (.map es c)
 |2=>t 19=.agg #[.int .i64 f1,.int .i64 f2]
 |3=>∃q,t 20=.slice (some ⟨q,0,none⟩) 1 1∧w'.heap[q]?=some (.cells #[.int .i64 f1,.int .i64 f2] 32)
 |4=>t 21=.agg #[.int .i64 t1,.int .i64 t2]
 |_=>True
end
/- What nodes.Parents gives. -/
section
open Go.Maps Go.RowKit Go.ChangeShapes Go.WideShapes Go.ChangeAt
section
variable {α:Type} {f:α→List Value} {P:Program} {w w1 T:World} {ao ao2:Option Addr} {n m cap c c2:Nat} {l l2:List α} {e t:TypeId} {b:Nat} {o:Oper} {a:Act} {K:Act→World→Prop} {Q:Exit→Act→World→Prop}
end
end
/- What nodes.Make gives. -/
section
open Go.Maps Go.RowKit Go.ChangeShapes Go.WideShapes Go.ChangeAt
def a9F (i:Nat):List Nat:=match i with|0=>[29]|1=>[30]|2=>[31]|3=>[32]|4=>[33,32]|5=>[9]|_=>[]
def a4e (T:World) (p:Nat) (xa:Option Addr) (ln xc:Nat) (ko:Option Addr) (kn kcap:Nat) (ks:List (List (Int × Int))) (i:Nat) (t:Nat→Value) (w':World):Prop:=match i with
 |0=>t 29=.agg #[.slice xa ln xc]
 |1=>t 30=.pointer (some ⟨p,1,none⟩)
 |2=>t 31=.slice ko kn kcap
 |3=>∃a c hs,t 32=.slice a kn c∧an6 T w' a kn c hs ks
 |4=>∃c,t 33=.agg #[.slice xa ln xc,c]∧t 32=c
 |5=>∃g,t 9=.pointer (some ⟨g,0,none⟩)∧T.heap.size≤g∧w'.heap[g]?=some (.cells #[.slice none 0 0,.slice none 0 0] 27)
 |_=>True
theorem a4V(T:World)(p:Nat)(xa:Option Addr)(ln xc:Nat)(ko:Option Addr)(kn kcap:Nat)(ks:List (List (Int × Int))):∀i t t' w' x,a4e T p xa ln xc ko kn kcap ks i t w'→(∀s∈a9F i,t' s=t s)→a4e T p xa ln xc ko kn kcap ks i t' (plus w' x):=by
 intro i t t' w' x h hs'
 match i with
 |0=>exact(hs' 29 dc0).trans h
 |1=>exact(hs' 30 dc0).trans h
 |2=>exact(hs' 31 dc0).trans h
 |3=>obtain⟨a,c,q,e,o⟩:=h;exact⟨a,c,q,(hs' 32 dc0).trans e,o.ex ⟨x,rfl⟩⟩
 |4=>obtain⟨c,e1,e2⟩:=h;exact⟨c,(hs' 33 dc0).trans e1,(hs' 32 dc0).trans e2⟩
 |5=>obtain⟨g,e,hg,hb⟩:=h;exact⟨g,(hs' 9 dc0).trans e,hg,i7 ⟨x,rfl⟩ hb⟩
 |i+6=>trivial
def mnS (i:Nat):List Nat:=match i with|0=>[45]|1=>[46]|4=>[4]|_=>[]
def mnΦ (xv hv:Value) (b1:Nat) (o1:Obj) (b2:Nat) (o2:Obj) (i:Nat) (t:Nat→Value) (w':World):Prop:=match i with
 |0=>t 45=xv
 |1=>t 46=hv
 |2=>w'.heap[b1]?=some o1
 |3=>w'.heap[b2]?=some o2
 |4=>t 4=.int .i64 0
 |_=>True
theorem a2V(xv hv:Value)(b1:Nat)(o1:Obj)(b2:Nat)(o2:Obj):∀i t t' w w',mnΦ xv hv b1 o1 b2 o2 i t w→(∀s∈mnS i,t' s=t s)→Two b1 o1 b2 o2 w w'→mnΦ xv hv b1 o1 b2 o2 i t' w':=by
 intro i t t' w w' h hs' ht
 match i with
 |0=>exact(hs' 45 dc0).trans h
 |1=>exact(hs' 46 dc0).trans h
 |2=>exact(QT ht h).elim id id
 |3=>exact(QI ht h).elim id id
 |4=>exact(hs' 4 dc0).trans h
 |i+5=>trivial
theorem a2m(ao:Option Addr)(n cap:Nat)(ko:Option Addr)(kn kcap:Nat)(hs:List RH)(gr:Gr)(w:World)(hG:QL w ao n ko kn hs gr):
  Calls Tryz.prog 117 #[.agg #[.slice ao n cap,.slice ko kn kcap]] w fun e w'=>a3l w (Q3 gr) (ah3 gr) (ah8 gr) (B4 gr) e w':=by
 have hlen:=hG.kl;have hkh:=hG.kh.len;have hsl:=hG.sl.len;have m1:=hG.n1;have m2:=hG.n2;cases hO:QV gr
 ·have he:B4 gr=8:=by rw[B4,hO];rfl
  have hC:QE gr=8:=by rw[QE,hO];rfl
  rw[Q3,ah3,ah8,he];go_enter Tryz.func117,Tryz.ntmps117;go_wp2_with (go_at_call 27;refine pm0 (Zj hC _ _ _ _ _ _ hs (hG.ex sk0)) fun nx=>?_);exact bodyPost_ret (v:=.tuple #[.agg #[.slice none 0 0,.slice none 0 0],.agg #[.int .i64 0,.int .i64 0],.int .i64 8]) (by simp[results,Tryz.results117,go_sem,↓IntWalk.iteOmega]) rfl ⟨none,0,none,0,[],rfl,sk0,zK⟩
 have hC:QE gr=0:=by rw[QE,hO];rfl
 by_cases he:H7 gr.sl=0;rotate_left
 ·have he2:B4 gr=H7 gr.sl:=by rw[B4,hO];rfl
  have he9:H7 gr.sl=9:=by
   have ho:=(zx hO).1;unfold H7 at he ⊢;rw[if_pos ho]at he ⊢;split at he
   ·exact absurd rfl he
   ·rename_i h1;rw[if_neg h1];split at he
    ·rename_i h2;rw[if_pos h2]
    ·exact absurd rfl he
  rw[he9]at he2;rw[Q3,ah3,ah8,he2];go_enter Tryz.func117,Tryz.ntmps117;go_wp2_with (first|(go_at_call 27;refine pm0 (Zj hC _ _ _ _ _ _ hs (hG.ex sk0)) fun nx=>?_)|(go_at_call 161;refine(ap6 _ _ _ gr.sl _ (hG.sl.ex sk0) om0).mono ?_;rw[he9];rintro e wm ⟨xa,xc,rfl,⟨ym,rfl⟩,om⟩));exact bodyPost_ret (v:=.tuple #[.agg #[.slice none 0 0,.slice none 0 0],.agg #[.int .i64 0,.int .i64 0],.int .i64 9]) (by simp[results,Tryz.results117,go_sem,↓IntWalk.iteOmega]) rfl ⟨none,0,none,0,[],rfl,sk0,zK⟩
 have he2:B4 gr=0:=by rw[B4,hO];exact he
 rw[Q3,ah3,ah8,he2,if_pos rfl,if_pos rfl,if_pos rfl];have hR:U2 gr.sl=qP gr.sl:=by rw[U2,if_pos he]
 have hS:mkS gr.sl=zb gr.sl:=by rw[mkS,if_pos he]
 have hGn:mkG gr.sl=zQ gr.sl:=by rw[mkG,if_pos he]
 have hmb1:(qP gr.sl).length≤n+1:=by rw[Qc];split<;>omega
 have h2:=(zx hO).2.1;have hfl:=QS gr.sl;go_enter Tryz.func117,Tryz.ntmps117;go_upto_region 7 with(first|(go_at_call 27;refine pm0 (Zj hC _ _ _ _ _ _ hs (hG.ex sk0)) fun nx=>?_)|(go_at_call 161;refine(ap6 _ _ _ gr.sl _ (hG.sl.ex sk0) om0).mono ?_;rw[he,hR,hS,hGn];rintro e wm ⟨xa,xc,rfl,hwm,om⟩));have zm:w.heap.size+1+1+1≤wm.heap.size:=by
  have:=qu hwm;simp[go_sem]at this;omega
 have hTw:∃y,(wm.alloc (.cells #[.slice xa (qP gr.sl).length xc] 24)).alloc (.cells #[.int .i64 (zb gr.sl),.int .i64 (zQ gr.sl)] 32)=plus w y:=sn0;have bA0:((wm.alloc (.cells #[.slice xa (qP gr.sl).length xc] 24)).alloc (.cells #[.int .i64 (zb gr.sl),.int .i64 (zQ gr.sl)] 32)).heap[wm.heap.size]?=some (.cells #[.slice xa (qP gr.sl).length xc] 24):=by rw[qe,if_neg (by simp),qe,if_pos rfl]
 have bH0:((wm.alloc (.cells #[.slice xa (qP gr.sl).length xc] 24)).alloc (.cells #[.int .i64 (zb gr.sl),.int .i64 (zQ gr.sl)] 32)).heap[wm.heap.size+1]?=some (.cells #[.int .i64 (zb gr.sl),.int .i64 (zQ gr.sl)] 32):=by rw[qe,if_pos (by simp)]
 have bG0:((wm.alloc (.cells #[.slice xa (qP gr.sl).length xc] 24)).alloc (.cells #[.int .i64 (zb gr.sl),.int .i64 (zQ gr.sl)] 32)).heap[w.heap.size]?=some (.cells #[.slice ao n cap,.slice ko kn kcap] 27):=i7 (w:=(w.alloc (.cells #[.slice ao n cap,.slice ko kn kcap] 27))) sn0 (by rw[qe,if_pos rfl]);have b10:((wm.alloc (.cells #[.slice xa (qP gr.sl).length xc] 24)).alloc (.cells #[.int .i64 (zb gr.sl),.int .i64 (zQ gr.sl)] 32)).heap[w.heap.size+1]?=some (.cells #[.slice none 0 0,.slice none 0 0] 27):=i7 (w:=(w.alloc (.cells #[.slice ao n cap,.slice ko kn kcap] 27)).alloc (.cells #[.slice none 0 0,.slice none 0 0] 27)) sn0 (by rw[qe,if_pos (by simp)]);have b20:((wm.alloc (.cells #[.slice xa (qP gr.sl).length xc] 24)).alloc (.cells #[.int .i64 (zb gr.sl),.int .i64 (zQ gr.sl)] 32)).heap[w.heap.size+1+1]?=some (.cells #[.int .i64 0,.int .i64 0] 32):=i7 (w:=((w.alloc (.cells #[.slice ao n cap,.slice ko kn kcap] 27)).alloc (.cells #[.slice none 0 0,.slice none 0 0] 27)).alloc (.cells #[.int .i64 0,.int .i64 0] 32)) sn0 (by rw[qe,if_pos (by simp)]);have ox0:=(om.ex (qE (o:=(.cells #[.int .i64 (zb gr.sl),.int .i64 (zQ gr.sl)] 32)) (qE (o:=(.cells #[.slice xa (qP gr.sl).length xc] 24)) (j5 wm)))).base (T':=w) (by simp[go_sem];omega);clear om;generalize (wm.alloc (.cells #[.slice xa (qP gr.sl).length xc] 24)).alloc (.cells #[.int .i64 (zb gr.sl),.int .i64 (zQ gr.sl)] 32)=Tw at*;have l20:=qi b20;have lA0:=qi bA0;have lH0:=qi bH0;have a0:=i6 (i:=0) bA0 rfl;have g1:=i6 (i:=1) bG0 rfl;have la0:=qi bA0;have lg1:=qi bG0;refine zJ 6 a9F (a4e Tw w.heap.size xa ((qP gr.sl).length) xc ko kn kcap gr.ks) kr0 kr0 dc0 (a4V Tw w.heap.size xa ((qP gr.sl).length) xc ko kn kcap gr.ks) ?steps ?fin
 case steps=>
  refine⟨?_,?_,?_,?_,?_,?_,trivial⟩<;>intro a w' hg hfree hdeep<;>obtain⟨x,rfl⟩:=hg
  ·have f6_:=hfree 6 kr0;simp only[a4e,got]at f6_;simp[go_sem]at f6_;unfold Oper.wp;simp[go_sem,execOp,Act.eval,↓IntWalk.iteOmega,f6_,a0];exact⟨_,rfl,j5 _,by simp[a4e,upd]⟩
  ·have f1_:=hfree 1 kr0;simp only[a4e,got]at f1_;simp[go_sem]at f1_;unfold Oper.wp;simp[go_sem,execOp,Act.eval,↓IntWalk.iteOmega,f1_];exact⟨_,rfl,j5 _,by simp[a4e,upd]⟩
  ·have d1:=hdeep 1 kr0;simp only[a4e,got]at d1;unfold Oper.wp;simp[go_sem,execOp,Act.eval,↓IntWalk.iteOmega,d1,g1];exact⟨_,rfl,j5 _,by simp[a4e,upd]⟩
  ·have d2:=hdeep 2 kr0;simp only[a4e,got]at d2;unfold Oper.wp;simp[go_sem,execOp,Act.eval,↓IntWalk.iteOmega,d2];refine(ZB ao n cap _ _ _ hs gr _ (hG.ex (zt hTw))).mono ?_;rintro e w1 ⟨k1,c1,hs1,rfl,hw1,o1⟩;exact⟨_,rfl,hw1,k1,c1,hs1,by simp[upd],o1.base (by rw[qn];omega)⟩
  ·have d0:=hdeep 0 kr0;obtain⟨a8,c8,_,e8,_⟩:∃a_ c hs,got a 32=.slice a_ kn c∧_:=hdeep 3 kr0;simp only[a4e,got]at d0;have g8:=e8;simp only[got]at g8;simp at g8;simp at d0;unfold Oper.wp;simp[go_sem,execOp,Act.eval,↓IntWalk.iteOmega,d0,g8];exact⟨_,rfl,j5 _,.slice a8 kn c8,by simp[upd],by simp[upd];exact e8⟩
  ·unfold Oper.wp;simp[go_sem,execOp,Act.eval];exact⟨_,rfl,qE (j5 _),_,by simp[upd];rfl,by simp[go_sem],by rw[qe,if_pos (by simp[go_sem])]⟩
 case fin=>
  rintro t w2 hg2 hΦ;have r0:=hΦ 0 dc0;have r1:=hΦ 1 dc0;have r2:=hΦ 2 dc0;obtain⟨ka,kc,hs1,r3,kO⟩:=hΦ 3 dc0;obtain⟨c9,r4,r4b⟩:=hΦ 4 dc0;obtain⟨pm,r5,hpm,hpb⟩:=hΦ 5 dc0;rw[r3]at r4b;cases r4b;simp only[a4e]at r0 r1 r2;simp only[zh,List.take_succ_cons,List.take_zero,List.drop_succ_cons,List.drop_zero,r0,r1,r2,r3,r4,r5];simp only[Act.put];simp only[List.setIfInBounds_toArray,List.set_cons_succ,List.set_cons_zero];clear hΦ r0 r1 r2 r3 r4 r5 a0 g1;have pc0:=i6 (i:=0) hpb rfl;have pc1:=i6 (i:=1) hpb rfl;have pz0:=j9 (i:=0) hpb;have pz1:=j9 (i:=1) hpb;go_upto_region 8 with fail;refine zo (fun w'=>w'=(w2.setCell ⟨pm,0,none⟩ (.slice xa ((qP gr.sl).length) xc)).setCell ⟨pm,1,none⟩ (.slice ka kn kc)) rfl ?_;rintro w3 e3;have bv3:w3.heap[pm]?=some (.cells #[.slice xa ((qP gr.sl).length) xc,.slice ka kn kc] 27):=by rw[e3];exact j7 (j7 hpb)
  have hx3:∃y,w3=plus Tw y:=by rw[e3];exact qb (qb hg2 hpm) hpm
  have ox3:Own 86 2 fS w w3 xa ((qP gr.sl).length) xc (qP gr.sl):=by rw[e3];exact((ox0.ex hg2).set_other hpb dc0).set_other (j7 hpb) dc0
  have kO3:an6 Tw w3 ka kn kc hs1 gr.ks:=by rw[e3];exact(kO.set_other hpb dc0 dc0).set_other (j7 hpb) dc0 dc0
  have bH3:w3.heap[wm.heap.size+1]?=some (.cells #[.int .i64 (zb gr.sl),.int .i64 (zQ gr.sl)] 32):=by rw[e3];exact((qd (by have:=qi bH0;omega)).trans (qd (by have:=qi bH0;omega))).trans (i7 hg2 bH0)
  have b13:w3.heap[w.heap.size+1]?=some (.cells #[.slice none 0 0,.slice none 0 0] 27):=by rw[e3];exact((qd (by have:=qi b10;omega)).trans (qd (by have:=qi b10;omega))).trans (i7 hg2 b10)
  have b23:w3.heap[w.heap.size+1+1]?=some (.cells #[.int .i64 0,.int .i64 0] 32):=by rw[e3];exact((qd (by have:=qi b20;omega)).trans (qd (by have:=qi b20;omega))).trans (i7 hg2 b20)
  clear e3 kO hpb pc0 pc1 pz0 pz1 ox0 hg2;have lpm:=qi bv3;clear bA0 bH0 bG0 b10 b20;have hxw:∃y,w3=plus w y:=i9 hTw hx3;have h7:=bH3;have s0:=i6 (i:=0) h7 rfl;have v1:=i6 (i:=1) bv3 rfl;have y1:=j9 (i:=1) bv3;have hk1:=kO3.kh.1;have ok3:=kO3.kh.base (T':=w) (qu hTw);have rows3:∀j,j<hs1.length→Own 32 2 f2 Tw w3 (nth dRH hs1 j).ao (nth dRH hs1 j).n (nth dRH hs1 j).cap (nth [] gr.ks j):=kO3.row;have hl1:=kO3.len;clear kO3 h7;have lH3:=qi bH3;by_cases hlt:B3 gr.sl<n;rotate_left
  ·have hse:(zb gr.sl==(kn:Int))=true:=by rw[beq_iff_eq,zb];omega
   have hML1:kn+1≤(qP gr.sl).length:=by rw[Qc,if_neg om0];omega
   go_upto_region 10 with(at_builtin;refine qW (T:=w) rfl _ _ rfl a8Z a4O a9k rfl (ZM sk0 hxw) (ok3.ex sk0) rfl (l2:=[dRH]) ⟨rfl,.inr ⟨_,0,rfl,by(simp[go_sem];try omega),fun jj u hu=>by match jj,hu with|0,hu=>(simp[fR,dRH]at hu;subst hu;simp[go_sem,↓IntWalk.iteOmega])|jj+1,hu=>simp[fR]at hu⟩⟩ om0 dc0 ?_;intro kb kd w4 ok4 hx4 hgr4;have bv4:=t8 hgr4 (ok3.ex sk0) (i7 (w':=w3.alloc (.cells #[.slice none 0 0] 88)) sk0 bv3) dc0;have v14:=i6 (i:=1) bv4 rfl;have y14:=j9 (i:=1) bv4;have lv4:=qi bv4);have bH5:=t8 hgr4 (ok3.ex sk0) (i7 (w':=w3.alloc (.cells #[.slice none 0 0] 88)) sk0 bH3) dc0;have b15:=t8 hgr4 (ok3.ex sk0) (i7 (w':=w3.alloc (.cells #[.slice none 0 0] 88)) sk0 b13) dc0;have b25:=t8 hgr4 (ok3.ex sk0) (i7 (w':=w3.alloc (.cells #[.slice none 0 0] 88)) sk0 b23) dc0;have ox5:=(zj hgr4 (ok3.ex sk0) (ox3.ex (w':=w3.alloc (.cells #[.slice none 0 0] 88)) sk0) dc0).set_other (i:=1) (u:=.slice kb (kn+1) kd) bv4 dc0;have kh5:=ok4.set_other (i:=1) (u:=.slice kb (kn+1) kd) bv4 dc0;refine zo (fun w'=>w'=w4.setCell ⟨pm,1,none⟩ (.slice kb (kn+1) kd)) rfl ?_;rintro w5 e5;have bH6:=Z5 e5 ((qd om0).trans bH5);have b16:=Z5 e5 ((qd om0).trans b15);have b26:=Z5 e5 ((qd om0).trans b25);have bv6:w5.heap[pm]?=some (.cells #[.slice xa (qP gr.sl).length xc,.slice kb (kn+1) kd] 27):=by rw[e5];exact j7 bv4
   have hx6:∃y,w5=plus w y:=by rw[e5];exact qb hx4 (by have:=qu hTw;omega)
   have rows6:∀j,j<(hs1++[dRH]).length→Own 32 2 f2 Tw w5 (nth dRH (hs1++[dRH]) j).ao (nth dRH (hs1++[dRH]) j).n (nth dRH (hs1++[dRH]) j).cap (nth [] (H5 gr).ks j):=fun j hj=>by
    rw[QQ,e5];by_cases hjl:j<hs1.length
    ·rw[zB hjl];exact(zj hgr4 (ok3.ex sk0) ((rows3 j hjl).ex (w':=w3.alloc (.cells #[.slice none 0 0] 88)) sk0) dc0).set_other bv4 dc0
    ·rw[List.length_append]at hj;simp only[List.length_cons,List.length_nil]at hj;rw[zG om0,show j - hs1.length=0 by omega,Q5 (l:=gr.ks) om0];exact zd
   have hMk:(H5 gr).ks.length=kn+1:=by
    show(if gr.ks.length<(qP gr.sl).length then gr.ks++[[]]else gr.ks).length=_;rw[if_pos om0,List.length_append,hlen];rfl
   have hMl:(hs1++[dRH]).length=(H5 gr).ks.length:=by rw[hMk,List.length_append,hk1];rfl
   rw[←e5]at ox5 kh5;clear e5 ox3 ok3 rows3 bH5 b15 b25 bv4 hgr4 ok4 hx4 v1 y1 s0 bH3 b13 b23 bv3 hx3 hML1 hmb1;have f0:=i6 (i:=0) bv6 rfl;have f1:=i6 (i:=1) bv6 rfl;have f2':=i6 (i:=0) bH6 rfl;have f3':=i6 (i:=1) bH6 rfl;have nb:w.heap.size+1≠w.heap.size+1+1:=om0;have zT:=qu hTw;refine M5 5 mnS (mnΦ (.agg #[.slice xa (qP gr.sl).length xc,.slice kb (kn+1) kd]) (.agg #[.int .i64 (zb gr.sl),.int .i64 (zQ gr.sl)]) (w.heap.size+1) (.cells #[.slice xa (qP gr.sl).length xc,.slice kb (kn+1) kd] 27) (w.heap.size+1+1) (.cells #[.int .i64 (zb gr.sl),.int .i64 (zQ gr.sl)] 32)) (Two (w.heap.size+1) (.cells #[.slice xa (qP gr.sl).length xc,.slice kb (kn+1) kd] 27) (w.heap.size+1+1) (.cells #[.int .i64 (zb gr.sl),.int .i64 (zQ gr.sl)] 32)) R0 (V5 _) kr0 kr0 dc0 (a2V _ _ _ _ _ _) ?steps ?fin
   case steps=>
    refine⟨?_,?_,?_,?_,?_,trivial⟩<;>intro a w' hg hfree hdeep
    ·have f8':=hfree 9 kr0;have e0:=A1 hg f0 om0 om0;have e1:=A1 hg f1 om0 om0;simp only[mnΦ,got]at f8';simp[go_sem]at f8';unfold Oper.wp;simp[go_sem,execOp,Act.eval,↓IntWalk.iteOmega,f8',e0,e1];exact⟨_,rfl,zL _,by simp[mnΦ,upd]⟩
    ·have f6':=hfree 7 kr0;have e0:=A1 hg f2' om0 om0;have e1:=A1 hg f3' om0 om0;simp only[mnΦ,got]at f6';simp[go_sem]at f6';unfold Oper.wp;simp[go_sem,execOp,Act.eval,↓IntWalk.iteOmega,f6',e0,e1];exact⟨_,rfl,zL _,by simp[mnΦ,upd]⟩
    ·have f2:=hfree 2 kr0;have d0:=hdeep 0 kr0;simp only[mnΦ,got]at f2 d0;simp[go_sem]at f2;rcases QT hg b16 with hb|hb
     ·have c0':=i6 (i:=0) hb rfl;have z0':=j9 (i:=0) hb;have c1':=i6 (i:=1) hb rfl;have z1':=j9 (i:=1) hb;unfold Oper.wp;simp[go_sem,execOp,Act.eval,f2,d0,c0',z0',c1',z1'];exact⟨Qs nb (j7 (j7 hb)),undef,j7 (j7 hb)⟩
     ·have c0':=i6 (i:=0) hb rfl;have z0':=j9 (i:=0) hb;have c1':=i6 (i:=1) hb rfl;have z1':=j9 (i:=1) hb;unfold Oper.wp;simp[go_sem,execOp,Act.eval,f2,d0,c0',z0',c1',z1'];exact⟨Qs nb (j7 (j7 hb)),undef,j7 (j7 hb)⟩
    ·have f3:=hfree 3 kr0;have d1:=hdeep 1 kr0;simp only[mnΦ,got]at f3 d1;simp[go_sem]at f3;rcases QI hg b26 with hb|hb
     ·have c0':=i6 (i:=0) hb rfl;have z0':=j9 (i:=0) hb;have c1':=i6 (i:=1) hb rfl;have z1':=j9 (i:=1) hb;unfold Oper.wp;simp[go_sem,execOp,Act.eval,f3,d1,c0',z0',c1',z1'];exact⟨J0 nb (j7 (j7 hb)),undef,j7 (j7 hb)⟩
     ·have c0':=i6 (i:=0) hb rfl;have z0':=j9 (i:=0) hb;have c1':=i6 (i:=1) hb rfl;have z1':=j9 (i:=1) hb;unfold Oper.wp;simp[go_sem,execOp,Act.eval,f3,d1,c0',z0',c1',z1'];exact⟨J0 nb (j7 (j7 hb)),undef,j7 (j7 hb)⟩
    ·unfold Oper.wp;simp[go_sem,execOp,Act.eval,↓IntWalk.iteOmega];exact⟨_,rfl,zL _,by simp[mnΦ,upd]⟩
   case fin=>
    rintro t w9 hg hΦ;have h9:=hΦ 2 dc0;have h10:=hΦ 3 dc0;have h11:=hΦ 4 dc0;simp only[mnΦ]at h9 h10 h11;have ox9:=ox5.two hg b16 b26 dc0 dc0;have kh9:=kh5.two hg b16 b26 dc0 dc0;have rows9:∀j,j<(hs1++[dRH]).length→Own 32 2 f2 w w9 (nth dRH (hs1++[dRH]) j).ao (nth dRH (hs1++[dRH]) j).n (nth dRH (hs1++[dRH]) j).cap (nth [] (H5 gr).ks j):=fun j hj=>((rows6 j hj).two_same hg b16 dc0 l20).base zT
    have hx9:=al7 hg hx6 om0 om0;simp only[zh,List.take_succ_cons,List.take_zero,List.take_nil,Act.put];simp only[List.setIfInBounds_toArray,List.set_cons_succ,List.set_cons_zero,h11];simp only[List.drop_succ_cons,List.drop_zero];have k0:=i6 (i:=0) h9 rfl;have k1:=i6 (i:=1) h9 rfl;have k2:=i6 (i:=0) h10 rfl;have k3:=i6 (i:=1) h10 rfl;clear hΦ hg f0 f1 f2' f3' rows6 ox5 kh5 bH6 b16 b26 bv6 hx6;go_wp2;have hpost:a3l w (H5 gr) (zb gr.sl) (zQ gr.sl) 0 (.returned (.tuple #[.agg #[.slice xa (qP gr.sl).length xc,.slice kb (kn+1) kd],.agg #[.int .i64 (zb gr.sl),.int .i64 (zQ gr.sl)],.int .i64 0])) w9:=by
     refine⟨xa,xc,kb,kd,(hs1++[dRH]),?_,hx9,?_⟩
     ·rw[hMk];rfl
     ·rw[hMk];exact⟨ox9,kh9,hMl,rows9⟩
    exact bodyPost_ret (v:=.tuple #[.agg #[.slice xa (qP gr.sl).length xc,.slice kb (kn+1) kd],.agg #[.int .i64 (zb gr.sl),.int .i64 (zQ gr.sl)],.int .i64 0]) (by simp[results,Tryz.results117,go_sem,k0,k1,k2,k3]) rfl hpost
  ·have hse:(zb gr.sl==(kn:Int))=false:=by rw[beq_eq_false_iff_ne,zb];omega
   have hML1:(qP gr.sl).length≤kn:=by rw[Qc,if_pos om0];omega
   have hMk:(H5 gr).ks.length=kn:=by
    show(if gr.ks.length<(qP gr.sl).length then gr.ks++[[]]else gr.ks).length=_;rw[if_neg om0,hlen]
   have hMl:hs1.length=(H5 gr).ks.length:=by rw[hMk,hk1]
   clear hML1 hmb1;go_upto_region 10 with fail;have rows6:∀j,j<hs1.length→Own 32 2 f2 Tw w3 (nth dRH hs1 j).ao (nth dRH hs1 j).n (nth dRH hs1 j).cap (nth [] (H5 gr).ks j):=fun j hj=>by rw[QQ];exact rows3 j hj
   clear rows3 v1 y1 s0;have f0:=i6 (i:=0) bv3 rfl;have f1:=i6 (i:=1) bv3 rfl;have f2':=i6 (i:=0) bH3 rfl;have f3':=i6 (i:=1) bH3 rfl;have nb:w.heap.size+1≠w.heap.size+1+1:=om0;have zT:=qu hTw;refine M5 5 mnS (mnΦ (.agg #[.slice xa (qP gr.sl).length xc,.slice ka kn kc]) (.agg #[.int .i64 (zb gr.sl),.int .i64 (zQ gr.sl)]) (w.heap.size+1) (.cells #[.slice xa (qP gr.sl).length xc,.slice ka kn kc] 27) (w.heap.size+1+1) (.cells #[.int .i64 (zb gr.sl),.int .i64 (zQ gr.sl)] 32)) (Two (w.heap.size+1) (.cells #[.slice xa (qP gr.sl).length xc,.slice ka kn kc] 27) (w.heap.size+1+1) (.cells #[.int .i64 (zb gr.sl),.int .i64 (zQ gr.sl)] 32)) R0 (V5 _) kr0 kr0 dc0 (a2V _ _ _ _ _ _) ?steps ?fin
   case steps=>
    refine⟨?_,?_,?_,?_,?_,trivial⟩<;>intro a w' hg hfree hdeep
    ·have f8':=hfree 9 kr0;have e0:=A1 hg f0 om0 om0;have e1:=A1 hg f1 om0 om0;simp only[mnΦ,got]at f8';simp[go_sem]at f8';unfold Oper.wp;simp[go_sem,execOp,Act.eval,↓IntWalk.iteOmega,f8',e0,e1];exact⟨_,rfl,zL _,by simp[mnΦ,upd]⟩
    ·have f6':=hfree 7 kr0;have e0:=A1 hg f2' om0 om0;have e1:=A1 hg f3' om0 om0;simp only[mnΦ,got]at f6';simp[go_sem]at f6';unfold Oper.wp;simp[go_sem,execOp,Act.eval,↓IntWalk.iteOmega,f6',e0,e1];exact⟨_,rfl,zL _,by simp[mnΦ,upd]⟩
    ·have f2:=hfree 2 kr0;have d0:=hdeep 0 kr0;simp only[mnΦ,got]at f2 d0;simp[go_sem]at f2;rcases QT hg b13 with hb|hb
     ·have c0':=i6 (i:=0) hb rfl;have z0':=j9 (i:=0) hb;have c1':=i6 (i:=1) hb rfl;have z1':=j9 (i:=1) hb;unfold Oper.wp;simp[go_sem,execOp,Act.eval,f2,d0,c0',z0',c1',z1'];exact⟨Qs nb (j7 (j7 hb)),undef,j7 (j7 hb)⟩
     ·have c0':=i6 (i:=0) hb rfl;have z0':=j9 (i:=0) hb;have c1':=i6 (i:=1) hb rfl;have z1':=j9 (i:=1) hb;unfold Oper.wp;simp[go_sem,execOp,Act.eval,f2,d0,c0',z0',c1',z1'];exact⟨Qs nb (j7 (j7 hb)),undef,j7 (j7 hb)⟩
    ·have f3:=hfree 3 kr0;have d1:=hdeep 1 kr0;simp only[mnΦ,got]at f3 d1;simp[go_sem]at f3;rcases QI hg b23 with hb|hb
     ·have c0':=i6 (i:=0) hb rfl;have z0':=j9 (i:=0) hb;have c1':=i6 (i:=1) hb rfl;have z1':=j9 (i:=1) hb;unfold Oper.wp;simp[go_sem,execOp,Act.eval,f3,d1,c0',z0',c1',z1'];exact⟨J0 nb (j7 (j7 hb)),undef,j7 (j7 hb)⟩
     ·have c0':=i6 (i:=0) hb rfl;have z0':=j9 (i:=0) hb;have c1':=i6 (i:=1) hb rfl;have z1':=j9 (i:=1) hb;unfold Oper.wp;simp[go_sem,execOp,Act.eval,f3,d1,c0',z0',c1',z1'];exact⟨J0 nb (j7 (j7 hb)),undef,j7 (j7 hb)⟩
    ·unfold Oper.wp;simp[go_sem,execOp,Act.eval,↓IntWalk.iteOmega];exact⟨_,rfl,zL _,by simp[mnΦ,upd]⟩
   case fin=>
    rintro t w9 hg hΦ;have h9:=hΦ 2 dc0;have h10:=hΦ 3 dc0;have h11:=hΦ 4 dc0;simp only[mnΦ]at h9 h10 h11;have ox9:=ox3.two hg b13 b23 dc0 dc0;have kh9:=ok3.two hg b13 b23 dc0 dc0;have rows9:∀j,j<hs1.length→Own 32 2 f2 w w9 (nth dRH hs1 j).ao (nth dRH hs1 j).n (nth dRH hs1 j).cap (nth [] (H5 gr).ks j):=fun j hj=>((rows6 j hj).two_same hg b13 dc0 l20).base zT
    have hx9:=al7 hg hxw om0 om0;simp only[zh,List.take_succ_cons,List.take_zero,List.take_nil,Act.put];simp only[List.setIfInBounds_toArray,List.set_cons_succ,List.set_cons_zero,h11];simp only[List.drop_succ_cons,List.drop_zero];have k0:=i6 (i:=0) h9 rfl;have k1:=i6 (i:=1) h9 rfl;have k2:=i6 (i:=0) h10 rfl;have k3:=i6 (i:=1) h10 rfl;clear hΦ hg f0 f1 f2' f3' rows6 ox3 ok3 bH3 b13 b23 bv3 hxw;go_wp2;have hpost:a3l w (H5 gr) (zb gr.sl) (zQ gr.sl) 0 (.returned (.tuple #[.agg #[.slice xa (qP gr.sl).length xc,.slice ka kn kc],.agg #[.int .i64 (zb gr.sl),.int .i64 (zQ gr.sl)],.int .i64 0])) w9:=by
     refine⟨xa,xc,ka,kc,hs1,?_,hx9,?_⟩
     ·rw[hMk];rfl
     ·rw[hMk];exact⟨ox9,kh9,hMl,rows9⟩
    exact bodyPost_ret (v:=.tuple #[.agg #[.slice xa (qP gr.sl).length xc,.slice ka kn kc],.agg #[.int .i64 (zb gr.sl),.int .i64 (zQ gr.sl)],.int .i64 0]) (by simp[results,Tryz.results117,go_sem,k0,k1,k2,k3]) rfl hpost
end
/- Lists in memory of the call's own that are written in place:append with room,copy,clear. -/
open Go.RowKit Go.ChangeShapes Go.WideShapes Go.ChangeAt
section
section
variable {α:Type} {f:α→List Value} {P:Program} {w w' T:World} {n m cap c g i k:Nat} {l l2 L:List α} {e t:TypeId} {b:Nat} {so:Option Addr}
theorem QX(h:Own e c f T w (some ⟨g,0,none⟩) n cap l):∃cur,w.heap[g]?=some (.cells cur e)∧cur.size=cap*c∧cur.toList.take (n*c)=l.flatMap f∧T.heap.size≤g∧n≤cap∧cap≤maxLen:=by
 rcases h.2.2 with⟨h1,_⟩|⟨q,cp,cu,h1,h2,h3,h4,h5,h6,h7⟩
 ·simp at h1
 ·simp only[Value.slice.injEq,Option.some.injEq,Addr.mk.injEq]at h1;obtain⟨⟨rfl,_,_⟩,_,rfl⟩:=h1;exact⟨cu,h3,h6,h7,h2,h4,h5⟩
theorem a06{cur:Array Value}(hl:l.length=n)(hc:∀x,(f x).length=c)(hb:w.heap[g]?=some (.cells cur e))(hT:T.heap.size≤g)(h1:n≤cap)(h2:cap≤maxLen)(hs:cur.size=cap*c)(ht:cur.toList.take (n*c)=l.flatMap f):Own e c f T w (some ⟨g,0,none⟩) n cap l:=
 ⟨hl,by rw[zE hc,hl],.inr ⟨g,cap,cur,rfl,hT,hb,h1,h2,hs,ht⟩⟩
theorem aa6(hc:∀x,(f x).length=c)(l:List α)(i:Nat)(hi:i≤l.length):(l.flatMap f).take (i*c)=(l.take i).flatMap f:=by
 have hl:l.flatMap f=(l.take i).flatMap f++(l.drop i).flatMap f:=by rw[←List.flatMap_append,List.take_append_drop]
 have h2:((l.take i).flatMap f).length=i*c:=by rw[zE hc,List.length_take,Nat.min_eq_left hi]
 rw[hl,←h2,List.take_left]
theorem a1B(hc:∀x,(f x).length=c)(h:Own e c f T w (some ⟨g,0,none⟩) n cap l)(hi:i≤n):Own e c f T w (some ⟨g,0,none⟩) i cap (l.take i):=by
 obtain⟨cur,h1,h2,h3,h4,h5,h6⟩:=QX h;have hl:=h.1;refine a06 (by rw[List.length_take];omega) hc h1 h4 om0 h6 h2 ?_;rw[←aa6 hc l i om0,←h3,List.take_take,Nat.min_eq_left (Nat.mul_le_mul_right c hi)]
theorem Qr(w:World)(g:Nat)(a:Array Value):w.grownBy (w.setRow g a) (some g):=⟨rfl,rfl,rfl,by simp,fun k _ hk=>setRow_other w g k _ (fun e=>hk (by simp[e]))⟩
theorem ad1{ty:TypeId}(hk:Kin P t e c b)(hc:∀x,(f x).length=c)(h1:∀x,∀u∈f x,u.oneCell'=true)(h:Own e c f T w (some ⟨g,0,none⟩) n cap l)(hl:Lay f w so m l2)(hm:n+m≤cap)(c2:Nat):
  ∃w',(Builtin.append_ #[t,t] ty #[.slice (some ⟨g,0,none⟩) n cap,.slice so m c2]).run P w=.ok (.slice (some ⟨g,0,none⟩) (n+m) cap) w'∧Own e c f T w' (some ⟨g,0,none⟩) (n+m) cap (l++l2)∧w.grownBy w' (some g):=by
 by_cases h0:m=0
 ·subst h0;refine⟨w,QM hk om0 c2,?_,⟨rfl,rfl,rfl,Nat.le_refl _,fun _ _ _=>rfl⟩⟩;rw[hl.zero,List.append_nil,Nat.add_zero];exact h
 obtain⟨q,off,rfl,hq,hcell⟩:=hl.some om0;obtain⟨cur,hb,hs,ht,hT,hn,hm2⟩:=QX h;obtain⟨ti,z,hi,hz,hz1,hz2,hz3⟩:=hk.info;subst hz1;have hlen:(l2.flatMap f).length=m*ti.size:=by rw[zE hc,hl.len]
 have hfit:n*ti.size+(l2.flatMap f).length≤cur.size:=by rw[hlen,hs,←Nat.add_mul];exact Nat.mul_le_mul_right _ hm
 have hr:=run_append_room (P:=P) w t ty e ti hk.und hi g n cap cur hb ⟨q,off,none⟩ m c2 (l2.flatMap f) hlen (fun j u hu=>by have hadd:(⟨q,off,none⟩:Addr).add j=⟨q,off+j,none⟩:=(by unfold Addr.add;split<;>simp_all);rw[hadd];exact hcell j u hu) (Zy h1 l2) hm hfit;refine⟨_,hr,a06 (by rw[List.length_append,h.1,hl.len]) hc (setRow_heap w g cur _ e _ hb) hT hm hm2 ?_ ?_,Qr w g _⟩
 ·simp only[List.size_toArray,List.length_append,List.length_take,List.length_drop,Array.length_toList];omega
 ·rw[ht];have h3:(l.flatMap f).length=n*ti.size:=by rw[zE hc,h.1]
  rw[List.flatMap_append,List.take_append_of_le_length (by rw[List.length_append,h3,hlen,Nat.add_mul];exact Nat.le_refl _)];exact List.take_of_length_le (by rw[List.length_append,h3,hlen,Nat.add_mul];exact Nat.le_refl _)
theorem Qn{ty t2:TypeId}{cur:Array Value}{o0 dn dc sn sc q off:Nat}(hk:Kin P t e c b)(vs:List Value)(hv:vs.length=Nat.min sn dn*c)(h1:∀u∈vs,u.oneCell'=true)(hg:w.heap[g]?=some (.cells cur e))(hcell:∀j u,vs[j]?=some u→w.cell? ⟨q,off+j,none⟩=some u)(hfit:o0+vs.length≤cur.size):
  (Builtin.copy_ #[t,t2] ty #[.slice (some ⟨g,o0,none⟩) dn dc,.slice (some ⟨q,off,none⟩) sn sc]).run P w=.ok (goInt (Nat.min sn dn)) (w.setRow g (cur.toList.take o0++vs++cur.toList.drop (o0+vs.length)).toArray):=by
 obtain⟨ti,z,hi,_,hz1,_,_⟩:=hk.info;have hst:=run_storeCells_at P g o0 e vs 0 cur w hg (by simpa using hfit) h1;have hld:=run_loadCells_list (P:=P) w ⟨q,off,none⟩ vs (fun j u hu=>by have hadd:(⟨q,off,none⟩:Addr).add j=⟨q,off+j,none⟩:=(by unfold Addr.add;split<;>simp_all);rw[hadd];exact hcell j u hu);rw[hv]at hld;simp only[Nat.add_zero]at hst;simp[Builtin.copy_,run_underlying hk.und,Builtin.lenOf,Builtin.firstCells,sizeOf,typeInfo,hi,hz1,hld,hst]
end
theorem Qa{P:Program}{w w1:World}{t t2:TypeId}{o:Oper}{a:Act}{Q:Exit→Act→World→Prop}{ops:Array Oper}{rest:List Oper}{vs vx v:Value}(hgd:o.guard=none)(s x:Operand)(ho:o.op=.call {callee:=.builtin .append,args:=#[s,x],argTypes:=#[t,t2]})
  (hs:a.eval s=vs) (hx:a.eval x=vx) (hr:(Builtin.append_ #[t,t2] o.type #[vs,vx]).run P w=.ok v w1) (h:wpList P ops Q rest (a.put o.dst v) w1):wpList P ops Q (o::rest) a w:=by
 refine wpList_plain hgd fun _ hK=>?_
 unfold Oper.wp execOp;simp only[ho,resolve,invoke,builtin,Sem.run_bind,Sem.run_pure,Result.andThen_ok,List.map_toArray,List.map_cons,List.map_nil,hs,hx,hr];exact hK _ _ h
theorem a5l(k:Nat):∀u∈(Builtin.zeroCells #[.int .i64 0,.int .i64 0] k).toList,u.oneCell'=true:=by
 intro u hu;simp only[Builtin.zeroCells,Array.toList_map,List.mem_map]at hu;obtain⟨i,_,rfl⟩:=hu;have h2:i % 2=0∨i % 2=1:=om0;rcases h2 with h2|h2<;>simp[h2,Value.oneCell']
theorem ao6(k:Nat):(Builtin.zeroCells #[.int .i64 0,.int .i64 0] k).toList.length=k*2:=by simp[Builtin.zeroCells]
theorem U1{T w:World}{g m cap i k:Nat}{L:List (Int × Int)}(h:Own 32 2 f2 T w (some ⟨g,0,none⟩) m cap L)(hi:i≤m)(hik:i+k≤cap)(hk0:0<k):
  ∃w',(∀ty c2,(Builtin.clear_ #[88] ty #[.slice (some ⟨g,i*2,none⟩) k c2]).run Tryz.prog w=.ok (.tuple #[]) w')∧w.grownBy w' (some g)∧Own 32 2 f2 T w' (some ⟨g,0,none⟩) i cap (L.take i):=by
 obtain⟨cur,hb,hs,ht,hT,hn,hm2⟩:=QX h;have hst:=run_storeCells_at Tryz.prog g (i*2) 32 (Builtin.zeroCells #[.int .i64 0,.int .i64 0] k).toList 0 cur w hb (by rw[ao6,hs];omega) (a5l k);have hz:(zeroValue 32).run Tryz.prog w=.ok (.agg #[.int .i64 0,.int .i64 0]) w:=kr0;simp only[Nat.add_zero]at hst;have hl:=h.1;have hzs:(Builtin.zeroCells #[.int .i64 0,.int .i64 0] k).size=k*2:=by simp[Builtin.zeroCells]
 refine⟨w.setRow g (cur.toList.take (i*2)++(Builtin.zeroCells #[.int .i64 0,.int .i64 0] k).toList++cur.toList.drop (i*2+(Builtin.zeroCells #[.int .i64 0,.int .i64 0] k).toList.length)).toArray,fun ty c2=>?_,Qr w g _,a06 (by rw[List.length_take];omega) Q1 (setRow_heap w g cur _ _ _ hb) hT om0 hm2 ?_ ?_⟩;rotate_left
 ·simp only[List.size_toArray,List.length_append,List.length_take,List.length_drop,Array.length_toList,ao6];omega
 ·rw[←aa6 Q1 L i om0,←ht,List.take_take,Nat.min_eq_left om0];rw[List.append_assoc,List.take_append_of_le_length (by rw[List.length_take,Array.length_toList];omega),List.take_take,Nat.min_self]
 ·cases k with
  |zero=>omega
  |succ k=>simp[Builtin.clear_,run_underlying Tryz.underlying88,hz,hst,Value.cells,Result.andThen]
end
/- What slices.Delete gives of handles,one place out. -/
section
def a9J (i:Nat):List Nat:=match i with|0=>[20]|1=>[21]|2=>[22]|3=>[23]|4=>[24]|5=>[25]|_=>[]
def a1t (g ix n cap:Nat) (i:Nat) (t:Nat→Value) (w':World):Prop:=match i with
 |0=>t 20=.slice (some ⟨g,0,none⟩) n cap
 |1=>t 21=.int .i64 (ix:Int)
 |2=>t 22=.slice (some ⟨g,0,none⟩) ix cap
 |3=>t 23=.slice (some ⟨g,0,none⟩) n cap
 |4=>t 24=.int .i64 ((ix:Int)+1)
 |5=>t 25=.slice (some ⟨g,0,none⟩) (n - (ix+1)) (cap - (ix+1))
 |_=>True
theorem a5r(g ix n cap:Nat):∀i t t' w' x,a1t g ix n cap i t w'→(∀s∈a9J i,t' s=t s)→a1t g ix n cap i t' (plus w' x):=by
 intro i t t' w' x h hs'
 match i with
 |0=>exact(hs' 20 dc0).trans h
 |1=>exact(hs' 21 dc0).trans h
 |2=>exact(hs' 22 dc0).trans h
 |3=>exact(hs' 23 dc0).trans h
 |4=>exact(hs' 24 dc0).trans h
 |5=>exact(hs' 25 dc0).trans h
 |i+6=>trivial
def a9H (i:Nat):List Nat:=match i with|0=>[20]|1=>[21]|2=>[22]|3=>[23]|4=>[24]|5=>[25]|_=>[]
def a1u (g ix n cap:Nat) (i:Nat) (t:Nat→Value) (w':World):Prop:=match i with
 |0=>t 20=.slice (some ⟨g,0,none⟩) n cap
 |1=>t 21=.int .i64 (ix:Int)
 |2=>t 22=.slice (some ⟨g,0,none⟩) ix cap
 |3=>t 23=.slice (some ⟨g,0,none⟩) n cap
 |4=>t 24=.int .i64 ((ix:Int)+1)
 |5=>t 25=.slice (some ⟨g,(ix+1)*2,none⟩) (n - (ix+1)) (cap - (ix+1))
 |_=>True
theorem a4s(g ix n cap:Nat):∀i t t' w' x,a1u g ix n cap i t w'→(∀s∈a9H i,t' s=t s)→a1u g ix n cap i t' (plus w' x):=by
 intro i t t' w' x h hs'
 match i with
 |0=>exact(hs' 20 dc0).trans h
 |1=>exact(hs' 21 dc0).trans h
 |2=>exact(hs' 22 dc0).trans h
 |3=>exact(hs' 23 dc0).trans h
 |4=>exact(hs' 24 dc0).trans h
 |5=>exact(hs' 25 dc0).trans h
 |i+6=>trivial
theorem Qz{w w':World}(r:Option Nat)(h:∃y,w'=plus w y):w.grownBy w' r:=by
 obtain⟨y,rfl⟩:=h;exact⟨rfl,rfl,rfl,by rw[qn];omega,fun k hk _=>M8 w y k hk⟩
theorem aC7(T w:World)(g n cap:Nat)(l:List (Int × Int))(i:Nat)(h:Own 32 2 f2 T w (some ⟨g,0,none⟩) n cap l)(hn:n≤1000)(hi:i<n):
  Calls Tryz.prog 164 #[.slice (some ⟨g,0,none⟩) n cap,.int .i64 (i:Int),.int .i64 ((i:Int)+1)] w fun e w'=>e=.returned (.slice (some ⟨g,0,none⟩) (n - 1) cap)∧w.grownBy w' (some g)∧Own 32 2 f2 T w' (some ⟨g,0,none⟩) (n - 1) cap (cut l i):=by
 obtain⟨cur,hb,hs,ht,hT,hnc,hmx⟩:=QX h;have i1:(0:Int)≤(i:Int):=om0;have i2:(i:Int)≤(n:Int):=om0;have i3:(i:Int)≤(cap:Int):=om0;have j1:(0:Int)≤(i:Int)+1:=om0;have j2:(i:Int)+1≤(n:Int):=om0;have j3:(i:Int)+1≤(cap:Int):=om0;have j4:((i:Int)+1).toNat=i+1:=om0;have dij:((i:Int)==(i:Int)+1)=false:=by rw[beq_eq_false_iff_ne];omega
 clear hb hs ht hmx;by_cases hcp:cap=i+1
 ·subst hcp;have hcp:i+1=i+1:=rfl;go_enter Tryz.func164,Tryz.ntmps164;go_wp2;refine aj5 6 a9J (a1t g i n (i+1)) kr0 kr0 dc0 (a5r g i n (i+1)) ?steps ?fin
  case steps=>
   refine⟨?_,?_,?_,?_,?_,?_,trivial⟩<;>intro a w' hg hfree hdeep<;>obtain⟨x,rfl⟩:=hg
   ·have f0_:=hfree 0 kr0;simp only[a1t,got]at f0_;simp[go_sem]at f0_;unfold Oper.wp;simp[go_sem,execOp,Act.eval,↓IntWalk.iteOmega,f0_];exact⟨_,rfl,j5 _,by simp[a1t,upd]⟩
   ·have f1_:=hfree 1 kr0;simp only[a1t,got]at f1_;simp[go_sem]at f1_;unfold Oper.wp;simp[go_sem,execOp,Act.eval,↓IntWalk.iteOmega,f1_];exact⟨_,rfl,j5 _,by simp[a1t,upd]⟩
   ·have d0:=hdeep 0 kr0;have d1:=hdeep 1 kr0;simp only[a1t,got]at d0 d1;unfold Oper.wp;simp[go_sem,execOp,Act.eval,↓IntWalk.iteOmega,d0,d1,i1,i2,i3];exact⟨_,rfl,j5 _,by simp[a1t,upd]⟩
   ·have f0_:=hfree 0 kr0;simp only[a1t,got]at f0_;simp[go_sem]at f0_;unfold Oper.wp;simp[go_sem,execOp,Act.eval,↓IntWalk.iteOmega,f0_];exact⟨_,rfl,j5 _,by simp[a1t,upd]⟩
   ·have f2_:=hfree 2 kr0;simp only[a1t,got]at f2_;simp[go_sem]at f2_;unfold Oper.wp;simp[go_sem,execOp,Act.eval,↓IntWalk.iteOmega,f2_];exact⟨_,rfl,j5 _,by simp[a1t,upd]⟩
   ·have d3:=hdeep 3 kr0;have d4:=hdeep 4 kr0;simp only[a1t,got]at d3 d4;unfold Oper.wp;simp[go_sem,execOp,Act.eval,↓IntWalk.iteOmega,d3,d4,j1,j2,j3,j4,hcp];exact⟨_,rfl,j5 _,by simp[a1t,upd]⟩
  case fin=>
   rintro t w' ⟨x2,rfl⟩ hΦ;have r0:=hΦ 0 dc0;have r1:=hΦ 1 dc0;have r2:=hΦ 2 dc0;have r3:=hΦ 3 dc0;have r4:=hΦ 4 dc0;have r5:=hΦ 5 dc0;simp only[a1t]at r0 r1 r2 r3 r4 r5;simp only[zh,List.take_succ_cons,List.take_zero,List.drop_succ_cons,List.drop_zero,r0,r1,r2,r3,r4,r5];simp only[Act.put];simp only[List.setIfInBounds_toArray,List.set_cons_succ,List.set_cons_zero];clear hΦ r0 r1 r2 r3 r4 r5;have hL:Lay f2 (plus w x2) (some ⟨g,0,none⟩) (n - (i+1)) (l.drop (i+1)):=(by rw[show n - (i+1)=0 by omega,List.drop_eq_nil_of_le (by have:=h.1;omega)];exact Lay.nil);obtain⟨w3,hr,o3,hg3⟩:=ad1 (ty:=88) ad6 Q1 ZV (a1B Q1 (h.ex ⟨x2,rfl⟩) (i:=i) om0) hL om0 ((i+1) - (i+1));rw[show i+(n - (i+1))=n - 1 by omega]at hr o3;obtain⟨w4,hcl,hg4,o4⟩:=U1 o3 (i:=n - 1) (k:=n - (n - 1)) (Nat.le_refl _) om0 om0;have hcl':=hcl 0 ((i+1) - (n - 1));clear hcl;rw[List.take_of_length_le (by rw[o3.1];exact Nat.le_refl _)]at o4;have k1:((n - 1:Nat):Int)≤(n:Int):=om0;have k2:(n:Int)≤((i+1:Nat):Int):=om0;have k3:(0:Int)≤((n - 1:Nat):Int):=om0;have k4:((n - 1:Nat):Int)≤((i+1:Nat):Int):=om0;have k5:¬i+1=n - 1:=om0;go_wp2_with (at_builtin;refine Qa rfl _ _ rfl rfl rfl hr ?_;simp only[Act.put,List.setIfInBounds_toArray,List.set_cons_succ,List.set_cons_zero]);go_ret;exact⟨rfl,((Qz _ ⟨x2,rfl⟩).trans hg3).trans hg4,o4⟩
 ·go_enter Tryz.func164,Tryz.ntmps164;go_wp2;refine aj5 6 a9H (a1u g i n cap) kr0 kr0 dc0 (a4s g i n cap) ?steps ?fin
  case steps=>
   refine⟨?_,?_,?_,?_,?_,?_,trivial⟩<;>intro a w' hg hfree hdeep<;>obtain⟨x,rfl⟩:=hg
   ·have f0_:=hfree 0 kr0;simp only[a1u,got]at f0_;simp[go_sem]at f0_;unfold Oper.wp;simp[go_sem,execOp,Act.eval,↓IntWalk.iteOmega,f0_];exact⟨_,rfl,j5 _,by simp[a1u,upd]⟩
   ·have f1_:=hfree 1 kr0;simp only[a1u,got]at f1_;simp[go_sem]at f1_;unfold Oper.wp;simp[go_sem,execOp,Act.eval,↓IntWalk.iteOmega,f1_];exact⟨_,rfl,j5 _,by simp[a1u,upd]⟩
   ·have d0:=hdeep 0 kr0;have d1:=hdeep 1 kr0;simp only[a1u,got]at d0 d1;unfold Oper.wp;simp[go_sem,execOp,Act.eval,↓IntWalk.iteOmega,d0,d1,i1,i2,i3];exact⟨_,rfl,j5 _,by simp[a1u,upd]⟩
   ·have f0_:=hfree 0 kr0;simp only[a1u,got]at f0_;simp[go_sem]at f0_;unfold Oper.wp;simp[go_sem,execOp,Act.eval,↓IntWalk.iteOmega,f0_];exact⟨_,rfl,j5 _,by simp[a1u,upd]⟩
   ·have f2_:=hfree 2 kr0;simp only[a1u,got]at f2_;simp[go_sem]at f2_;unfold Oper.wp;simp[go_sem,execOp,Act.eval,↓IntWalk.iteOmega,f2_];exact⟨_,rfl,j5 _,by simp[a1u,upd]⟩
   ·have d3:=hdeep 3 kr0;have d4:=hdeep 4 kr0;simp only[a1u,got]at d3 d4;unfold Oper.wp;simp[go_sem,execOp,Act.eval,↓IntWalk.iteOmega,d3,d4,j1,j2,j3,j4,hcp];exact⟨_,rfl,j5 _,by simp[a1u,upd]⟩
  case fin=>
   rintro t w' ⟨x2,rfl⟩ hΦ;have r0:=hΦ 0 dc0;have r1:=hΦ 1 dc0;have r2:=hΦ 2 dc0;have r3:=hΦ 3 dc0;have r4:=hΦ 4 dc0;have r5:=hΦ 5 dc0;simp only[a1u]at r0 r1 r2 r3 r4 r5;simp only[zh,List.take_succ_cons,List.take_zero,List.drop_succ_cons,List.drop_zero,r0,r1,r2,r3,r4,r5];simp only[Act.put];simp only[List.setIfInBounds_toArray,List.set_cons_succ,List.set_cons_zero];clear hΦ r0 r1 r2 r3 r4 r5;have hL:Lay f2 (plus w x2) (some ⟨g,(i+1)*2,none⟩) (n - (i+1)) (l.drop (i+1)):=(by have:=(h.ex (w':=plus w x2) ⟨x2,rfl⟩).lay.drop Q1 (k:=i+1) om0;rwa[Nat.zero_add]at this);obtain⟨w3,hr,o3,hg3⟩:=ad1 (ty:=88) ad6 Q1 ZV (a1B Q1 (h.ex ⟨x2,rfl⟩) (i:=i) om0) hL om0 (cap - (i+1));rw[show i+(n - (i+1))=n - 1 by omega]at hr o3;obtain⟨w4,hcl,hg4,o4⟩:=U1 o3 (i:=n - 1) (k:=n - (n - 1)) (Nat.le_refl _) om0 om0;have hcl':=hcl 0 (cap - (n - 1));clear hcl;rw[List.take_of_length_le (by rw[o3.1];exact Nat.le_refl _)]at o4;have k1:((n - 1:Nat):Int)≤(n:Int):=om0;have k2:(n:Int)≤(cap:Int):=om0;have k3:(0:Int)≤((n - 1:Nat):Int):=om0;have k4:((n - 1:Nat):Int)≤(cap:Int):=om0;have k5:¬cap=n - 1:=om0;go_wp2_with (at_builtin;refine Qa rfl _ _ rfl rfl rfl hr ?_;simp only[Act.put,List.setIfInBounds_toArray,List.set_cons_succ,List.set_cons_zero]);go_ret;exact⟨rfl,((Qz _ ⟨x2,rfl⟩).trans hg3).trans hg4,o4⟩
end
end Go.Proofs.YtcekcihijdipoaaGreat
