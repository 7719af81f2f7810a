/- A pack of texts: MeshTw, Tx5, Nodes5. -/
import Derived.Test.YtcekcihijdipoaaGreatPD12
namespace Go.Proofs.YtcekcihijdipoaaGreat
set_option maxRecDepth 100000
set_option maxHeartbeats 16000000
open Go.RowKit Go.ChangeShapes Go.WideShapes Go.ChangeAt
set_option linter.unusedSimpArgs false
set_option linter.unusedVariables false
attribute [local go_sem] qn qZ A2 zg zz zA t5 qJ zf qO qD t6
section
attribute [local go_sem] eqarr_40 nearr_40 larr_40
attribute [local go_sem] eqarr_137 nearr_137 larr_137
attribute [local go_sem] isnil_47
attribute [local go_sem] isnil_57
attribute [local go_sem] isnil_58
attribute [local go_sem] isnil_59
structure X5 (T w:World) (h:MH) (phs:List PH) (m:Ms):Prop where
 v:Own 43 3 fV T w h.va h.vn h.vc m.vs
 u:Own 137 2 f2 T w h.ua h.un h.uc m.uv
 p:Own 131 2 fP T w h.pa h.pn h.pc phs
 len:phs.length=m.ps.length
 kind:∀k,k<phs.length→(nth dPH phs k).kind=(nth dPr m.ps k).kind
 ix:∀k,k<phs.length→Own 3 1 fI T w (nth dPH phs k).ao (nth dPH phs k).n (nth dPH phs k).cap (nth dPr m.ps k).ix
def a9T (i:Nat):List Nat:=match i with|0=>[24]|1=>[25]|2=>[26]|3=>[27]|4=>[28]|5=>[29]|6=>[30]|7=>[31]|_=>[]
def av4 (T:World) (g b gp k pn cp n1 cap1:Nat) (ao1:Option Addr) (ix:List Int) (i:Nat) (t:Nat→Value) (w':World):Prop:=match i with
 |0=>t 24=.pointer (some ⟨g,2,none⟩)
 |1=>t 25=.slice (some ⟨gp,0,none⟩) pn cp
 |2=>t 26=.int .i64 k
 |3=>t 27=.pointer (some ⟨b,1,none⟩)
 |4=>t 28=.slice ao1 n1 cap1
 |5=>∃a c,t 29=.slice a n1 c∧Own 3 1 fI T w' a n1 c ix
 |6=>t 30=.pointer (some ⟨gp,k*2,none⟩)
 |7=>t 31=.pointer (some ⟨gp,k*2+1,none⟩)
 |_=>True
theorem a52(T:World)(g b gp k pn cp n1 cap1:Nat)(ao1:Option Addr)(ix:List Int):∀i t t' w' x,av4 T g b gp k pn cp n1 cap1 ao1 ix i t w'→(∀s∈a9T i,t' s=t s)→av4 T g b gp k pn cp n1 cap1 ao1 ix i t' (plus w' x):=by
 intro i t t' w' x h hs'
 match i with
 |0=>exact(hs' 24 dc0).trans h
 |1=>exact(hs' 25 dc0).trans h
 |2=>exact(hs' 26 dc0).trans h
 |3=>exact(hs' 27 dc0).trans h
 |4=>exact(hs' 28 dc0).trans h
 |5=>obtain⟨a,c,h1,h2⟩:=h;exact⟨a,c,(hs' 29 dc0).trans h1,h2.plus x⟩
 |6=>exact(hs' 30 dc0).trans h
 |7=>exact(hs' 31 dc0).trans h
 |i+8=>trivial
def twS (i:Nat):List Nat:=match i with|0=>[6]|1=>[7]|2=>[8]|3=>[9]|4=>[10]|5=>[11]|6=>[12]|7=>[13]|8=>[14]|9=>[15,8,11,14]|10=>[3]|_=>[]
def twΦ (va ua pa:Option Addr) (vn vc un uc pn pc:Nat) (hs:List PH) (m:Ms) (w T:World) (i:Nat) (t:Nat→Value) (w':World):Prop:=match i with
 |0=>t 6=.pointer (some ⟨w.heap.size,0,none⟩)
 |1=>t 7=.slice va vn vc
 |2=>∃a c,t 8=.slice a vn c∧Own 43 3 fV T w' a vn c m.vs
 |3=>t 9=.pointer (some ⟨w.heap.size,1,none⟩)
 |4=>t 10=.slice ua un uc
 |5=>∃a c,t 11=.slice a un c∧Own 137 2 f2 T w' a un c m.uv
 |6=>t 12=.pointer (some ⟨w.heap.size,2,none⟩)
 |7=>t 13=.slice pa pn pc
 |8=>∃a c,t 14=.slice a pn c∧Own 131 2 fP T w' a pn c hs
 |9=>t 15=.agg #[t 8,t 11,t 14]
 |10=>∃g,t 3=.pointer (some ⟨g,0,none⟩)∧T.heap.size≤g∧w'.heap[g]?=some (.cells #[.slice none 0 0,.slice none 0 0,.slice none 0 0] 61)
 |_=>True
theorem a6J(va ua pa:Option Addr)(vn vc un uc pn pc:Nat)(hs:List PH)(m:Ms)(w T:World):∀i t t' w' x,twΦ va ua pa vn vc un uc pn pc hs m w T i t w'→(∀s∈twS i,t' s=t s)→twΦ va ua pa vn vc un uc pn pc hs m w T i t' (plus w' x):=by
 intro i t t' w' x h hs'
 match i with
 |0=>(have:=hs' 6 dc0);exact this.trans h
 |1=>(have:=hs' 7 dc0);exact this.trans h
 |2=>obtain⟨a,c,h1,h2⟩:=h;exact⟨a,c,(hs' 8 dc0).trans h1,h2.plus x⟩
 |3=>(have:=hs' 9 dc0);exact this.trans h
 |4=>(have:=hs' 10 dc0);exact this.trans h
 |5=>obtain⟨a,c,h1,h2⟩:=h;exact⟨a,c,(hs' 11 dc0).trans h1,h2.plus x⟩
 |6=>(have:=hs' 12 dc0);exact this.trans h
 |7=>(have:=hs' 13 dc0);exact this.trans h
 |8=>obtain⟨a,c,h1,h2⟩:=h;exact⟨a,c,(hs' 14 dc0).trans h1,h2.plus x⟩
 |9=>
  show t' 15=.agg #[t' 8,t' 11,t' 14];rw[hs' 15 dc0,hs' 8 dc0,hs' 11 dc0,hs' 14 dc0];exact h
 |10=>obtain⟨g,h1,h2,h3⟩:=h;exact⟨g,(hs' 3 dc0).trans h1,h2,by rw[M8 _ _ _ (Array.getElem?_eq_some_iff.1 h3).1];exact h3⟩
 |i+11=>trivial
theorem a3Y(va ua pa:Option Addr)(vn vc un uc pn pc:Nat)(hs:List PH)(m:Ms)(w:World)(hm:I6 w ⟨va,vn,vc,ua,un,uc,pa,pn,pc⟩ hs m)(hf:a7e hs)(s1:vn≤1000)(s2:un≤1000)(s3:pn≤100):
  Calls Tryz.prog 43 #[.agg #[.slice va vn vc,.slice ua un uc,.slice pa pn pc]] w fun e w'=>∃h phs,e=.returned (fM h)∧(∃y,w'=plus w y)∧X5 w w' h phs m∧h.vn=vn∧h.un=un∧h.pn=pn:=by
 have hpp:M3 w hs m.ps:=hm.pp;have lp:=hm.pl.len;have lq:=hpp.len;simp only at lp;have hvl:Lay fV w va vn m.vs:=hm.vl;have hul:Lay f2 w ua un m.uv:=hm.ul;have hpl:Lay fP w pa pn hs:=hm.pl;go_enter Tryz.func43,Tryz.ntmps43;go_wp2;refine M6 11 twS (twΦ va ua pa vn vc un uc pn pc hs m w ((w.alloc (.cells #[.slice va vn vc,.slice ua un uc,.slice pa pn pc] 61)).alloc (.cells #[.slice none 0 0,.slice none 0 0,.slice none 0 0] 61))) kr0 kr0 rfl (a6J va ua pa vn vc un uc pn pc hs m w ((w.alloc (.cells #[.slice va vn vc,.slice ua un uc,.slice pa pn pc] 61)).alloc (.cells #[.slice none 0 0,.slice none 0 0,.slice none 0 0] 61))) ?steps ?fin
 case steps=>
  refine⟨?_,?_,?_,?_,?_,?_,?_,?_,?_,?_,?_,trivial⟩<;>intro a w' hg hfree hdeep<;>obtain⟨x,rfl⟩:=hg
  ·have f1:=hfree 1 kr0;simp only[twΦ,got]at f1;simp[go_sem]at f1;unfold Oper.wp;simp[go_sem,execOp,Act.eval,↓IntWalk.iteOmega,f1];exact⟨_,rfl,j5 _,by simp[twΦ,upd]⟩
  ·have d6:=hdeep 0 kr0;simp only[twΦ,got]at d6
   skip
   unfold Oper.wp;simp[go_sem,execOp,Act.eval,↓IntWalk.iteOmega,d6];exact⟨_,rfl,j5 _,by simp[twΦ,upd]⟩
  ·have d7:=hdeep 1 kr0;simp only[twΦ,got]at d7
   skip
   unfold Oper.wp;simp[go_sem,execOp,Act.eval,↓IntWalk.iteOmega,d7];refine(a8J _ _ _ m.vs _ (hvl.ex skM) om0 (fun h=>(hm.vnil h).2)).mono ?_;rintro e w1 ⟨ao1,n1,c1,rfl,hw1,o1⟩;obtain rfl:vn=n1:=hvl.len.symm.trans o1.1;exact⟨_,rfl,hw1,(show∃a_ c_,upd (got a) (some 8) (.slice ao1 vn c1) 8=.slice a_ vn c_∧Own 43 3 fV ((w.alloc (.cells #[.slice va vn vc,.slice ua un uc,.slice pa pn pc] 61)).alloc (.cells #[.slice none 0 0,.slice none 0 0,.slice none 0 0] 61)) w1 a_ vn c_ m.vs from⟨ao1,c1,by simp[upd],o1.base (by rw[qn];omega)⟩)⟩
  ·have f1:=hfree 1 kr0;simp only[twΦ,got]at f1;simp[go_sem]at f1;unfold Oper.wp;simp[go_sem,execOp,Act.eval,↓IntWalk.iteOmega,f1];exact⟨_,rfl,j5 _,by simp[twΦ,upd]⟩
  ·have d9:=hdeep 3 kr0;simp only[twΦ,got]at d9
   skip
   unfold Oper.wp;simp[go_sem,execOp,Act.eval,↓IntWalk.iteOmega,d9];exact⟨_,rfl,j5 _,by simp[twΦ,upd]⟩
  ·have d10:=hdeep 4 kr0;simp only[twΦ,got]at d10
   skip
   unfold Oper.wp;simp[go_sem,execOp,Act.eval,↓IntWalk.iteOmega,d10];refine(a8O _ _ _ m.uv _ (hul.ex skM) om0 (fun h=>(hm.unil h).2)).mono ?_;rintro e w1 ⟨ao1,n1,c1,rfl,hw1,o1⟩;obtain rfl:un=n1:=hul.len.symm.trans o1.1;exact⟨_,rfl,hw1,(show∃a_ c_,upd (got a) (some 11) (.slice ao1 un c1) 11=.slice a_ un c_∧Own 137 2 f2 ((w.alloc (.cells #[.slice va vn vc,.slice ua un uc,.slice pa pn pc] 61)).alloc (.cells #[.slice none 0 0,.slice none 0 0,.slice none 0 0] 61)) w1 a_ un c_ m.uv from⟨ao1,c1,by simp[upd],o1.base (by rw[qn];omega)⟩)⟩
  ·have f1:=hfree 1 kr0;simp only[twΦ,got]at f1;simp[go_sem]at f1;unfold Oper.wp;simp[go_sem,execOp,Act.eval,↓IntWalk.iteOmega,f1];exact⟨_,rfl,j5 _,by simp[twΦ,upd]⟩
  ·have d12:=hdeep 6 kr0;simp only[twΦ,got]at d12
   skip
   unfold Oper.wp;simp[go_sem,execOp,Act.eval,↓IntWalk.iteOmega,d12];exact⟨_,rfl,j5 _,by simp[twΦ,upd]⟩
  ·have d13:=hdeep 7 kr0;simp only[twΦ,got]at d13
   skip
   unfold Oper.wp;simp[go_sem,execOp,Act.eval,↓IntWalk.iteOmega,d13];refine(a84 _ _ _ hs _ (hpl.ex skM) om0 (fun h=>(hm.pnil h).2)).mono ?_;rintro e w1 ⟨ao1,n1,c1,rfl,hw1,o1⟩;obtain rfl:pn=n1:=hpl.len.symm.trans o1.1;exact⟨_,rfl,hw1,(show∃a_ c_,upd (got a) (some 14) (.slice ao1 pn c1) 14=.slice a_ pn c_∧Own 131 2 fP ((w.alloc (.cells #[.slice va vn vc,.slice ua un uc,.slice pa pn pc] 61)).alloc (.cells #[.slice none 0 0,.slice none 0 0,.slice none 0 0] 61)) w1 a_ pn c_ hs from⟨ao1,c1,by simp[upd],o1.base (by rw[qn];omega)⟩)⟩
  ·obtain⟨av,cv,e8,_⟩:∃a_ c_,got a 8=.slice a_ vn c_∧_:=hdeep 2 kr0;obtain⟨au,cu,e11,_⟩:∃a_ c_,got a 11=.slice a_ un c_∧_:=hdeep 5 kr0;obtain⟨ap,cp,e14,_⟩:∃a_ c_,got a 14=.slice a_ pn c_∧_:=hdeep 8 kr0;have g8:=e8;have g11:=e11;have g14:=e14;simp only[got]at g8 g11 g14;simp at g8 g11 g14;unfold Oper.wp;simp[go_sem,execOp,Act.eval,g8,g11,g14];exact⟨_,rfl,j5 _,by simp[twΦ,upd,e8,e11,e14]⟩
  ·unfold Oper.wp;simp[go_sem,execOp,Act.eval];exact⟨_,rfl,qE (j5 _),(show∃g,upd (got a) (some 3) _ 3=.pointer (some ⟨g,0,none⟩)∧_ from⟨_,by simp[upd];rfl,by simp[go_sem],by rw[qe,if_pos (by simp[go_sem])]⟩)⟩
 case fin=>
  rintro t w1 hg hΦ o ho;have h2:=hΦ 2 dc0;have h5:=hΦ 5 dc0;have h8:=hΦ 8 dc0;have h9:=hΦ 9 dc0;have h10:=hΦ 10 dc0;have h0:=hΦ 0 dc0;have h1:=hΦ 1 dc0;have h3:=hΦ 3 dc0;have h4:=hΦ 4 dc0;have h6:=hΦ 6 dc0;have h7:=hΦ 7 dc0;simp only[twΦ]at h0 h1 h2 h3 h4 h5 h6 h7 h8 h9 h10;obtain⟨av,cv,e8,ov⟩:=h2;obtain⟨au,cu,e11,ou⟩:=h5;obtain⟨ap,cp,e14,op⟩:=h8;obtain⟨g,e3,hgl,hgb⟩:=h10;rw[e8,e11,e14]at h9;simp only[List.getElem?_cons_succ,List.getElem?_cons_zero,Option.some.injEq]at ho;subst ho;simp only[zh,List.take_succ_cons,List.take_zero,h0,h1,e8,h3,h4,e11,h6,h7,e14,h9,e3];simp only[Act.put];simp only[List.setIfInBounds_toArray,List.set_cons_succ,List.set_cons_zero];have k0:=i6 (i:=0) hgb rfl;have k1:=i6 (i:=1) hgb rfl;have k2:=i6 (i:=2) hgb rfl;have z0:=j9 (i:=0) hgb;have z1:=j9 (i:=1) hgb;have z2:=j9 (i:=2) hgb;unfold Oper.wp;simp[go_sem,execOp,Act.eval,k0,k1,k2,z0,z1,z2];clear k0 k1 k2 z0 z1 z2;have n0:g≠g→False:=fun h=>h rfl
  have ov2:=((ov.set_other (i:=0) (u:=.slice av vn cv) hgb dc0).set_other (i:=1) (u:=.slice au un cu) (j7 hgb) dc0).set_other (i:=2) (u:=.slice ap pn cp) (j7 (j7 hgb)) dc0;have ou2:=((ou.set_other (i:=0) (u:=.slice av vn cv) hgb dc0).set_other (i:=1) (u:=.slice au un cu) (j7 hgb) dc0).set_other (i:=2) (u:=.slice ap pn cp) (j7 (j7 hgb)) dc0;have op2:=((op.set_other (i:=0) (u:=.slice av vn cv) hgb dc0).set_other (i:=1) (u:=.slice au un cu) (j7 hgb) dc0).set_other (i:=2) (u:=.slice ap pn cp) (j7 (j7 hgb)) dc0;have hb2:=j7 (i:=2) (u:=.slice ap pn cp) (j7 (i:=1) (u:=.slice au un cu) (j7 (i:=0) (u:=.slice av vn cv) hgb));have hx2:=qb (i:=2) (u:=.slice ap pn cp) (qb (i:=1) (u:=.slice au un cu) (qb (i:=0) (u:=.slice av vn cv) hg hgl) hgl) hgl;simp only[List.setIfInBounds_toArray,List.set_cons_succ,List.set_cons_zero]at hb2;generalize ((w1.setCell ⟨g,0,none⟩ (.slice av vn cv)).setCell ⟨g,1,none⟩ (.slice au un cu)).setCell ⟨g,2,none⟩ (.slice ap pn cp)=w2 at*;clear hΦ ov ou op hgb hg h0 h1 h3 h4 h6 h7 h9 e8 e11 e14 e3 n0;have q2:w2.cell? ⟨w.heap.size,2,none⟩=some (.slice pa pn pc):=qf hx2 (by simp[go_sem,↓IntWalk.iteOmega]);go_wp2;go_loopw [19] (fun i wr=>∃(k:Nat) (phs:List PH),k≤pn∧i=.int .i64 k∧(∃y,wr=plus ((w.alloc (.cells #[.slice va vn vc,.slice ua un uc,.slice pa pn pc] 61)).alloc (.cells #[.slice none 0 0,.slice none 0 0,.slice none 0 0] 61)) y)∧wr.heap[g]?=some (.cells #[.slice av vn cv,.slice au un cu,.slice ap pn cp] 61)∧Own 43 3 fV ((w.alloc (.cells #[.slice va vn vc,.slice ua un uc,.slice pa pn pc] 61)).alloc (.cells #[.slice none 0 0,.slice none 0 0,.slice none 0 0] 61)) wr av vn cv m.vs∧Own 137 2 f2 ((w.alloc (.cells #[.slice va vn vc,.slice ua un uc,.slice pa pn pc] 61)).alloc (.cells #[.slice none 0 0,.slice none 0 0,.slice none 0 0] 61)) wr au un cu m.uv∧Own 131 2 fP ((w.alloc (.cells #[.slice va vn vc,.slice ua un uc,.slice pa pn pc] 61)).alloc (.cells #[.slice none 0 0,.slice none 0 0,.slice none 0 0] 61)) wr ap pn cp phs∧(∀j,j<pn→(nth dPH phs j).kind=(nth dPH hs j).kind∧(nth dPH phs j).n=(nth dPH hs j).n)∧(∀j,j<k→Own 3 1 fI ((w.alloc (.cells #[.slice va vn vc,.slice ua un uc,.slice pa pn pc] 61)).alloc (.cells #[.slice none 0 0,.slice none 0 0,.slice none 0 0] 61)) wr (nth dPH phs j).ao (nth dPH phs j).n (nth dPH phs j).cap (nth dPr m.ps j).ix)) (fun i _=>pn - (intOf i).toNat)
  case atStart=>exact⟨0,hs,Nat.zero_le _,rfl,hx2,hb2,ov2,ou2,op2,fun j hj=>⟨rfl,rfl⟩,fun j hj=>om0⟩
  case round=>
   clear hx2 hb2 ov2 ou2 op2 q2;obtain⟨k,phs,hk,rfl,hx2,hb2,ov2,ou2,op2,hkn,hix⟩:=hrel;by_cases hkl:k<pn
   ·have hplw:=hpl.ex (w':=wr) snM;obtain⟨gm,off,rfl,hgm,hcell⟩:=hplw.some om0;obtain⟨d0,d1⟩:=a1o hplw.len hcell (k:=k) hkl;have hp:=hpp.one k om0;have hfk:=hf k om0;have hknk:=hkn k hkl;generalize hpe:nth dPr m.ps k=p at*;generalize hhe:nth dPH hs k=hh at*;obtain⟨kind,ao1,n1,cap1⟩:=hh;obtain⟨kind2,ix⟩:=p;obtain⟨hk1,hk2,hk3,hk4,hk5,hk6⟩:=hp;simp only at d0 d1 hk1 hk2 hk3 hk4 hk5 hk6 hfk hknk;subst hk1;have ik:(k:Int)<(pn:Int):=om0;obtain⟨gp,cur,rfl,hgp,hbp,hsz⟩:=op2.blk om0;have hgs:=qi hb2;have hgps:=qi hbp;have b2:=i6 (i:=2) hb2 rfl;go_wp2;refine M6 8 a9T (av4 ((w.alloc (.cells #[.slice va vn vc,.slice ua un uc,.slice (some ⟨gm,off,none⟩) pn pc] 61)).alloc (.cells #[.slice none 0 0,.slice none 0 0,.slice none 0 0] 61)) g wr.heap.size gp k pn cp n1 cap1 ao1 ix) kr0 kr0 rfl (a52 ((w.alloc (.cells #[.slice va vn vc,.slice ua un uc,.slice (some ⟨gm,off,none⟩) pn pc] 61)).alloc (.cells #[.slice none 0 0,.slice none 0 0,.slice none 0 0] 61)) g wr.heap.size gp k pn cp n1 cap1 ao1 ix) ?steps ?fin
    case steps=>
     refine⟨?_,?_,?_,?_,?_,?_,?_,?_,trivial⟩<;>intro a w' hg hfree hdeep<;>obtain⟨x,rfl⟩:=hg
     ·have f3:=hfree 3 kr0;simp only[av4,got]at f3;simp[go_sem]at f3;unfold Oper.wp;simp[go_sem,execOp,Act.eval,↓IntWalk.iteOmega,f3];exact⟨_,rfl,j5 _,by simp[av4,upd]⟩
     ·have d24:=hdeep 0 kr0;simp only[av4,got]at d24
      skip
      unfold Oper.wp;simp[go_sem,execOp,Act.eval,↓IntWalk.iteOmega,d24,b2];exact⟨_,rfl,j5 _,by simp[av4,upd]⟩
     ·have f4:=hfree 4 kr0;simp only[av4,got]at f4;simp[go_sem]at f4;unfold Oper.wp;simp[go_sem,execOp,Act.eval,↓IntWalk.iteOmega,f4];exact⟨_,rfl,j5 _,by simp[av4,upd]⟩
     ·have f5:=hfree 5 kr0;simp only[av4,got]at f5;simp[go_sem]at f5;unfold Oper.wp;simp[go_sem,execOp,Act.eval,↓IntWalk.iteOmega,f5];exact⟨_,rfl,j5 _,by simp[av4,upd]⟩
     ·have d27:=hdeep 3 kr0;simp only[av4,got]at d27
      skip
      unfold Oper.wp;simp[go_sem,execOp,Act.eval,↓IntWalk.iteOmega,d27];exact⟨_,rfl,j5 _,by simp[av4,upd]⟩
     ·have d28:=hdeep 4 kr0;simp only[av4,got]at d28
      skip
      unfold Oper.wp;simp[go_sem,execOp,Act.eval,↓IntWalk.iteOmega,d28];refine(a7k _ _ _ ix _ (hk6.ex snM) om0 (fun h=>(hk5 h).2)).mono ?_;rintro e w1 ⟨ao3,n3,c3,rfl,hw1,o1⟩;obtain rfl:n1=n3:=hk6.len.symm.trans o1.1;exact⟨_,rfl,hw1,(show∃a_ c_,upd (got a) (some 29) (.slice ao3 n1 c3) 29=.slice a_ n1 c_∧Own 3 1 fI ((w.alloc (.cells #[.slice va vn vc,.slice ua un uc,.slice (some ⟨gm,off,none⟩) pn pc] 61)).alloc (.cells #[.slice none 0 0,.slice none 0 0,.slice none 0 0] 61)) w1 a_ n1 c_ ix from⟨ao3,c3,by simp[upd],o1.base (by have:=qu hx2;simp[go_sem]at this ⊢;omega)⟩)⟩
     ·have d25:=hdeep 1 kr0;have d26:=hdeep 2 kr0;simp only[av4,got]at d25 d26
      skip
      unfold Oper.wp;simp[go_sem,execOp,Act.eval,↓IntWalk.iteOmega,d25,d26];exact⟨_,rfl,j5 _,by simp[av4,upd]⟩
     ·have d30:=hdeep 6 kr0;simp only[av4,got]at d30
      skip
      unfold Oper.wp;simp[go_sem,execOp,Act.eval,↓IntWalk.iteOmega,d30];exact⟨_,rfl,j5 _,by simp[av4,upd]⟩
    case fin=>
     rintro t w1 hg hΦ o ho;have h0:=hΦ 0 dc0;have h1:=hΦ 1 dc0;have h2:=hΦ 2 dc0;have h3:=hΦ 3 dc0;have h4:=hΦ 4 dc0;have h5:=hΦ 5 dc0;have h6:=hΦ 6 dc0;have h7:=hΦ 7 dc0;clear hΦ;simp only[av4]at h0 h1 h2 h3 h4 h5 h6 h7;obtain⟨a9,c9,e29,o9⟩:=h5;simp only[List.getElem?_cons_succ,List.getElem?_cons_zero,Option.some.injEq]at ho;subst ho;simp only[zh,List.take_succ_cons,List.take_zero,h0,h1,h2,h3,h4,e29,h6,h7];simp only[Act.put];simp only[List.setIfInBounds_toArray,List.set_cons_succ,List.set_cons_zero];have hwr:∃y,w1=plus wr y:=i9 (qE (j5 _)) hg;have hbp1:=i7 hwr hbp;have opw:=op2.ex hwr;obtain⟨_,_,eqa,_,hcp⟩:=opw.lay.some om0;cases eqa;obtain⟨_,k1⟩:=a1o opw.1 hcp (k:=k) hkl;rw[Nat.zero_add]at k1;have z1:=j9 (i:=k*2+1) hbp1;unfold Oper.wp;simp[go_sem,execOp,Act.eval,k1,z1];have ng:gp≠g:=by
      intro e9;rw[e9,hb2]at hbp;cases hbp
     have ov3:=(ov2.ex hwr).set_other (i:=k*2+1) (u:=.slice a9 n1 c9) hbp1 dc0;have ou3:=(ou2.ex hwr).set_other (i:=k*2+1) (u:=.slice a9 n1 c9) hbp1 dc0;have op3:=opw.set_self (u:=.slice a9 n1 c9) k 1 ⟨(nth dPH phs k).kind,a9,n1,c9⟩ dPH hkl a8u dc0 rfl;have b3:(w1.setCell ⟨gp,k*2+1,none⟩ (.slice a9 n1 c9)).heap[g]?=_:=(qd ng).trans (i7 hwr hb2);have hx3:=qb (i:=k*2+1) (u:=.slice a9 n1 c9) (i9 hx2 hwr) hgp;have o93:=o9.set_other (i:=k*2+1) (u:=.slice a9 n1 c9) hbp1 dc0;have hix3:=fun j hj=>((hix j hj).ex hwr).set_other (i:=k*2+1) (u:=.slice a9 n1 c9) hbp1 dc0
     have lph:=op2.1;generalize w1.setCell ⟨gp,k*2+1,none⟩ (.slice a9 n1 c9)=w3 at*;clear ov2 ou2 op2 hix hb2 hbp hbp1 opw hcp k1 z1 b2 h0 h1 h2 h3 h4 h6 h7 e29 o9 hwr hg hx2 hplw hcell;go_wp2;go_roundw
     case rel=>
      refine⟨k+1,phs.set k ⟨(nth dPH phs k).kind,a9,n1,c9⟩,om0,by go_num,hx3,b3,ov3,ou3,op3,fun j hj=>?_,fun j hj=>?_⟩
      ·rw[ZR om0];by_cases ej:j=k
       ·rw[if_pos ej,ej,hhe];exact⟨hknk.1,rfl⟩
       ·rw[if_neg ej];exact hkn j hj
      ·rw[ZR om0];by_cases ej:j=k
       ·rw[if_pos ej,ej,hpe];exact o93
       ·rw[if_neg ej];exact hix3 j om0
     case measure=>simp[intOf];omega
   ·have ik:¬(k:Int)<(pn:Int):=om0;obtain rfl:k=pn:=om0;have hres:wr.heap[w.heap.size+1]?=some (.cells #[.slice none 0 0,.slice none 0 0,.slice none 0 0] 61):=i7 hx2 (by rw[qe,if_pos (by simp[go_sem])]);have k0:=i6 (i:=0) hres rfl;have k1:=i6 (i:=1) hres rfl;have k2:=i6 (i:=2) hres rfl;have z0:=j9 (i:=0) hres;have z1:=j9 (i:=1) hres;have z2:=j9 (i:=2) hres;have b0:=i6 (i:=0) hb2 rfl;have b1:=i6 (i:=1) hb2 rfl;have b2:=i6 (i:=2) hb2 rfl;go_wp2;have hres3:=j7 (i:=2) (u:=.slice ap k cp) (j7 (i:=1) (u:=.slice au un cu) (j7 (i:=0) (u:=.slice av vn cv) hres));simp only[List.setIfInBounds_toArray,List.set_cons_succ,List.set_cons_zero]at hres3;have ov3:=((ov2.set_other (i:=0) (u:=.slice av vn cv) hres dc0).set_other (i:=1) (u:=.slice au un cu) (j7 hres) dc0).set_other (i:=2) (u:=.slice ap k cp) (j7 (j7 hres)) dc0;have ou3:=((ou2.set_other (i:=0) (u:=.slice av vn cv) hres dc0).set_other (i:=1) (u:=.slice au un cu) (j7 hres) dc0).set_other (i:=2) (u:=.slice ap k cp) (j7 (j7 hres)) dc0;have op3:=((op2.set_other (i:=0) (u:=.slice av vn cv) hres dc0).set_other (i:=1) (u:=.slice au un cu) (j7 hres) dc0).set_other (i:=2) (u:=.slice ap k cp) (j7 (j7 hres)) dc0;have hix3:=fun j hj=>(((hix j hj).set_other (i:=0) (u:=.slice av vn cv) hres dc0).set_other (i:=1) (u:=.slice au un cu) (j7 hres) dc0).set_other (i:=2) (u:=.slice ap k cp) (j7 (j7 hres)) dc0
    have hwr:∃y,wr=plus w y:=snM;have hx3:=qb (i:=2) (u:=.slice ap k cp) (g:=w.heap.size+1) (qb (i:=1) (u:=.slice au un cu) (g:=w.heap.size+1) (qb (i:=0) (u:=.slice av vn cv) (g:=w.heap.size+1) hwr om0) om0) om0;have lph:=op2.1;clear ov2 ou2 op2 hix hres k0 k1 k2 z0 z1 z2 b0 b1 b2 hb2 hx2 hwr;generalize ((wr.setCell ⟨w.heap.size+1,0,none⟩ (.slice av vn cv)).setCell ⟨w.heap.size+1,1,none⟩ (.slice au un cu)).setCell ⟨w.heap.size+1,2,none⟩ (.slice ap k cp)=w3 at*;have c0:=i6 (i:=0) hres3 rfl;have c1:=i6 (i:=1) hres3 rfl;have c2:=i6 (i:=2) hres3 rfl;have hbs:w.heap.size≤((w.alloc (.cells #[.slice va vn vc,.slice ua un uc,.slice pa k pc] 61)).alloc (.cells #[.slice none 0 0,.slice none 0 0,.slice none 0 0] 61)).heap.size:=by simp[go_sem];omega
    exact bodyPost_ret (v:=.agg #[.slice av vn cv,.slice au un cu,.slice ap k cp]) (by simp[results,Tryz.results43,go_sem,c0,c1,c2]) rfl
     ⟨⟨av,vn,cv,au,un,cu,ap,k,cp⟩,rfl,hx3,⟨phs,ov3.base hbs,ou3.base hbs,op3.base hbs,om0,fun j hj=>((hkn j om0).1).trans (hpp.one j om0).kind,fun j hj=>(hix3 j om0).base hbs⟩,rfl,rfl,rfl⟩
end
section
theorem U4{P:Program}{e:TypeId}{z:Value}{c b:Nat}(h:(P.info? e).map (fun i=>(i.zero,i.size,i.bytes))=some (some z,c,b))(hc:z.cells.size=c):∃i z,P.info? e=some i∧i.zero=some z∧i.size=c∧i.bytes=b∧z.cells.size=c:=by
 obtain⟨i0,hi,hz0,hz1,hz2⟩:=info_parts h;exact⟨i0,z,hi,hz0,hz1,hz2,hc⟩
theorem a9v:Kin Tryz.prog 62 50 4 4:=⟨Tryz.underlying62,U4 (z:=.agg #[.int .u8 0,.int .u8 0,.int .u8 0,.int .u8 0]) kr0 rfl,dc0⟩
theorem isnil_62(ao:Option Addr)(n cap:Nat)(w:World):(binOp .eql 62 (.slice ao n cap) (.slice none 0 0)).run Tryz.prog w=.ok (.bool ao.isNone) w:=Lib.run_eql_slice_nil w _ _ ao n cap 0 0 Tryz.underlying62
attribute [local go_sem] isnil_62
theorem a8M(ao:Option Addr)(n cap:Nat)(l:List Cl)(w:World)(hl:Lay fCl w ao n l)(hn:n≤20000)(hz:ao=none→cap=0):
  Calls Tryz.prog 87 #[.slice ao n cap] w fun e w'=>a7z 50 4 fCl w l e w':=by
 cases ao with
 |none=>
  obtain rfl:n=0:=by rcases hl.at0 with h|⟨g,off,h,_⟩;exact h;cases h
  obtain rfl:=hz rfl;obtain rfl:=hl.zero;go_enter Tryz.func87,Tryz.ntmps87;go_wp2;go_ret;exact⟨none,0,0,rfl,sk9,zd⟩
 |some a=>
  go_enter Tryz.func87,Tryz.ntmps87;go_wp2_with (at_builtin;(refine qo (T:=w) (l:=[]) rfl _ _ rfl a9v a1Q a88 rfl sk9 ⟨rfl,World.ownsRow_made w _ 0 (Nat.le_refl _) dc0 rfl⟩ rfl (hl.ex sk9) om0 dc0 ?_;intro ao' cap' y' hown'));go_ret;rw[Nat.zero_add,List.nil_append]at hown';exact⟨ao',_,cap',rfl,sk9,hown'⟩
def ttS (i:Nat):List Nat:=match i with|0=>[3]|1=>[4]|2=>[5]|3=>[6]|4=>[7]|5=>[8]|6=>[9]|7=>[10,9]|_=>[]
def ttΦ (w T:World) (W H:Int) (ao:Option Addr) (n cap:Nat) (l:List Cl) (i:Nat) (t:Nat→Value) (w':World):Prop:=match i with
 |0=>t 3=.pointer (some ⟨w.heap.size,0,none⟩)
 |1=>t 4=.int .i64 W
 |2=>t 5=.pointer (some ⟨w.heap.size,1,none⟩)
 |3=>t 6=.int .i64 H
 |4=>t 7=.pointer (some ⟨w.heap.size,2,none⟩)
 |5=>t 8=.slice ao n cap
 |6=>∃a c,t 9=.slice a n c∧Own 50 4 fCl T w' a n c l
 |7=>∃a c,t 10=.agg #[.int .i64 W,.int .i64 H,.slice a n c]∧t 9=.slice a n c
 |_=>True
theorem a2W(w T:World)(W H:Int)(ao:Option Addr)(n cap:Nat)(l:List Cl):∀i t t' w' x,ttΦ w T W H ao n cap l i t w'→(∀s∈ttS i,t' s=t s)→ttΦ w T W H ao n cap l i t' (plus w' x):=by
 intro i t t' w' x h hs'
 match i with
 |0=>exact(hs' 3 dc0).trans h
 |1=>exact(hs' 4 dc0).trans h
 |2=>exact(hs' 5 dc0).trans h
 |3=>exact(hs' 6 dc0).trans h
 |4=>exact(hs' 7 dc0).trans h
 |5=>exact(hs' 8 dc0).trans h
 |6=>obtain⟨a,c,e,o⟩:=h;exact⟨a,c,(hs' 9 dc0).trans e,o.plus x⟩
 |7=>obtain⟨a,c,e1,e2⟩:=h;exact⟨a,c,(hs' 10 dc0).trans e1,(hs' 9 dc0).trans e2⟩
 |i+8=>trivial
theorem a1C(W H:Int)(ao:Option Addr)(n cap:Nat)(l:List Cl)(w:World)(hl:Lay fCl w ao n l)(hn:n≤20000)(hz:ao=none→cap=0):
  Calls Tryz.prog 45 #[.agg #[.int .i64 W,.int .i64 H,.slice ao n cap]] w fun e w'=>∃ao' cap',e=.returned (.agg #[.int .i64 W,.int .i64 H,.slice ao' n cap'])∧(∃y,w'=plus w y)∧Own 50 4 fCl w w' ao' n cap' l:=by
 go_enter Tryz.func45,Tryz.ntmps45;go_wp2;refine M6 8 ttS (ttΦ w ((w.alloc (.cells #[.int .i64 W,.int .i64 H,.slice ao n cap] 64)).alloc (.cells #[.int .i64 0,.int .i64 0,.slice none 0 0] 64)) W H ao n cap l) kr0 kr0 rfl (a2W w ((w.alloc (.cells #[.int .i64 W,.int .i64 H,.slice ao n cap] 64)).alloc (.cells #[.int .i64 0,.int .i64 0,.slice none 0 0] 64)) W H ao n cap l) ?steps ?fin
 case steps=>
  refine⟨?_,?_,?_,?_,?_,?_,?_,?_,trivial⟩<;>intro a w' hg hfree hdeep<;>obtain⟨x,rfl⟩:=hg
  ·have f1_:=hfree 1 kr0;simp only[ttΦ,got]at f1_;simp[go_sem]at f1_;unfold Oper.wp;simp[go_sem,execOp,Act.eval,↓IntWalk.iteOmega,f1_];exact⟨_,rfl,j5 _,by simp[ttΦ,upd]⟩
  ·have d0:=hdeep 0 kr0;simp only[ttΦ,got]at d0;unfold Oper.wp;simp[go_sem,execOp,Act.eval,↓IntWalk.iteOmega,d0];exact⟨_,rfl,j5 _,by simp[ttΦ,upd]⟩
  ·have f1_:=hfree 1 kr0;simp only[ttΦ,got]at f1_;simp[go_sem]at f1_;unfold Oper.wp;simp[go_sem,execOp,Act.eval,↓IntWalk.iteOmega,f1_];exact⟨_,rfl,j5 _,by simp[ttΦ,upd]⟩
  ·have d2:=hdeep 2 kr0;simp only[ttΦ,got]at d2;unfold Oper.wp;simp[go_sem,execOp,Act.eval,↓IntWalk.iteOmega,d2];exact⟨_,rfl,j5 _,by simp[ttΦ,upd]⟩
  ·have f1_:=hfree 1 kr0;simp only[ttΦ,got]at f1_;simp[go_sem]at f1_;unfold Oper.wp;simp[go_sem,execOp,Act.eval,↓IntWalk.iteOmega,f1_];exact⟨_,rfl,j5 _,by simp[ttΦ,upd]⟩
  ·have d4:=hdeep 4 kr0;simp only[ttΦ,got]at d4;unfold Oper.wp;simp[go_sem,execOp,Act.eval,↓IntWalk.iteOmega,d4];exact⟨_,rfl,j5 _,by simp[ttΦ,upd]⟩
  ·have d5:=hdeep 5 kr0;simp only[ttΦ,got]at d5;unfold Oper.wp;simp[go_sem,execOp,Act.eval,↓IntWalk.iteOmega,d5];refine(a8M _ _ _ l _ (hl.ex sk9) hn hz).mono ?_;rintro e w1 ⟨a1,n1,c1,rfl,hw1,o1⟩;obtain rfl:n=n1:=hl.len.symm.trans o1.1;exact⟨_,rfl,hw1,a1,c1,by simp[upd],o1.base (by rw[qn];omega)⟩
  ·have d1:=hdeep 1 kr0;have d3:=hdeep 3 kr0;obtain⟨a9,c9,e9,_⟩:∃a_ c,got a 9=.slice a_ n c∧_:=hdeep 6 kr0;simp only[ttΦ,got]at d1 d3;have g9:=e9;simp only[got]at g9;simp at g9 d1 d3;unfold Oper.wp;simp[go_sem,execOp,Act.eval,↓IntWalk.iteOmega,d1,d3,g9];exact⟨_,rfl,j5 _,a9,c9,by simp[upd],by simp[upd];exact e9⟩
 case fin=>
  rintro t w1 hg hΦ o ho;have h0:=hΦ 0 dc0;have h1:=hΦ 1 dc0;have h2:=hΦ 2 dc0;have h3:=hΦ 3 dc0;have h4:=hΦ 4 dc0;have h5:=hΦ 5 dc0;obtain⟨a9,c9,e9,o9⟩:=hΦ 6 dc0;obtain⟨b9,d9,e10,e10a⟩:=hΦ 7 dc0;simp only[ttΦ]at h0 h1 h2 h3 h4 h5;rw[e9]at e10a;cases e10a;simp only[List.getElem?_cons_succ,List.getElem?_cons_zero,Option.some.injEq]at ho;subst ho;simp only[zh,List.take_succ_cons,List.take_zero,h0,h1,h2,h3,h4,h5,e9,e10];simp only[Act.put];simp only[List.setIfInBounds_toArray,List.set_cons_succ,List.set_cons_zero];have hgb:w1.heap[w.heap.size+1]?=some (.cells #[.int .i64 0,.int .i64 0,.slice none 0 0] 64):=i7 hg (by rw[qe,if_pos (by simp[go_sem])]);have k0:=i6 (i:=0) hgb rfl;have k1:=i6 (i:=1) hgb rfl;have k2:=i6 (i:=2) hgb rfl;have z0:=j9 (i:=0) hgb;have z1:=j9 (i:=1) hgb;have z2:=j9 (i:=2) hgb;unfold Oper.wp;simp[go_sem,execOp,Act.eval,k0,k1,k2,z0,z1,z2];have o2:=((o9.set_other (i:=0) (u:=.int .i64 W) hgb dc0).set_other (i:=1) (u:=.int .i64 H) (j7 hgb) dc0).set_other (i:=2) (u:=.slice a9 n c9) (j7 (j7 hgb)) dc0;have rf:=j7 (i:=2) (u:=.slice a9 n c9) (j7 (i:=1) (u:=.int .i64 H) (j7 (i:=0) (u:=.int .i64 W) hgb));have hxf:=qb (i:=2) (u:=.slice a9 n c9) (g:=w.heap.size+1) (qb (i:=1) (u:=.int .i64 H) (g:=w.heap.size+1) (qb (i:=0) (u:=.int .i64 W) (g:=w.heap.size+1) (i9 (show∃y,((w.alloc (.cells #[.int .i64 W,.int .i64 H,.slice ao n cap] 64)).alloc (.cells #[.int .i64 0,.int .i64 0,.slice none 0 0] 64))=plus w y from sk9) hg) om0) om0) om0;clear o9 k0 k1 k2 z0 z1 z2 hgb hΦ;generalize ((w1.setCell ⟨w.heap.size+1,0,none⟩ (.int .i64 W)).setCell ⟨w.heap.size+1,1,none⟩ (.int .i64 H)).setCell ⟨w.heap.size+1,2,none⟩ (.slice a9 n c9)=w9 at*;have f0:=i6 (i:=0) rf rfl;have f1:=i6 (i:=1) rf rfl;have f2:=i6 (i:=2) rf rfl;have hB:w.heap.size≤((w.alloc (.cells #[.int .i64 W,.int .i64 H,.slice ao n cap] 64)).alloc (.cells #[.int .i64 0,.int .i64 0,.slice none 0 0] 64)).heap.size:=by simp[go_sem];omega
  go_wp2;exact bodyPost_ret (v:=.agg #[.int .i64 W,.int .i64 H,.slice a9 n c9]) (by simp[results,Tryz.results45,go_sem,f0,f1,f2]) rfl ⟨a9,c9,rfl,hxf,o2.base hB⟩
theorem a1a(W H:Int)(ao:Option Addr)(n cap:Nat)(l:List Cl)(w:World)(hl:Lay fCl w ao n l)(hn:n≤20000)(hz:ao=none→cap=0):
  Calls Tryz.prog 38 #[.agg #[.int .i64 W,.int .i64 H,.slice ao n cap]] w fun e w'=>∃ao' cap',e=.returned (.agg #[.int .i64 W,.int .i64 H,.slice ao' n cap'])∧(∃y,w'=plus w y)∧Own 50 4 fCl w w' ao' n cap' l:=by
 go_enter Tryz.func38,Tryz.ntmps38;go_wp2;refine M6 8 ttS (ttΦ w ((w.alloc (.cells #[.int .i64 W,.int .i64 H,.slice ao n cap] 64)).alloc (.cells #[.int .i64 0,.int .i64 0,.slice none 0 0] 64)) W H ao n cap l) kr0 kr0 rfl (a2W w ((w.alloc (.cells #[.int .i64 W,.int .i64 H,.slice ao n cap] 64)).alloc (.cells #[.int .i64 0,.int .i64 0,.slice none 0 0] 64)) W H ao n cap l) ?steps ?fin
 case steps=>
  refine⟨?_,?_,?_,?_,?_,?_,?_,?_,trivial⟩<;>intro a w' hg hfree hdeep<;>obtain⟨x,rfl⟩:=hg
  ·have f1_:=hfree 1 kr0;simp only[ttΦ,got]at f1_;simp[go_sem]at f1_;unfold Oper.wp;simp[go_sem,execOp,Act.eval,↓IntWalk.iteOmega,f1_];exact⟨_,rfl,j5 _,by simp[ttΦ,upd]⟩
  ·have d0:=hdeep 0 kr0;simp only[ttΦ,got]at d0;unfold Oper.wp;simp[go_sem,execOp,Act.eval,↓IntWalk.iteOmega,d0];exact⟨_,rfl,j5 _,by simp[ttΦ,upd]⟩
  ·have f1_:=hfree 1 kr0;simp only[ttΦ,got]at f1_;simp[go_sem]at f1_;unfold Oper.wp;simp[go_sem,execOp,Act.eval,↓IntWalk.iteOmega,f1_];exact⟨_,rfl,j5 _,by simp[ttΦ,upd]⟩
  ·have d2:=hdeep 2 kr0;simp only[ttΦ,got]at d2;unfold Oper.wp;simp[go_sem,execOp,Act.eval,↓IntWalk.iteOmega,d2];exact⟨_,rfl,j5 _,by simp[ttΦ,upd]⟩
  ·have f1_:=hfree 1 kr0;simp only[ttΦ,got]at f1_;simp[go_sem]at f1_;unfold Oper.wp;simp[go_sem,execOp,Act.eval,↓IntWalk.iteOmega,f1_];exact⟨_,rfl,j5 _,by simp[ttΦ,upd]⟩
  ·have d4:=hdeep 4 kr0;simp only[ttΦ,got]at d4;unfold Oper.wp;simp[go_sem,execOp,Act.eval,↓IntWalk.iteOmega,d4];exact⟨_,rfl,j5 _,by simp[ttΦ,upd]⟩
  ·have d5:=hdeep 5 kr0;simp only[ttΦ,got]at d5;have d5':=d5;simp at d5';refine U6 (T:=plus ((w.alloc (.cells #[.int .i64 W,.int .i64 H,.slice ao n cap] 64)).alloc (.cells #[.int .i64 0,.int .i64 0,.slice none 0 0] 64)) x) (ao:=none) (n:=0) (cap:=0) (l:=[]) _ _ rfl a9v a1Q a88 rfl (j5 _) zd d5 (hl.ex sk9) om0 dc0 fun ao' cap' y h=>?_
   rw[Nat.zero_add,List.nil_append]at h;exact⟨_,rfl,⟨y,rfl⟩,ao',cap',by simp[upd],h.base (by rw[qn];omega)⟩
  ·have d1:=hdeep 1 kr0;have d3:=hdeep 3 kr0;obtain⟨a9,c9,e9,_⟩:∃a_ c,got a 9=.slice a_ n c∧_:=hdeep 6 kr0;simp only[ttΦ,got]at d1 d3;have g9:=e9;simp only[got]at g9;simp at g9 d1 d3;unfold Oper.wp;simp[go_sem,execOp,Act.eval,↓IntWalk.iteOmega,d1,d3,g9];exact⟨_,rfl,j5 _,a9,c9,by simp[upd],by simp[upd];exact e9⟩
 case fin=>
  rintro t w1 hg hΦ o ho;have h0:=hΦ 0 dc0;have h1:=hΦ 1 dc0;have h2:=hΦ 2 dc0;have h3:=hΦ 3 dc0;have h4:=hΦ 4 dc0;have h5:=hΦ 5 dc0;obtain⟨a9,c9,e9,o9⟩:=hΦ 6 dc0;obtain⟨b9,d9,e10,e10a⟩:=hΦ 7 dc0;simp only[ttΦ]at h0 h1 h2 h3 h4 h5;rw[e9]at e10a;cases e10a;simp only[List.getElem?_cons_succ,List.getElem?_cons_zero,Option.some.injEq]at ho;subst ho;simp only[zh,List.take_succ_cons,List.take_zero,h0,h1,h2,h3,h4,h5,e9,e10];simp only[Act.put];simp only[List.setIfInBounds_toArray,List.set_cons_succ,List.set_cons_zero];have hgb:w1.heap[w.heap.size+1]?=some (.cells #[.int .i64 0,.int .i64 0,.slice none 0 0] 64):=i7 hg (by rw[qe,if_pos (by simp[go_sem])]);have k0:=i6 (i:=0) hgb rfl;have k1:=i6 (i:=1) hgb rfl;have k2:=i6 (i:=2) hgb rfl;have z0:=j9 (i:=0) hgb;have z1:=j9 (i:=1) hgb;have z2:=j9 (i:=2) hgb;unfold Oper.wp;simp[go_sem,execOp,Act.eval,k0,k1,k2,z0,z1,z2];have o2:=((o9.set_other (i:=0) (u:=.int .i64 W) hgb dc0).set_other (i:=1) (u:=.int .i64 H) (j7 hgb) dc0).set_other (i:=2) (u:=.slice a9 n c9) (j7 (j7 hgb)) dc0;have rf:=j7 (i:=2) (u:=.slice a9 n c9) (j7 (i:=1) (u:=.int .i64 H) (j7 (i:=0) (u:=.int .i64 W) hgb));have hxf:=qb (i:=2) (u:=.slice a9 n c9) (g:=w.heap.size+1) (qb (i:=1) (u:=.int .i64 H) (g:=w.heap.size+1) (qb (i:=0) (u:=.int .i64 W) (g:=w.heap.size+1) (i9 (show∃y,((w.alloc (.cells #[.int .i64 W,.int .i64 H,.slice ao n cap] 64)).alloc (.cells #[.int .i64 0,.int .i64 0,.slice none 0 0] 64))=plus w y from sk9) hg) om0) om0) om0;clear o9 k0 k1 k2 z0 z1 z2 hgb hΦ;generalize ((w1.setCell ⟨w.heap.size+1,0,none⟩ (.int .i64 W)).setCell ⟨w.heap.size+1,1,none⟩ (.int .i64 H)).setCell ⟨w.heap.size+1,2,none⟩ (.slice a9 n c9)=w9 at*;have f0:=i6 (i:=0) rf rfl;have f1:=i6 (i:=1) rf rfl;have f2:=i6 (i:=2) rf rfl;have hB:w.heap.size≤((w.alloc (.cells #[.int .i64 W,.int .i64 H,.slice ao n cap] 64)).alloc (.cells #[.int .i64 0,.int .i64 0,.slice none 0 0] 64)).heap.size:=by simp[go_sem];omega
  go_wp2;exact bodyPost_ret (v:=.agg #[.int .i64 W,.int .i64 H,.slice a9 n c9]) (by simp[results,Tryz.results38,go_sem,f0,f1,f2]) rfl ⟨a9,c9,rfl,hxf,o2.base hB⟩
end
section
theorem Own.cap_le{α:Type}{f:α→List Value}{w T:World}{ao:Option Addr}{n cap c:Nat}{l:List α}{e:TypeId}(h:Own e c f T w ao n cap l):n≤cap:=by
 rcases h.2.2 with⟨e1,h0⟩|⟨k,cp,cu,e1,_,_,h4,_⟩
 ·simp only[Value.slice.injEq]at e1;omega
 ·simp only[Value.slice.injEq]at e1;omega
structure zS (T w:World) (ao:Option Addr) (n cap:Nat) (ko:Option Addr) (kn kcap:Nat) (hs:List RH) (g:Gr):Prop where
 sl:Own 86 2 fS T w ao n cap g.sl
 kh:Own 88 1 fR T w ko kn kcap hs
 len:hs.length=g.ks.length
 row:∀k,k<hs.length→Own 32 2 f2 T w (nth dRH hs k).ao (nth dRH hs k).n (nth dRH hs k).cap (nth [] g.ks k)
section
variable {T T' w w':World} {ao ko:Option Addr} {n cap kn kcap:Nat} {hs:List RH} {g:Gr}
theorem zS.ex(h:zS T w ao n cap ko kn kcap hs g)(hw:∃x,w'=plus w x):zS T w' ao n cap ko kn kcap hs g:=⟨h.sl.ex hw,h.kh.ex hw,h.len,fun k hk=>(h.row k hk).ex hw⟩
theorem zS.base(h:zS T w ao n cap ko kn kcap hs g)(hT:T'.heap.size≤T.heap.size):zS T' w ao n cap ko kn kcap hs g:=⟨h.sl.base hT,h.kh.base hT,h.len,fun k hk=>(h.row k hk).base hT⟩
theorem zS.kl(h:zS T w ao n cap ko kn kcap hs g):g.ks.length=kn:=h.len.symm.trans h.kh.1
theorem zS.at(h:zS T w ao n cap ko kn kcap hs g)(h1:n≤1000)(h2:kn≤1000)(h3:∀k,k<g.ks.length→(nth [] g.ks k).length≤1000):QL w ao n ko kn hs g:=
 ⟨h.sl.lay,h.kh.lay,h.len,fun k hk=>(h.row k hk).lay,h1,h2,fun k hk=>by rw[←(h.row k hk).1];exact h3 k (by rw[←h.len];exact hk),fun k hk=>(h.row k hk).cap_le,fun k hk=>(h.row k hk).none_zero⟩
theorem zS.set_other{gb i:Nat}{u:Value}{cur:Array Value}{e':TypeId}(h:zS T w ao n cap ko kn kcap hs g)(hb:w.heap[gb]?=some (.cells cur e'))(h1:e'≠86)(h2:e'≠88)(h3:e'≠32):zS T (w.setCell ⟨gb,i,none⟩ u) ao n cap ko kn kcap hs g:=
 ⟨h.sl.set_other hb h1,h.kh.set_other hb h2,h.len,fun k hk=>(h.row k hk).set_other hb h3⟩
end
structure TI (T:World) (p:Nat) (aa:Option Addr) (n ac:Nat) (L:List Sl) (ks:List (List (Int × Int))) (k:Nat) (ka:Option Addr) (kc:Nat) (hs:List RH) (wr:World):Prop where
 ex:∃y,wr=plus T y
 box:wr.heap[p]?=some (.cells #[.slice aa n ac,.slice ka k kc] 27)
 sl:Own 86 2 fS T wr aa n ac L
 kh:Own 88 1 fR T wr ka k kc hs
 row:∀j,j<k→Own 32 2 f2 T wr (nth dRH hs j).ao (nth dRH hs j).n (nth dRH hs j).cap (nth [] ks j)
section
variable {T wr wr':World} {p:Nat} {aa ka ka':Option Addr} {n ac k kc kc':Nat} {L:List Sl} {ks:List (List (Int × Int))} {hs hs':List RH}
theorem TI.on(h:TI T p aa n ac L ks k ka kc hs wr)(hw:∃x,wr'=plus wr x):TI T p aa n ac L ks k ka kc hs wr':=⟨i9 h.ex hw,i7 hw h.box,h.sl.ex hw,h.kh.ex hw,fun j hj=>(h.row j hj).ex hw⟩
theorem TI.app{r:RH}(h:TI T p aa n ac L ks k ka kc hs wr)(hp:T.heap.size≤p)(o:Own 32 2 f2 T wr r.ao r.n r.cap (nth [] ks k))(oh:Own 88 1 fR T wr' ka' (k+1) kc' (hs++[r]))(hx:∃y,wr'=plus T y)(hgr:wr.grownBy wr' (Value.ownBlock (.slice ka k kc))):
  TI T p aa n ac L ks (k+1) ka' kc' (hs++[r]) (wr'.setCell ⟨p,1,none⟩ (.slice ka' (k+1) kc')):=by
 have hb:=t8 hgr h.kh h.box dc0;have hl:=h.kh.1;refine⟨qb hx hp,j7 hb,(zj hgr h.kh h.sl dc0).set_other hb dc0,oh.set_other hb dc0,fun j hj=>?_⟩;by_cases hjk:j<k
 ·rw[zB om0];exact(zj hgr h.kh (h.row j hjk) dc0).set_other hb dc0
 ·obtain rfl:j=k:=om0;rw[zG om0,show j - hs.length=0 by omega];exact(zj hgr h.kh o dc0).set_other hb dc0
end
def a82 (w:World) (n kn:Nat) (g:Gr) (e:Ending) (w':World):Prop:=∃ao' cap' ko' kcap' hs',e=.returned (.agg #[.slice ao' n cap',.slice ko' kn kcap'])∧(∃y,w'=plus w y)∧zS w w' ao' n cap' ko' kn kcap' hs' g
theorem QJ(ao:Option Addr)(n cap:Nat)(ko:Option Addr)(kn kcap:Nat)(hs:List RH)(g:Gr)(w:World)(hG:QL w ao n ko kn hs g):
  Calls Tryz.prog 35 #[.agg #[.slice ao n cap,.slice ko kn kcap]] w fun e w'=>a82 w n kn g e w':=by
 have hlen:=hG.kl;have hkh:=hG.kh.len;have b1:=hG.n1;have b3:=hG.n2;go_enter Tryz.func35,Tryz.ntmps35;go_upto_region 2 with(go_at_call 80;refine(ZI _ _ _ g.sl _ (hG.sl.ex sk0) om0).mono ?_;rintro e w1 ⟨a1,c1,rfl,hw1,o1⟩;have q1:w1.heap[w.heap.size]?=some (.cells #[.slice ao n cap,.slice ko kn kcap] 27):=i7 hw1 (by rw[qe,if_neg (by simp),qe,if_pos rfl]);have hr0:w1.heap[w.heap.size+1]?=some (.cells #[.slice none 0 0,.slice none 0 0] 27):=i7 hw1 (by rw[qe,if_pos (by simp)]));have hs1:=qu hw1;have r0:=i7 (qE (o:=(.cells #[.slice a1 n c1,.slice none 0 0] 27)) (j5 w1)) hr0;have g0:=i7 (qE (o:=(.cells #[.slice a1 n c1,.slice none 0 0] 27)) (j5 w1)) q1;have hI:TI w w1.heap.size a1 n c1 g.sl g.ks 0 none 0 [] (w1.alloc (.cells #[.slice a1 n c1,.slice none 0 0] 27)):=⟨sn0,by rw[qe,if_pos rfl],(o1.ex (qE (o:=(.cells #[.slice a1 n c1,.slice none 0 0] 27)) (j5 w1))).base (by simp[go_sem];omega),zd,fun j hj=>om0⟩;have lq:=qi q1;have lr0:=qi hr0;clear o1 q1 hr0;generalize w1.alloc (.cells #[.slice a1 n c1,.slice none 0 0] 27)=w2 at*;have hx2:=hI.ex;have t1:=i6 (i:=1) g0 rfl;go_wp2;go_loopw [4] (fun i_ wr=>∃(k:Nat) (ka:Option Addr) (kc:Nat) (hs':List RH),k≤kn∧i_=.int .i64 k∧TI w w1.heap.size a1 n c1 g.sl g.ks k ka kc hs' wr∧wr.heap[w.heap.size]?=some (.cells #[.slice ao n cap,.slice ko kn kcap] 27)∧wr.heap[w.heap.size+1]?=some (.cells #[.slice none 0 0,.slice none 0 0] 27)) (fun i_ _=>kn - (intOf i_).toNat)
 case atStart=>exact⟨0,none,0,[],Nat.zero_le _,rfl,hI,g0,r0⟩
 case round=>
  clear hI t1 g0 r0 hx2;obtain⟨k,ka,kc,hs',hk,rfl,hI,g0,r0⟩:=hrel;have t1:=i6 (i:=1) g0 rfl;have e0:=i6 (i:=0) hI.box rfl;have e1:=i6 (i:=1) hI.box rfl;have lb:=qi hI.box;have lr:=qi r0;by_cases hkl:k<kn;rotate_left
  ·have ik:¬(k:Int)<(kn:Int):=om0;obtain rfl:k=kn:=om0;have s0:=i6 (i:=0) r0 rfl;have s1:=i6 (i:=1) r0 rfl;have z0:=j9 (i:=0) r0;have z1:=j9 (i:=1) r0;have hO:zS w wr a1 n c1 ka k kc hs' g:=⟨hI.sl,hI.kh,by rw[hI.kh.1,hlen],fun j hj=>hI.row j (by rw[←hI.kh.1];exact hj)⟩;have hO2:=(hO.set_other (i:=0) (u:=.slice a1 n c1) r0 dc0 dc0 dc0).set_other (i:=1) (u:=.slice ka k kc) (j7 r0) dc0 dc0 dc0;have rf:=j7 (i:=1) (u:=.slice ka k kc) (j7 (i:=0) (u:=.slice a1 n c1) r0);have hxf:=qb (i:=1) (u:=.slice ka k kc) (g:=w.heap.size+1) (qb (i:=0) (u:=.slice a1 n c1) (g:=w.heap.size+1) hI.ex om0) om0;clear hO;go_wp2;generalize (wr.setCell ⟨w.heap.size+1,0,none⟩ (.slice a1 n c1)).setCell ⟨w.heap.size+1,1,none⟩ (.slice ka k kc)=w9 at*;have f0:=i6 (i:=0) rf rfl;have f1:=i6 (i:=1) rf rfl;exact bodyPost_ret (v:=.agg #[.slice a1 n c1,.slice ka k kc]) (by simp[results,Tryz.results35,go_sem,f0,f1]) rfl ⟨a1,c1,ka,kc,hs',rfl,hxf,hO2⟩
  have ik:(k:Int)<(kn:Int):=om0;obtain⟨kg,kf,rfl,hkg,hkc⟩:=hG.kh.some om0;have c1':=qf hI.ex (O9 hkh hkc hkl);have hrow:=(hG.row k om0).ex hI.ex;have hn3:=hG.n3 k om0;go_upto_region 7 with(at_builtin;refine qo (T:=wr) (l:=[]) rfl _ _ rfl ad6 Q1 ZV rfl sk0 zd rfl hrow om0 dc0 ?_;intro ao' cap' yv hown';rw[Nat.zero_add,List.nil_append]at hown');have hx5:∃y,plus wr yv=plus wr y:=⟨yv,rfl⟩;have hI5:=hI.on hx5;have g5:=i7 hx5 g0;have r5:=i7 hx5 r0;have orow:=hown'.base (T':=w) (by have:=qu hI.ex;omega);clear hown' c1' e0 e1 lb lr hI t1 g0 r0 hrow;generalize plus wr yv=w5 at*;have e0:=i6 (i:=0) hI5.box rfl;have e1:=i6 (i:=1) hI5.box rfl;have z1:=j9 (i:=1) hI5.box;have lb:=qi hI5.box;go_wp2_with (at_builtin;(refine qW (T:=w) rfl _ _ rfl a8Z a4O a9k rfl (hI5.on sk0).ex (hI5.on sk0).kh rfl (l2:=[⟨ao',(nth dRH hs k).n,cap'⟩]) ⟨rfl,.inr ⟨_,0,rfl,by(simp[go_sem];try omega),fun jj u hu=>by match jj,hu with|0,hu=>(simp[fR]at hu;subst hu;simp[go_sem,↓IntWalk.iteOmega])|jj+1,hu=>simp[fR]at hu⟩⟩ om0 dc0 ?_);intro ka2 kc2 w7 oh hx7 hgr7;have hI6:=hI5.on (wr':=w5.alloc (.cells #[.slice ao' (nth dRH hs k).n cap'] 88)) sk0;have hI7:=hI6.app (r:=⟨ao',(nth dRH hs k).n,cap'⟩) om0 (orow.ex sk0) oh hx7 hgr7;have bb:=t8 hgr7 hI6.kh hI6.box dc0;have e07:=i6 (i:=0) bb rfl;have e17:=i6 (i:=1) bb rfl;have z17:=j9 (i:=1) bb;have r7:=t8 hgr7 hI6.kh (i7 (w':=w5.alloc (.cells #[.slice ao' (nth dRH hs k).n cap'] 88)) sk0 r5) dc0;have r7':(w7.setCell ⟨w1.heap.size,1,none⟩ (.slice ka2 (k+1) kc2)).heap[w.heap.size+1]?=_:=(qd om0).trans r7;have g7:=t8 hgr7 hI6.kh (i7 (w':=w5.alloc (.cells #[.slice ao' (nth dRH hs k).n cap'] 88)) sk0 g5) dc0;have g7':(w7.setCell ⟨w1.heap.size,1,none⟩ (.slice ka2 (k+1) kc2)).heap[w.heap.size]?=_:=(qd om0).trans g7);go_roundw
  case rel=>exact⟨k+1,ka2,kc2,hs'++[⟨ao',(nth dRH hs k).n,cap'⟩],om0,by go_num,hI7,g7',r7'⟩
  case measure=>simp[intOf];omega
end
end Go.Proofs.YtcekcihijdipoaaGreat
