/- A pack of texts: MeshRT. -/
import Derived.Test.YtcekcihijdipoaaGreatPD15
namespace Go.Proofs.YtcekcihijdipoaaGreat
set_option maxRecDepth 100000
set_option maxHeartbeats 16000000
section
open Go.RowKit Go.ChangeShapes Go.WideShapes Go.ChangeAt
set_option linter.unusedSimpArgs false
set_option linter.unusedVariables false
attribute [local go_sem] qn qZ A2 zg zz zA t5 qJ zf qO qD t6
attribute [local go_sem] eqarr_40 nearr_40 larr_40
attribute [local go_sem] eqarr_137 nearr_137 larr_137
attribute [local go_sem] isnil_47
attribute [local go_sem] isnil_57
attribute [local go_sem] isnil_58
attribute [local go_sem] isnil_59
def rtS (i:Nat):List Nat:=match i with|0=>[32]|1=>[33]|2=>[34]|3=>[35]|4=>[36]|5=>[37]|6=>[38]|7=>[39]|8=>[40]|9=>[41]|_=>[]
def rtΦ (T:World) (b q gm off k pn pc n1 cap1:Nat) (ao1:Option Addr) (ix:List Int) (i:Nat) (t:Nat→Value) (w':World):Prop:=match i with
 |0=>t 32=.pointer (some ⟨q,1,none⟩)
 |1=>t 33=.slice none 0 0
 |2=>t 34=.pointer (some ⟨b,2,none⟩)
 |3=>t 35=.slice (some ⟨gm,off,none⟩) pn pc
 |4=>t 36=.int .i64 k
 |5=>t 37=.pointer (some ⟨gm,off+k*2,none⟩)
 |6=>t 38=.pointer (some ⟨gm,off+k*2+1,none⟩)
 |7=>t 39=.slice ao1 n1 cap1
 |8=>∃a c,t 40=.slice a n1 c∧Own 3 1 fI T w' a n1 c ix
 |9=>t 41=.pointer (some ⟨q,1,none⟩)
 |_=>True
theorem a5Z(T:World)(b q gm off k pn pc n1 cap1:Nat)(ao1:Option Addr)(ix:List Int):∀i t t' w' x,rtΦ T b q gm off k pn pc n1 cap1 ao1 ix i t w'→(∀s∈rtS i,t' s=t s)→rtΦ T b q gm off k pn pc n1 cap1 ao1 ix i t' (plus w' x):=by
 intro i t t' w' x h hs'
 match i with
 |0=>exact(hs' 32 dc0).trans h
 |1=>exact(hs' 33 dc0).trans h
 |2=>exact(hs' 34 dc0).trans h
 |3=>exact(hs' 35 dc0).trans h
 |4=>exact(hs' 36 dc0).trans h
 |5=>exact(hs' 37 dc0).trans h
 |6=>exact(hs' 38 dc0).trans h
 |7=>exact(hs' 39 dc0).trans h
 |8=>obtain⟨a,c,h1,h2⟩:=h;exact⟨a,c,(hs' 40 dc0).trans h1,h2.plus x⟩
 |9=>exact(hs' 41 dc0).trans h
 |i+10=>trivial
theorem a2j(va ua pa:Option Addr)(vn vc un uc pn pc:Nat)(hs:List PH)(m:Ms)(w:World)(hm:I6 w ⟨va,vn,vc,ua,un,uc,pa,pn,pc⟩ hs m)(hf:a7e hs)(s1:vn≤1000)(s2:un≤1000)(s3:pn≤100):
  Calls Tryz.prog 37 #[.agg #[.slice va vn vc,.slice ua un uc,.slice pa pn pc]] w fun e w'=>∃h phs,e=.returned (fM h)∧(∃y,w'=plus w y)∧X5 w w' h phs m∧h.vn=vn∧h.un=un∧h.pn=pn:=by
 have hpp:M3 w hs m.ps:=hm.pp;have lp:=hm.pl.len;have lq:=hpp.len;simp only at lp;have hvl:Lay fV w va vn m.vs:=hm.vl;have hul:Lay f2 w ua un m.uv:=hm.ul;have hpl:Lay fP w pa pn hs:=hm.pl;go_enter Tryz.func37,Tryz.ntmps37;go_wp2_with (first|(at_builtin;refine qo (T:=(((w.alloc (.cells #[.slice va vn vc,.slice ua un uc,.slice pa pn pc] 61)).alloc (.cells #[.slice none 0 0,.slice none 0 0,.slice none 0 0] 61)).alloc (.cells #[.slice none 0 0,.slice none 0 0,.slice none 0 0] 61))) (l:=[]) rfl _ _ rfl a9P a1x a4o rfl skM zd rfl (hvl.ex skM) om0 dc0 ?_;intro av cv yv ov;rw[Nat.zero_add,List.nil_append]at ov;have ov1:=ov.swap (T':=(((w.alloc (.cells #[.slice va vn vc,.slice ua un uc,.slice pa pn pc] 61)).alloc (.cells #[.slice none 0 0,.slice none 0 0,.slice none 0 0] 61)).alloc (.cells #[.slice av vn cv,.slice none 0 0,.slice none 0 0] 61))) (by simp[go_sem]))|(at_builtin;refine qo (T:=plus (((w.alloc (.cells #[.slice va vn vc,.slice ua un uc,.slice pa pn pc] 61)).alloc (.cells #[.slice none 0 0,.slice none 0 0,.slice none 0 0] 61)).alloc (.cells #[.slice av vn cv,.slice none 0 0,.slice none 0 0] 61)) yv) (l:=[]) rfl _ _ rfl a9x Q1 ZV rfl skM zd rfl (hul.ex skM) om0 dc0 ?_;intro au cu yu ou;rw[Nat.zero_add,List.nil_append]at ou));have hx2:∃y,plus (plus (((w.alloc (.cells #[.slice va vn vc,.slice ua un uc,.slice pa pn pc] 61)).alloc (.cells #[.slice none 0 0,.slice none 0 0,.slice none 0 0] 61)).alloc (.cells #[.slice av vn cv,.slice au un cu,.slice none 0 0] 61)) yv) yu=plus ((w.alloc (.cells #[.slice va vn vc,.slice ua un uc,.slice pa pn pc] 61)).alloc (.cells #[.slice none 0 0,.slice none 0 0,.slice none 0 0] 61)) y:=skM;have hb2:(plus (plus (((w.alloc (.cells #[.slice va vn vc,.slice ua un uc,.slice pa pn pc] 61)).alloc (.cells #[.slice none 0 0,.slice none 0 0,.slice none 0 0] 61)).alloc (.cells #[.slice av vn cv,.slice au un cu,.slice none 0 0] 61)) yv) yu).heap[w.heap.size+2]?=some (.cells #[.slice av vn cv,.slice au un cu,.slice none 0 0] 61):=i7 (zt (zt (j5 _))) (by rw[qe,if_pos (by simp[go_sem])]);have ov2:=((ov1.swap (T':=(((w.alloc (.cells #[.slice va vn vc,.slice ua un uc,.slice pa pn pc] 61)).alloc (.cells #[.slice none 0 0,.slice none 0 0,.slice none 0 0] 61)).alloc (.cells #[.slice av vn cv,.slice au un cu,.slice none 0 0] 61))) (by simp[go_sem])).plus yu).base (T':=((w.alloc (.cells #[.slice va vn vc,.slice ua un uc,.slice pa pn pc] 61)).alloc (.cells #[.slice none 0 0,.slice none 0 0,.slice none 0 0] 61))) (by simp[go_sem]);have ou2:=(ou.swap (T':=plus (((w.alloc (.cells #[.slice va vn vc,.slice ua un uc,.slice pa pn pc] 61)).alloc (.cells #[.slice none 0 0,.slice none 0 0,.slice none 0 0] 61)).alloc (.cells #[.slice av vn cv,.slice au un cu,.slice none 0 0] 61)) yv) (by simp[go_sem])).base (T':=((w.alloc (.cells #[.slice va vn vc,.slice ua un uc,.slice pa pn pc] 61)).alloc (.cells #[.slice none 0 0,.slice none 0 0,.slice none 0 0] 61))) (by simp[go_sem];omega);clear ov ov1 ou;generalize plus (plus (((w.alloc (.cells #[.slice va vn vc,.slice ua un uc,.slice pa pn pc] 61)).alloc (.cells #[.slice none 0 0,.slice none 0 0,.slice none 0 0] 61)).alloc (.cells #[.slice av vn cv,.slice au un cu,.slice none 0 0] 61)) yv) yu=w2 at*;go_loopw [4] (fun i wr=>∃(k:Nat) (ap:Option Addr) (cp:Nat) (phs:List PH),k≤pn∧i=.int .i64 k∧(∃y,wr=plus ((w.alloc (.cells #[.slice va vn vc,.slice ua un uc,.slice pa pn pc] 61)).alloc (.cells #[.slice none 0 0,.slice none 0 0,.slice none 0 0] 61)) y)∧wr.heap[w.heap.size+2]?=some (.cells #[.slice av vn cv,.slice au un cu,.slice ap k cp] 61)∧Own 43 3 fV ((w.alloc (.cells #[.slice va vn vc,.slice ua un uc,.slice pa pn pc] 61)).alloc (.cells #[.slice none 0 0,.slice none 0 0,.slice none 0 0] 61)) wr av vn cv m.vs∧Own 137 2 f2 ((w.alloc (.cells #[.slice va vn vc,.slice ua un uc,.slice pa pn pc] 61)).alloc (.cells #[.slice none 0 0,.slice none 0 0,.slice none 0 0] 61)) wr au un cu m.uv∧Own 131 2 fP ((w.alloc (.cells #[.slice va vn vc,.slice ua un uc,.slice pa pn pc] 61)).alloc (.cells #[.slice none 0 0,.slice none 0 0,.slice none 0 0] 61)) wr ap k cp phs∧(∀j,j<k→(nth dPH phs j).kind=(nth dPr m.ps j).kind)∧(∀j,j<k→Own 3 1 fI ((w.alloc (.cells #[.slice va vn vc,.slice ua un uc,.slice pa pn pc] 61)).alloc (.cells #[.slice none 0 0,.slice none 0 0,.slice none 0 0] 61)) wr (nth dPH phs j).ao (nth dPH phs j).n (nth dPH phs j).cap (nth dPr m.ps j).ix)) (fun i _=>pn - (intOf i).toNat)
 case atStart=>exact⟨0,none,0,[],Nat.zero_le _,rfl,hx2,hb2,ov2,ou2,zd,fun j hj=>om0,fun j hj=>om0⟩
 case round=>
  clear hx2 hb2 ov2 ou2;obtain⟨k,ap,cp,phs,hk,rfl,hx2,hb2,ov2,ou2,op2,hkn,hix⟩:=hrel;have q2:wr.cell? ⟨w.heap.size,2,none⟩=some (.slice pa pn pc):=qf hx2 (by simp[go_sem,↓IntWalk.iteOmega]);have hq2:=zC q2;have hob:=qi hb2;by_cases hkl:k<pn
  ·have hplw:=hpl.ex (w':=wr) snM;obtain⟨gm,off,rfl,hgm,hcell⟩:=hplw.some om0;obtain⟨d0,d1⟩:=a1o hplw.len hcell (k:=k) hkl;have hp:=hpp.one k om0;have hfk:=hf k om0;generalize hpe:nth dPr m.ps k=p at*;generalize hhe:nth dPH hs k=hh at*;obtain⟨kind,ao1,n1,cap1⟩:=hh;obtain⟨kind2,ix⟩:=p;obtain⟨hk1,hk2,hk3,hk4,hk5,hk6⟩:=hp;simp only at d0 d1 hk1 hk2 hk3 hk4 hk5 hk6 hfk;subst hk1;have hk6w:=hk6.ex (w':=wr) snM;have ik:(k:Int)<(pn:Int):=om0;go_wp2;refine M6 10 rtS (rtΦ ((w.alloc (.cells #[.slice va vn vc,.slice ua un uc,.slice (some ⟨gm,off,none⟩) pn pc] 61)).alloc (.cells #[.slice none 0 0,.slice none 0 0,.slice none 0 0] 61)) w.heap.size wr.heap.size gm off k pn pc n1 cap1 ao1 ix) kr0 kr0 rfl (a5Z ((w.alloc (.cells #[.slice va vn vc,.slice ua un uc,.slice (some ⟨gm,off,none⟩) pn pc] 61)).alloc (.cells #[.slice none 0 0,.slice none 0 0,.slice none 0 0] 61)) w.heap.size wr.heap.size gm off k pn pc n1 cap1 ao1 ix) ?steps ?fin
   case steps=>
    refine⟨?_,?_,?_,?_,?_,?_,?_,?_,?_,?_,trivial⟩<;>intro a w' hg hfree hdeep<;>obtain⟨x,rfl⟩:=hg
    ·have f5:=hfree 5 kr0;simp only[rtΦ,got]at f5;simp[go_sem]at f5;unfold Oper.wp;simp[go_sem,execOp,Act.eval,↓IntWalk.iteOmega,f5];exact⟨_,rfl,j5 _,by simp[rtΦ,upd]⟩
    ·have d32:=hdeep 0 kr0;simp only[rtΦ,got]at d32
     skip
     unfold Oper.wp;simp[go_sem,execOp,Act.eval,↓IntWalk.iteOmega,d32];exact⟨_,rfl,j5 _,by simp[rtΦ,upd]⟩
    ·have f1:=hfree 1 kr0;simp only[rtΦ,got]at f1;simp[go_sem]at f1;unfold Oper.wp;simp[go_sem,execOp,Act.eval,↓IntWalk.iteOmega,f1];exact⟨_,rfl,j5 _,by simp[rtΦ,upd]⟩
    ·have d34:=hdeep 2 kr0;simp only[rtΦ,got]at d34
     skip
     unfold Oper.wp;simp[go_sem,execOp,Act.eval,↓IntWalk.iteOmega,d34,q2];exact⟨_,rfl,j5 _,by simp[rtΦ,upd]⟩
    ·have f4:=hfree 4 kr0;simp only[rtΦ,got]at f4;simp[go_sem]at f4;unfold Oper.wp;simp[go_sem,execOp,Act.eval,↓IntWalk.iteOmega,f4];exact⟨_,rfl,j5 _,by simp[rtΦ,upd]⟩
    ·have d35:=hdeep 3 kr0;have d36:=hdeep 4 kr0;simp only[rtΦ,got]at d35 d36
     skip
     unfold Oper.wp;simp[go_sem,execOp,Act.eval,↓IntWalk.iteOmega,d35,d36];exact⟨_,rfl,j5 _,by simp[rtΦ,upd]⟩
    ·have d37:=hdeep 5 kr0;simp only[rtΦ,got]at d37
     skip
     unfold Oper.wp;simp[go_sem,execOp,Act.eval,↓IntWalk.iteOmega,d37];exact⟨_,rfl,j5 _,by simp[rtΦ,upd]⟩
    ·have d38:=hdeep 6 kr0;simp only[rtΦ,got]at d38
     skip
     unfold Oper.wp;simp[go_sem,execOp,Act.eval,↓IntWalk.iteOmega,d38,d1];exact⟨_,rfl,j5 _,by simp[rtΦ,upd]⟩
    ·have d33:=hdeep 1 kr0;have d39:=hdeep 7 kr0;simp only[rtΦ,got]at d33 d39;refine Z6 (l:=[]) (T:=plus (wr.alloc (.cells #[.int .u8 kind,.slice none 0 0] 131)) x) _ _ rfl a9c a8K a8Y (ao:=none) (n:=0) (cap:=0) (by simpa [Act.eval]using d33) (j5 _) zd (ao2:=ao1) (m:=n1) (c2:=cap1) (by simpa [Act.eval]using d39) (hk6w.ex snM) om0 dc0 ?_;intro ao3 c3 w1 o1 hw1 _;rw[Nat.zero_add,List.nil_append]at o1;rw[Nat.zero_add];exact⟨_,rfl,hw1,(show∃a_ c_,upd (got a) (some 40) (.slice ao3 n1 c3) 40=.slice a_ n1 c_∧Own 3 1 fI ((w.alloc (.cells #[.slice va vn vc,.slice ua un uc,.slice (some ⟨gm,off,none⟩) pn pc] 61)).alloc (.cells #[.slice none 0 0,.slice none 0 0,.slice none 0 0] 61)) w1 a_ n1 c_ ix from⟨ao3,c3,by simp[upd],o1.base (by have:=qu hx2;simp[go_sem]at this ⊢;omega)⟩)⟩
    ·have f5:=hfree 5 kr0;simp only[rtΦ,got]at f5;simp[go_sem]at f5;unfold Oper.wp;simp[go_sem,execOp,Act.eval,↓IntWalk.iteOmega,f5];exact⟨_,rfl,j5 _,by simp[rtΦ,upd]⟩
   case fin=>
    rintro t w1 hg hΦ o ho;have h0:=hΦ 0 dc0;have h1:=hΦ 1 dc0;have h2:=hΦ 2 dc0;have h3:=hΦ 3 dc0;have h4:=hΦ 4 dc0;have h5:=hΦ 5 dc0;have h6:=hΦ 6 dc0;have h7:=hΦ 7 dc0;have h8:=hΦ 8 dc0;have h9:=hΦ 9 dc0;clear hΦ;simp only[rtΦ]at h0 h1 h2 h3 h4 h5 h6 h7 h8 h9;obtain⟨a9,c9,e40,o9⟩:=h8;simp only[List.getElem?_cons_succ,List.getElem?_cons_zero,Option.some.injEq]at ho;subst ho;simp only[zh,List.take_succ_cons,List.take_zero,h0,h1,h2,h3,h4,h5,h6,h7,e40,h9];simp only[Act.put];simp only[List.setIfInBounds_toArray,List.set_cons_succ,List.set_cons_zero];have hwr:∃y,w1=plus wr y:=i9 (qE (j5 _)) hg;have hbq:w1.heap[wr.heap.size]?=some (.cells #[.int .u8 kind,.slice none 0 0] 131):=i7 hg (by rw[qe,if_pos rfl]);have k1:=i6 (i:=1) hbq rfl;have z1:=j9 (i:=1) hbq;unfold Oper.wp;simp[go_sem,execOp,Act.eval,k1,z1];have ov3:=(ov2.ex hwr).set_other (i:=1) (u:=.slice a9 n1 c9) hbq dc0;have ou3:=(ou2.ex hwr).set_other (i:=1) (u:=.slice a9 n1 c9) hbq dc0;have op3:=op2.set_new (i:=1) (u:=.slice a9 n1 c9) hwr (Nat.le_refl _);have b3:(w1.setCell ⟨wr.heap.size,1,none⟩ (.slice a9 n1 c9)).heap[w.heap.size+2]?=_:=(qd om0).trans (i7 hwr hb2);have q3:=j7 (i:=1) (u:=.slice a9 n1 c9) hbq;simp only[List.setIfInBounds_toArray,List.set_cons_succ,List.set_cons_zero]at q3;have hx3:=qb (i:=1) (u:=.slice a9 n1 c9) (g:=wr.heap.size) (i9 hx2 hwr) (qu hx2);have o93:=o9.set_other (i:=1) (u:=.slice a9 n1 c9) hbq dc0;have hix3:=fun j hj=>((hix j hj).ex hwr).set_other (i:=1) (u:=.slice a9 n1 c9) hbq dc0
    have lph:=op2.1;have hsz3:=B9 w1 wr.heap.size 1 (.slice a9 n1 c9);have hszw:=qu hwr;generalize w1.setCell ⟨wr.heap.size,1,none⟩ (.slice a9 n1 c9)=w3 at*;clear ov2 ou2 op2 hix hb2 hbq k1 z1 h0 h1 h2 h3 h4 h5 h6 h7 h9 e40 o9 hwr hg hplw hcell q2;have p0:=i6 (i:=0) q3 rfl;have p1:=i6 (i:=1) q3 rfl;have r2:=i6 (i:=2) b3 rfl;have hq3:=qi q3;have hb3:=qi b3;go_wp2_with (at_builtin;refine qW (T:=((w.alloc (.cells #[.slice va vn vc,.slice ua un uc,.slice (some ⟨gm,off,none⟩) pn pc] 61)).alloc (.cells #[.slice none 0 0,.slice none 0 0,.slice none 0 0] 61))) rfl _ _ rfl a9K a8u a9I rfl (qE hx3) (op3.ex skM) rfl (l2:=[⟨kind,a9,n1,c9⟩]) ⟨rfl,.inr ⟨_,0,rfl,by(simp[go_sem];try omega),fun jj u hu=>by match jj,hu with|0,hu=>(simp[fP]at hu;subst hu;simp[go_sem,↓IntWalk.iteOmega])|1,hu=>(simp[fP]at hu;subst hu;simp[go_sem,↓IntWalk.iteOmega])|jj+2,hu=>simp[fP]at hu⟩⟩ om0 dc0 ?_;intro ap' cp' w4 op4 hx4 hgr4;have b4:=t8 hgr4 (op3.ex skM) (i7 (qE (j5 _)) b3) dc0;have ov4:=zj hgr4 (op3.ex skM) (ov3.ex skM) dc0;have ou4:=zj hgr4 (op3.ex skM) (ou3.ex skM) dc0;have o94:=zj hgr4 (op3.ex skM) (o93.ex skM) dc0;have hix4:=(fun j hj=>zj hgr4 (op3.ex skM) ((hix3 j hj).ex skM) dc0);have y2:=i6 (i:=2) b4 rfl;have zz2:=j9 (i:=2) b4;have hb4:=qi b4);have ov5:=ov4.set_other (i:=2) (u:=.slice ap' (k+1) cp') b4 dc0;have ou5:=ou4.set_other (i:=2) (u:=.slice ap' (k+1) cp') b4 dc0;have op5:=op4.set_other (i:=2) (u:=.slice ap' (k+1) cp') b4 dc0;have o95:=o94.set_other (i:=2) (u:=.slice ap' (k+1) cp') b4 dc0;have hix5:=fun j hj=>(hix4 j hj).set_other (i:=2) (u:=.slice ap' (k+1) cp') b4 dc0
    have b5:=j7 (i:=2) (u:=.slice ap' (k+1) cp') b4;simp only[List.setIfInBounds_toArray,List.set_cons_succ,List.set_cons_zero]at b5;have hx5:=qb (i:=2) (u:=.slice ap' (k+1) cp') (g:=w.heap.size+2) hx4 (by simp[go_sem]);go_roundw
    case rel=>
     refine⟨k+1,ap',cp',phs++[⟨kind,a9,n1,c9⟩],om0,by go_num,hx5,b5,ov5,ou5,op5,fun j hj=>?_,fun j hj=>?_⟩
     ·by_cases ej:j=k
      ·subst ej;rw[zG om0,lph,Nat.sub_self,hpe];rfl
      ·rw[zB om0];exact hkn j om0
     ·by_cases ej:j=k
      ·subst ej;rw[zG om0,lph,Nat.sub_self,hpe];exact o95
      ·rw[zB om0];exact hix5 j om0
    case measure=>simp[intOf];omega
  ·have ik:¬(k:Int)<(pn:Int):=om0;obtain rfl:k=pn:=om0;have hres:wr.heap[w.heap.size+1]?=some (.cells #[.slice none 0 0,.slice none 0 0,.slice none 0 0] 61):=i7 hx2 (by rw[qe,if_pos (by simp[go_sem])]);have k0:=i6 (i:=0) hres rfl;have k1:=i6 (i:=1) hres rfl;have k2:=i6 (i:=2) hres rfl;have z0:=j9 (i:=0) hres;have z1:=j9 (i:=1) hres;have z2:=j9 (i:=2) hres;have b0:=i6 (i:=0) hb2 rfl;have b1:=i6 (i:=1) hb2 rfl;have b2:=i6 (i:=2) hb2 rfl;go_wp2;have hres3:=j7 (i:=2) (u:=.slice ap k cp) (j7 (i:=1) (u:=.slice au un cu) (j7 (i:=0) (u:=.slice av vn cv) hres));simp only[List.setIfInBounds_toArray,List.set_cons_succ,List.set_cons_zero]at hres3;have ov3:=((ov2.set_other (i:=0) (u:=.slice av vn cv) hres dc0).set_other (i:=1) (u:=.slice au un cu) (j7 hres) dc0).set_other (i:=2) (u:=.slice ap k cp) (j7 (j7 hres)) dc0;have ou3:=((ou2.set_other (i:=0) (u:=.slice av vn cv) hres dc0).set_other (i:=1) (u:=.slice au un cu) (j7 hres) dc0).set_other (i:=2) (u:=.slice ap k cp) (j7 (j7 hres)) dc0;have op3:=((op2.set_other (i:=0) (u:=.slice av vn cv) hres dc0).set_other (i:=1) (u:=.slice au un cu) (j7 hres) dc0).set_other (i:=2) (u:=.slice ap k cp) (j7 (j7 hres)) dc0;have hix3:=fun j hj=>(((hix j hj).set_other (i:=0) (u:=.slice av vn cv) hres dc0).set_other (i:=1) (u:=.slice au un cu) (j7 hres) dc0).set_other (i:=2) (u:=.slice ap k cp) (j7 (j7 hres)) dc0
   have hwr:∃y,wr=plus w y:=snM;have hx3:=qb (i:=2) (u:=.slice ap k cp) (g:=w.heap.size+1) (qb (i:=1) (u:=.slice au un cu) (g:=w.heap.size+1) (qb (i:=0) (u:=.slice av vn cv) (g:=w.heap.size+1) hwr om0) om0) om0;have lph:=op2.1;clear ov2 ou2 op2 hix hres k0 k1 k2 z0 z1 z2 b0 b1 b2 hb2 hx2 hwr;generalize ((wr.setCell ⟨w.heap.size+1,0,none⟩ (.slice av vn cv)).setCell ⟨w.heap.size+1,1,none⟩ (.slice au un cu)).setCell ⟨w.heap.size+1,2,none⟩ (.slice ap k cp)=w3 at*;have c0:=i6 (i:=0) hres3 rfl;have c1:=i6 (i:=1) hres3 rfl;have c2:=i6 (i:=2) hres3 rfl;have hbs:w.heap.size≤((w.alloc (.cells #[.slice va vn vc,.slice ua un uc,.slice pa k pc] 61)).alloc (.cells #[.slice none 0 0,.slice none 0 0,.slice none 0 0] 61)).heap.size:=by simp[go_sem];omega
   exact bodyPost_ret (v:=.agg #[.slice av vn cv,.slice au un cu,.slice ap k cp]) (by simp[results,Tryz.results37,go_sem,c0,c1,c2]) rfl
    ⟨⟨av,vn,cv,au,un,cu,ap,k,cp⟩,rfl,hx3,⟨phs,ov3.base hbs,ou3.base hbs,op3.base hbs,om0,fun j hj=>hkn j om0,fun j hj=>(hix3 j om0).base hbs⟩,rfl,rfl,rfl⟩
end
end Go.Proofs.YtcekcihijdipoaaGreat
