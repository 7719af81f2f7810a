/- A pack of texts: EdSpoil, EdFew, ByMath, ByLay, EdOpen, Open2, EdOpen2, EdOpen3. -/
import Derived.Laws.BitsAllLaws
import Derived.Laws.BytesString
import Derived.Test.YtcekcihijdipoaaGreatPD27
import Derived.Test.YtcekcihijdipoaaGreatPD24
namespace Go.Proofs.YtcekcihijdipoaaGreat
set_option maxRecDepth 100000
set_option maxHeartbeats 16000000
open Go.RowKit Go.ChangeShapes Go.WideShapes Go.ChangeAt
set_option linter.unusedSimpArgs false
set_option linter.unusedVariables false
attribute [local go_sem] qn qZ A2 zg zz zA t5 qJ zf qO qD t6
section
theorem aw9{α:Type}{f:α→List Value}{w:World}{g off n:Nat}{l:List α}(h:Lay f w (some ⟨g,off,none⟩) n l)(hn:0<n):∀j u,(l.flatMap f)[j]?=some u→w.cell? ⟨g,off+j,none⟩=some u:=by
 obtain⟨g',o',e,_,h2⟩:=h.some hn;cases e;exact h2
theorem ax5(T:World)(h:SH)(x:SX)(s:Sc)(w:World)(hx:∃y,w=plus T y)(hO:zi T w h x s)(f:a3N s):Calls Tryz.prog 21 #[vS h] w fun e w'=>e=.returned (.tuple #[])∧∃y,w'=plus T y:=by
 have f1:=f.nn;have f2:=f.ks;have f3:=f.mn;have f4:=f.tn;have ns:=hO.ns;have nl:=hO.nl;have gk:=hO.g.kh;have gr:=hO.g.row;have glen:=hO.g.len;have ml:=hO.ml;have ms:=hO.ms;have tl:=hO.tl;have ts:=hO.ts;have nlen:=hO.nlen;have mlen:=hO.mlen;have tlen:=hO.tlen;obtain⟨ga,gn,gc,ka,kn,kc,na,nn,nc,ma,mn,mc,ta,tn,tc,r0,r1⟩:=h;simp only at nl gk ml tl;have n1:=nl.1;have k1:=gk.1;have m1:=ml.1;have t1:=tl.1;unfold vS;simp only;clear hO;go_enter Tryz.func21,Tryz.ntmps21;go_upto_region 1 with fail;refine qz (fun w'=>(∃y,w'=plus w y)∧w'.heap[w.heap.size]?=some (.cells #[.slice ga gn gc,.slice ka kn kc,.slice na nn nc,.slice ma mn mc,.slice ta tn tc,.int .i64 r0,.int .i64 r1] 34)) ⟨sk9,qc _ _⟩ ?_;rintro w0 ⟨x0,kb⟩;obtain⟨b,hb⟩:∃b,w.heap.size=b:=⟨_,rfl⟩;simp only[hb]at kb ⊢;have c0:=i6 (i:=0) kb rfl;have c1:=i6 (i:=1) kb rfl;have c2:=i6 (i:=2) kb rfl;have c3:=i6 (i:=3) kb rfl;have c4:=i6 (i:=4) kb rfl;have hS:=SpW.start (i9 hx x0);go_wp2;go_loopw [2] (fun i_ wr=>∃i:Nat,i≤nn∧i_=.int .i64 i∧SpW T w0 wr) (fun i_ _=>nn - (intOf i_).toNat)
 case atStart=>exact⟨0,Nat.zero_le _,rfl,hS⟩
 case round=>
  clear hS;obtain⟨i,hi,rfl,hS⟩:=hrel;have d0:=hS.cell kb c0 (.inl ⟨dc0,dc0⟩);have d1:=hS.cell kb c1 (.inl ⟨dc0,dc0⟩);have d2:=hS.cell kb c2 (.inl ⟨dc0,dc0⟩);have d3:=hS.cell kb c3 (.inl ⟨dc0,dc0⟩);have d4:=hS.cell kb c4 (.inl ⟨dc0,dc0⟩);have lb:=zC d0;by_cases hil:i<nn
  ·have ii:(i:Int)<(nn:Int):=om0;have own:=((ns i om0).far).ex x0;obtain⟨gN,cN,eN,hgN,hbN,hzN⟩:=(nl.ex x0).blk om0;cases eN;have hh:w0.cell? ⟨gN,i*33+17,none⟩=some (.slice (nth nh0 x.nh i).ao (nth nh0 x.nh i).n (nth nh0 x.nh i).cap):=by have h9:=F5 (d:=nh0) (nl.1) ag0 (aw9 (nl.ex x0).lay om0) hil 17 _ rfl;rw[Nat.zero_add]at h9;exact h9
   have own1:=own.1;have fw:=f.ns i om0;unfold al2 at fw;have hn:((nth nh0 x.nh i).n)≤20000:=om0;obtain⟨ra,hra⟩:∃a,(nth nh0 x.nh i).ao=a:=⟨_,rfl⟩;obtain⟨rn,hrn⟩:∃a,(nth nh0 x.nh i).n=a:=⟨_,rfl⟩;obtain⟨rc,hrc⟩:∃a,(nth nh0 x.nh i).cap=a:=⟨_,rfl⟩;rw[hra,hrn,hrc]at own hh;rw[hrn]at hn own1;clear hra hrn hrc fw;have hc:=hS.cell hbN hh (.inr ⟨rfl,om0⟩);go_wp2;go_loopw [3] (fun k_ wr=>∃k:Nat,k≤rn∧k_=.int .i64 k∧SpW T w0 wr) (fun k_ _=>rn - (intOf k_).toNat)
   case atStart=>exact⟨0,Nat.zero_le _,rfl,hS⟩
   case round=>
    clear hS hc lb d0 d1 d2 d3 d4;obtain⟨k,hk,rfl,hS⟩:=hrel;have d0:=hS.cell kb c0 (.inl ⟨dc0,dc0⟩);have d1:=hS.cell kb c1 (.inl ⟨dc0,dc0⟩);have d2:=hS.cell kb c2 (.inl ⟨dc0,dc0⟩);have d3:=hS.cell kb c3 (.inl ⟨dc0,dc0⟩);have d4:=hS.cell kb c4 (.inl ⟨dc0,dc0⟩);have lb:=zC d0;have hc:=hS.cell hbN hh (.inr ⟨rfl,om0⟩);by_cases hkl:k<rn
    ·have ik:(k:Int)<(rn:Int):=om0;obtain⟨gC,cC,eC,hgC,hbC,hzC⟩:=own.blk om0;cases eC;obtain⟨⟨cR,kR⟩,⟨u,hu⟩,hz⟩:=hS.any (i:=k) hbC om0;go_wp2;go_roundw
     case rel=>exact⟨k+1,om0,by go_num,hS.step kR hgC (.inl dc0)⟩
     case measure=>simp[intOf];omega
    ·have ik:¬(k:Int)<(rn:Int):=om0;obtain⟨⟨cR,kR⟩,⟨u,hu⟩,hz⟩:=hS.any (i:=i*33) hbN om0;go_wp2;go_roundw
     case rel=>exact⟨i+1,om0,by go_num,hS.step kR hgN (.inr ⟨rfl,om0⟩)⟩
     case measure=>simp[intOf];omega
  ·have ii:¬(i:Int)<(nn:Int):=om0;go_wp2;go_loopw [4] (fun i_ wr=>∃i:Nat,i≤kn∧i_=.int .i64 i∧SpW T w0 wr) (fun i_ _=>kn - (intOf i_).toNat)
   case atStart=>exact⟨0,Nat.zero_le _,rfl,hS⟩
   case round=>
    clear hS;obtain⟨i,hi,rfl,hS⟩:=hrel;have d0:=hS.cell kb c0 (.inl ⟨dc0,dc0⟩);have d1:=hS.cell kb c1 (.inl ⟨dc0,dc0⟩);have d2:=hS.cell kb c2 (.inl ⟨dc0,dc0⟩);have d3:=hS.cell kb c3 (.inl ⟨dc0,dc0⟩);have d4:=hS.cell kb c4 (.inl ⟨dc0,dc0⟩);have lb:=zC d0;by_cases hil:i<kn
    ·have ii:(i:Int)<(kn:Int):=om0;have own:=(gr i om0).ex x0;obtain⟨gN,cN,eN,hgN,hbN,hzN⟩:=(gk.ex x0).blk om0;cases eN;have hh:w0.cell? ⟨gN,i*1+0,none⟩=some (.slice (nth dRH x.gr i).ao (nth dRH x.gr i).n (nth dRH x.gr i).cap):=by have h9:=F5 (d:=dRH) (gk.1) a4O (aw9 (gk.ex x0).lay om0) hil 0 _ rfl;rw[Nat.zero_add]at h9;exact h9
     have own1:=own.1;have fw:=f.row i om0;have hn:((nth dRH x.gr i).n)≤20000:=om0;obtain⟨ra,hra⟩:∃a,(nth dRH x.gr i).ao=a:=⟨_,rfl⟩;obtain⟨rn,hrn⟩:∃a,(nth dRH x.gr i).n=a:=⟨_,rfl⟩;obtain⟨rc,hrc⟩:∃a,(nth dRH x.gr i).cap=a:=⟨_,rfl⟩;rw[hra,hrn,hrc]at own hh;rw[hrn]at hn own1;clear hra hrn hrc fw;have hc:=hS.cell hbN hh (.inl ⟨dc0,dc0⟩);rw[Nat.add_zero]at hc;rw[Nat.mul_one]at hc;go_wp2;go_loopw [5] (fun k_ wr=>∃k:Nat,k≤rn∧k_=.int .i64 k∧SpW T w0 wr) (fun k_ _=>rn - (intOf k_).toNat)
     case atStart=>exact⟨0,Nat.zero_le _,rfl,hS⟩
     case round=>
      clear hS hc lb d0 d1 d2 d3 d4;obtain⟨k,hk,rfl,hS⟩:=hrel;have d0:=hS.cell kb c0 (.inl ⟨dc0,dc0⟩);have d1:=hS.cell kb c1 (.inl ⟨dc0,dc0⟩);have d2:=hS.cell kb c2 (.inl ⟨dc0,dc0⟩);have d3:=hS.cell kb c3 (.inl ⟨dc0,dc0⟩);have d4:=hS.cell kb c4 (.inl ⟨dc0,dc0⟩);have lb:=zC d0;have hc:=hS.cell hbN hh (.inl ⟨dc0,dc0⟩);rw[Nat.add_zero]at hc;rw[Nat.mul_one]at hc;by_cases hkl:k<rn
      ·have ik:(k:Int)<(rn:Int):=om0;obtain⟨gC,cC,eC,hgC,hbC,hzC⟩:=own.blk om0;cases eC;obtain⟨⟨cR,kR⟩,⟨u,hu⟩,hz⟩:=hS.any (i:=k*2+1) hbC om0;go_wp2;go_roundw
       case rel=>exact⟨k+1,om0,by go_num,hS.step kR hgC (.inl dc0)⟩
       case measure=>simp[intOf];omega
      ·have ik:¬(k:Int)<(rn:Int):=om0;go_wp2;go_roundw
       case rel=>exact⟨i+1,om0,by go_num,hS⟩
       case measure=>simp[intOf];omega
    ·have ii:¬(i:Int)<(kn:Int):=om0;go_wp2;go_loopw [6] (fun i_ wr=>∃i:Nat,i≤mn∧i_=.int .i64 i∧SpW T w0 wr) (fun i_ _=>mn - (intOf i_).toNat)
     case atStart=>exact⟨0,Nat.zero_le _,rfl,hS⟩
     case round=>
      clear hS;obtain⟨i,hi,rfl,hS⟩:=hrel;have d0:=hS.cell kb c0 (.inl ⟨dc0,dc0⟩);have d1:=hS.cell kb c1 (.inl ⟨dc0,dc0⟩);have d2:=hS.cell kb c2 (.inl ⟨dc0,dc0⟩);have d3:=hS.cell kb c3 (.inl ⟨dc0,dc0⟩);have d4:=hS.cell kb c4 (.inl ⟨dc0,dc0⟩);have lb:=zC d0;by_cases hil:i<mn
      ·have ii:(i:Int)<(mn:Int):=om0;have own:=((ms i om0).t.v).ex x0;obtain⟨gN,cN,eN,hgN,hbN,hzN⟩:=(ml.ex x0).blk om0;cases eN;have hh:w0.cell? ⟨gN,i*3+0,none⟩=some (.slice (nth mh0 x.mh i).va (nth mh0 x.mh i).vn (nth mh0 x.mh i).vc):=by have h9:=F5 (d:=mh0) (ml.1) Z1 (aw9 (ml.ex x0).lay om0) hil 0 _ rfl;rw[Nat.zero_add]at h9;exact h9
       have own1:=own.1;have fw:=(f.ms i om0).1;have hn:((nth mh0 x.mh i).vn)≤20000:=om0;obtain⟨ra,hra⟩:∃a,(nth mh0 x.mh i).va=a:=⟨_,rfl⟩;obtain⟨rn,hrn⟩:∃a,(nth mh0 x.mh i).vn=a:=⟨_,rfl⟩;obtain⟨rc,hrc⟩:∃a,(nth mh0 x.mh i).vc=a:=⟨_,rfl⟩;rw[hra,hrn,hrc]at own hh;rw[hrn]at hn own1;clear hra hrn hrc fw;have hc:=hS.cell hbN hh (.inl ⟨dc0,dc0⟩);rw[Nat.add_zero]at hc;go_wp2;go_loopw [7] (fun k_ wr=>∃k:Nat,k≤rn∧k_=.int .i64 k∧SpW T w0 wr) (fun k_ _=>rn - (intOf k_).toNat)
       case atStart=>exact⟨0,Nat.zero_le _,rfl,hS⟩
       case round=>
        clear hS hc lb d0 d1 d2 d3 d4;obtain⟨k,hk,rfl,hS⟩:=hrel;have d0:=hS.cell kb c0 (.inl ⟨dc0,dc0⟩);have d1:=hS.cell kb c1 (.inl ⟨dc0,dc0⟩);have d2:=hS.cell kb c2 (.inl ⟨dc0,dc0⟩);have d3:=hS.cell kb c3 (.inl ⟨dc0,dc0⟩);have d4:=hS.cell kb c4 (.inl ⟨dc0,dc0⟩);have lb:=zC d0;have hc:=hS.cell hbN hh (.inl ⟨dc0,dc0⟩);rw[Nat.add_zero]at hc;by_cases hkl:k<rn
        ·have ik:(k:Int)<(rn:Int):=om0;obtain⟨gC,cC,eC,hgC,hbC,hzC⟩:=own.blk om0;cases eC;obtain⟨⟨cR,kR⟩,⟨u,hu⟩,hz⟩:=hS.any (i:=k*3) hbC om0;go_wp2;go_roundw
         case rel=>exact⟨k+1,om0,by go_num,hS.step kR hgC (.inl dc0)⟩
         case measure=>simp[intOf];omega
        ·have ik:¬(k:Int)<(rn:Int):=om0;go_wp2;go_roundw
         case rel=>exact⟨i+1,om0,by go_num,hS⟩
         case measure=>simp[intOf];omega
      ·have ii:¬(i:Int)<(mn:Int):=om0;go_wp2;go_loopw [8] (fun i_ wr=>∃i:Nat,i≤tn∧i_=.int .i64 i∧SpW T w0 wr) (fun i_ _=>tn - (intOf i_).toNat)
       case atStart=>exact⟨0,Nat.zero_le _,rfl,hS⟩
       case round=>
        clear hS;obtain⟨i,hi,rfl,hS⟩:=hrel;have d0:=hS.cell kb c0 (.inl ⟨dc0,dc0⟩);have d1:=hS.cell kb c1 (.inl ⟨dc0,dc0⟩);have d2:=hS.cell kb c2 (.inl ⟨dc0,dc0⟩);have d3:=hS.cell kb c3 (.inl ⟨dc0,dc0⟩);have d4:=hS.cell kb c4 (.inl ⟨dc0,dc0⟩);have lb:=zC d0;by_cases hil:i<tn
        ·have ii:(i:Int)<(tn:Int):=om0;have own:=((ts i om0).tx).ex x0;obtain⟨gN,cN,eN,hgN,hbN,hzN⟩:=(tl.ex x0).blk om0;cases eN;have hh:w0.cell? ⟨gN,i*3+2,none⟩=some (.slice (nth th0 x.th i).ao (nth th0 x.th i).n (nth th0 x.th i).cap):=by have h9:=F5 (d:=th0) (tl.1) Z2 (aw9 (tl.ex x0).lay om0) hil 2 _ rfl;rw[Nat.zero_add]at h9;exact h9
         have own1:=own.1;have fw:=f.ts i om0;unfold aa2 at fw;have hn:((nth th0 x.th i).n)≤20000:=om0;obtain⟨ra,hra⟩:∃a,(nth th0 x.th i).ao=a:=⟨_,rfl⟩;obtain⟨rn,hrn⟩:∃a,(nth th0 x.th i).n=a:=⟨_,rfl⟩;obtain⟨rc,hrc⟩:∃a,(nth th0 x.th i).cap=a:=⟨_,rfl⟩;rw[hra,hrn,hrc]at own hh;rw[hrn]at hn own1;clear hra hrn hrc fw;have hc:=hS.cell hbN hh (.inl ⟨dc0,dc0⟩);go_wp2;go_loopw [9] (fun k_ wr=>∃k:Nat,k≤rn∧k_=.int .i64 k∧SpW T w0 wr) (fun k_ _=>rn - (intOf k_).toNat)
         case atStart=>exact⟨0,Nat.zero_le _,rfl,hS⟩
         case round=>
          clear hS hc lb d0 d1 d2 d3 d4;obtain⟨k,hk,rfl,hS⟩:=hrel;have d0:=hS.cell kb c0 (.inl ⟨dc0,dc0⟩);have d1:=hS.cell kb c1 (.inl ⟨dc0,dc0⟩);have d2:=hS.cell kb c2 (.inl ⟨dc0,dc0⟩);have d3:=hS.cell kb c3 (.inl ⟨dc0,dc0⟩);have d4:=hS.cell kb c4 (.inl ⟨dc0,dc0⟩);have lb:=zC d0;have hc:=hS.cell hbN hh (.inl ⟨dc0,dc0⟩);by_cases hkl:k<rn
          ·have ik:(k:Int)<(rn:Int):=om0;obtain⟨gC,cC,eC,hgC,hbC,hzC⟩:=own.blk om0;cases eC;obtain⟨⟨cR,kR⟩,⟨u,hu⟩,hz⟩:=hS.any (i:=k*4) hbC om0;obtain⟨_,⟨u1,hu1⟩,hz1⟩:=hS.any (i:=k*4+1) hbC om0;obtain⟨_,⟨u2,hu2⟩,hz2⟩:=hS.any (i:=k*4+2) hbC om0;obtain⟨_,⟨u3,hu3⟩,hz3⟩:=hS.any (i:=k*4+3) hbC om0;go_wp2;go_roundw
           case rel=>exact⟨k+1,om0,by go_num,(((hS.step kR hgC (.inl dc0)).step (j7 kR) hgC (.inl dc0)).step (j7 (j7 kR)) hgC (.inl dc0)).step (j7 (j7 (j7 kR))) hgC (.inl dc0)⟩
           case measure=>simp[intOf];omega
          ·have ik:¬(k:Int)<(rn:Int):=om0;go_wp2;go_roundw
           case rel=>exact⟨i+1,om0,by go_num,hS⟩
           case measure=>simp[intOf];omega
        ·have ii:¬(i:Int)<(tn:Int):=om0;go_wp2
         first|exact bodyPost_end (v:=.tuple #[]) (by simp[results,Tryz.results21,go_sem]) rfl ⟨rfl,hS.ex⟩|exact bodyPost_ret (v:=.tuple #[]) (by simp[results,Tryz.results21,go_sem]) rfl ⟨rfl,hS.ex⟩
end
section
theorem qU{P:Program}{ops:Array Oper}{rest:List Oper}{o:Oper}{a:Act}{w:World}{Q:Exit→Act→World→Prop}(ty:TypeId)(x:Operand)(ho:o.op=.load ty x)
  (g:Nat) (hx:a.eval x=.pointer (some ⟨g,0,none⟩)) (t:TypeId) (cs:Array Value) (fr:Nat × Nat) (d:TypeDesc) (hg:w.heap[g]?=some (.cells cs t fr))
  (hu:P.underlying ty=some d) (hd:(match d with|.struct _|.array _ _=>true|_=>false)=true) (hi:(P.info? ty).map (·.size)=some cs.size) (hw:Region.wanted o (yielded ops a.tmps)=true)
  (h:wpList P ops Q rest (a.put o.dst (.agg cs)) w):wpList P ops Q (o::rest) a w:=
 wpList_step fun K hK=>by rw[if_pos hw];exact wp_load_row ty x ho g hx t cs fr d hg hu hd hi (hK _ _ h)
structure a7l (F:FuncId) (w1:World) (c:List Value) (v:Value):Prop where
 it:∀w',(∃y,w'=plus w1 y)→Calls Tryz.prog F #[.agg c.toArray] w' fun e w''=>e=.returned v∧∃y,w''=plus w' y
structure a8T (F:FuncId) (w1:World) (c c':List Value) (v:Value):Prop where
 it:∀w',(∃y,w'=plus w1 y)→Calls Tryz.prog F #[.agg c.toArray,.agg c'.toArray] w' fun e w''=>e=.returned v∧∃y,w''=plus w' y
theorem a38(p:Pr):ag7 p p=true:=by
 rw[ag7,decide_eq_true rfl,show W5 p.ix p.ix=true from G2 aw0 _];rfl
theorem a3T(m:Ms):E3 m m=true:=by
 rw[E3,show a2e m.vs m.vs=true from G2 a5S _,show ZQ m.uv m.uv=true from G2 a2E _,show au2 m.ps m.ps=true from G2 a38 _];rfl
theorem a5o{w:World}{h:SH}{x:SX}{s:Sc}(hG:a4d w h.ga h.gn h.ka h.kn x.gr s.g)(hR:QK w h x s)(hg:K1 h x=false):Zu w h x s:=by
 simp only[K1,Bool.or_eq_false_iff,decide_eq_false_iff_not,List.any_eq_false,List.mem_range]at hg;obtain⟨g1,g2,g3,g4,g5,g6,g7⟩:=hg;have hGA:=hG.few g1;have nl:=hR.nl.len;have nl2:=hR.ns.len;have ml:=hR.ml.len;have ml2:=hR.ms.len;have tl:=hR.tl.len;have tl2:=hR.ts.len;have gt:=a4R g5;refine⟨hGA,hR,⟨?_,?_,?_,om0,om0,om0,?_,?_,?_⟩⟩
 ·rw[hGA.sl.len];exact hGA.n1
 ·rw[hGA.kl];exact hGA.n2
 ·intro k hk;have hk2:k<x.gr.length:=by rw[hGA.len];exact hk
  rw[(hGA.row k hk2).len];exact hGA.n3 k hk2
 ·intro k hk;have h1:=(hR.ns.one k om0).lay.len;have h2:=g6 _ (F3 (d:=nh0) (k:=k) om0);simp only[decide_eq_true_eq]at h2;unfold al2;omega
 ·intro k hk;have hM:=hR.ms.one k om0;have h2:=g7 k om0;have h3:=a5n (by simpa [a21]using h2);obtain⟨q1,q2,q3,q4⟩:=h3;have v:=hM.vl.len;have u:=hM.ul.len;have p:=hM.pl.len;have q:=hM.pp.len;refine⟨om0,om0,om0,fun j hj=>?_⟩;have h4:=(hM.pp.one j om0).lay.len;have h5:=q4 j om0;omega
 ·intro k hk;have h1:=(hR.ts.one k om0).tx.lay.len;have h2:=gt.2 k om0;unfold aa2;omega
theorem aj1(s:Sc):Q6 s s=true:=by
 have h1:aq2 s.g s.g=true:=a3v _;have h2:ZS s.ts s.ts=true:=G2 (eq:=a1h) (fun a=>a3L a.w a.h a.l) _;have h3:af5 s.ns s.ns=true:=G2 an5 _;have h4:ag2 s.ms s.ms=true:=G2 (fun a=>a3T a) _;simp[Q6,h1,h2,h3,h4]
theorem at7{h:SH}{x:SX}{s:Sc}{h':SH}{x':SX}{s':Sc}{w:World}(hA:Zu w h x s)(hA':Zu w h' x' s'){v:Bool}(hv:Q6 s s'=v):
  Calls Tryz.prog 19 #[.agg (qa h).toArray,.agg (qa h').toArray] w fun e w'=>e=.returned (.bool v)∧∃y,w'=plus w y:=
 hv▸aw3 h x s h' x' s' w hA.g hA.r hA.small hA'.g hA'.r hA'.small
theorem ZG{h:SH}{x:SX}{s:Sc}{w:World}(hA:Zu w h x s){v:Int}(hv:a17 s=v):
  Calls Tryz.prog 12 #[.agg (qa h).toArray] w fun e w'=>e=.returned (.int .i64 v)∧∃y,w'=plus w y:=hv▸aq5 h x s w hA
theorem aq8{h:SH}{hn:NH}{n:Nd}{w:World}(hN:G0 w hn n)(s1:hn.n≤10000){v:Int}(hv:(if ze h.mn h.tn n then(0:Int)else 8)=v):
  Calls Tryz.prog 17 #[.agg (qa h).toArray,.agg (fN hn).toArray] w fun e w'=>e=.returned (.int .i64 v)∧∃y,w'=plus w y:=by
 subst hv;obtain⟨ga,gn,gc,ka,kn,kc,na,nn,nc,ma,mn,mc,ta,tn,tc,r0,r1⟩:=h;exact Z8 ga ka na ma ta gn gc kn kc nn nc mn mc tn tc r0 r1 hn n w hN s1
theorem a3Q{h:SH}{x:SX}{s:Sc}{w:World}(hG:a4d w h.ga h.gn h.ka h.kn x.gr s.g)(hR:QK w h x s){v:Bool}(hv:K1 h x=v):
  Calls Tryz.prog 13 #[.agg (qa h).toArray] w fun e w'=>e=.returned (.bool v)∧∃y,w'=plus w y:=hv▸aq0 h x s w hG hR
theorem at8{h:SH}{x:SX}{s:Sc}{w:World}(hA:Zu w h x s):Calls Tryz.prog 14 #[.agg (qa h).toArray] w fun e w'=>∃h' x',e=.returned (.agg (qa h').toArray)∧(∃y,w'=plus w y)∧zi w w' h' x' s:=av2 h x s w hA
theorem a35{h:SH}{x:SX}{s:Sc}{w:World}(hA:Zu w h x s):Calls Tryz.prog 15 #[.agg (qa h).toArray] w fun e w'=>∃h' x',e=.returned (.agg (qa h').toArray)∧(∃y,w'=plus w y)∧zi w w' h' x' s:=a0m h x s w hA
theorem a4d.ex10{w w':World}{ao:Option Addr}{n:Nat}{ko:Option Addr}{kn:Nat}{hs:List RH}{g:Gr}(h:a4d w ao n ko kn hs g)(hw:∃x,w'=plus w x):a4d w' ao n ko kn hs g:=⟨h.sl.ex hw,h.kh.ex hw,h.len,fun k hk=>(h.row k hk).ex hw,h.n1,h.n2,h.n3,h.n4,h.n5⟩
end
section
def a94 (n:Int):Bool:=decide (-1099511627776≤n)&&decide (n≤1099511627776)
def rk (n:Int):Nat:=if 0≤n then(2*n).toNat else(-1 - 2*n).toNat
def un (r:Nat):Int:=if r % 2=1 then -1 - ((r / 2:Nat):Int)else((r / 2:Nat):Int)
def enc (r:Nat):List Int:=if r<128 then[(r:Int)]else((r % 128+128:Nat):Int)::enc (r / 128)
termination_by r
decreasing_by omega
def bytesOf (n:Int):List Int:=enc (rk n)
def aD4 (n:Int):List Int × Int:=if a94 n=true then(bytesOf n,0)else([],2)
def rd:Nat→Nat→Nat→List Int→Int × Int × Int
 |0,_,_,_=>(0,0,8)
 |_+1,_,_,[]=>(0,0,8)
 |k+1,i,x,b::t=>
  if b<128 then
   if (0<i∧b=0)∨2199023255552<x+b.toNat % 128*128 ^ i then(0,0,8)else(un (x+b.toNat % 128*128 ^ i),(i:Int)+1,0)
  else rd k (i+1) (x+b.toNat % 128*128 ^ i) t
def ay9 (l:List Int):Int × Int × Int:=rd 6 0 0 l
def Byt (l:List Int):Prop:=∀x∈l,0≤x∧x<256
def aC0 (l:List Int):List Int × Int:=if 65536<l.length then([],4)else if l.all a94=true then(bytesOf l.length++l.flatMap bytesOf,0)else([],2)
def a9Q:Nat→List Int→Option (List Int × Nat)
 |0,_=>some ([],0)
 |c+1,l=>if (ay9 l).2.2=0 then(a9Q c (l.drop (ay9 l).2.1.toNat)).map fun p=>((ay9 l).1::p.1,(ay9 l).2.1.toNat+p.2)else none
def a8X (acc:List Int) (w c:Nat) (l:List Int):List Int × Int × Int:=match a9Q c (l.drop w)with
 |some p=>(acc++p.1,((w+p.2:Nat):Int),0)
 |none=>([],0,8)
def aA5 (l:List Int) (most:Int):Bool:=decide ((ay9 l).2.2≠0)||(decide ((ay9 l).1<0)||decide (most<(ay9 l).1))
def a9M (l:List Int) (most:Int):List Int × Int × Int:=
 if most<0∨65536<most then([],0,2)else if aA5 l most=true then([],0,8)else a8X [] (ay9 l).2.1.toNat (ay9 l).1.toNat l
theorem Byt.drop{l:List Int}(h:Byt l)(k:Nat):Byt (l.drop k):=fun x hx=>h x (List.mem_of_mem_drop hx)
def pfx (l:List Int) (k:Nat):List Int:=bytesOf l.length++(l.take k).flatMap bytesOf
end
section
open Go.RowKit
def fU (n:Int):List Value:=[.int .u8 n]
section
variable {w:World} {g off n k:Nat}
end
theorem Byt.nth{l:List Int}{k:Nat}(h:Byt l)(hk:k<l.length):0≤Go.Proofs.YtcekcihijdipoaaGreat.nth 0 l k∧Go.Proofs.YtcekcihijdipoaaGreat.nth 0 l k<256:=h _ (F3 hk)
def aD9 (l:List Int):ByteArray:=l.foldl (fun r n=>r.push (UInt8.ofNat n.toNat)) ByteArray.empty
section
variable {H:Type} {enc:TypeId × Value→H} {P:Program} {W:World} {base:Nat} {spare:Nat→Bool} {held:Bool} {ao:Option Addr} {n:Nat} {e:TypeId}
end
section
variable {α:Type} {f:α→List Value} {P:Program} {w T:World} {ao ao2:Option Addr} {n m cap c c2:Nat} {l l2:List α} {e t:TypeId} {b:Nat} {o:Oper} {a:Act} {K:Act→World→Prop} {Q:Exit→Act→World→Prop}
end
section
variable {P:Program} {w:World} {ao:Option Addr} {n cap:Nat} {l:List Int}
end
section
variable {H:Type} {enc:TypeId × Value→H} {P:Program} {W:World} {base:Nat} {spare:Nat→Bool} {held:Bool}
end
section
variable {α:Type} {f:α→List Value} {P:Program} {c:Nat} {e t:TypeId} {b:Nat}
end
end
section
open Go.RowKit Go.Deep Go.ChangeShapes Go.WideShapes Go.ChangeAt
section
variable {H:Type} {enc:TypeId × Value→H} {P:Program} {W:World} {base:Nat} {spare:Nat→Bool} {held:Bool}
theorem a6y{c fuel:Nat}{t e:TypeId}{v:Value}{x:DataW H × List MemPlace}(ht:P.underlying t=some (.slice e))(hc:P.cellsOf e=c)(hc0:0<c)
  (h:DataW.trod enc P W base spare held fuel t [v]=some x):
  ∃(ao:Option Addr) (n cap:Nat),v=.slice ao n cap∧n≤9223372036854775807∧n≤cap∧(ao=none→n=0∧cap=0)∧QZ W ao n c (fun cs=>∃m y,DataW.trod enc P W base spare held m e cs=some y):=by
 obtain⟨ao,n,cap,rfl,h1,h2,h3⟩:=S4 ht hc hc0 h;refine⟨ao,n,cap,rfl,h1,?_,h2,h3⟩;rcases Go.Deep.open_slice ht h with⟨h0,_⟩|⟨a,len,cap',m,n',D,Pl,h0,hb,hl,hm,hmm,_,hall⟩
 ·simp only[List.cons.injEq,and_true,Value.slice.injEq]at h0;omega
 ·simp only[List.cons.injEq,and_true,Value.slice.injEq]at h0;omega
end
section
variable {H:Type} {enc:TypeId × Value→H} {W:World} {base:Nat} {spare:Nat→Bool} {held:Bool}
theorem zs{j k:Nat}(h:[1,0,0,0,0,0,0,0,0,0,0,0,0,3,0,0,0,3,0,1,1,1,1,1,1,1,1,1,0,1,0,2,0][j]?=some k):T0 Tryz.prog 5 56 j=k:=by
 have h1:(List.range 33).map (T0 Tryz.prog 5 56)=[1,0,0,0,0,0,0,0,0,0,0,0,0,3,0,0,0,3,0,1,1,1,1,1,1,1,1,1,0,1,0,2,0]:=kr0;rw[←h1]at h;have hj:j<33:=by have:=(List.getElem?_eq_some_iff.1 h).1;simpa using this
 simpa [hj]using h
theorem au1{fuel:Nat}{x:DataW H × List MemPlace}{cs:List Value}(hl:cs.length=33)(h:DataW.trod enc Tryz.prog W base spare held fuel 56 cs=some x):∃hh n,cs=fN hh∧G0 W hh n:=by
 have hc:=ai3 5 56 fuel cs x h;obtain⟨xs,m,_,_,_,hxl,hall⟩:=DataW.trod_struct Tryz.underlying56 h;have k2:Tryz.prog.cellsOf 46=1:=kr0;have k4:Tryz.prog.cellsOf 47=1:=kr0
 match cs,hl,hc,hall with
 |c0::c1::c2::c3::c4::c5::c6::c7::c8::c9::c10::c11::c12::c13::c14::c15::c16::c17::c18::c19::c20::c21::c22::c23::c24::c25::c26::c27::c28::c29::c30::c31::c32::[],_,hc,hall=>
  have q0:=hc 0 c0 rfl;rw[zs (j:=0) (k:=1) rfl]at q0;obtain⟨n0,rfl,b0⟩:=q0;have q1:=hc 1 c1 rfl;rw[zs (j:=1) (k:=0) rfl]at q1;obtain⟨n1,rfl⟩:=q1;have q2:=hc 2 c2 rfl;rw[zs (j:=2) (k:=0) rfl]at q2;obtain⟨n2,rfl⟩:=q2;have q3:=hc 3 c3 rfl;rw[zs (j:=3) (k:=0) rfl]at q3;obtain⟨n3,rfl⟩:=q3;have q4:=hc 4 c4 rfl;rw[zs (j:=4) (k:=0) rfl]at q4;obtain⟨n4,rfl⟩:=q4;have q5:=hc 5 c5 rfl;rw[zs (j:=5) (k:=0) rfl]at q5;obtain⟨n5,rfl⟩:=q5;have q6:=hc 6 c6 rfl;rw[zs (j:=6) (k:=0) rfl]at q6;obtain⟨n6,rfl⟩:=q6;have q7:=hc 7 c7 rfl;rw[zs (j:=7) (k:=0) rfl]at q7;obtain⟨n7,rfl⟩:=q7;have q8:=hc 8 c8 rfl;rw[zs (j:=8) (k:=0) rfl]at q8;obtain⟨n8,rfl⟩:=q8;have q9:=hc 9 c9 rfl;rw[zs (j:=9) (k:=0) rfl]at q9;obtain⟨n9,rfl⟩:=q9;have q10:=hc 10 c10 rfl;rw[zs (j:=10) (k:=0) rfl]at q10;obtain⟨n10,rfl⟩:=q10;have q11:=hc 11 c11 rfl;rw[zs (j:=11) (k:=0) rfl]at q11;obtain⟨n11,rfl⟩:=q11;have q12:=hc 12 c12 rfl;rw[zs (j:=12) (k:=0) rfl]at q12;obtain⟨n12,rfl⟩:=q12;have q14:=hc 14 c14 rfl;rw[zs (j:=14) (k:=0) rfl]at q14;obtain⟨n14,rfl⟩:=q14;have q15:=hc 15 c15 rfl;rw[zs (j:=15) (k:=0) rfl]at q15;obtain⟨n15,rfl⟩:=q15;have q16:=hc 16 c16 rfl;rw[zs (j:=16) (k:=0) rfl]at q16;obtain⟨n16,rfl⟩:=q16;have q18:=hc 18 c18 rfl;rw[zs (j:=18) (k:=0) rfl]at q18;obtain⟨n18,rfl⟩:=q18;have q19:=hc 19 c19 rfl;rw[zs (j:=19) (k:=1) rfl]at q19;obtain⟨n19,rfl,b19⟩:=q19;have q20:=hc 20 c20 rfl;rw[zs (j:=20) (k:=1) rfl]at q20;obtain⟨n20,rfl,b20⟩:=q20;have q21:=hc 21 c21 rfl;rw[zs (j:=21) (k:=1) rfl]at q21;obtain⟨n21,rfl,b21⟩:=q21;have q22:=hc 22 c22 rfl;rw[zs (j:=22) (k:=1) rfl]at q22;obtain⟨n22,rfl,b22⟩:=q22;have q23:=hc 23 c23 rfl;rw[zs (j:=23) (k:=1) rfl]at q23;obtain⟨n23,rfl,b23⟩:=q23;have q24:=hc 24 c24 rfl;rw[zs (j:=24) (k:=1) rfl]at q24;obtain⟨n24,rfl,b24⟩:=q24;have q25:=hc 25 c25 rfl;rw[zs (j:=25) (k:=1) rfl]at q25;obtain⟨n25,rfl,b25⟩:=q25;have q26:=hc 26 c26 rfl;rw[zs (j:=26) (k:=1) rfl]at q26;obtain⟨n26,rfl,b26⟩:=q26;have q27:=hc 27 c27 rfl;rw[zs (j:=27) (k:=1) rfl]at q27;obtain⟨n27,rfl,b27⟩:=q27;have q28:=hc 28 c28 rfl;rw[zs (j:=28) (k:=0) rfl]at q28;obtain⟨n28,rfl⟩:=q28;have q29:=hc 29 c29 rfl;rw[zs (j:=29) (k:=1) rfl]at q29;obtain⟨n29,rfl,b29⟩:=q29;have q30:=hc 30 c30 rfl;rw[zs (j:=30) (k:=0) rfl]at q30;obtain⟨n30,rfl⟩:=q30;have q31:=hc 31 c31 rfl;rw[zs (j:=31) (k:=2) rfl]at q31;obtain⟨n31,rfl⟩:=q31;have q32:=hc 32 c32 rfl;rw[zs (j:=32) (k:=0) rfl]at q32;obtain⟨n32,rfl⟩:=q32;have h2:=hall 2 _ rfl;have h4:=hall 4 _ rfl;rw[List.getElem?_eq_getElem (by simp at hxl;omega)]at h2 h4;have h2':DataW.trod enc Tryz.prog W base spare held m 46 [c13]=some (xs[2]'(by simp at hxl;omega)):=by simpa [k2]using h2
  have h4':DataW.trod enc Tryz.prog W base spare held m 47 [c17]=some (xs[4]'(by simp at hxl;omega)):=by simpa [k4]using h4
  obtain⟨n13,e13,_,w13⟩:=DataW.trod_int Tryz.underlying46 h2';obtain rfl:c13=.int .u16 n13:=by simpa using e13
  obtain⟨ao,n,cap,rfl,hn,hcap,hz,ho⟩:=a6y (c:=1) Tryz.underlying47 kr0 dc0 h4';obtain⟨l,hl⟩:=a2Q kr0 ho;have b13:=bounds_u16 w13;exact⟨⟨⟨n0,⟨⟨⟨n1,n2,n3⟩,⟨n4,n5,n6⟩,⟨n7,n8,n9⟩⟩,⟨n10,n11,n12⟩⟩,n13,⟨n14,n15,n16⟩,n18,⟨n19,n20,n21,n22,n23,⟨n24,n25,n26,n27,n28,n29,n30,n31,n32⟩⟩⟩,ao,n,cap⟩,⟨⟨n0,⟨⟨⟨n1,n2,n3⟩,⟨n4,n5,n6⟩,⟨n7,n8,n9⟩⟩,⟨n10,n11,n12⟩⟩,n13,⟨n14,n15,n16⟩,n18,⟨n19,n20,n21,n22,n23,⟨n24,n25,n26,n27,n28,n29,n30,n31,n32⟩⟩⟩,l⟩,rfl,rfl,⟨b0,b13,⟨b19,b20,b21,b22,b23,⟨b24,b25,b26,b27,b29⟩⟩⟩,hn,hcap,hz,hl⟩
theorem a42{ao:Option Addr}{n:Nat}(h:QZ W ao n 33 (fun cs=>∃m y,DataW.trod enc Tryz.prog W base spare held m 56 cs=some y)):∃hs ns,Lay fN W ao n hs∧ae6 W hs ns:=by
 obtain⟨l,hl,hR⟩:=Qm (f:=fN) (R:=fun hh=>∃p,G0 W hh p) nh0 dc0 ag0 h (by
  rintro cs hl ⟨m,y,hy⟩;obtain⟨hh,p,e1,hp⟩:=au1 hl hy;exact⟨hh,e1,p,hp⟩)
 have hR':∀k,∃p,k<n→G0 W (nth nh0 l k) p:=by
  intro k;by_cases hk:k<n
  ·obtain⟨p,hp⟩:=hR k hk;exact⟨p,fun _=>hp⟩
  ·exact⟨nd0,fun h=>absurd h hk⟩
 refine⟨l,(List.range n).map fun k=>Classical.choose (hR' k),hl,⟨by simp[hl.len],fun k hk=>?_⟩⟩;rw[hl.len]at hk;rw[Q0 hk];exact Classical.choose_spec (hR' k) hk
end
end
section
open Go.RowKit Go.ChangeShapes Go.WideShapes Go.ChangeAt Go.Deep
section
variable {H:Type} {enc:TypeId × Value→H} {P:Program} {W:World} {base:Nat} {spare:Nat→Bool} {held:Bool} {f0 f1:Field} {t e tp ev eu:TypeId}
theorem a3p{fuel:Nat}{x:DataW H × List MemPlace}{c0 c1:Value}(hs:P.underlying t=some (.struct #[f0,f1]))(hone:oneCellFields P #[f0,f1]=true)(hk:P.underlying f0.type=some (.int .u8))(hi:P.underlying f1.type=some (.slice e))
  (hc:P.cellsOf e=1) (hf:ak0 P 4 e=true) (h:DataW.trod enc P W base spare held fuel t [c0,c1]=some x):∃hh p,[c0,c1]=fP hh∧an7 W hh p:=by
 obtain⟨y0,y1,n,hx,_,h0,h1⟩:=trod_struct2 hs h;obtain⟨o0,k0⟩:=hone_of hone 0 f0 rfl;obtain⟨o1,k1⟩:=hone_of hone 1 f1 rfl;have h0':DataW.trod enc P W base spare held n f0.type [c0]=some y0:=by simpa [o0,k0]using h0
 have h1':DataW.trod enc P W base spare held n f1.type [c1]=some y1:=by simpa [o1,k1]using h1
 obtain⟨k,ek,_,wk⟩:=DataW.trod_int hk h0';obtain rfl:c0=.int .u8 k:=by simpa using ek
 obtain⟨ao,m,cap,rfl,hn,hz,ho⟩:=S4 hi hc dc0 h1';obtain⟨l,hl⟩:=a2Q hf ho;exact⟨⟨k,ao,m,cap⟩,⟨k,l⟩,rfl,rfl,(bounds_u8 wk).1,(bounds_u8 wk).2,hn,hz,hl⟩
theorem a4y{ao:Option Addr}{n:Nat}(hs:P.underlying t=some (.struct #[f0,f1]))(hone:oneCellFields P #[f0,f1]=true)(hk:P.underlying f0.type=some (.int .u8))(hi:P.underlying f1.type=some (.slice e))
  (hc:P.cellsOf e=1) (hf:ak0 P 4 e=true) (h:QZ W ao n 2 (fun cs=>∃m y,DataW.trod enc P W base spare held m t cs=some y)):∃hs ps,Lay fP W ao n hs∧M3 W hs ps:=by
 obtain⟨l,hl,hR⟩:=Qm (f:=fP) (R:=fun hh=>∃p,an7 W hh p) dPH dc0 a8u h (by
  rintro cs hl ⟨m,y,hy⟩
  match cs,hl,hy with
  |[a,b],_,hy=>
   obtain⟨hh,p,e1,hp⟩:=a3p hs hone hk hi hc hf hy;exact⟨hh,e1,p,hp⟩)
 have hR':∀k,∃p,k<n→an7 W (nth dPH l k) p:=by
  intro k;by_cases hk:k<n
  ·obtain⟨p,hp⟩:=hR k hk;exact⟨p,fun _=>hp⟩
  ·exact⟨dPr,fun h=>absurd h hk⟩
 refine⟨l,(List.range n).map fun k=>Classical.choose (hR' k),hl,⟨by simp[hl.len],fun k hk=>?_⟩⟩;rw[hl.len]at hk;rw[Q0 hk];exact Classical.choose_spec (hR' k) hk
end
end
section
open Go.RowKit Go.Deep Go.ChangeShapes Go.WideShapes Go.ChangeAt
section
variable {H:Type} {enc:TypeId × Value→H} {W:World} {base:Nat} {spare:Nat→Bool} {held:Bool}
theorem av0{fuel:Nat}{x:DataW H × List MemPlace}{c0 c1 c2:Value}(h:DataW.trod enc Tryz.prog W base spare held fuel 61 [c0,c1,c2]=some x):∃hh ps m,[c0,c1,c2]=fMh hh∧I6 W hh ps m:=by
 obtain⟨y0,y1,y2,n,hx,_,h0,h1,h2⟩:=trod_struct3 Tryz.underlying61 h;have k0:Tryz.prog.cellsOf 57=1:=kr0;have k1:Tryz.prog.cellsOf 58=1:=kr0;have k2:Tryz.prog.cellsOf 59=1:=kr0;have t0:DataW.trod enc Tryz.prog W base spare held n 57 [c0]=some y0:=by simpa [k0]using h0
 have t1:DataW.trod enc Tryz.prog W base spare held n 58 [c1]=some y1:=by simpa [k1]using h1
 have t2:DataW.trod enc Tryz.prog W base spare held n 59 [c2]=some y2:=by simpa [k2]using h2
 obtain⟨a0,n0,e0,rfl,hn0,z0,o0⟩:=S4 Tryz.underlying57 (c:=3) kr0 dc0 t0;obtain⟨a1,n1,e1,rfl,hn1,z1,o1⟩:=S4 Tryz.underlying58 (c:=2) kr0 dc0 t1;obtain⟨a2,n2,e2,rfl,hn2,z2,o2⟩:=S4 Tryz.underlying59 (c:=2) kr0 dc0 t2;obtain⟨lv,hlv⟩:=a6X kr0 o0;obtain⟨lu,hlu⟩:=a2A kr0 o1;obtain⟨hs',ps,hlp,hpp⟩:=a4y Tryz.underlying131 kr0 Tryz.underlying5 Tryz.underlying47 kr0 kr0 o2;exact⟨⟨a0,n0,e0,a1,n1,e1,a2,n2,e2⟩,hs',⟨lv,lu,ps⟩,rfl,hn0,hn1,hn2,z0,z1,z2,hlv,hlu,hlp,hpp⟩
theorem a3r{ao:Option Addr}{n:Nat}(h:QZ W ao n 3 (fun cs=>∃m y,DataW.trod enc Tryz.prog W base spare held m 61 cs=some y)):∃hs ps ms,Lay fMh W ao n hs∧QC W hs ps ms:=by
 obtain⟨l,hl,hR⟩:=Qm (f:=fMh) (R:=fun hh=>∃q:List PH × Ms,I6 W hh q.1 q.2) mh0 dc0 Z1 h (by
  rintro cs hl ⟨m,y,hy⟩
  match cs,hl,hy with
  |[a,b,c],_,hy=>
   obtain⟨hh,ps,m,e1,hp⟩:=av0 hy;exact⟨hh,e1,(ps,m),hp⟩)
 have hR':∀k,∃q:List PH × Ms,k<n→I6 W (nth mh0 l k) q.1 q.2:=by
  intro k;by_cases hk:k<n
  ·obtain⟨p,hp⟩:=hR k hk;exact⟨p,fun _=>hp⟩
  ·exact⟨([],ms0),fun h=>absurd h hk⟩
 refine⟨l,(List.range n).map fun k=>(Classical.choose (hR' k)).1,(List.range n).map fun k=>(Classical.choose (hR' k)).2,hl,⟨by simp[hl.len],fun k hk=>?_⟩⟩;rw[hl.len]at hk;rw[Q0 hk,Q0 hk];exact Classical.choose_spec (hR' k) hk
theorem a49{ao:Option Addr}{n:Nat}(h:QZ W ao n 3 (fun cs=>∃m y,DataW.trod enc Tryz.prog W base spare held m 64 cs=some y)):∃hs ts,Lay fTh W ao n hs∧ac4 W hs ts:=by
 obtain⟨hs,ls,hl,hk⟩:=a6h Tryz.underlying64 kr0 Tryz.underlying3 Tryz.underlying3 Tryz.underlying62 kr0 kr0 h;refine⟨hs,(List.range n).map fun k=>⟨(nth th0 hs k).w,(nth th0 hs k).h,nth [] ls k⟩,hl,⟨by simp[hl.len],fun k hk'=>?_⟩⟩;have hkn:k<n:=by rw[←hl.len];exact hk'
 rw[Q0 hkn];exact⟨rfl,rfl,hk.one k hk'⟩
theorem a1Y{fuel:Nat}{x:DataW H × List MemPlace}{c0 c1:Value}(hS:Sm Tryz.prog 27 x.1)(h:DataW.trod enc Tryz.prog W base spare held fuel 27 [c0,c1]=some x):
  ∃(ao:Option Addr) (n cap:Nat) (ko:Option Addr) (kn kcap:Nat) (hs:List RH) (g:Gr),c0=.slice ao n cap∧c1=.slice ko kn kcap∧a4d W ao n ko kn hs g:=by
 obtain⟨y0,y1,n,hx1,_,h0,h1⟩:=trod_struct2 Tryz.underlying27 h;have k0:Tryz.prog.cellsOf 24=1:=kr0;have k1:Tryz.prog.cellsOf 25=1:=kr0;have k2:Tryz.prog.cellsOf 22=1:=kr0;have h0':DataW.trod enc Tryz.prog W base spare held n 24 [c0]=some y0:=by simpa [k0]using h0
 have h1':DataW.trod enc Tryz.prog W base spare held n 25 [c1]=some y1:=by simpa [k1]using h1
 rw[hx1]at hS;have hS1:Sm Tryz.prog 25 y1.1:=a2H Tryz.underlying27 hS (j:=1) rfl rfl;obtain⟨y2,n',_,_,h2⟩:=trod_struct1 Tryz.underlying24 h0';have h2':DataW.trod enc Tryz.prog W base spare held n' 22 [c0]=some y2:=by simpa [k2]using h2
 obtain⟨ao,m,cap,rfl,hn,_,hor⟩:=S4 Tryz.underlying22 (c:=2) kr0 dc0 h2';obtain⟨l,hl⟩:=a4i Tryz.underlying86 kr0 Tryz.underlying3 Tryz.underlying4 hor;obtain⟨ko,kn,kcap,rfl,hkn,_,_,_,hrows⟩:=a2M Tryz.underlying25 (c:=1) kr0 dc0 h1' hS1;obtain⟨hs',hlr,hR'⟩:=Qm (f:=fR) (R:=fun r=>∃l:List (Int × Int),Lay f2 W r.ao r.n l∧r.n≤8796093022208∧r.n≤r.cap∧(r.ao=none→r.n=0∧r.cap=0)) dRH dc0 a4O hrows (by
  rintro cs hl ⟨m,y,hy,hSy⟩
  match cs,hl,hy with
  |[a],_,hy=>exact a5p Tryz.underlying88 kr0 kr0 kr0 hy hSy)
 have hR'':∀k,∃l:List (Int × Int),k<kn→Lay f2 W (nth dRH hs' k).ao (nth dRH hs' k).n l∧(nth dRH hs' k).n≤8796093022208∧(nth dRH hs' k).n≤(nth dRH hs' k).cap∧((nth dRH hs' k).ao=none→(nth dRH hs' k).n=0∧(nth dRH hs' k).cap=0):=by
  intro k;by_cases hk:k<kn
  ·obtain⟨l,hl⟩:=hR' k hk;exact⟨l,fun _=>hl⟩
  ·exact⟨[],fun h=>absurd h hk⟩
 have hlk:=hlr.len;refine⟨ao,m,cap,ko,kn,kcap,hs',⟨l,(List.range kn).map fun k=>Classical.choose (hR'' k)⟩,rfl,rfl,⟨hl,hlr,by simp[hlk],fun k hk=>?_,hn,hkn,fun k hk=>?_,fun k hk=>?_,fun k hk=>?_⟩⟩
 ·rw[hlk]at hk;show Lay f2 W _ _ (nth [] ((List.range kn).map fun k=>Classical.choose (hR'' k)) k);rw[Q0 hk];exact(Classical.choose_spec (hR'' k) hk).1
 ·exact(Classical.choose_spec (hR'' k) om0).2.1
 ·exact(Classical.choose_spec (hR'' k) om0).2.2.1
 ·exact(Classical.choose_spec (hR'' k) om0).2.2.2
theorem a2s{fuel:Nat}{x:DataW H × List MemPlace}{cs:List Value}(hl:cs.length=7)(hS:Sm Tryz.prog 34 x.1)(h:DataW.trod enc Tryz.prog W base spare held fuel 34 cs=some x):
  ∃hh sx s,Value.agg cs.toArray=vS hh∧a4d W hh.ga hh.gn hh.ka hh.kn sx.gr s.g∧QK W hh sx s:=by
 obtain⟨xs,m,_,hx,_,hxl,hall⟩:=DataW.trod_struct Tryz.underlying34 h;have k0:Tryz.prog.cellsOf 27=2:=kr0;have k1:Tryz.prog.cellsOf 28=1:=kr0;have k2:Tryz.prog.cellsOf 29=1:=kr0;have k3:Tryz.prog.cellsOf 30=1:=kr0;have k4:Tryz.prog.cellsOf 32=2:=kr0
 match xs,hxl,hall,hx with
 |[y0,y1,y2,y3,y4],_,hall,hx=>
 match cs,hl,hall with
 |[c0,c1,c2,c3,c4,c5,c6],_,hall=>
  have g0:DataW.trod enc Tryz.prog W base spare held m 27 [c0,c1]=some y0:=by simpa [k0]using hall 0 _ rfl
  have g1:DataW.trod enc Tryz.prog W base spare held m 28 [c2]=some y1:=by simpa [k1]using hall 1 _ rfl
  have g2:DataW.trod enc Tryz.prog W base spare held m 29 [c3]=some y2:=by simpa [k2]using hall 2 _ rfl
  have g3:DataW.trod enc Tryz.prog W base spare held m 30 [c4]=some y3:=by simpa [k3]using hall 3 _ rfl
  have g4:DataW.trod enc Tryz.prog W base spare held m 32 [c5,c6]=some y4:=by simpa [k4]using hall 4 _ rfl
  rw[hx]at hS;have hS0:Sm Tryz.prog 27 y0.1:=a2H Tryz.underlying34 hS (j:=0) rfl rfl;obtain⟨ga,gn,gc,ka,kn,kc,gr,g,rfl,rfl,hG⟩:=a1Y hS0 g0;obtain⟨na,nn,nc,rfl,hn1,_,o1⟩:=S4 Tryz.underlying28 (c:=33) kr0 dc0 g1;obtain⟨ma,mn,mc,rfl,hn2,_,o2⟩:=S4 Tryz.underlying29 (c:=3) kr0 dc0 g2;obtain⟨ta,tn,tc,rfl,hn3,_,o3⟩:=S4 Tryz.underlying30 (c:=3) kr0 dc0 g3;obtain⟨nhs,ns,nl,hns⟩:=a42 o1;obtain⟨mhs,ps,ms,ml,hms⟩:=a3r o2;obtain⟨ths,ts,tl,hts⟩:=a49 o3;have hf:=J7 4 32 m _ _ kr0 g4;obtain⟨r0,rfl,_⟩:=hf c5 (by simp);obtain⟨r1,rfl,_⟩:=hf c6 (by simp);exact⟨⟨ga,gn,gc,ka,kn,kc,na,nn,nc,ma,mn,mc,ta,tn,tc,r0,r1⟩,⟨gr,nhs,mhs,ps,ths⟩,⟨g,ns,ms,ts,(r0,r1)⟩,rfl,hG,nl,hns,ml,hms,tl,hts,hn1,hn2,hn3,rfl⟩
theorem a3F{r:Go.Reach}{b0:Nat}{v:Value}{d:DataW H}{p:List MemPlace}(hS:Sm Tryz.prog 34 d)(hv:Value.okWide Tryz.prog W r b0 34 v)(h:DataW.Trod enc Tryz.prog W base spare held 34 v d p):
  ∃hh sx s,v=vS hh∧a4d W hh.ga hh.gn hh.ka hh.kn sx.gr s.g∧QK W hh sx s:=by
 obtain⟨cs,rfl,hsz⟩:=okWide_struct Tryz.underlying34 hv;have k:Tryz.prog.cellsOf 34=7:=kr0;obtain⟨fuel,hx⟩:=h;obtain⟨hh,sx,s,e,h1,h2⟩:=a2s (cs:=cs.toList) (by simpa using hsz.trans k) hS (by simpa [Value.cells]using hx);exact⟨hh,sx,s,by simpa using e,h1,h2⟩
end
end
section
open Go.RowKit Go.Deep Go.ChangeShapes Go.WideShapes Go.ChangeAt
structure EH where
 kind:Int
 h0:Int
 h1:Int
 c0:Int
 c1:Int
 at':Int
 nd:NH
 mh:MH
 th:TH
def fE (e:EH):List Value:=.int .u8 e.kind::.int .i64 e.h0::.int .i64 e.h1::.int .i64 e.c0::.int .i64 e.c1::.int .i64 e.at'::(fN e.nd++(fMh e.mh++fTh e.th))
def vE (e:EH):Value:=.agg (fE e).toArray
def eh0:EH:=⟨0,0,0,0,0,0,nh0,mh0,th0⟩
structure I9 (w:World) (e:EH) (ps:List PH) (n:Nd) (m:Ms) (t:Tp):Prop where
 kind:0≤e.kind∧e.kind≤255
 nd:G0 w e.nd n
 mh:I6 w e.mh ps m
 th:ak5 w e.th t
theorem I9.ex{w w':World}{e:EH}{ps:List PH}{n:Nd}{m:Ms}{t:Tp}(a:I9 w e ps n m t)(hw:∃x,w'=plus w x):I9 w' e ps n m t:=⟨a.kind,a.nd.ex hw,a.mh.ex hw,a.th.ex hw⟩
section
variable {H:Type} {enc:TypeId × Value→H} {W:World} {base:Nat} {spare:Nat→Bool} {held:Bool}
theorem a3C{fuel:Nat}{x:DataW H × List MemPlace}{cs:List Value}(hl:cs.length=45)(h:DataW.trod enc Tryz.prog W base spare held fuel 66 cs=some x):∃e ps n m t,cs=fE e∧I9 W e ps n m t:=by
 obtain⟨xs,m,_,_,_,hxl,hall⟩:=DataW.trod_struct Tryz.underlying66 h;have k0:Tryz.prog.cellsOf 5=1:=kr0;have k1:Tryz.prog.cellsOf 32=2:=kr0;have k3:Tryz.prog.cellsOf 3=1:=kr0;have k4:Tryz.prog.cellsOf 56=33:=kr0;have k5:Tryz.prog.cellsOf 61=3:=kr0;have k6:Tryz.prog.cellsOf 64=3:=kr0
 match xs,hxl,hall with
 |[y0,y1,y2,y3,y4,y5,y6],_,hall=>
 match cs,hl,hall with
 |c0::c1::c2::c3::c4::c5::c6::c7::c8::c9::c10::c11::c12::c13::c14::c15::c16::c17::c18::c19::c20::c21::c22::c23::c24::c25::c26::c27::c28::c29::c30::c31::c32::c33::c34::c35::c36::c37::c38::c39::c40::c41::c42::c43::c44::[],_,hall=>
  have g0:DataW.trod enc Tryz.prog W base spare held m 5 [c0]=some y0:=by simpa [k0]using hall 0 _ rfl
  have g1:DataW.trod enc Tryz.prog W base spare held m 32 [c1,c2]=some y1:=by simpa [k1]using hall 1 _ rfl
  have g2:DataW.trod enc Tryz.prog W base spare held m 32 [c3,c4]=some y2:=by simpa [k1]using hall 2 _ rfl
  have g3:DataW.trod enc Tryz.prog W base spare held m 3 [c5]=some y3:=by simpa [k3]using hall 3 _ rfl
  have g4:DataW.trod enc Tryz.prog W base spare held m 56 (c6::c7::c8::c9::c10::c11::c12::c13::c14::c15::c16::c17::c18::c19::c20::c21::c22::c23::c24::c25::c26::c27::c28::c29::c30::c31::c32::c33::c34::c35::c36::c37::c38::[])=some y4:=by simpa [k4]using hall 4 _ rfl
  have g5:DataW.trod enc Tryz.prog W base spare held m 61 [c39,c40,c41]=some y5:=by simpa [k5]using hall 5 _ rfl
  have g6:DataW.trod enc Tryz.prog W base spare held m 64 [c42,c43,c44]=some y6:=by simpa [k6]using hall 6 _ rfl
  obtain⟨kd,ek,_,wk⟩:=DataW.trod_int Tryz.underlying5 g0;obtain rfl:c0=.int .u8 kd:=by simpa using ek
  have hf1:=J7 4 32 m _ _ kr0 g1;obtain⟨a1,rfl,_⟩:=hf1 c1 (by simp);obtain⟨a2,rfl,_⟩:=hf1 c2 (by simp);have hf2:=J7 4 32 m _ _ kr0 g2;obtain⟨a3,rfl,_⟩:=hf2 c3 (by simp);obtain⟨a4,rfl,_⟩:=hf2 c4 (by simp);obtain⟨a5,e5,_,_⟩:=DataW.trod_int Tryz.underlying3 g3;obtain rfl:c5=.int .i64 a5:=by simpa using e5
  obtain⟨nh,nd,en,hn⟩:=au1 rfl g4;obtain⟨mh,ps,ms,em,hm⟩:=av0 g5;obtain⟨th,l,et,ht⟩:=a03 Tryz.underlying64 kr0 Tryz.underlying3 Tryz.underlying3 Tryz.underlying62 kr0 kr0 rfl g6;refine⟨⟨kd,a1,a2,a3,a4,a5,nh,mh,th⟩,ps,nd,ms,⟨th.w,th.h,l⟩,?_,⟨bounds_u8 wk,hn,hm,⟨rfl,rfl,ht⟩⟩⟩;unfold fE;simp only[];rw[←en,←em,←et];rfl
theorem a4H{r:Go.Reach}{b0:Nat}{v:Value}{d:DataW H}{p:List MemPlace}(hv:Value.okWide Tryz.prog W r b0 66 v)(h:DataW.Trod enc Tryz.prog W base spare held 66 v d p):∃e ps n m t,v=vE e∧I9 W e ps n m t:=by
 obtain⟨cs,fuel,x,rfl,hl,hx⟩:=a6F kr0 hv h;have k:Tryz.prog.cellsOf 66=45:=kr0;obtain⟨e,ps,n,m,t,rfl,hn⟩:=a3C (hl.trans k) hx;exact⟨e,ps,n,m,t,rfl,hn⟩
end
end
end Go.Proofs.YtcekcihijdipoaaGreat
