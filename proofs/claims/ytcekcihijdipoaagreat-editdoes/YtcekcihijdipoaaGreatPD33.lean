/- A pack of texts: EdDoK, EdDoS. -/
import Derived.Test.YtcekcihijdipoaaGreatPD32
namespace Go.Proofs.YtcekcihijdipoaaGreat
set_option maxRecDepth 100000
set_option maxHeartbeats 16000000
open Go.RowKit Go.ChangeShapes Go.WideShapes Go.ChangeAt
set_option linter.unusedSimpArgs false
set_option linter.unusedVariables false
attribute [local go_sem] qn qZ A2 zg zz zA t5 qJ zf qO qD t6
section
def Y1 (h:SH) (a:Option Addr) (n c:Nat):SH:=⟨h.ga,h.gn,h.gc,h.ka,h.kn,h.kc,a,n,c,h.ma,h.mn,h.mc,h.ta,h.tn,h.tc,h.r0,h.r1⟩
theorem a1O{T w:World}:zV T w nh0 nd0:=⟨rfl,(a7f w).b,zd⟩
theorem an8{α:Type}{l:List α}{k:Nat}{x:α}(h:k<l.length):zU l k x=l.set k x:=by unfold zU;rw[if_pos h]
theorem a0l(e:EH):∀j v,(fN e.nd)[j]?=some v→(fE e)[6+j]?=some v:=by
 intro j v hj;have hl:j<33:=(List.getElem?_eq_some_iff.1 hj).1;have:(fE e)[6+j]?=(fN e.nd++(fMh e.mh++fTh e.th))[j]?:=by
  rw[Nat.add_comm];rfl
 rw[this,List.getElem?_append_left hl];exact hj
def a9L (i:Nat):List Nat:=match i with|0=>[7]|1=>[8]|2=>[9]|3=>[10]|4=>[11]|5=>[12]|6=>[13]|7=>[14]|8=>[15]|9=>[16,15]|10=>[17]|11=>[18]|_=>[]
def ap8 (T:World) (p q:Nat) (h:SH) (x:SX) (s:Sc) (e:EH) (g':Gr) (er:Int) (gq:Option Nat) (i:Nat) (t:Nat→Value) (D:Nat→Bool) (w':World):Prop:=match i with
 |0=>t 7=.pointer (some ⟨p,0,none⟩)
 |1=>t 8=.pointer (some ⟨p,0,none⟩)
 |2=>t 9=.pointer (some ⟨p,0,none⟩)
 |3=>t 10=.pointer (some ⟨p,0,none⟩)
 |4=>t 11=.pointer (some ⟨p,0,none⟩)
 |5=>t 12=.agg #[.slice h.ga h.gn h.gc,.slice h.ka h.kn h.kc]∧D 5=true
 |6=>t 13=.pointer (some ⟨q,1,none⟩)
 |7=>t 14=.agg #[.int .i64 e.h0,.int .i64 e.h1]
 |8=>∃a c k kc hs,t 15=.tuple #[.agg #[.slice a g'.sl.length c,.slice k g'.ks.length kc],.int .i64 er]∧D 8=true∧(D 11=false→zS T w' a g'.sl.length c k g'.ks.length kc hs g')
 |9=>∃v,t 15=.tuple #[v,.int .i64 er]∧t 16=v
 |10=>t 17=.int .i64 er
 |11=>t 18=.int .i64 er∧D 11=true∧(∃y,w'=plus T y)∧(er=0→∃h' x',UwI T w' p h' x' ⟨g',s.ns,s.ms,s.ts,s.root⟩)
 |_=>True
theorem a4C(T:World)(p q:Nat)(h:SH)(x:SX)(s:Sc)(e:EH)(g':Gr)(er:Int)(gq:Option Nat):∀i t t' D w D' w',ap8 T p q h x s e g' er gq i t D w→(∀s∈a9L i,t' s=t s)→N8 11 [5,8] gq D w D' w'→ap8 T p q h x s e g' er gq i t' D' w':=by
 intro i t t' D w D' w' h_ hs' ht
 match i with
 |0=>exact(hs' 7 dc0).trans h_
 |1=>exact(hs' 8 dc0).trans h_
 |2=>exact(hs' 9 dc0).trans h_
 |3=>exact(hs' 10 dc0).trans h_
 |4=>exact(hs' 11 dc0).trans h_
 |5=>exact⟨(hs' 12 dc0).trans h_.1,ht.m 5 h_.2⟩
 |6=>exact(hs' 13 dc0).trans h_
 |7=>exact(hs' 14 dc0).trans h_
 |8=>obtain⟨a,c,k,kc,hs,e1,e2,e3⟩:=h_;exact⟨a,c,k,kc,hs,(hs' 15 dc0).trans e1,ht.m 8 e2,fun q=>by have q2:D 11=false:=(by cases e9:D 11;rfl;rw[ht.m 11 e9]at q;cases q);obtain⟨x,hx⟩:=M1 ht.t (q2.trans q.symm);exact(e3 q2).ex ⟨x,hx⟩⟩
 |9=>obtain⟨v,e1,e2⟩:=h_;exact⟨v,(hs' 15 dc0).trans e1,(hs' 16 dc0).trans e2⟩
 |10=>exact(hs' 17 dc0).trans h_
 |11=>obtain⟨e1,e2,e3,e4⟩:=h_;exact⟨(hs' 18 dc0).trans e1,ht.m 11 e2,i9 e3 (C7 ht e2),fun q=>by obtain⟨a,b,c⟩:=e4 q;exact⟨a,b,c.on (C7 ht e2)⟩⟩
 |i+12=>trivial
def a99 (i:Nat):List Nat:=match i with|0=>[23]|1=>[24]|2=>[25]|3=>[26]|4=>[27]|5=>[28]|6=>[29]|7=>[30]|8=>[31]|9=>[32]|10=>[33]|11=>[34]|12=>[35]|13=>[36]|_=>[]
def aa0 (T W:World) (p q:Nat) (h:SH) (x:SX) (s:Sc) (e:EH) (n:Nd) (k:Nat) (gq:Option Nat) (i:Nat) (t:Nat→Value) (D:Nat→Bool) (w':World):Prop:=match i with
 |0=>t 23=.pointer (some ⟨p,0,none⟩)
 |1=>t 24=.pointer (some ⟨p,0,none⟩)
 |2=>t 25=.pointer (some ⟨p,0,none⟩)
 |3=>t 26=.pointer (some ⟨p,0,none⟩)
 |4=>t 27=.pointer (some ⟨p,2,none⟩)
 |5=>t 28=.slice h.na h.nn h.nc
 |6=>t 29=.pointer (some ⟨q,1,none⟩)
 |7=>t 30=.pointer (some ⟨q,1,none⟩)
 |8=>t 31=.int .i64 k
 |9=>t 32=.agg (fN nh0).toArray
 |10=>∃a n' c x',t 33=.slice a n' c∧D 10=true∧(∃y,w'=plus T y)∧zi T w' (Y1 h a n' c) x' ⟨s.g,zU s.ns k nd0,s.ms,s.ts,s.root⟩
 |11=>t 34=.pointer (some ⟨p,0,none⟩)
 |12=>t 35=.pointer (some ⟨p,0,none⟩)
 |13=>t 36=.pointer (some ⟨p,2,none⟩)
 |_=>True
theorem a45(T W:World)(p q:Nat)(h:SH)(x:SX)(s:Sc)(e:EH)(n:Nd)(k:Nat)(gq:Option Nat):∀i t t' D w D' w',aa0 T W p q h x s e n k gq i t D w→(∀s∈a99 i,t' s=t s)→N8 10 [] gq D w D' w'→aa0 T W p q h x s e n k gq i t' D' w':=by
 intro i t t' D w D' w' h_ hs' ht
 match i with
 |0=>exact(hs' 23 dc0).trans h_
 |1=>exact(hs' 24 dc0).trans h_
 |2=>exact(hs' 25 dc0).trans h_
 |3=>exact(hs' 26 dc0).trans h_
 |4=>exact(hs' 27 dc0).trans h_
 |5=>exact(hs' 28 dc0).trans h_
 |6=>exact(hs' 29 dc0).trans h_
 |7=>exact(hs' 30 dc0).trans h_
 |8=>exact(hs' 31 dc0).trans h_
 |9=>exact(hs' 32 dc0).trans h_
 |10=>obtain⟨a,n',c,x',e1,e2,e3,e4⟩:=h_;exact⟨a,n',c,x',(hs' 33 dc0).trans e1,ht.m 10 e2,i9 e3 (C7 ht e2),e4.ex (C7 ht e2)⟩
 |11=>exact(hs' 34 dc0).trans h_
 |12=>exact(hs' 35 dc0).trans h_
 |13=>exact(hs' 36 dc0).trans h_
 |i+14=>trivial
theorem a3K{T w:World}{p:Nat}{h:SH}{x:SX}{s:Sc}(I:UwI T w p h x s)(hm:C2 s=true)(e:EH)(n:Nd)(m:Ms)(t:Tp)(hk:e.kind=5):
  Calls Tryz.prog 67 #[.pointer (some ⟨p,0,none⟩),vE e] w fun r w'=>ZY T p (K7 s (qt e n m t)) 0 0 0 (qF s (qt e n m t)) r w':=by
 have hA:=I.own.at (A7 hm);have hG:=hA.g;obtain⟨hgk,hnl,_,_,_⟩:=B6 hm;obtain⟨hok,hgl,_,_⟩:=zx hgk;have hnn:=hA.nn;have f4:=(A7 hm).nn;have he:qF s (qt e n m t)=zH s.g (e.h0,e.h1) (e.h0,e.h1):=by simp[qF,qt,hk]
 obtain⟨k,hkt⟩:∃k,e.h0.toNat=k:=⟨_,rfl⟩;have hs:K7 s (qt e n m t)=⟨U3 s.g (e.h0,e.h1),s.ns.set k nd0,s.ms,s.ts,if s.root=(e.h0,e.h1)then(0,0)else s.root⟩:=by simp[K7,qt,hk,hkt]
 have hslot:zH s.g (e.h0,e.h1) (e.h0,e.h1)=0→e.h0=k∧k<s.ns.length:=by
  intro q;unfold zH at q;rw[if_pos hgk]at q;split at q
  ·rename_i hh;have:=A8 hh.1;exact⟨om0,om0⟩
  ·cases q
 have i1:(fE e)[1]?=some (.int .i64 e.h0):=rfl;have i2:(fE e)[2]?=some (.int .i64 e.h1):=rfl;rw[he,hs];show Calls Tryz.prog 67 #[.pointer (some ⟨p,0,none⟩),.agg (fE e).toArray] w _;obtain⟨ce,hce⟩:∃c,fE e=c:=⟨_,rfl⟩;rw[hce]at i1 i2 ⊢;obtain⟨er,her⟩:∃v,zH s.g (e.h0,e.h1) (e.h0,e.h1)=v:=⟨_,rfl⟩;obtain⟨gr,hgr⟩:∃v,N0 s.g (e.h0,e.h1)=v:=⟨_,rfl⟩;have hres:er=0→gr=U3 s.g (e.h0,e.h1):=fun e0=>by rw[←hgr,N0,her,if_pos e0]
 rw[her]at hslot ⊢
 replace hslot:=qw.mk hslot
 obtain⟨R,hR⟩:∃R,(if s.root=(e.h0,e.h1)then((0:Int),(0:Int))else s.root)=R:=⟨_,rfl⟩;rw[hR]
 replace hR:=qw.mk hR
 obtain⟨q,hq⟩:∃q,w.heap.size=q:=⟨_,rfl⟩;have lp:=qi I.bx;clear he hs hm hok hgk hA hkt;go_enter Tryz.func67,Tryz.ntmps67;go_upto_region 1 with fail;refine qz (fun w'=>(∃y,w'=plus w y)∧w'.heap[q]?=some (.cells ce.toArray 66)∧w'.heap[q+1]?=some (.cells #[.int .i64 0,.int .i64 0,.int .i64 0] 36)) ⟨sk9,hq▸qm (qc _ _),by rw[←hq,←j8 w];exact qc _ _⟩ ?_
 try simp only[hq]
 rintro w1 ⟨x1,k1,k2⟩;have I1:=I.on x1;have k0:=I1.bx;have c0:=k9 (i:=0) k0 rfl;have c1:=k9 (i:=1) k0 rfl;have hqp:q≠p:=om0;have hqp1:q+1≠p:=om0;have hG1:=hG.ex x1;refine zR 12 a9L (ap8 T p q h x s e gr er (some p)) (N8 11 [5,8] (some p)) P3 (QP _) kr0 kr0 dc0 (a4C T p q h x s e gr er (some p)) ?steps ?fin
 case steps=>
  refine⟨?_,?_,?_,?_,?_,?_,?_,?_,?_,?_,?_,?_,trivial⟩<;>intro a D w' hg hfree hdeep hD
  ·have f0_:=hfree 0 kr0;simp only[ap8,got]at f0_;simp[go_sem]at f0_;unfold Oper.wp;simp[go_sem,execOp,Act.eval,↓IntWalk.iteOmega,f0_];exact⟨_,rfl,qp dc0 (j5 _),by simp[ap8,upd]⟩
  ·have f0_:=hfree 0 kr0;simp only[ap8,got]at f0_;simp[go_sem]at f0_;unfold Oper.wp;simp[go_sem,execOp,Act.eval,↓IntWalk.iteOmega,f0_];exact⟨_,rfl,qp dc0 (j5 _),by simp[ap8,upd]⟩
  ·have d1:=hdeep 1 kr0;simp only[ap8,got]at d1;simp[go_sem]at d1;unfold Oper.wp;simp[go_sem,execOp,Act.eval,↓IntWalk.iteOmega,d1];exact⟨_,rfl,qp dc0 (j5 _),by simp[ap8,upd]⟩
  ·have d2:=hdeep 2 kr0;simp only[ap8,got]at d2;simp[go_sem]at d2;unfold Oper.wp;simp[go_sem,execOp,Act.eval,↓IntWalk.iteOmega,d2];exact⟨_,rfl,qp dc0 (j5 _),by simp[ap8,upd]⟩
  ·have d3:=hdeep 3 kr0;simp only[ap8,got]at d3;simp[go_sem]at d3;unfold Oper.wp;simp[go_sem,execOp,Act.eval,↓IntWalk.iteOmega,d3];exact⟨_,rfl,qp dc0 (j5 _),by simp[ap8,upd]⟩
  ·have d4:=hdeep 4 kr0;simp only[ap8,got]at d4;simp[go_sem]at d4;obtain⟨x9,rfl⟩:=Qp hg (r:=5) dc0 hD;have cc0:=qf ⟨x9,rfl⟩ c0;have cc1:=qf ⟨x9,rfl⟩ c1;unfold Oper.wp;simp[go_sem,execOp,Act.eval,↓IntWalk.iteOmega,d4,cc0,cc1];exact⟨_,rfl,qp dc0 (j5 _),by simp[ap8,upd],y9 _⟩
  ·have f3_:=hfree 3 kr0;simp only[ap8,got]at f3_;simp[go_sem]at f3_;unfold Oper.wp;simp[go_sem,execOp,Act.eval,↓IntWalk.iteOmega,f3_];exact⟨_,rfl,qp dc0 (j5 _),by simp[ap8,upd]⟩
  ·have d6:=hdeep 6 kr0;simp only[ap8,got]at d6;simp[go_sem]at d6;have kq:=qI hg.t (fun e=>hqp (by cases e;rfl)) k1;have ci1:=k9 kq i1;have ci2:=k9 kq i2;unfold Oper.wp;simp[go_sem,execOp,Act.eval,↓IntWalk.iteOmega,d6,ci1,ci2];exact⟨_,rfl,qp dc0 (j5 _),by simp[ap8,upd]⟩
  ·obtain⟨e12,D6⟩:=hdeep 5 kr0;have e14:=hdeep 7 kr0;simp only[ap8,got]at e12 e14;simp at e12 e14;obtain⟨x9,rfl⟩:=Qp hg (r:=8) dc0 hD;have hU:=a2p h.ga h.gn h.gc h.ka h.kn h.kc x.gr s.g e.h0 e.h1 (plus w1 x9) (hG1.ex sk9);rw[hgr,her]at hU;unfold Oper.wp;simp[go_sem,execOp,Act.eval,↓IntWalk.iteOmega,e12,e14];refine hU.mono ?_;rintro r w2 ⟨a2,c2,k2_,kc2,hs2,rfl,hw2,o2⟩;exact⟨_,rfl,qp dc0 hw2,a2,c2,k2_,kc2,hs2,by simp[upd],y9 _,fun _=>o2.base (qu (i9 I1.ex ⟨x9,rfl⟩))⟩
  ·obtain⟨a2,c2,k2_,kc2,hs2,e17,_,_⟩:=hdeep 8 kr0;have g17:=e17;simp only[got]at g17;simp at g17;unfold Oper.wp;simp[go_sem,execOp,Act.eval,↓IntWalk.iteOmega,g17];exact⟨_,rfl,qp dc0 (j5 _),.agg #[.slice a2 gr.sl.length c2,.slice k2_ gr.ks.length kc2],by simp[upd];exact e17,by simp[upd]⟩
  ·obtain⟨a2,c2,k2_,kc2,hs2,e17,_,_⟩:=hdeep 8 kr0;have g17:=e17;simp only[got]at g17;simp at g17;unfold Oper.wp;simp[go_sem,execOp,Act.eval,↓IntWalk.iteOmega,g17];exact⟨_,rfl,qp dc0 (j5 _),by simp[ap8,upd]⟩
  ·have e7:=hdeep 0 kr0;obtain⟨a2,c2,k2_,kc2,hs2,e17,D11,o2⟩:=hdeep 8 kr0;obtain⟨v,e17',e18⟩:=hdeep 9 kr0;have e19:=hdeep 10 kr0;obtain⟨_,D6⟩:=hdeep 5 kr0;rw[e17]at e17';cases e17';have o3:=o2 hD;obtain⟨x9,rfl⟩:=B7 hg.t hD;have I2:=I1.on ⟨x9,rfl⟩;simp only[ap8,got]at e7 e18 e19;simp at e7 e18 e19;unfold Oper.wp;simp[go_sem,execOp,Act.eval,↓IntWalk.iteOmega,e7,e18,e19];refine(af6 I2 _ _ _ _ _ _ hs2 gr o3 er).mono ?_;rintro r w2 ⟨rfl,hgw,hz,hnz⟩;refine⟨_,rfl,aj9 hgw hD (fun r hr=>?_),by simp[upd],y9 _,?_,fun e0=>⟨_,_,hz e0⟩⟩
   ·simp only[List.mem_cons,List.not_mem_nil,or_false]at hr;rcases hr with rfl|rfl
    ·exact D6
    ·exact D11
   ·by_cases e0:er=0
    ·exact(hz e0).ex
    ·exact i9 I2.ex (hnz e0)
 case fin=>
  rintro t D w9 hDa hg hΦ;obtain⟨e20,_,hxT,hu⟩:=hΦ 11 dc0;have k3:=qI hg.t (fun e=>hqp1 (by cases e;rfl)) k2;have kq3:=qI hg.t (fun e=>hqp (by cases e;rfl)) k1;simp only[zh,List.take_succ_cons,List.take_zero,List.drop_succ_cons,List.drop_zero,e20];simp only[Act.put];simp only[List.setIfInBounds_toArray,List.set_cons_succ,List.set_cons_zero];clear hΦ e20 hg hDa c0 c1 k0 k1 k2 hG1 I1 hG;obtain⟨k1,k2⟩:=And.intro kq3 k3;clear kq3 k3;have hTq:T.heap.size≤q+1:=by have:=qu I.ex;omega
  by_cases h0:er=0;rotate_left
  ·have d0:(er==0)=false:=by rw[beq_eq_false_iff_ne];exact h0
   go_wp2_with (refine j6 rfl 36 (Operand.tmp 4) _ rfl (q+1) [.int .i64 0,.int .i64 0,.int .i64 0] rfl rfl _ _ (i7 sk9 k2) kr0 rfl (by intro v hv;simp at hv;subst hv;rfl) ?_);exact bodyPost_ret (zv Tryz.results67 _ _ (q+1) 36 #[.int .i64 0,.int .i64 0,.int .i64 0] _ _ (.int .i64 er) rfl rfl (p9 (i7 sk9 k2)) Tryz.underlying36 rfl kr0) rfl ⟨rfl,ql (i9 hxT sk9) hTq,fun e0=>absurd e0 h0⟩
  subst h0;obtain⟨h',x',U⟩:=hu (by first|rfl|trivial);obtain⟨hk0,hkn⟩:=hslot.it (by first|rfl|trivial);rw[hres (by first|rfl|trivial)]at U;have hnn':h'.nn=s.ns.length:=by have a1:=U.own.nl.1;have a2:=U.own.nlen;simp only at a2;omega
  rw[hk0]at i1
  replace hk0:=qw.mk hk0
  clear hu hslot;go_upto_region 4 with fail;refine qz (fun w'=>∃y,w'=plus w9 y) sk9 ?_;rintro w2 x02;have k1_:=i7 x02 k1;have k2_:=i7 x02 k2;have U_:=U.on x02;clear k1 k2 U;obtain⟨k1,k2⟩:=And.intro k1_ k2_;have U:=U_;clear k1_ k2_ U_;have k0:=U.bx;have hgq:=F4 U.own.nl k1 dc0;have hgp:=F4 U.own.nl k0 dc0;have hgt:=F4 U.own.nl k2 dc0;refine zR 14 a99 (aa0 T w2 p q h' x' ⟨U3 s.g (e.h0,e.h1),s.ns,s.ms,s.ts,s.root⟩ e n k (Value.ownBlock (.slice h'.na h'.nn h'.nc))) (N8 10 [] (Value.ownBlock (.slice h'.na h'.nn h'.nc))) P3 (QP _) kr0 kr0 dc0 (a45 T w2 p q h' x' ⟨U3 s.g (e.h0,e.h1),s.ns,s.ms,s.ts,s.root⟩ e n k (Value.ownBlock (.slice h'.na h'.nn h'.nc))) ?steps ?fin
  case steps=>
   refine⟨?_,?_,?_,?_,?_,?_,?_,?_,?_,?_,?_,?_,?_,?_,trivial⟩<;>intro a D w' hg hfree hdeep hD
   ·have f0_:=hfree 0 kr0;simp only[aa0,got]at f0_;simp[go_sem]at f0_;unfold Oper.wp;simp[go_sem,execOp,Act.eval,↓IntWalk.iteOmega,f0_];exact⟨_,rfl,qp dc0 (j5 _),by simp[aa0,upd]⟩
   ·have f0_:=hfree 0 kr0;simp only[aa0,got]at f0_;simp[go_sem]at f0_;unfold Oper.wp;simp[go_sem,execOp,Act.eval,↓IntWalk.iteOmega,f0_];exact⟨_,rfl,qp dc0 (j5 _),by simp[aa0,upd]⟩
   ·have d1:=hdeep 1 kr0;simp only[aa0,got]at d1;simp[go_sem]at d1;unfold Oper.wp;simp[go_sem,execOp,Act.eval,↓IntWalk.iteOmega,d1];exact⟨_,rfl,qp dc0 (j5 _),by simp[aa0,upd]⟩
   ·have d2:=hdeep 2 kr0;simp only[aa0,got]at d2;simp[go_sem]at d2;unfold Oper.wp;simp[go_sem,execOp,Act.eval,↓IntWalk.iteOmega,d2];exact⟨_,rfl,qp dc0 (j5 _),by simp[aa0,upd]⟩
   ·have d3:=hdeep 3 kr0;simp only[aa0,got]at d3;simp[go_sem]at d3;unfold Oper.wp;simp[go_sem,execOp,Act.eval,↓IntWalk.iteOmega,d3];exact⟨_,rfl,qp dc0 (j5 _),by simp[aa0,upd]⟩
   ·have d4:=hdeep 4 kr0;simp only[aa0,got]at d4;simp[go_sem]at d4;have kp:=qI hg.t hgp k0;have cc2:=k9 (i:=2) kp rfl;unfold Oper.wp;simp[go_sem,execOp,Act.eval,↓IntWalk.iteOmega,d4,cc2];exact⟨_,rfl,qp dc0 (j5 _),by simp[aa0,upd]⟩
   ·have f3_:=hfree 3 kr0;simp only[aa0,got]at f3_;simp[go_sem]at f3_;unfold Oper.wp;simp[go_sem,execOp,Act.eval,↓IntWalk.iteOmega,f3_];exact⟨_,rfl,qp dc0 (j5 _),by simp[aa0,upd]⟩
   ·have d6:=hdeep 6 kr0;simp only[aa0,got]at d6;simp[go_sem]at d6;unfold Oper.wp;simp[go_sem,execOp,Act.eval,↓IntWalk.iteOmega,d6];exact⟨_,rfl,qp dc0 (j5 _),by simp[aa0,upd]⟩
   ·have d7:=hdeep 7 kr0;simp only[aa0,got]at d7;simp[go_sem]at d7;have kq:=qI hg.t hgq k1;have ci1:=k9 kq i1;unfold Oper.wp;simp[go_sem,execOp,Act.eval,↓IntWalk.iteOmega,d7,ci1];exact⟨_,rfl,qp dc0 (j5 _),by simp[aa0,upd]⟩
   ·refine wp_build 56 #[] rfl kr0 ?_;refine⟨_,rfl,qp dc0 (j5 _),?_⟩;show upd (got a) (some 32) _ 32=_;simp only[upd];kernel_rfl
   ·have e5:=hdeep 5 kr0;have e6:=hdeep 8 kr0;have e9:=hdeep 9 kr0;obtain⟨x9,rfl⟩:=B7 hg.t hD;simp only[aa0,got]at e5 e6 e9;simp at e5 e6 e9;unfold Oper.wp;simp[go_sem,execOp,Act.eval,↓IntWalk.iteOmega,e5,e6,e9];refine(af1 T h'.na h'.nn h'.nc x'.nh k nh0 _ (i9 U.ex ⟨x9,rfl⟩) (U.own.nl.ex ⟨x9,rfl⟩) om0 om0).mono ?_;rintro r w4 ⟨a4,n4,c4,rfl,hx4,on4,hgr4⟩;exact⟨_,rfl,aj9 hgr4 hD (fun r hr=>by cases hr),a4,n4,c4,_,by simp[upd],y9 _,hx4,(U.own.ex ⟨x9,rfl⟩).putNode a1O om0 hgr4 on4⟩
   ·have d0:=hdeep 0 kr0;simp only[aa0,got]at d0;simp[go_sem]at d0;unfold Oper.wp;simp[go_sem,execOp,Act.eval,↓IntWalk.iteOmega,d0];exact⟨_,rfl,qp dc0 (j5 _),by simp[aa0,upd]⟩
   ·have d11:=hdeep 11 kr0;simp only[aa0,got]at d11;simp[go_sem]at d11;unfold Oper.wp;simp[go_sem,execOp,Act.eval,↓IntWalk.iteOmega,d11];exact⟨_,rfl,qp dc0 (j5 _),by simp[aa0,upd]⟩
   ·have d12:=hdeep 12 kr0;simp only[aa0,got]at d12;simp[go_sem]at d12;unfold Oper.wp;simp[go_sem,execOp,Act.eval,↓IntWalk.iteOmega,d12];exact⟨_,rfl,qp dc0 (j5 _),by simp[aa0,upd]⟩
  case fin=>
   rintro t D w8 hDa hg hΦ;obtain⟨a4,n4,c4,y',e33,_,hxT,own⟩:=hΦ 10 dc0;have e36:=hΦ 13 dc0;simp only[aa0]at e36;have kp:=qI hg.t hgp k0;have cp:=k9 (i:=2) kp rfl;have zp:=j9 (i:=2) kp;have k3:=qI hg.t hgt k2;have kq3:=qI hg.t hgq k1;simp only[zh,List.take_succ_cons,List.take_zero,List.drop_succ_cons,List.drop_zero,e33,e36];simp only[Act.put];simp only[List.setIfInBounds_toArray,List.set_cons_succ,List.set_cons_zero];rw[an8 hkn]at own;clear hΦ e33 e36 hg hDa;go_upto_region 5 with fail;refine qz (fun w'=>UwI T w' p (Y1 h' a4 n4 c4) y' ⟨U3 s.g (e.h0,e.h1),s.ns.set k nd0,s.ms,s.ts,s.root⟩∧w'.heap[q]?=some (.cells ce.toArray 66)∧w'.heap[q+1]?=some (.cells #[.int .i64 0,.int .i64 0,.int .i64 0] 36)) ⟨⟨qb hxT I.hp,own.set_other kp dc0,by have:=y8 (i:=2) (u:=.slice a4 n4 c4) kp;exact this,I.hp⟩,qj kq3 om0,qj k3 om0⟩ ?_;clear own kp cp zp k3 kq3 hxT k0 k1 k2 U hgq hgp hgt x02;rintro w3 ⟨I3,k1,k2⟩;have k0:=I3.bx;have c5:=k9 (i:=5) k0 rfl;have c6:=k9 (i:=6) k0 rfl;have z5:=j9 (i:=5) k0;have z6:=j9 (i:=6) k0;have e1:=k9 k1 i1;have e2:=k9 k1 i2;have lp0:=qi k0;have lq0:=qi k1;have hroot:=I3.own.root;simp only at hroot;obtain⟨br,hbr⟩:∃b,eqh (Y1 h' a4 n4 c4).r0 (Y1 h' a4 n4 c4).r1 (k:Int) e.h1=b:=⟨_,rfl⟩;have qH:=aq9 hbr;have hRb:(if br=true then((0:Int),(0:Int))else s.root)=R:=by
    rw[←hR.it,hk0.it,hroot,←hbr];by_cases q0:(Y1 h' a4 n4 c4).r0=(k:Int)<;>by_cases q1:(Y1 h' a4 n4 c4).r1=e.h1<;>simp[eqh,q0,q1]
   replace hRb:=qw.mk hRb
   clear hbr hroot hR;refine qg kr0 kr0 ?_
   (repeat(go_big_quiet_step (fail)))
   refine wpQuiet_nil ?_;rintro _ ⟨x2,rfl⟩;cases br
   ·go_wp2_with (refine j6 rfl 36 (Operand.tmp 4) _ rfl (q+1) [.int .i64 0,.int .i64 0,.int .i64 0] rfl rfl _ _ (i7 sk9 k2) kr0 rfl (by intro v hv;simp at hv;subst hv;rfl) ?_);have hR2:=hRb.it;simp only[Bool.false_eq_true,if_false]at hR2;subst hR2;exact bodyPost_ret (zv Tryz.results67 _ _ (q+1) 36 #[.int .i64 0,.int .i64 0,.int .i64 0] _ _ (.int .i64 0) rfl rfl (p9 (i7 sk9 k2)) Tryz.underlying36 rfl kr0) rfl ⟨rfl,ql (i9 I3.ex sk9) hTq,fun _=>⟨_,_,(I3.on (w':=plus w3 x2) ⟨x2,rfl⟩).took (i7 ⟨x2,rfl⟩ k2) hTq⟩⟩
   ·have hR2:=hRb.it;simp only[if_true]at hR2;subst hR2;go_upto_region 7 with fail;refine qz (fun w'=>UwI T w' p (X8 (Y1 h' a4 n4 c4) 0 0) y' ⟨U3 s.g (e.h0,e.h1),s.ns.set k nd0,s.ms,s.ts,(0,0)⟩∧w'.heap[q+1]?=some (.cells #[.int .i64 0,.int .i64 0,.int .i64 0] 36)) ?nm ?_
    case nm=>
     exact⟨⟨zt (qb (qb I3.ex I.hp) I.hp),(((I3.own.set_other k0 dc0).set_other (y8 k0) dc0).withRoot 0 0).ex ⟨x2,rfl⟩,i7 ⟨x2,rfl⟩ (by have:=y8 (i:=6) (u:=.int .i64 0) (y8 (i:=5) (u:=.int .i64 0) k0);exact this),I.hp⟩,i7 ⟨x2,rfl⟩ (qj (qj k2 hqp1.symm) hqp1.symm)⟩
    clear c5 c6 z5 z6 e1 e2 k0 k1 k2 I3;rintro w5 ⟨I5,k2⟩;go_wp2_with (refine j6 rfl 36 (Operand.tmp 4) _ rfl (q+1) [.int .i64 0,.int .i64 0,.int .i64 0] rfl rfl _ _ k2 kr0 rfl (by intro v hv;simp at hv;subst hv;rfl) ?_);exact bodyPost_ret (zv Tryz.results67 _ _ (q+1) 36 #[.int .i64 0,.int .i64 0,.int .i64 0] _ _ (.int .i64 0) rfl rfl (p9 k2) Tryz.underlying36 rfl kr0) rfl ⟨rfl,ql I5.ex hTq,fun _=>⟨_,_,I5.took k2 hTq⟩⟩
end
section
def a9D (i:Nat):List Nat:=match i with|0=>[40]|1=>[41]|2=>[42]|3=>[43]|4=>[44]|5=>[45]|6=>[46]|7=>[47]|8=>[48]|9=>[49]|10=>[50]|11=>[51]|12=>[52]|13=>[53]|14=>[54]|15=>[55]|_=>[]
def Zo (T W:World) (p q:Nat) (h:SH) (x:SX) (s:Sc) (e:EH) (n:Nd) (k:Nat) (gq:Option Nat) (i:Nat) (t:Nat→Value) (D:Nat→Bool) (w':World):Prop:=match i with
 |0=>t 40=.pointer (some ⟨p,0,none⟩)
 |1=>t 41=.pointer (some ⟨p,0,none⟩)
 |2=>t 42=.pointer (some ⟨p,0,none⟩)
 |3=>t 43=.pointer (some ⟨p,0,none⟩)
 |4=>t 44=.pointer (some ⟨p,2,none⟩)
 |5=>t 45=.slice h.na h.nn h.nc
 |6=>t 46=.pointer (some ⟨q,1,none⟩)
 |7=>t 47=.pointer (some ⟨q,1,none⟩)
 |8=>t 48=.int .i64 k
 |9=>t 49=.pointer (some ⟨q,6,none⟩)
 |10=>t 50=.agg (fN e.nd).toArray
 |11=>∃h3,t 51=.agg (fN h3).toArray∧D 11=true∧(D 12=false→zV T w' h3 n)
 |12=>∃a n' c x',t 52=.slice a n' c∧D 12=true∧(∃y,w'=plus T y)∧zi T w' (Y1 h a n' c) x' ⟨s.g,zU s.ns k n,s.ms,s.ts,s.root⟩
 |13=>t 53=.pointer (some ⟨p,0,none⟩)
 |14=>t 54=.pointer (some ⟨p,0,none⟩)
 |15=>t 55=.pointer (some ⟨p,2,none⟩)
 |_=>True
theorem a5b(T W:World)(p q:Nat)(h:SH)(x:SX)(s:Sc)(e:EH)(n:Nd)(k:Nat)(gq:Option Nat):∀i t t' D w D' w',Zo T W p q h x s e n k gq i t D w→(∀s∈a9D i,t' s=t s)→N8 12 [11] gq D w D' w'→Zo T W p q h x s e n k gq i t' D' w':=by
 intro i t t' D w D' w' h_ hs' ht
 match i with
 |0=>exact(hs' 40 dc0).trans h_
 |1=>exact(hs' 41 dc0).trans h_
 |2=>exact(hs' 42 dc0).trans h_
 |3=>exact(hs' 43 dc0).trans h_
 |4=>exact(hs' 44 dc0).trans h_
 |5=>exact(hs' 45 dc0).trans h_
 |6=>exact(hs' 46 dc0).trans h_
 |7=>exact(hs' 47 dc0).trans h_
 |8=>exact(hs' 48 dc0).trans h_
 |9=>exact(hs' 49 dc0).trans h_
 |10=>exact(hs' 50 dc0).trans h_
 |11=>obtain⟨h3,e1,e2,e3⟩:=h_;exact⟨h3,(hs' 51 dc0).trans e1,ht.m 11 e2,fun q=>by have q2:D 12=false:=(by cases e9:D 12;rfl;rw[ht.m 12 e9]at q;cases q);exact(e3 q2).ex (M1 ht.t (q2.trans q.symm))⟩
 |12=>obtain⟨a,n',c,x',e1,e2,e3,e4⟩:=h_;exact⟨a,n',c,x',(hs' 52 dc0).trans e1,ht.m 12 e2,i9 e3 (C7 ht e2),e4.ex (C7 ht e2)⟩
 |13=>exact(hs' 53 dc0).trans h_
 |14=>exact(hs' 54 dc0).trans h_
 |15=>exact(hs' 55 dc0).trans h_
 |i+16=>trivial
structure a9S (w1:World) (c c':List Value) (v:Int):Prop where
 it:∀w',(∃y,w'=plus w1 y)→Calls Tryz.prog 17 #[.agg c.toArray,.agg c'.toArray] w' fun e w''=>e=.returned (.int .i64 v)∧∃y,w''=plus w' y
theorem a54{h:NH}{ao:Option Addr}{n cap:Nat}{w:World}{b:Bool}(hb:(!decide (h.f.kind=5)||decide (n=0))=b):Calls Tryz.prog 120 #[.agg (fN h).toArray,.slice ao n cap] w fun e w'=>e=.returned (.bool b)∧∃y,w'=plus w y:=V7 h ao n cap hb w
theorem ax0{T w:World}{p:Nat}{h:SH}{x:SX}{s:Sc}(I:UwI T w p h x s)(hm:C2 s=true)(e:EH)(ps:List PH)(n:Nd)(m:Ms)(t:Tp)(hE:I9 w e ps n m t)(hfar:e.nd.n≤10000)(hk:e.kind=2):
  Calls Tryz.prog 64 #[.pointer (some ⟨p,0,none⟩),vE e] w fun r w'=>ZY T p (K7 s (qt e n m t)) 0 0 0 (qF s (qt e n m t)) r w':=by
 have hA:=I.own.at (A7 hm);have hG:=hA.g;obtain⟨hgk,hnl,_,_,_⟩:=B6 hm;obtain⟨hok,hgl,_,_⟩:=zx hgk;have hnn:=hA.nn;have hmn:=hA.mn.1;have htn:=hA.tn.1;have f4:=(A7 hm).nn;obtain⟨k,hkt⟩:∃k,e.h0.toNat=k:=⟨_,rfl⟩;have hs:K7 s (qt e n m t)=⟨s.g,s.ns.set k n,s.ms,s.ts,s.root⟩:=by simp[K7,qt,hk,hkt]
 have i1:(fE e)[1]?=some (.int .i64 e.h0):=rfl;have i2:(fE e)[2]?=some (.int .i64 e.h1):=rfl;have hnd:=a0l e;obtain⟨b1,hb1⟩:∃b,qG s.g.sl e.h0 e.h1=b:=⟨_,rfl⟩;obtain⟨b2,hb2⟩:∃b,ze s.ms.length s.ts.length n=b:=⟨_,rfl⟩;obtain⟨b3,hb3⟩:∃b,P0 n (nth [] s.g.ks e.h0.toNat)=b:=⟨_,rfl⟩;have he:qF s (qt e n m t)=if b1=true then(if b2=true then(if b3=true then 100 else 0)else 8)else 50:=by simp[qF,qt,hk,hb1,hb2,hb3]
 obtain⟨E,hE'⟩:∃E:Int,(if b1=true then(if b2=true then(if b3=true then 100 else 0)else 8)else 50)=E:=⟨_,rfl⟩;rw[hE']at he;rw[he,hs]
 replace hE':=qw.mk hE'
 have hslot:b1=true→e.h0=k∧k<s.ns.length:=fun q=>by have:=A8 (hb1.trans q);exact⟨om0,om0⟩
 have hck:(if ze h.mn h.tn n then(0:Int)else 8)=(if b2 then 0 else 8):=by rw[←hb2,hmn,htn]
 replace hck:=qw.mk hck
 replace hslot:=qw.mk hslot
 replace hb3:=qw.mk hb3
 have hkids:=hG.kh;have hkl:=hG.kl;have hrl:=fun k hk=>hG.rl (k:=k) hk
 have hN:=hE.nd;have hkd:e.nd.f.kind=n.f.kind:=by rw[hN.f]
 replace hkd:=qw.mk hkd
 clear he hs hA hm hgk hb2 hmn htn hE hkt;show Calls Tryz.prog 64 #[.pointer (some ⟨p,0,none⟩),.agg (fE e).toArray] w _;obtain⟨ce,hce⟩:∃c,fE e=c:=⟨_,rfl⟩;rw[hce]at i1 i2 hnd ⊢;obtain⟨q,hq⟩:∃q,w.heap.size=q:=⟨_,rfl⟩;have lp:=qi I.bx;go_enter Tryz.func64,Tryz.ntmps64;go_upto_region 1 with fail;refine qz (fun w'=>(∃y,w'=plus w y)∧w'.heap[q]?=some (.cells ce.toArray 66)∧w'.heap[q+1]?=some (.cells #[.int .i64 0,.int .i64 0,.int .i64 0] 36)) ⟨sk9,hq▸qm (qc _ _),by rw[←hq,←j8 w];exact qc _ _⟩ ?_
 try simp only[hq]
 rintro w0 ⟨x1,k1,k2⟩;have I0:=I.on x1;have e1:=k9 k1 i1;have e2:=k9 k1 i2;have l1:=qi k1;cases b1
 ·obtain rfl:E=50:=by rw[←hE'.it];simp
  go_wp2_with (first|(go_at_call 119;refine pq0 (Qi (I0.on sk9) hok _ _ hb1) fun nx=>?_)|(refine j6 rfl 36 (Operand.tmp 4) _ rfl (q+1) [.int .i64 0,.int .i64 0,.int .i64 0] rfl rfl _ _ (i7 sk9 k2) kr0 rfl (by intro v hv;simp at hv;subst hv;rfl) ?_));exact bodyPost_ret (zv Tryz.results64 _ _ (q+1) 36 #[.int .i64 0,.int .i64 0,.int .i64 0] _ _ (.int .i64 50) rfl rfl (p9 (i7 sk9 k2)) Tryz.underlying36 rfl kr0) rfl ⟨rfl,ql (i9 I.ex (i9 x1 sk9)) (by have:=qu I.ex;omega),fun e0=>by cases e0⟩
 go_upto_region 3 with(first|(go_at_call 119;refine pq0 (Qi (I0.on sk9) hok _ _ hb1) fun nx=>?_)|(refine j6 rfl 36 (Operand.tmp 4) _ rfl (q+1) [.int .i64 0,.int .i64 0,.int .i64 0] rfl rfl _ _ (i7 sk9 k2) kr0 rfl (by intro v hv;simp at hv;subst hv;rfl) ?_));refine qz (fun w'=>∃y,w'=plus w0 y) sk9 ?_;rintro w1 x01;obtain⟨hk0,hkn⟩:=hslot.it (by first|rfl|trivial);have x1':=i9 x1 x01;have k1':=i7 x01 k1;have k2':=i7 x01 k2;have I1:=I.on x1';clear e1 e2 l1 k1 k2 I0 hb1 hslot x1;obtain⟨k1,k2⟩:=And.intro k1' k2';have x1:=x1';clear k1' k2' x1' x01;have k0:=I1.bx;have hN1:=hN.ex x1;obtain⟨cS,hcS⟩:∃c,qa h=c:=⟨_,rfl⟩;have hS:∀j v,cS[j]?=some v→w1.cell? ⟨p,0+j,none⟩=some v:=fun j v hj=>by rw[Nat.zero_add];exact k9 k0 (by rw[hcS];exact hj)
 have hlS:cS.length=7:=by rw[←hcS];rfl
 have hNq:∀j v,(fN e.nd)[j]?=some v→w1.cell? ⟨q,6+j,none⟩=some v:=fun j v hj=>k9 k1 (hnd j v hj)
 have CK:a9S w1 cS (fN e.nd) (if b2 then 0 else 8):=⟨fun w' hw=>hcS▸aq8 (hN1.ex hw) hfar hck.it⟩;clear hck hS;have hS:∀j v,cS[j]?=some v→w1.cell? ⟨p,0+j,none⟩=some v:=fun j v hj=>by rw[Nat.zero_add];exact k9 k0 (by rw[hcS];exact hj)
 refine qg kr0 kr0 ?_
 (repeat(first|(refine zI kr0 34 (Operand.tmp 15) rfl p 0 kr0 cS _ (fun w' hw j v hj=>qf hw (hS j v hj)) Tryz.underlying34 rfl (by rw[hlS];kernel_rfl) ?_;simp only[Act.put,List.setIfInBounds_toArray,List.set_cons_succ,List.set_cons_zero])|(refine zI kr0 56 (Operand.tmp 17) rfl q 6 kr0 (fN e.nd) _ (fun w' hw j v hj=>qf hw (hNq j v hj)) Tryz.underlying56 rfl kr0 ?_;simp only[Act.put,List.setIfInBounds_toArray,List.set_cons_succ,List.set_cons_zero])|go_big_quiet_step ((go_at_call 17;exact C9 (CK.it _ sk9)))))
 refine wpQuiet_nil ?_;rintro _ ⟨x2,rfl⟩;cases b2
 ·obtain rfl:E=8:=by rw[←hE'.it];simp
  go_wp2_with (refine j6 rfl 36 (Operand.tmp 4) _ rfl (q+1) [.int .i64 0,.int .i64 0,.int .i64 0] rfl rfl _ _ (i7 sk9 k2) kr0 rfl (by intro v hv;simp at hv;subst hv;rfl) ?_);exact bodyPost_ret (zv Tryz.results64 _ _ (q+1) 36 #[.int .i64 0,.int .i64 0,.int .i64 0] _ _ (.int .i64 8) rfl rfl (p9 (i7 sk9 k2)) Tryz.underlying36 rfl kr0) rfl ⟨rfl,ql (i9 I.ex (i9 x1 sk9)) (by have:=qu I.ex;omega),fun e0=>by cases e0⟩
 go_upto_region 6 with fail;refine qz (fun w'=>∃y,w'=plus w1 y) sk9 ?_;rintro w2 x02;have k1':=i7 x02 k1;have k2':=i7 x02 k2;have x1':=i9 x1 x02;have U:=I1.on x02;clear CK hS hNq k1 k2 k0 I1 hcS hlS hN1 x1;obtain⟨k1,k2⟩:=And.intro k1' k2';have x1:=x1';clear k1' k2' x1';have hN1:=hN.ex x1;have k0:=U.bx;have c1:=k9 (i:=1) k0 rfl;have e1:=k9 k1 i1;rw[hk0]at e1;have hNq:∀j v,(fN e.nd)[j]?=some v→w2.cell? ⟨q,6+j,none⟩=some v:=fun j v hj=>k9 k1 (hnd j v hj)
 obtain⟨gK,oK,hka,hgK,hcK⟩:=(hkids.ex x1).some om0;rw[hka]at c1;have kr:=O9 (hkids.len) hcK (k:=k) om0;have hrn:=hrl k om0;have ik:(k:Int)<(h.kn:Int):=om0;have lp0:=qi k0;have lq0:=qi k1;have hfit:(!decide (e.nd.f.kind=5)||decide ((nth dRH x.gr k).n=0))=!b3:=by
  rw[←hb3.it,P0,hkd.it,hk0,Int.toNat_natCast,hrn];by_cases q5:n.f.kind=5<;>by_cases q0:(nth dRH x.gr k).n=0<;>simp[q5,q0]<;>omega
 replace hfit:=qw.mk hfit
 clear hb3 hkd hrl hcK;refine qg kr0 kr0 ?_
 (repeat(first|(refine zI kr0 56 (Operand.tmp 24) rfl q 6 kr0 (fN e.nd) _ (fun w' hw j v hj=>qf hw (hNq j v hj)) Tryz.underlying56 rfl kr0 ?_;simp only[Act.put,List.setIfInBounds_toArray,List.set_cons_succ,List.set_cons_zero])|go_big_quiet_step ((go_at_call 120;exact C9 (a54 hfit.it)))))
 refine wpQuiet_nil ?_;rintro _ ⟨x2,rfl⟩;clear kr hfit hNq c1 e1;cases b3;rotate_left
 ·obtain rfl:E=100:=by rw[←hE'.it];simp
  go_wp2_with (refine j6 rfl 36 (Operand.tmp 4) _ rfl (q+1) [.int .i64 0,.int .i64 0,.int .i64 0] rfl rfl _ _ (i7 sk9 k2) kr0 rfl (by intro v hv;simp at hv;subst hv;rfl) ?_);exact bodyPost_ret (zv Tryz.results64 _ _ (q+1) 36 #[.int .i64 0,.int .i64 0,.int .i64 0] _ _ (.int .i64 100) rfl rfl (p9 (i7 sk9 k2)) Tryz.underlying36 rfl kr0) rfl ⟨rfl,ql (i9 I.ex (i9 x1 sk9)) (by have:=qu I.ex;omega),fun e0=>by cases e0⟩
 obtain rfl:E=0:=by rw[←hE'.it];simp
 clear hE';go_upto_region 8 with fail;refine qz (fun w'=>∃y,w'=plus w2 y) sk9 ?_;rintro w3 x03;have k1':=i7 x03 k1;have k2':=i7 x03 k2;have x1':=i9 x1 x03;have U':=U.on x03;clear k1 k2 k0 U hN1 x1 lp0 lq0;obtain⟨k1,k2⟩:=And.intro k1' k2';have x1:=x1';have U:=U';clear k1' k2' x1' U';have hN1:=hN.ex x1;have k0:=U.bx;rw[hk0]at i1;have hgq:=F4 U.own.nl k1 dc0;have hgp:=F4 U.own.nl k0 dc0;have hgt:=F4 U.own.nl k2 dc0;refine zR 16 a9D (Zo T w3 p q h x s e n k (Value.ownBlock (.slice h.na h.nn h.nc))) (N8 12 [11] (Value.ownBlock (.slice h.na h.nn h.nc))) P3 (QP _) kr0 kr0 dc0 (a5b T w3 p q h x s e n k (Value.ownBlock (.slice h.na h.nn h.nc))) ?steps ?fin
 case steps=>
  refine⟨?_,?_,?_,?_,?_,?_,?_,?_,?_,?_,?_,?_,?_,?_,?_,?_,trivial⟩<;>intro a D w' hg hfree hdeep hD
  ·have f0_:=hfree 0 kr0;simp only[Zo,got]at f0_;simp[go_sem]at f0_;unfold Oper.wp;simp[go_sem,execOp,Act.eval,↓IntWalk.iteOmega,f0_];exact⟨_,rfl,qp dc0 (j5 _),by simp[Zo,upd]⟩
  ·have f0_:=hfree 0 kr0;simp only[Zo,got]at f0_;simp[go_sem]at f0_;unfold Oper.wp;simp[go_sem,execOp,Act.eval,↓IntWalk.iteOmega,f0_];exact⟨_,rfl,qp dc0 (j5 _),by simp[Zo,upd]⟩
  ·have d1:=hdeep 1 kr0;simp only[Zo,got]at d1;simp[go_sem]at d1;unfold Oper.wp;simp[go_sem,execOp,Act.eval,↓IntWalk.iteOmega,d1];exact⟨_,rfl,qp dc0 (j5 _),by simp[Zo,upd]⟩
  ·have d2:=hdeep 2 kr0;simp only[Zo,got]at d2;simp[go_sem]at d2;unfold Oper.wp;simp[go_sem,execOp,Act.eval,↓IntWalk.iteOmega,d2];exact⟨_,rfl,qp dc0 (j5 _),by simp[Zo,upd]⟩
  ·have d3:=hdeep 3 kr0;simp only[Zo,got]at d3;simp[go_sem]at d3;unfold Oper.wp;simp[go_sem,execOp,Act.eval,↓IntWalk.iteOmega,d3];exact⟨_,rfl,qp dc0 (j5 _),by simp[Zo,upd]⟩
  ·have d4:=hdeep 4 kr0;simp only[Zo,got]at d4;simp[go_sem]at d4;have kp:=qI hg.t hgp k0;have cc2:=k9 (i:=2) kp rfl;unfold Oper.wp;simp[go_sem,execOp,Act.eval,↓IntWalk.iteOmega,d4,cc2];exact⟨_,rfl,qp dc0 (j5 _),by simp[Zo,upd]⟩
  ·have f3_:=hfree 3 kr0;simp only[Zo,got]at f3_;simp[go_sem]at f3_;unfold Oper.wp;simp[go_sem,execOp,Act.eval,↓IntWalk.iteOmega,f3_];exact⟨_,rfl,qp dc0 (j5 _),by simp[Zo,upd]⟩
  ·have d6:=hdeep 6 kr0;simp only[Zo,got]at d6;simp[go_sem]at d6;unfold Oper.wp;simp[go_sem,execOp,Act.eval,↓IntWalk.iteOmega,d6];exact⟨_,rfl,qp dc0 (j5 _),by simp[Zo,upd]⟩
  ·have d7:=hdeep 7 kr0;simp only[Zo,got]at d7;simp[go_sem]at d7;have kq:=qI hg.t hgq k1;have ci1:=k9 kq i1;unfold Oper.wp;simp[go_sem,execOp,Act.eval,↓IntWalk.iteOmega,d7,ci1];exact⟨_,rfl,qp dc0 (j5 _),by simp[Zo,upd]⟩
  ·have f3_:=hfree 3 kr0;simp only[Zo,got]at f3_;simp[go_sem]at f3_;unfold Oper.wp;simp[go_sem,execOp,Act.eval,↓IntWalk.iteOmega,f3_];exact⟨_,rfl,qp dc0 (j5 _),by simp[Zo,upd]⟩
  ·have e9:=hdeep 9 kr0;simp only[Zo,got]at e9;simp at e9;have kq:=qI hg.t hgq k1;unfold Oper.wp;rw[zP 56 (Operand.tmp 49) rfl q 6 (by simp[Act.eval,e9]) (fN e.nd) _ (fun j v hj=>k9 kq (hnd j v hj)) Tryz.underlying56 rfl kr0];exact⟨_,rfl,qp dc0 (j5 _),by simp[Zo,upd]⟩
  ·have e8:=hdeep 10 kr0;simp only[Zo,got]at e8;simp at e8;obtain⟨x9,rfl⟩:=Qp hg (r:=11) dc0 hD;unfold Oper.wp;simp[go_sem,execOp,Act.eval,↓IntWalk.iteOmega,e8];refine(S0 e.nd n _ (hN1.ex ⟨x9,rfl⟩) hfar).mono ?_;rintro r w4 ⟨h3,rfl,hw4,o2⟩;exact⟨_,rfl,qp dc0 hw4,h3,by simp[upd];rfl,y9 _,fun _=>o2.base (qu (i9 U.ex ⟨x9,rfl⟩))⟩
  ·have e5:=hdeep 5 kr0;have e6:=hdeep 8 kr0;obtain⟨h3,e9,D9,o9⟩:=hdeep 11 kr0;have o3:=o9 hD;obtain⟨x9,rfl⟩:=B7 hg.t hD;simp only[Zo,got]at e5 e6 e9;simp at e5 e6 e9;unfold Oper.wp;simp[go_sem,execOp,Act.eval,↓IntWalk.iteOmega,e5,e6,e9];refine(af1 T h.na h.nn h.nc x.nh k h3 _ (i9 U.ex ⟨x9,rfl⟩) (U.own.nl.ex ⟨x9,rfl⟩) om0 om0).mono ?_;rintro r w4 ⟨a4,n4,c4,rfl,hx4,on4,hgr4⟩;exact⟨_,rfl,aj9 hgr4 hD (fun r hr=>by simp only[List.mem_cons,List.not_mem_nil,or_false]at hr;subst hr;exact D9),a4,n4,c4,_,by simp[upd],y9 _,hx4,(U.own.ex ⟨x9,rfl⟩).putNode o3 om0 hgr4 on4⟩
  ·have d0:=hdeep 0 kr0;simp only[Zo,got]at d0;simp[go_sem]at d0;unfold Oper.wp;simp[go_sem,execOp,Act.eval,↓IntWalk.iteOmega,d0];exact⟨_,rfl,qp dc0 (j5 _),by simp[Zo,upd]⟩
  ·have d13:=hdeep 13 kr0;simp only[Zo,got]at d13;simp[go_sem]at d13;unfold Oper.wp;simp[go_sem,execOp,Act.eval,↓IntWalk.iteOmega,d13];exact⟨_,rfl,qp dc0 (j5 _),by simp[Zo,upd]⟩
  ·have d14:=hdeep 14 kr0;simp only[Zo,got]at d14;simp[go_sem]at d14;unfold Oper.wp;simp[go_sem,execOp,Act.eval,↓IntWalk.iteOmega,d14];exact⟨_,rfl,qp dc0 (j5 _),by simp[Zo,upd]⟩
 case fin=>
  rintro t D w8 hDa hg hΦ;obtain⟨a4,n4,c4,y',e33,_,hxT,own⟩:=hΦ 12 dc0;have e36:=hΦ 15 dc0;simp only[Zo]at e36;have kp:=qI hg.t hgp k0;have cp:=k9 (i:=2) kp rfl;have zp:=j9 (i:=2) kp;have k3:=qI hg.t hgt k2;simp only[zh,List.take_succ_cons,List.take_zero,List.drop_succ_cons,List.drop_zero,e33,e36];simp only[Act.put];simp only[List.setIfInBounds_toArray,List.set_cons_succ,List.set_cons_zero];rw[an8 hkn]at own;clear hΦ e33 e36 hg hDa;have hTq:T.heap.size≤q+1:=by have:=qu I.ex;omega
  go_upto_region 9 with fail;refine qz (fun w'=>UwI T w' p (Y1 h a4 n4 c4) y' ⟨s.g,s.ns.set k n,s.ms,s.ts,s.root⟩∧w'.heap[q+1]?=some (.cells #[.int .i64 0,.int .i64 0,.int .i64 0] 36)) ⟨⟨qb hxT I.hp,own.set_other kp dc0,by have:=y8 (i:=2) (u:=.slice a4 n4 c4) kp;exact this,I.hp⟩,qj k3 om0⟩ ?_;clear own kp cp zp k3 hxT k0 k1 k2 U hgq hgp hgt x02 x03;rintro w5 ⟨I3,k2⟩;go_wp2_with (refine j6 rfl 36 (Operand.tmp 4) _ rfl (q+1) [.int .i64 0,.int .i64 0,.int .i64 0] rfl rfl _ _ k2 kr0 rfl (by intro v hv;simp at hv;subst hv;rfl) ?_);exact bodyPost_ret (zv Tryz.results64 _ _ (q+1) 36 #[.int .i64 0,.int .i64 0,.int .i64 0] _ _ (.int .i64 0) rfl rfl (p9 k2) Tryz.underlying36 rfl kr0) rfl ⟨rfl,ql I3.ex hTq,fun _=>⟨_,_,I3.took k2 hTq⟩⟩
end
end Go.Proofs.YtcekcihijdipoaaGreat
