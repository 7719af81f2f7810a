/- A pack of texts: EdRSM. -/
import Derived.Test.YtcekcihijdipoaaGreatPD37
namespace Go.Proofs.YtcekcihijdipoaaGreat
set_option maxRecDepth 100000
set_option maxHeartbeats 16000000
section
open Go.RowKit Go.ChangeShapes Go.WideShapes Go.ChangeAt
set_option linter.unusedSimpArgs false
set_option linter.unusedVariables false
attribute [local go_sem] qn qZ A2 zg zz zA t5 qJ zf qO qD t6
theorem a77{T w:World}:zZ T w mh0 [] ms0:=⟨⟨zd,zd,zd,rfl,fun k hk=>by simp at hk,fun k hk=>by simp at hk⟩,fun k hk=>by simp[ms0]at hk⟩
theorem a7A{T w:World}:D0 T w th0 tp0:=⟨rfl,rfl,zd,fun k hk=>by simp[tp0]at hk⟩
theorem ar9(a:Int)(many most:Nat)(em:Int):E2 a many most em=if Zd a many most=2 then 2 else if em≠0 then em else Zd a many most:=by
 unfold E2 Zd;by_cases h1:a< -1∨(many:Int)≤a
 ·rw[if_pos h1,if_pos h1,if_pos rfl]
 ·rw[if_neg h1,if_neg h1];by_cases h2:a<0∧most≤many
  ·rw[if_pos h2,if_neg (show¬(9:Int)=2 by decide)]
  ·rw[if_neg h2,if_neg (show¬(0:Int)=2 by decide)]
def a9E (W T:World) (q k:Nat) (m:Ms) (t:Tp) (s:Sc) (ce:List Value) (w':World):Prop:=∃h' x' ns',h'.mn=ns'.length∧k<ns'.length∧ns'.set k m=zU s.ms k m∧BxI W T w' q h' x' ⟨s.g,s.ns,ns',s.ts,s.root⟩∧w'.heap[q+1]?=some (.cells ce.toArray 66)∧w'.heap[q+2]?=some (.cells (qa sh0).toArray 34)∧w'.heap[q+3]?=some (.cells #[.int .i64 0,.int .i64 0,.int .i64 0] 36)
def smS (i:Nat):List Nat:=match i with|0=>[79]|1=>[80]|2=>[81]|3=>[82]|4=>[83]|5=>[84]|6=>[85]|_=>[]
def smΦ (T:World) (q g nn nc k:Nat) (e:EH) (m:Ms) (tt:Tp) (i:Nat) (t:Nat→Value) (w':World):Prop:=match i with
 |0=>t 79=.pointer (some ⟨q,3,none⟩)
 |1=>t 80=.slice (some ⟨g,0,none⟩) nn nc
 |2=>t 81=.int .i64 k
 |3=>t 82=.pointer (some ⟨q+1,39,none⟩)
 |4=>t 83=.agg (fMh e.mh).toArray
 |5=>∃h3 p3,t 84=.agg (fMh h3).toArray∧zZ T w' h3 p3 m
 |6=>t 85=.pointer (some ⟨g,k*3,none⟩)
 |_=>True
theorem a6L(T:World)(q g nn nc k:Nat)(e:EH)(m:Ms)(tt:Tp):∀i t t' w' x,smΦ T q g nn nc k e m tt i t w'→(∀s∈smS i,t' s=t s)→smΦ T q g nn nc k e m tt i t' (plus w' x):=by
 intro i t t' w' x h_ hs'
 match i with
 |5=>obtain⟨h3,p3,e1,e2⟩:=h_;exact⟨h3,p3,(hs' 84 dc0).trans e1,e2.ex ⟨x,rfl⟩⟩
 |0|1|2|3|4|6=>exact(hs' _ dc0).trans h_
 |i+7=>trivial
theorem ax9{T w:World}{h:SH}{x:SX}{s:Sc}(hT:∃y,w=plus T y)(O:zi T w h x s)(hm:C2 s=true)(e:EH)(ps:List PH)(n:Nd)(m:Ms)(t:Tp)(hE:I9 T e ps n m t)(hk:e.kind=6):
  Calls Tryz.prog 113 #[.agg (qa h).toArray,.agg (fE e).toArray] w fun r w'=>Z0 w T (K7 s (qt e n m t)) 0 0 (y7 e.at' s.ms.length 32 (L3 m)) (qF s (qt e n m t)) r w':=by
 have hA:=O.at (A7 hm);obtain⟨_,_,hst,_,_⟩:=B6 hm;have hmany:=(K6 hst).2.2.1;have hmn:=hA.mn;have htn:=hA.tn;have he:qF s (qt e n m t)=E2 e.at' s.ms.length 32 (L3 m):=by simp[qF,qt,hk]
 have hs:K7 s (qt e n m t)=⟨s.g,s.ns,zU s.ms (C5 e.at' s.ms.length) m,s.ts,s.root⟩:=by simp[K7,qt,hk]
 have i0:(fE e)[0]?=some (.int .u8 e.kind):=rfl;have i5:(fE e)[5]?=some (.int .i64 e.at'):=rfl;have i39:(fE e)[39]?=some (.slice e.mh.va e.mh.vn e.mh.vc):=rfl;have i40:(fE e)[40]?=some (.slice e.mh.ua e.mh.un e.mh.uc):=rfl;have i41:(fE e)[41]?=some (.slice e.mh.pa e.mh.pn e.mh.pc):=rfl;have i42:(fE e)[42]?=some (.int .i64 e.th.w):=rfl;have i43:(fE e)[43]?=some (.int .i64 e.th.h):=rfl;have i44:(fE e)[44]?=some (.slice e.th.ao e.th.n e.th.cap):=rfl;rw[hk]at i0;rw[he,hs];obtain⟨ce,hce⟩:∃c,fE e=c:=⟨_,rfl⟩;rw[hce]at i0 i5 i39 i40 i41 i42 i43 i44 ⊢;obtain⟨em,hem⟩:∃v,L3 m=v:=⟨_,rfl⟩;obtain⟨bt,hbt⟩:∃v,Y5 t=v:=⟨_,rfl⟩;obtain⟨wr,hwr⟩:∃v,L3 m=v:=⟨_,rfl⟩;rw[hwr];obtain⟨pe,hpe⟩:∃v,Zd e.at' s.ms.length 32=v:=⟨_,rfl⟩;obtain⟨pv,hpv⟩:∃v,ae4 e.at' s.ms.length 32=v:=⟨_,rfl⟩;obtain⟨er,her⟩:∃v,E2 e.at' s.ms.length 32 wr=v:=⟨_,rfl⟩;have her2:er=if pe=2 then 2 else if wr≠0 then wr else pe:=by rw[←her,ar9,hpe]
 obtain⟨PV,hPV⟩:∃v,y7 e.at' s.ms.length 32 wr=v:=⟨_,rfl⟩;rw[her,hPV];have hP0:er≠0→PV=0:=fun q=>by rw[←hPV,y7,her,if_neg q]
 obtain⟨k,hkk⟩:∃k,C5 e.at' s.ms.length=k:=⟨_,rfl⟩;have hplace:er=0→PV=k∧pv=k∧k≤s.ms.length:=fun q=>by
  have q2:=Zz (her.trans q);have q3:pe=0:=by
   rw[her2]at q;by_cases q4:pe=2
   ·rw[if_pos q4]at q;cases q
   ·rw[if_neg q4,if_neg (by have:=q2.2.1;omega)]at q;exact q
  exact⟨by rw[←hPV,y7,her,if_pos q,hkk],by rw[←hpv,ae4,hpe,if_pos q3,hkk],hkk▸q2.1⟩
 rw[hkk];rw[hmn.1]at hpe hpv;have hnn0:h.mn≤1000:=om0
 replace hpe:=qw.mk hpe
 replace hpv:=qw.mk hpv
 replace hplace:=qw.mk hplace
 replace hP0:=qw.mk hP0
 replace her2:=qw.mk her2
 have hmt:=qw.mk ((ar2 hE.th).trans hbt)
 replace hbt:=qw.mk hbt
 clear her hPV he hs hst;obtain⟨cs,hcs⟩:∃c,qa h=c:=⟨_,rfl⟩;have lcs:cs.length=7:=by rw[←hcs];rfl
 have acs:cs.toArray.size=7:=by simpa using lcs
 have cs1:∀u∈cs,u.oneCell'=true:=by rw[←hcs];exact qX h
 have hcs3:cs[3]?=some (.slice h.ma h.mn h.mc):=by rw[←hcs];rfl
 have hcs4:cs[4]?=some (.slice h.ta h.tn h.tc):=by rw[←hcs];rfl
 rw[hcs];obtain⟨q,hq⟩:∃q,w.heap.size=q:=⟨_,rfl⟩;have hTq:T.heap.size≤q:=by have:=qu hT;omega
 go_enter Tryz.func113,Tryz.ntmps113;go_upto_region 1 with fail;refine qz (fun w'=>(∃y,w'=plus w y)∧w'.heap[q]?=some (.cells cs.toArray 34)∧w'.heap[q+1]?=some (.cells ce.toArray 66)∧w'.heap[q+2]?=some (.cells (qa sh0).toArray 34)∧w'.heap[q+3]?=some (.cells #[.int .i64 0,.int .i64 0,.int .i64 0] 36)∧w'.heap.size=q+4) ⟨sk9,hq▸qm (qm (qm (qc _ _))),?b1,?b2,?b3,by rw[j8,j8,j8,j8,hq]⟩ ?_
 case b1=>rw[←hq,←j8 w (.cells cs.toArray 34)];exact qm (qm (qc _ _))
 case b2=>rw[show q+2=((w.alloc (.cells cs.toArray 34)).alloc (.cells ce.toArray 66)).heap.size by rw[j8,j8,hq]];exact qm (qc _ _)
 case b3=>rw[show q+3=(((w.alloc (.cells cs.toArray 34)).alloc (.cells ce.toArray 66)).alloc (.cells (qa sh0).toArray 34)).heap.size by rw[j8,j8,j8,hq]];exact qc _ _
 try simp only[hq]
 rintro w1 ⟨x1,k0,k1,k2,k3,zq⟩;have c3:=k9 (i:=3) k0 hcs3;have c4:=k9 (i:=4) k0 hcs4;have e0:=k9 k1 i0;have e5:=k9 k1 i5;have e39:=k9 k1 i39;have e40:=k9 k1 i40;have e41:=k9 k1 i41;have e42:=k9 k1 i42;have e43:=k9 k1 i43;have e44:=k9 k1 i44;have hMM:=hE.mh.ex (i9 hT x1);have l0:=qi k0;have l1:=qi k1;have hch:∀w',(∃y,w'=plus w1 y)→Calls Tryz.prog 142 #[.agg #[.slice e.mh.va e.mh.vn e.mh.vc,.slice e.mh.ua e.mh.un e.mh.uc,.slice e.mh.pa e.mh.pn e.mh.pc]] w' fun r w''=>r=.returned (.int .i64 em)∧Below w'.heap.size w' w'':=fun w' hw=>hem▸aa1 (hMM.ex hw)
 replace hch:=qw.mk hch
 obtain rfl:wr=em:=hwr.symm.trans hem;go_upto_region 11 with(first|(go_at_call 142;refine(A4 (hch.it _ sk9)).mono ?_;rintro r w' ⟨rfl,nx,rfl⟩)|(go_at_call 143;refine(ac9 hmt.it).mono ?_;rintro r w' ⟨rfl,nxm,rfl⟩)|(go_at_call 156;refine(Zk e.at' h.mn 32 hnn0 dc0 hpv.it hpe.it _).mono ?_;rintro r w' ⟨rfl,nxp,rfl⟩));by_cases hp2:pe=2
 ·subst hp2;have he2:=her2.it;rw[if_pos rfl]at he2;obtain rfl:PV=0:=hP0.it om0;subst he2;go_upto_region 12 with fail;go_wp2_with (first|(refine wpList_load_row rfl 34 (Operand.tmp 2) rfl q kr0 _ _ _ _ (by exact i7 sk9 k0) Tryz.underlying34 rfl (by rw[acs];kernel_rfl) ?_)|(refine j6 rfl 34 (Operand.tmp 4) _ rfl (q+2) cs rfl rfl 34 (qa sh0).toArray (by exact i7 sk9 k2) (by rw[lcs];kernel_rfl) (by rw[lcs];kernel_rfl) cs1 ?_)|(refine j6 rfl 36 (Operand.tmp 5) _ rfl (q+3) [.int .i64 0,.int .i64 0,.int .i64 0] rfl rfl 36 #[.int .i64 0,.int .i64 0,.int .i64 0] (by exact l9 (i7 sk9 k3) om0) kr0 rfl (by intro v hv;simp at hv;first|(subst hv;rfl)|(rcases hv with rfl|rfl<;>rfl)|(rcases hv with rfl|rfl|rfl<;>rfl)) ?_));exact bodyPost_ret (qy Tryz.results113 _ _ (q+2) (q+3) 34 36 _ #[.int .i64 0,.int .i64 0,.int .i64 0] _ _ (.int .i64 2) rfl rfl rfl (l9 (p9 (i7 sk9 k2)) om0) (p9 (l9 (i7 sk9 k3) om0)) Tryz.underlying34 rfl (by rw[acs];kernel_rfl) Tryz.underlying36 rfl kr0) rfl (N9 (h':=h) (x':=x) hcs (i7 sk9 k2) (i7 sk9 k3) om0 om0 om0 (i9 (i9 hT x1) sk9) (qB (qQ x1) (qQ sk9)) om0 om0 (fun e0=>by cases e0))
 have d2:(pe==2)=false:=by rw[beq_eq_false_iff_ne];exact hp2
 by_cases hw0:wr=0;rotate_left
 ·have d3:(wr==0)=false:=by rw[beq_eq_false_iff_ne];exact hw0
  obtain rfl:er=wr:=by rw[her2.it,if_neg hp2,if_pos hw0]
  obtain rfl:PV=0:=hP0.it hw0;go_upto_region 14 with fail;go_wp2_with (first|(refine wpList_load_row rfl 34 (Operand.tmp 2) rfl q kr0 _ _ _ _ (by exact i7 sk9 k0) Tryz.underlying34 rfl (by rw[acs];kernel_rfl) ?_)|(refine j6 rfl 34 (Operand.tmp 4) _ rfl (q+2) cs rfl rfl 34 (qa sh0).toArray (by exact i7 sk9 k2) (by rw[lcs];kernel_rfl) (by rw[lcs];kernel_rfl) cs1 ?_)|(refine j6 rfl 36 (Operand.tmp 5) _ rfl (q+3) [.int .i64 0,.int .i64 0,.int .i64 0] rfl rfl 36 #[.int .i64 0,.int .i64 0,.int .i64 0] (by exact l9 (i7 sk9 k3) om0) kr0 rfl (by intro v hv;simp at hv;first|(subst hv;rfl)|(rcases hv with rfl|rfl<;>rfl)|(rcases hv with rfl|rfl|rfl<;>rfl)) ?_));exact bodyPost_ret (qy Tryz.results113 _ _ (q+2) (q+3) 34 36 _ #[.int .i64 0,.int .i64 0,.int .i64 0] _ _ (.int .i64 er) rfl rfl rfl (l9 (p9 (i7 sk9 k2)) om0) (p9 (l9 (i7 sk9 k3) om0)) Tryz.underlying34 rfl (by rw[acs];kernel_rfl) Tryz.underlying36 rfl kr0) rfl (N9 (h':=h) (x':=x) hcs (i7 sk9 k2) (i7 sk9 k3) om0 om0 om0 (i9 (i9 hT x1) sk9) (qB (qQ x1) (qQ sk9)) om0 om0 (fun e0=>absurd e0 hw0))
 subst hw0;have he3:er=pe:=by rw[her2.it,if_neg hp2,if_neg dc0]
 subst he3;by_cases hp0:er=0;rotate_left
 ·have d3:(er==0)=false:=by rw[beq_eq_false_iff_ne];exact hp0
  obtain rfl:PV=0:=hP0.it hp0;go_upto_region 16 with fail;go_wp2_with (first|(refine wpList_load_row rfl 34 (Operand.tmp 2) rfl q kr0 _ _ _ _ (by exact i7 sk9 k0) Tryz.underlying34 rfl (by rw[acs];kernel_rfl) ?_)|(refine j6 rfl 34 (Operand.tmp 4) _ rfl (q+2) cs rfl rfl 34 (qa sh0).toArray (by exact i7 sk9 k2) (by rw[lcs];kernel_rfl) (by rw[lcs];kernel_rfl) cs1 ?_)|(refine j6 rfl 36 (Operand.tmp 5) _ rfl (q+3) [.int .i64 0,.int .i64 0,.int .i64 0] rfl rfl 36 #[.int .i64 0,.int .i64 0,.int .i64 0] (by exact l9 (i7 sk9 k3) om0) kr0 rfl (by intro v hv;simp at hv;first|(subst hv;rfl)|(rcases hv with rfl|rfl<;>rfl)|(rcases hv with rfl|rfl|rfl<;>rfl)) ?_));exact bodyPost_ret (qy Tryz.results113 _ _ (q+2) (q+3) 34 36 _ #[.int .i64 0,.int .i64 0,.int .i64 0] _ _ (.int .i64 er) rfl rfl rfl (l9 (p9 (i7 sk9 k2)) om0) (p9 (l9 (i7 sk9 k3) om0)) Tryz.underlying34 rfl (by rw[acs];kernel_rfl) Tryz.underlying36 rfl kr0) rfl (N9 (h':=h) (x':=x) hcs (i7 sk9 k2) (i7 sk9 k3) om0 om0 om0 (i9 (i9 hT x1) sk9) (qB (qQ x1) (qQ sk9)) om0 om0 (fun e0=>absurd e0 hp0))
 subst hp0;obtain⟨rfl,hpk,hkm⟩:=hplace.it (by first|rfl|trivial);subst hpk;rw[hmn.1]at hkm;have hfm:=aj0 hem;clear hplace hpe hpv hP0 her2 hp2 d2;go_upto_region 21 with fail;refine qz (fun w'=>∃y,w'=plus w1 y) sk9 ?_;rintro w2 x02;have U:=(BxI.mk (i9 hT x1) (O.ex x1) (hcs▸k0) hTq (qQ x1):BxI w T w1 q h x s).on x02;have k1_:=i7 x02 k1;have k2_:=i7 x02 k2;have k3_:=i7 x02 k3;clear k0 k1 k2 k3 c3 c4 e0 e5 e39 e40 e41 e42 e43 e44 l0 l1 hMM zq;obtain⟨k1,k2,k3⟩:=And.intro k1_ (And.intro k2_ k3_);clear k1_ k2_ k3_;have k0:=U.bx;have cF:=k9 (i:=3) k0 rfl;have zF:=j9 (i:=3) k0;have e0:=k9 k1 i0;have hlen:=hmn.1;by_cases hkn:k<s.ms.length<;>(first
  |(have ik:((k:Int)==(h.mn:Int))=false:=by rw[beq_eq_false_iff_ne];omega
    go_upto_region 23 with fail;refine qz (a9E w T q k m t s ce) ⟨h,x,s.ms,om0,hkn,(an8 hkn).symm,U.on sk9,i7 sk9 k1,i7 sk9 k2,i7 sk9 k3⟩ ?_)
  |(have ik:((k:Int)==(h.mn:Int))=true:=by rw[beq_iff_eq];omega
    go_upto_region 23 with(first|(refine z8 rfl 61 _ rfl (fMh mh0) ?hf ?_;case hf=>(simp only[List.map_toArray,List.map_cons,List.map_nil];kernel_rfl))|(refine E0 rfl 29 61 _ rfl (fMh mh0) rfl Tryz.underlying29 (z:=.agg (fMh mh0).toArray) (c:=3) (b:=72) kr0 rfl dc0 dc0 ?_)|(at_builtin;refine qW (T:=T) (l:=x.mh) (l2:=[mh0]) rfl _ _ rfl a7Q Z1 a1G rfl (i9 U.ex sk9) (U.own.ml.ex sk9) rfl (F7 (qc _ _)) om0 dc0 ?_;intro a6 c6 w6 o6 x6 hgr6;have kp6:=t8 hgr6 (U.own.ml.ex sk9) (i7 sk9 k0) dc0;have c26:=k9 (i:=3) kp6 rfl;have z26:=j9 (i:=3) kp6;have s6:=hgr6.size));refine qz (a9E w T q k m t s ce) ?nm2 ?_
    case nm2=>
     have kf:∀{g':Nat} {cc:Array Value} {t':TypeId},w2.heap[g']?=some (.cells cc t')→t'≠61→q≠g'→(w6.setCell ⟨q,3,none⟩ (.slice a6 (h.mn+1) c6)).heap[g']?=some (.cells cc t'):=fun hk hne hq'=>qj (t8 hgr6 (U.own.ml.ex sk9) (i7 sk9 hk) hne) hq'
     refine⟨a55 h a6 (h.mn+1) c6,⟨x.gr,x.nh,x.mh++[mh0],x.ph++[[]],x.th⟩,s.ms++[ms0],?_,?_,?_,⟨?_,?_,?_,hTq,F1 (qB U.kp (qB (qQ sk9) (aw6 hgr6 (U.own.ml.ex sk9) dc0))) om0⟩,kf k1 dc0 om0,kf k2 dc0 om0,kf k3 dc0 om0⟩
     ·show h.mn+1=_;rw[List.length_append];simp;omega
     ·rw[List.length_append];simp;omega
     ·unfold zU;obtain rfl:k=s.ms.length:=om0;rw[if_neg hkn,List.set_append_right _ _ (Nat.le_refl _)];simp
     ·exact qb x6 hTq
     ·exact((U.own.ex sk9).appMesh a77 hgr6 o6).set_other kp6 dc0
     ·have:=y8 (i:=3) (u:=.slice a6 (h.mn+1) c6) kp6;exact this))<;>(
  clear k0 k1 k2 k3 cF zF e0 hlen U;rintro w7 ⟨h7,x7,ns7,n7,kn7,put7,U,k1,k2,k3⟩;have kh7:k<h7.mn:=om0
  replace n7:=qw.mk n7
  have k0:=U.bx;have cF:=k9 (i:=3) k0 rfl;have e39:=k9 k1 i39;have e40:=k9 k1 i40;have e41:=k9 k1 i41;have hM1:=hE.mh.ex U.ex;obtain⟨g,cur,hna,hgT,hgb,hgz⟩:=U.own.ml.blk om0;rw[hna]at cF;have ik1:(k:Int)<(h7.mn:Int):=om0;have ik2:¬(k:Int)<0:=om0;refine zJ 7 smS (smΦ T q g h7.mn h7.mc k e m t) kr0 kr0 dc0 (a6L T q g h7.mn h7.mc k e m t) ?steps ?fin
  case steps=>
   refine⟨?_,?_,?_,?_,?_,?_,?_,trivial⟩<;>intro a w' hg hfree hdeep<;>obtain⟨x,rfl⟩:=hg
   ·have f2_:=hfree 2 kr0;simp only[smΦ,got]at f2_;simp[go_sem]at f2_;unfold Oper.wp;simp[go_sem,execOp,Act.eval,↓IntWalk.iteOmega,f2_];exact⟨_,rfl,j5 _,by simp[smΦ,upd]⟩
   ·have d0:=hdeep 0 kr0;simp only[smΦ,got]at d0;have ccF:=qf ⟨x,rfl⟩ cF;unfold Oper.wp;simp[go_sem,execOp,Act.eval,↓IntWalk.iteOmega,d0,ccF];exact⟨_,rfl,j5 _,by simp[smΦ,upd]⟩
   ·have f10_:=hfree 10 kr0;simp only[smΦ,got]at f10_;simp[go_sem]at f10_;unfold Oper.wp;simp[go_sem,execOp,Act.eval,↓IntWalk.iteOmega,f10_];exact⟨_,rfl,j5 _,by simp[smΦ,upd]⟩
   ·have f3_:=hfree 3 kr0;simp only[smΦ,got]at f3_;simp[go_sem]at f3_;unfold Oper.wp;simp[go_sem,execOp,Act.eval,↓IntWalk.iteOmega,f3_];exact⟨_,rfl,j5 _,by simp[smΦ,upd]⟩
   ·have d3:=hdeep 3 kr0;simp only[smΦ,got]at d3;have ci39:=qf ⟨x,rfl⟩ e39;have ci40:=qf ⟨x,rfl⟩ e40;have ci41:=qf ⟨x,rfl⟩ e41;unfold Oper.wp;simp[go_sem,execOp,Act.eval,↓IntWalk.iteOmega,d3,ci39,ci40,ci41];exact⟨_,rfl,j5 _,by simp[smΦ,upd];rfl⟩
   ·have e8:=hdeep 4 kr0;simp only[smΦ,got]at e8;simp at e8;unfold Oper.wp;simp[go_sem,execOp,Act.eval,↓IntWalk.iteOmega,e8];refine(a0S (hM1.ex ⟨x,rfl⟩) hfm).mono ?_;rintro r w4 ⟨h3,p3,rfl,hw4,o2⟩;exact⟨_,rfl,hw4,h3,p3,by simp[upd],o2.base (qu (i9 U.ex ⟨x,rfl⟩))⟩
   ·have d1:=hdeep 1 kr0;have d2:=hdeep 2 kr0;simp only[smΦ,got]at d1 d2;unfold Oper.wp;simp[go_sem,execOp,Act.eval,↓IntWalk.iteOmega,d1,d2,ik1,ik2];exact⟨_,rfl,j5 _,by simp[smΦ,upd]⟩
  case fin=>
   rintro t9 w' ⟨x8,rfl⟩ hΦ;obtain⟨h3,p3,r50,o3⟩:=hΦ 5 dc0;have r51:=hΦ 6 dc0;have r52:=hΦ 2 dc0;simp only[smΦ]at r51 r52;simp only[zh,List.take_succ_cons,List.take_zero,List.drop_succ_cons,List.drop_zero,r50,r51,r52];simp only[Act.put];simp only[List.setIfInBounds_toArray,List.set_cons_succ,List.set_cons_zero];clear hΦ r50 r51 r52;have hgb8:=i7 (w':=plus w7 x8) ⟨x8,rfl⟩ hgb;have hO8:=(U.own.ex (w':=plus w7 x8) ⟨x8,rfl⟩).setMesh hna hgb8 (k:=k) om0 o3;have hfit:k*3+(fMh h3).length≤cur.size:=by show k*3+3≤_;have:(k+1)*3≤h7.mn*3:=Nat.mul_le_mul_right _ om0;omega
   go_upto_region 24 with(refine zu rfl 61 _ _ rfl g (k*3) (fMh h3) (by simp[go_sem]) rfl _ cur hgb8 kr0 hfit (a1G h3) ?_);refine qz (fun w'=>BxI w T w' q h7 ⟨x7.gr,x7.nh,x7.mh.set k h3,x7.ph.set k p3,x7.th⟩ ⟨s.g,s.ns,zU s.ms k m,s.ts,s.root⟩∧w'.heap[q+2]?=some (.cells (qa sh0).toArray 34)∧w'.heap[q+3]?=some (.cells #[.int .i64 0,.int .i64 0,.int .i64 0] 36)) ?nm ?_
   case nm=>
    have gf:∀{g':Nat} {cc:Array Value} {t':TypeId},w7.heap[g']?=some (.cells cc t')→t'≠61→((plus w7 x8).setRow g (H6 cur (k*3) (fMh h3))).heap[g']?=some (.cells cc t'):=fun hk hne=>l9 (i7 ⟨x8,rfl⟩ hk) (fun e=>by subst e;rw[hgb]at hk;cases hk;exact hne rfl)
    exact⟨⟨ql (i9 U.ex ⟨x8,rfl⟩) hgT,by rw[←put7];exact hO8,gf k0 dc0,hTq,qB U.kp (qB (qQ ⟨x8,rfl⟩) (Zl hgb8 dc0))⟩,gf k2 dc0,gf k3 dc0⟩
   clear k0 k1 k2 k3 cF hgb hgb8 hO8 U hna hfit o3;rintro w9 ⟨U,k2,k3⟩;have k0:=U.bx;go_wp2_with (first|(refine z8 rfl 36 _ rfl [.int .i64 0,.int .i64 0,.int .i64 k] ?hf ?_;case hf=>(simp only[List.map_toArray,List.map_cons,List.map_nil];kernel_rfl))|(refine wpList_load_row rfl 34 (Operand.tmp 2) rfl q kr0 _ _ _ _ (by exact i7 sk9 k0) Tryz.underlying34 rfl kr0 ?_)|(refine j6 rfl 34 (Operand.tmp 4) _ rfl (q+2) (qa h7) rfl rfl 34 (qa sh0).toArray (by exact i7 sk9 k2) kr0 kr0 (qX _) ?_)|(refine j6 rfl 36 (Operand.tmp 5) _ rfl (q+3) [.int .i64 0,.int .i64 0,.int .i64 k] rfl rfl 36 #[.int .i64 0,.int .i64 0,.int .i64 0] (by exact l9 (i7 sk9 k3) om0) kr0 rfl (by intro v hv;simp at hv;first|(subst hv;rfl)|(rcases hv with rfl|rfl<;>rfl)|(rcases hv with rfl|rfl|rfl<;>rfl)) ?_));exact bodyPost_ret (qy Tryz.results113 _ _ (q+2) (q+3) 34 36 _ #[.int .i64 0,.int .i64 0,.int .i64 k] _ _ (.int .i64 0) rfl rfl rfl (l9 (p9 (i7 sk9 k2)) om0) (p9 (l9 (i7 sk9 k3) om0)) Tryz.underlying34 rfl kr0 Tryz.underlying36 rfl kr0) rfl (N9 (h':=h7) (x':=_) rfl (i7 sk9 k2) (i7 sk9 k3) om0 om0 om0 (i9 U.ex sk9) (qB U.kp (qQ sk9)) om0 om0 (fun _=>U.own.ex sk9)))
end
end Go.Proofs.YtcekcihijdipoaaGreat
