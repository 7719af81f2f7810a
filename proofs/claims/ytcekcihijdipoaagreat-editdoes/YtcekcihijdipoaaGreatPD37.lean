/- A pack of texts: EdRMk, EdRPl. -/
import Derived.Test.YtcekcihijdipoaaGreatPD36
namespace Go.Proofs.YtcekcihijdipoaaGreat
set_option maxRecDepth 100000
set_option maxHeartbeats 16000000
open Go.RowKit Go.ChangeShapes Go.WideShapes Go.ChangeAt
set_option linter.unusedSimpArgs false
set_option linter.unusedVariables false
attribute [local go_sem] qn qZ A2 zg zz zA t5 qJ zf qO qD t6
section
def MkN (W T:World) (q b k:Nat) (gv:Int) (n:Nd) (mr:Gr) (s:Sc) (ce:List Value) (w':World):Prop:=∃h' x' ns',h'.nn=ns'.length∧k<ns'.length∧ns'.set k n=zU s.ns k n∧BxI W T w' q h' x' ⟨mr,ns',s.ms,s.ts,s.root⟩∧w'.heap[q+1]?=some (.cells ce.toArray 66)∧w'.heap[q+2]?=some (.cells (qa sh0).toArray 34)∧w'.heap[q+3]?=some (.cells #[.int .i64 0,.int .i64 0,.int .i64 0] 36)∧w'.heap[b+1]?=some (.cells #[.int .i64 k,.int .i64 gv] 32)
def rmS (i:Nat):List Nat:=match i with|0=>[44]|1=>[45]|2=>[46]|3=>[47]|4=>[48]|5=>[49]|6=>[50]|7=>[51]|_=>[]
def rmΦ (T:World) (q b g nn nc k:Nat) (e:EH) (n:Nd) (i:Nat) (t:Nat→Value) (w':World):Prop:=match i with
 |0=>t 44=.pointer (some ⟨q,2,none⟩)
 |1=>t 45=.slice (some ⟨g,0,none⟩) nn nc
 |2=>t 46=.pointer (some ⟨b,0,none⟩)
 |3=>t 47=.int .i64 k
 |4=>t 48=.pointer (some ⟨q+1,6,none⟩)
 |5=>t 49=.agg (fN e.nd).toArray
 |6=>∃h3,t 50=.agg (fN h3).toArray∧zV T w' h3 n
 |7=>t 51=.pointer (some ⟨g,k*33,none⟩)
 |_=>True
theorem a6e(T:World)(q b g nn nc k:Nat)(e:EH)(n:Nd):∀i t t' w' x,rmΦ T q b g nn nc k e n i t w'→(∀s∈rmS i,t' s=t s)→rmΦ T q b g nn nc k e n i t' (plus w' x):=by
 intro i t t' w' x h_ hs'
 match i with
 |6=>obtain⟨h3,e1,e2⟩:=h_;exact⟨h3,(hs' 50 dc0).trans e1,e2.ex ⟨x,rfl⟩⟩
 |0|1|2|3|4|5|7=>exact(hs' _ dc0).trans h_
 |i+8=>trivial
def rnS (i:Nat):List Nat:=match i with|0=>[52]|1=>[53]|2=>[54]|3=>[]|_=>[]
def rnΦ (qs:Nat) (cu:List Value) (k gv:Int) (gq:Option Nat) (i:Nat) (t:Nat→Value) (D:Nat→Bool) (w':World):Prop:=match i with
 |0=>t 52=.agg cu.toArray
 |1=>t 53=.agg #[.int .i64 k,.int .i64 gv]
 |2=>t 54=.agg #[.int .i64 k,.int .i64 gv,.int .i64 0]
 |3=>D 3=true∧w'.heap[qs]?=some (.cells cu.toArray 34)
 |_=>True
theorem a69(qs:Nat)(cu:List Value)(k gv:Int)(gq:Option Nat):∀i t t' D w D' w',rnΦ qs cu k gv gq i t D w→(∀s∈rnS i,t' s=t s)→N8 3 [] gq D w D' w'→rnΦ qs cu k gv gq i t' D' w':=by
 intro i t t' D w D' w' h_ hs' ht
 match i with
 |3=>exact⟨ht.m 3 h_.1,i7 (C7 ht h_.1) h_.2⟩
 |0|1|2=>exact(hs' _ dc0).trans h_
 |i+4=>trivial
theorem a3x{T w:World}{h:SH}{x:SX}{s:Sc}(hT:∃y,w=plus T y)(O:zi T w h x s)(hm:C2 s=true)(e:EH)(ps:List PH)(n:Nd)(m:Ms)(t:Tp)(hE:I9 T e ps n m t)(hfar:e.nd.n≤10000)(hk:e.kind=1):
  Calls Tryz.prog 112 #[.agg (qa h).toArray,.agg (fE e).toArray] w fun r w'=>Z0 w T (K7 s (qt e n m t)) (if qF s (qt e n m t)=0 then zb s.g.sl else 0) (if qF s (qt e n m t)=0 then zQ s.g.sl else 0) 0 (qF s (qt e n m t)) r w':=by
 have hA:=O.at (A7 hm);have hG:=hA.g;obtain⟨hgk,hnl,_,_,_⟩:=B6 hm;obtain⟨hok,hgl,_,_⟩:=zx hgk;have hnn:=hA.nn;have hmn:=hA.mn.1;have htn:=hA.tn.1;have f4:=(A7 hm).nn;obtain⟨k,hkt⟩:∃k,B3 s.g.sl=k:=⟨_,rfl⟩;have hkle:=QS s.g.sl;rw[hkt]at hkle;have hs:K7 s (qt e n m t)=⟨H5 s.g,zU s.ns k n,s.ms,s.ts,s.root⟩:=by simp[K7,qt,hk,hkt]
 have hml:=Qc s.g.sl;rw[hkt]at hml;have hkl:(H5 s.g).ks.length=if k<s.ns.length then s.ns.length else s.ns.length+1:=by
  show(if s.g.ks.length<(qP s.g.sl).length then s.g.ks++[[]]else s.g.ks).length=_;by_cases hkn:k<s.ns.length
  ·rw[if_pos om0]at hml;rw[if_neg om0,if_pos hkn];omega
  ·rw[if_neg om0]at hml;rw[if_pos om0,if_neg hkn,List.length_append];simp;omega
 have hnd:=qw.mk (a0l e);obtain⟨b2,hb2⟩:∃b,ze s.ms.length s.ts.length n=b:=⟨_,rfl⟩;obtain⟨er,her⟩:∃v,B4 s.g=v:=⟨_,rfl⟩;obtain⟨mr,hmr⟩:∃v,Q3 s.g=v:=⟨_,rfl⟩;obtain⟨sv,hsv⟩:∃v,ah3 s.g=v:=⟨_,rfl⟩;obtain⟨gv,hgv⟩:∃v,ah8 s.g=v:=⟨_,rfl⟩;have hres:er=0→mr=H5 s.g∧sv=k∧gv=zQ s.g.sl:=fun e0=>⟨by rw[←hmr,Q3,her,if_pos e0],by rw[←hsv,ah3,her,if_pos e0,zb,hkt],by rw[←hgv,ah8,her,if_pos e0]⟩
 have he:qF s (qt e n m t)=if b2=true then er else 8:=by simp[qF,qt,hk,hb2,her]
 obtain⟨E,hE'⟩:∃E:Int,(if b2=true then er else 8)=E:=⟨_,rfl⟩;rw[hE']at he;rw[he,hs];obtain⟨V1,hV1⟩:∃v:Int,(if E=0 then zb s.g.sl else 0)=v:=⟨_,rfl⟩;obtain⟨V2,hV2⟩:∃v:Int,(if E=0 then zQ s.g.sl else 0)=v:=⟨_,rfl⟩;rw[hV1,hV2];rw[zb,hkt]at hV1;have hV0:E≠0→V1=0∧V2=0:=fun e0=>⟨by rw[←hV1,if_neg e0],by rw[←hV2,if_neg e0]⟩
 have hVk:E=0→V1=k∧V2=zQ s.g.sl:=fun e0=>⟨by rw[←hV1,if_pos e0],by rw[←hV2,if_pos e0]⟩
 replace hE':=qw.mk hE'
 have hck:ze h.mn h.tn n=b2:=by rw[←hb2,hmn,htn]
 replace hres:=qw.mk hres
 replace hV0:=qw.mk hV0
 replace hVk:=qw.mk hVk
 replace hkl:=qw.mk hkl
 have hN:=hE.nd.ex hT;have hE1:=hE.nd;have hM:∀w',QL w' h.ga h.gn h.ka h.kn x.gr s.g→Calls Tryz.prog 155 #[.agg #[.slice h.ga h.gn h.gc,.slice h.ka h.kn h.kc]] w' fun e w''=>∃ao' cap' ko' kcap' hs',e=.returned (.tuple #[.agg #[.slice ao' mr.sl.length cap',.slice ko' mr.ks.length kcap'],.agg #[.int .i64 sv,.int .i64 gv],.int .i64 er])∧(∃y,w''=plus w' y)∧zS w' w'' ao' mr.sl.length cap' ko' mr.ks.length kcap' hs' mr:=by
  intro w' hg;have h1:=a2k h.ga h.gn h.gc h.ka h.kn h.kc x.gr s.g w' hg;rw[hmr,hsv,hgv,her]at h1;exact h1
 have CK:a8T 51 w (qa h) (fN e.nd) (.bool b2):=⟨fun w' hw=>a0J (hN.ex hw) hck⟩;clear he hs hA hm hgk hb2 hmn htn hE hV1 hV2 hok hkt hck hml;obtain⟨ce,hce⟩:∃c,fE e=c:=⟨_,rfl⟩;rw[hce]at hnd ⊢;obtain⟨cs,hcs⟩:∃c,qa h=c:=⟨_,rfl⟩;have lcs:cs.length=7:=by rw[←hcs];rfl
 have acs:cs.toArray.size=7:=by simpa using lcs
 have cs1:∀u∈cs,u.oneCell'=true:=by rw[←hcs];exact qX h
 rw[hcs]at CK ⊢;obtain⟨q,hq⟩:∃q,w.heap.size=q:=⟨_,rfl⟩;have hTq:T.heap.size≤q:=by have:=qu hT;omega
 go_enter Tryz.func112,Tryz.ntmps112;go_upto_region 1 with fail;refine qz (fun w'=>(∃y,w'=plus w y)∧w'.heap[q]?=some (.cells cs.toArray 34)∧w'.heap[q+1]?=some (.cells ce.toArray 66)∧w'.heap[q+2]?=some (.cells (qa sh0).toArray 34)∧w'.heap[q+3]?=some (.cells #[.int .i64 0,.int .i64 0,.int .i64 0] 36)∧w'.heap.size=q+4) ⟨sk9,hq▸qm (qm (qm (qc _ _))),?b1,?b2,?b3,by rw[j8,j8,j8,j8,hq]⟩ ?_
 case b1=>rw[←hq,←j8 w (.cells cs.toArray 34)];exact qm (qm (qc _ _))
 case b2=>rw[show q+2=((w.alloc (.cells cs.toArray 34)).alloc (.cells ce.toArray 66)).heap.size by rw[j8,j8,hq]];exact qm (qc _ _)
 case b3=>rw[show q+3=(((w.alloc (.cells cs.toArray 34)).alloc (.cells ce.toArray 66)).alloc (.cells (qa sh0).toArray 34)).heap.size by rw[j8,j8,j8,hq]];exact qc _ _
 try simp only[hq]
 rintro w1 ⟨x1,k0,k1,k2,k3,zq⟩;have hNq:∀j v,(fN e.nd)[j]?=some v→w1.cell? ⟨q+1,6+j,none⟩=some v:=fun j v hj=>k9 k1 (hnd.it j v hj)
 cases b2
 ·obtain rfl:E=8:=by rw[←hE'.it];simp
  obtain⟨rfl,rfl⟩:=hV0.it dc0;go_upto_region 2 with(first|(refine wpList_load_row rfl 34 (Operand.tmp 2) rfl q kr0 _ _ _ _ (by exact i7 sk9 k0) Tryz.underlying34 rfl (by rw[acs];kernel_rfl) ?_)|(refine qY rfl 56 (Operand.tmp 11) rfl (q+1) 6 kr0 (fN e.nd) _ (fun j v hj=>hNq j v hj) Tryz.underlying56 rfl kr0 ?_;simp only[Act.put,List.setIfInBounds_toArray,List.set_cons_succ,List.set_cons_zero])|(go_at_call 51;refine(CK.it _ (i9 x1 sk9)).mono ?_;rintro r w2 ⟨rfl,nx2,rfl⟩));go_wp2_with (first|(refine wpList_load_row rfl 34 (Operand.tmp 2) rfl q kr0 _ _ _ _ (by exact i7 sk9 k0) Tryz.underlying34 rfl (by rw[acs];kernel_rfl) ?_)|(refine j6 rfl 34 (Operand.tmp 4) _ rfl (q+2) cs rfl rfl 34 (qa sh0).toArray (by exact i7 sk9 k2) (by rw[lcs];kernel_rfl) (by rw[lcs];kernel_rfl) cs1 ?_)|(refine j6 rfl 36 (Operand.tmp 5) _ rfl (q+3) [.int .i64 0,.int .i64 0,.int .i64 0] rfl rfl 36 #[.int .i64 0,.int .i64 0,.int .i64 0] (by exact l9 (i7 sk9 k3) om0) kr0 rfl (by intro v hv;simp at hv;first|(subst hv;rfl)|(rcases hv with rfl|rfl<;>rfl)|(rcases hv with rfl|rfl|rfl<;>rfl)) ?_));exact bodyPost_ret (qy Tryz.results112 _ _ (q+2) (q+3) 34 36 _ #[.int .i64 0,.int .i64 0,.int .i64 0] _ _ (.int .i64 8) rfl rfl rfl (l9 (p9 (i7 sk9 k2)) om0) (p9 (l9 (i7 sk9 k3) om0)) Tryz.underlying34 rfl (by rw[acs];kernel_rfl) Tryz.underlying36 rfl kr0) rfl (N9 (h':=h) (x':=x) hcs (i7 sk9 k2) (i7 sk9 k3) om0 om0 om0 (i9 (i9 hT x1) sk9) (qB (qQ x1) (qQ sk9)) om0 om0 (fun e0=>by cases e0))
 obtain rfl:E=er:=by rw[←hE'.it];simp
 go_upto_region 3 with(first|(refine wpList_load_row rfl 34 (Operand.tmp 2) rfl q kr0 _ _ _ _ (by exact i7 sk9 k0) Tryz.underlying34 rfl (by rw[acs];kernel_rfl) ?_)|(refine qY rfl 56 (Operand.tmp 11) rfl (q+1) 6 kr0 (fN e.nd) _ (fun j v hj=>hNq j v hj) Tryz.underlying56 rfl kr0 ?_;simp only[Act.put,List.setIfInBounds_toArray,List.set_cons_succ,List.set_cons_zero])|(go_at_call 51;refine(CK.it _ (i9 x1 sk9)).mono ?_;rintro r w2 ⟨rfl,nx2,rfl⟩));refine qz (fun w'=>∃y,w'=plus w1 y) sk9 ?_;rintro w2 x02;have k0_:=i7 x02 k0;have k1_:=i7 x02 k1;have k2_:=i7 x02 k2;have k3_:=i7 x02 k3;have x1_:=i9 x1 x02;have zq2:=qu x02;clear k0 k1 k2 k3 x1 x02 hE' CK hNq;obtain⟨k0,k1,k2,k3,x1⟩:=And.intro k0_ (And.intro k1_ (And.intro k2_ (And.intro k3_ x1_)));clear k0_ k1_ k2_ k3_ x1_;have c0:=k9 (i:=0) k0 (by rw[←hcs];rfl:cs[0]?=some (.slice h.ga h.gn h.gc));have c1:=k9 (i:=1) k0 (by rw[←hcs];rfl:cs[1]?=some (.slice h.ka h.kn h.kc));have hG2:=hG.ex x1;go_upto_region 4 with(first|(go_at_call 155;refine(hM _ (hG2.ex sk9)).mono ?_;rintro r w3 ⟨a3,c3,b3,d3,hs3,rfl,x3,o3⟩)|(refine j6 rfl 27 (Operand.tmp 7) _ rfl w3.heap.size [.slice a3 mr.sl.length c3,.slice b3 mr.ks.length d3] (by simp[go_sem]) rfl _ _ (qm (qc _ _)) kr0 kr0 (by intro v hv;simp at hv;rcases hv with rfl|rfl<;>rfl) ?_)|(refine j6 rfl 32 (Operand.tmp 8) _ rfl (w3.heap.size+1) [.int .i64 sv,.int .i64 gv] (by simp[go_sem]) rfl _ _ (l9 (by rw[←j8 w3];exact qc _ _) om0) kr0 kr0 (by intro v hv;simp at hv;rcases hv with rfl|rfl<;>rfl) ?_));refine qz (fun w'=>(∃y,w'=plus w3 y)∧w'.heap[w3.heap.size]?=some (.cells (List.toArray [.slice a3 mr.sl.length c3,.slice b3 mr.ks.length d3]) 27)∧w'.heap[w3.heap.size+1]?=some (.cells #[.int .i64 sv,.int .i64 gv] 32)) ⟨ql (ql sk9 (Nat.le_refl _)) (Nat.le_succ _),l9 (p9 (qm (qc _ _))) om0,p9 (l9 (by rw[←j8 w3];exact qc _ _) om0)⟩ ?_;obtain⟨b,hb⟩:∃b,w3.heap.size=b:=⟨_,rfl⟩
 try simp only[hb]
 rintro w4 ⟨x4,k7,k8⟩;have x34:=i9 x3 x4;have x14:=i9 x1 x34;have O4:=O.ex x14;have o4:=(o3.base (T':=T) (qu (i9 hT x1))).ex x4;have k0_:=i7 x34 k0;have k1_:=i7 x34 k1;have k2_:=i7 x34 k2;have k3_:=i7 x34 k3;have hbq:q+3<b:=by have h2:=qu x3;omega
 clear k0 k1 k2 k3 c0 c1 hG2 o3;obtain⟨k0,k1,k2,k3⟩:=And.intro k0_ (And.intro k1_ (And.intro k2_ k3_));clear k0_ k1_ k2_ k3_;by_cases h0:E=0;rotate_left
 ·obtain⟨rfl,rfl⟩:=hV0.it h0;have d0:(E==0)=false:=by rw[beq_eq_false_iff_ne];exact h0
  go_wp2_with (first|(refine wpList_load_row rfl 34 (Operand.tmp 2) rfl q kr0 _ _ _ _ (by exact i7 sk9 k0) Tryz.underlying34 rfl (by rw[acs];kernel_rfl) ?_)|(refine j6 rfl 34 (Operand.tmp 4) _ rfl (q+2) cs rfl rfl 34 (qa sh0).toArray (by exact i7 sk9 k2) (by rw[lcs];kernel_rfl) (by rw[lcs];kernel_rfl) cs1 ?_)|(refine j6 rfl 36 (Operand.tmp 5) _ rfl (q+3) [.int .i64 0,.int .i64 0,.int .i64 0] rfl rfl 36 #[.int .i64 0,.int .i64 0,.int .i64 0] (by exact l9 (i7 sk9 k3) om0) kr0 rfl (by intro v hv;simp at hv;first|(subst hv;rfl)|(rcases hv with rfl|rfl<;>rfl)|(rcases hv with rfl|rfl|rfl<;>rfl)) ?_));exact bodyPost_ret (qy Tryz.results112 _ _ (q+2) (q+3) 34 36 _ #[.int .i64 0,.int .i64 0,.int .i64 0] _ _ (.int .i64 E) rfl rfl rfl (l9 (p9 (i7 sk9 k2)) om0) (p9 (l9 (i7 sk9 k3) om0)) Tryz.underlying34 rfl (by rw[acs];kernel_rfl) Tryz.underlying36 rfl kr0) rfl (N9 (h':=h) (x':=x) hcs (i7 sk9 k2) (i7 sk9 k3) om0 om0 om0 (i9 (i9 hT (i9 x1 x34)) sk9) (qB (qQ (i9 x1 x34)) (qQ sk9)) om0 om0 (fun e0=>absurd e0 h0))
 subst h0;obtain⟨hmk,rfl,hgv2⟩:=hres.it (by first|rfl|trivial);obtain⟨rfl,hV2⟩:=hVk.it (by first|rfl|trivial);obtain rfl:gv=V2:=hgv2.trans hV2.symm;have hkl':=hkl.it;rw[←hmk]at hkl'
 replace hkl':=qw.mk hkl'
 replace hmk:=qw.mk hmk
 clear hVk hV0 hres hgv2 hV2 hgv hsv her hM hkl;have z0:=j9 (i:=0) k0;have z1:=j9 (i:=1) k0;have hcs0:cs[0]?=some (.slice h.ga h.gn h.gc):=by rw[←hcs];rfl
 have hcs1:cs[1]?=some (.slice h.ka h.kn h.kc):=by rw[←hcs];rfl
 have c0:=k9 (i:=0) k0 hcs0;have c1:=k9 (i:=1) k0 hcs1;have d0:=k9 (i:=0) k7 rfl;have d1:=k9 (i:=1) k7 rfl;have lp0:=qi k0;have lb0:=qi k7;have hbp:b≠q:=om0;go_upto_region 7 with fail;refine qz (fun w'=>∃h' x',h'.nn=h.nn∧BxI w T w' q h' x' ⟨mr,s.ns,s.ms,s.ts,s.root⟩∧w'.heap[q+1]?=some (.cells ce.toArray 66)∧w'.heap[q+2]?=some (.cells (qa sh0).toArray 34)∧w'.heap[q+3]?=some (.cells #[.int .i64 0,.int .i64 0,.int .i64 0] 36)∧w'.heap[b]?=some (.cells (List.toArray [.slice a3 mr.sl.length c3,.slice b3 mr.ks.length d3]) 27)∧w'.heap[b+1]?=some (.cells #[.int .i64 k,.int .i64 gv] 32)) ?nm ?_
 case nm=>
  refine⟨K2 h a3 mr.sl.length c3 b3 mr.ks.length d3,⟨hs3,x.nh,x.mh,x.ph,x.th⟩,rfl,⟨?_,?_,?_,hTq,F1 (F1 (qQ x14) om0) om0⟩,?_,?_,?_,?_,?_⟩
  ·exact qb (qb (i9 hT x14) hTq) hTq
  ·exact((O4.set_other (i:=0) (u:=.slice a3 mr.sl.length c3) k0 dc0).set_other (i:=1) (u:=.slice b3 mr.ks.length d3) (y8 k0) dc0).withGraph ((o4.set_sc (i:=0) (u:=.slice a3 mr.sl.length c3) k0).set_sc (i:=1) (u:=.slice b3 mr.ks.length d3) (y8 k0))
  ·subst hcs;have:=y8 (i:=1) (u:=.slice b3 mr.ks.length d3) (y8 (i:=0) (u:=.slice a3 mr.sl.length c3) k0);exact this
  ·exact qj (qj k1 om0) om0
  ·exact qj (qj k2 om0) om0
  ·exact qj (qj k3 om0) om0
  ·exact qj (qj k7 om0) om0
  ·exact qj (qj k8 om0) om0
 clear k0 k1 k2 k3 k7 k8 z0 z1 c0 c1 d0 d1 lp0 lb0 o4 O4 x34 x4 x3 hcs0 hcs1 x14;rintro w5 ⟨h',x',hnn',U,k1,k2,k3,k7,k8⟩
 replace hnn':=qw.mk hnn'
 have k0:=U.bx;have c2:=k9 (i:=2) k0 rfl;have z2:=j9 (i:=2) k0;have d1:=k9 (i:=1) k7 rfl;by_cases hkn:k<s.ns.length<;>(first
  |(
   have ik:¬((h'.nn:Int)<(mr.ks.length:Int)):=by have hk2:=hkl'.it;have hk3:=hnn'.it;rw[if_pos hkn]at hk2;omega
   go_upto_region 9 with fail;refine qz (MkN w T q b k gv n mr s ce) (⟨h',x',s.ns,by have hk3:=hnn'.it;omega,hkn,(an8 hkn).symm,U.on sk9,i7 sk9 k1,i7 sk9 k2,i7 sk9 k3,i7 sk9 k8⟩) ?_)
  |(
   have ik:(h'.nn:Int)<(mr.ks.length:Int):=by have hk2:=hkl'.it;have hk3:=hnn'.it;rw[if_neg hkn]at hk2;omega
   have hnle:h'.nn≤1000:=by have hk3:=hnn'.it;omega
   go_upto_region 9 with(first|(refine z8 rfl 56 _ rfl (fN nh0) ?hf ?_;case hf=>(simp only[List.map_toArray,List.map_cons,List.map_nil];kernel_rfl))|(refine E0 rfl 28 56 _ rfl (fN nh0) rfl Tryz.underlying28 (z:=.agg (fN nh0).toArray) (c:=33) (b:=224) kr0 rfl dc0 dc0 ?_)|(at_builtin;refine qW (T:=T) (l:=x'.nh) (l2:=[nh0]) rfl _ _ rfl a8g ag0 aa4 rfl (i9 U.ex sk9) (U.own.nl.ex sk9) rfl (F7 (qc _ _)) om0 dc0 ?_;intro a6 c6 w6 o6 x6 hgr6;have kp6:=t8 hgr6 (U.own.nl.ex sk9) (i7 sk9 k0) dc0;have c26:=k9 (i:=2) kp6 rfl;have z26:=j9 (i:=2) kp6;have s6:=hgr6.size));refine qz (MkN w T q b k gv n mr s ce) ?nm2 ?_
   case nm2=>
    have kf:∀{g':Nat} {cc:Array Value} {t':TypeId},w5.heap[g']?=some (.cells cc t')→t'≠56→q≠g'→(w6.setCell ⟨q,2,none⟩ (.slice a6 (h'.nn+1) c6)).heap[g']?=some (.cells cc t'):=fun hk hne hq'=>qj (t8 hgr6 (U.own.nl.ex sk9) (i7 sk9 hk) hne) hq'
    refine⟨Y1 h' a6 (h'.nn+1) c6,⟨x'.gr,x'.nh++[nh0],x'.mh,x'.ph,x'.th⟩,s.ns++[nd0],?_,?_,?_,⟨?_,?_,?_,hTq,F1 (qB U.kp (qB (qQ sk9) (aw6 hgr6 (U.own.nl.ex sk9) dc0))) om0⟩,kf k1 dc0 om0,kf k2 dc0 om0,kf k3 dc0 om0,kf k8 dc0 om0⟩
    ·show h'.nn+1=_;rw[List.length_append];simp;have hk3:=hnn'.it;omega
    ·rw[List.length_append];simp;omega
    ·unfold zU;obtain rfl:k=s.ns.length:=om0;rw[if_neg hkn,List.set_append_right _ _ (Nat.le_refl _)];simp
    ·exact qb x6 hTq
    ·exact((U.own.ex sk9).appNode a1O hgr6 o6).set_other kp6 dc0
    ·have:=y8 (i:=2) (u:=.slice a6 (h'.nn+1) c6) kp6;exact this))
 <;>(
  clear k0 k1 k2 k3 k7 k8 c2 z2 d1 hkl' hnn' hnn U;rintro w7 ⟨h7,x7,ns7,n7,kn7,put7,U,k1,k2,k3,k8⟩;have kh7:k<h7.nn:=om0
  replace n7:=qw.mk n7
  have k0:=U.bx;have c2:=k9 (i:=2) k0 rfl;have c8:w7.cell? ⟨b+1,0,none⟩=some (.int .i64 k):=i6 k8 rfl;have hN1:=hE1.ex U.ex;obtain⟨g,cur,hna,hgT,hgb,hgz⟩:=U.own.nl.blk om0;rw[hna]at c2;have ik1:(k:Int)<(h7.nn:Int):=om0;have ik2:¬(k:Int)<0:=om0;refine zJ 8 rmS (rmΦ T q (b+1) g h7.nn h7.nc k e n) kr0 kr0 dc0 (a6e T q (b+1) g h7.nn h7.nc k e n) ?steps ?fin
  case steps=>
   refine⟨?_,?_,?_,?_,?_,?_,?_,?_,trivial⟩<;>intro a w' hg hfree hdeep<;>obtain⟨x,rfl⟩:=hg
   ·have f2_:=hfree 2 kr0;simp only[rmΦ,got]at f2_;simp[go_sem]at f2_;unfold Oper.wp;simp[go_sem,execOp,Act.eval,↓IntWalk.iteOmega,f2_];exact⟨_,rfl,j5 _,by simp[rmΦ,upd]⟩
   ·have d0:=hdeep 0 kr0;simp only[rmΦ,got]at d0;have cc2:=qf ⟨x,rfl⟩ c2;unfold Oper.wp;simp[go_sem,execOp,Act.eval,↓IntWalk.iteOmega,d0,cc2];exact⟨_,rfl,j5 _,by simp[rmΦ,upd]⟩
   ·have f8_:=hfree 8 kr0;simp only[rmΦ,got]at f8_;simp[go_sem]at f8_;unfold Oper.wp;simp[go_sem,execOp,Act.eval,↓IntWalk.iteOmega,f8_];exact⟨_,rfl,j5 _,by simp[rmΦ,upd]⟩
   ·have d2:=hdeep 2 kr0;simp only[rmΦ,got]at d2;have cb0:=qf ⟨x,rfl⟩ c8;unfold Oper.wp;simp[go_sem,execOp,Act.eval,↓IntWalk.iteOmega,d2,cb0];exact⟨_,rfl,j5 _,by simp[rmΦ,upd]⟩
   ·have f3_:=hfree 3 kr0;simp only[rmΦ,got]at f3_;simp[go_sem]at f3_;unfold Oper.wp;simp[go_sem,execOp,Act.eval,↓IntWalk.iteOmega,f3_];exact⟨_,rfl,j5 _,by simp[rmΦ,upd]⟩
   ·have e9:=hdeep 4 kr0;simp only[rmΦ,got]at e9;simp at e9;unfold Oper.wp;rw[zP 56 (Operand.tmp 48) rfl (q+1) 6 (by simp[Act.eval,e9]) (fN e.nd) _ (fun j v hj=>qf ⟨x,rfl⟩ (k9 k1 (hnd.it j v hj))) Tryz.underlying56 rfl kr0];exact⟨_,rfl,j5 _,by simp[rmΦ,upd]⟩
   ·have e8:=hdeep 5 kr0;simp only[rmΦ,got]at e8;simp at e8;unfold Oper.wp;simp[go_sem,execOp,Act.eval,↓IntWalk.iteOmega,e8];refine(af0 e.nd n _ (hN1.ex ⟨x,rfl⟩) hfar).mono ?_;rintro r w4 ⟨h3,rfl,hw4,o2⟩;exact⟨_,rfl,hw4,h3,by simp[upd];rfl,o2.base (qu (i9 U.ex ⟨x,rfl⟩))⟩
   ·have d1:=hdeep 1 kr0;have d3:=hdeep 3 kr0;simp only[rmΦ,got]at d1 d3;unfold Oper.wp;simp[go_sem,execOp,Act.eval,↓IntWalk.iteOmega,d1,d3,ik1,ik2];exact⟨_,rfl,j5 _,by simp[rmΦ,upd]⟩
  case fin=>
   rintro t w' ⟨x8,rfl⟩ hΦ;obtain⟨h3,r50,o3⟩:=hΦ 6 dc0;have r51:=hΦ 7 dc0;have r44:=hΦ 0 dc0;simp only[rmΦ]at r51;simp only[zh,List.take_succ_cons,List.take_zero,List.drop_succ_cons,List.drop_zero,r50,r51];simp only[Act.put];simp only[List.setIfInBounds_toArray,List.set_cons_succ,List.set_cons_zero];clear hΦ r50 r51 r44;have hgb8:=i7 (w':=plus w7 x8) ⟨x8,rfl⟩ hgb;have hO8:=(U.own.ex (w':=plus w7 x8) ⟨x8,rfl⟩).setNode hna hgb8 (k:=k) om0 o3;have hfit:k*33+(fN h3).length≤cur.size:=by show k*33+33≤_;have:(k+1)*33≤h7.nn*33:=Nat.mul_le_mul_right _ om0;omega
   go_upto_region 10 with(refine zu rfl 56 _ _ rfl g (k*33) (fN h3) (by simp[go_sem]) rfl _ cur hgb8 kr0 hfit (aa4 h3) ?_);refine qz (fun w'=>BxI w T w' q h7 ⟨x7.gr,x7.nh.set k h3,x7.mh,x7.ph,x7.th⟩ ⟨H5 s.g,zU s.ns k n,s.ms,s.ts,s.root⟩∧w'.heap[q+2]?=some (.cells (qa sh0).toArray 34)∧w'.heap[q+3]?=some (.cells #[.int .i64 0,.int .i64 0,.int .i64 0] 36)∧w'.heap[b+1]?=some (.cells #[.int .i64 k,.int .i64 gv] 32)) ?nm ?_
   case nm=>
    have gf:∀{g':Nat} {cc:Array Value} {t':TypeId},w7.heap[g']?=some (.cells cc t')→t'≠56→((plus w7 x8).setRow g (H6 cur (k*33) (fN h3))).heap[g']?=some (.cells cc t'):=fun hk hne=>l9 (i7 ⟨x8,rfl⟩ hk) (fun e=>by subst e;rw[hgb]at hk;cases hk;exact hne rfl)
    exact⟨⟨ql (i9 U.ex ⟨x8,rfl⟩) hgT,by rw[←put7,←hmk.it];exact hO8,gf k0 dc0,hTq,qB U.kp (qB (qQ ⟨x8,rfl⟩) (Zl hgb8 dc0))⟩,gf k2 dc0,gf k3 dc0,gf k8 dc0⟩
   clear k0 k1 k2 k3 k8 c2 c8 hgb hgb8 hO8 U hna hfit o3;rintro w9 ⟨U,k2,k3,k8⟩;have k0:=U.bx;obtain⟨cu,hcu⟩:∃c,qa h7=c:=⟨_,rfl⟩;have lcu:cu.length=7:=by rw[←hcu];rfl
   have acu:cu.toArray.size=7:=by simpa using lcu
   have hcu1:∀u∈cu,u.oneCell'=true:=by rw[←hcu];exact qX h7
   rw[hcu]at k0;refine zR 4 rnS (rnΦ (q+2) cu k gv (some (q+2))) (N8 3 [] (some (q+2))) P3 (QP _) kr0 kr0 dc0 (a69 (q+2) cu k gv (some (q+2))) ?steps ?fin
   case steps=>
    refine⟨?_,?_,?_,?_,trivial⟩<;>intro a D w' hg hfree hdeep hD
    ·have f2_:=hfree 2 kr0;simp only[rnΦ,got]at f2_;simp[go_sem]at f2_;have kq:=qI hg.t (fun e=>by cases e<;>omega) k0;unfold Oper.wp;rw[zP 34 (Operand.tmp 2) rfl q 0 (by simp[Act.eval,f2_]) cu _ (fun j v hj=>by rw[Nat.zero_add];exact k9 kq hj) Tryz.underlying34 rfl (by rw[lcu];kernel_rfl)];exact⟨_,rfl,qp dc0 (j5 _),by simp[rnΦ,upd]⟩
    ·have f8_:=hfree 8 kr0;simp only[rnΦ,got]at f8_;simp[go_sem]at f8_;have kb:=qI hg.t (fun e=>by cases e<;>omega) k8;have e0:w'.cell? ⟨b+1,0,none⟩=some (.int .i64 k):=i6 kb rfl;have e1:w'.cell? ⟨b+1,1,none⟩=some (.int .i64 gv):=i6 kb rfl;unfold Oper.wp;simp[go_sem,execOp,Act.eval,↓IntWalk.iteOmega,f8_,e0,e1];exact⟨_,rfl,qp dc0 (j5 _),by simp[rnΦ,upd]⟩
    ·have d1:=hdeep 1 kr0;simp only[rnΦ,got]at d1;simp at d1;have hbt:Tryz.prog.built 36 ((#[((0:Nat),Operand.tmp 53)]).map fun(i,x)=>(i,a.eval x)).toList=some #[.int .i64 k,.int .i64 gv,.int .i64 0]:=by simp only[List.map_toArray,List.map_cons,List.map_nil,Act.eval];simp[d1];kernel_rfl
     refine wp_build 36 _ rfl (by rw[hbt];rfl) ?_;rw[hbt];exact⟨_,rfl,qp dc0 (j5 _),by simp[rnΦ,upd]⟩
    ·have f4_:=hfree 4 kr0;have e1:=hdeep 0 kr0;simp only[rnΦ,got]at e1 f4_;simp at e1;simp[go_sem]at f4_;obtain⟨x9,rfl⟩:=B7 hg.t hD;have k2':=i7 (w':=plus w9 x9) ⟨x9,rfl⟩ k2;refine wp_store_row 34 (Operand.tmp 4) (Operand.tmp 52) rfl (q+2) cu.toArray (by simp[Act.eval,f4_]) (by simp[Act.eval,e1]) _ _ k2' (by rw[acu];kernel_rfl) (by rw[acu];kernel_rfl) (Array.all_eq_true_iff_forall_mem.2 fun v hv=>hcu1 v (by simpa using hv)) ?_;exact⟨_,rfl,aj9 Qg hD (fun r hr=>by cases hr),y9 _,p9 k2'⟩
   case fin=>
    rintro t D w10 hDa hg hΦ;have e54:=hΦ 2 dc0;obtain⟨_,k28⟩:=hΦ 3 dc0;simp only[rnΦ]at e54;have k38:=qI hg.t (fun e=>by cases e<;>omega) k3;have own:=U.own.grown_ty hg.t.grow k2 dc0;have kp8:a1A w w10:=⟨Nat.le_trans U.kp.size hg.t.grow.size,fun g c t' hb ht=>(hg.t.grow.block g (Nat.lt_of_lt_of_le (qi hb) U.kp.size) (fun e=>by have:=qi hb;cases e;omega)).trans (U.kp.blk g c t' hb ht)⟩;have x78:=ZF hg.t U.ex (fun k e=>by cases e;omega);simp only[zh,List.take_succ_cons,List.take_zero,List.drop_succ_cons,List.drop_zero,e54];simp only[Act.put];simp only[List.setIfInBounds_toArray,List.set_cons_succ,List.set_cons_zero];clear hΦ e54 hg hDa k2 k3 k8 k0;go_wp2_with (refine j6 rfl 36 (Operand.tmp 5) _ rfl (q+3) [.int .i64 k,.int .i64 gv,.int .i64 0] rfl rfl _ _ (i7 sk9 k38) kr0 rfl (by intro v hv;simp at hv;rcases hv with rfl|rfl|rfl<;>rfl) ?_);exact bodyPost_ret (qy Tryz.results112 _ _ (q+2) (q+3) 34 36 cu.toArray #[.int .i64 k,.int .i64 gv,.int .i64 0] _ _ (.int .i64 0) rfl rfl rfl (l9 (i7 sk9 k28) om0) (p9 (i7 sk9 k38)) Tryz.underlying34 rfl (by rw[acu];kernel_rfl) Tryz.underlying36 rfl kr0) rfl ⟨h7,_,by rw[hcu],ql (i9 x78 sk9) om0,ay7 (qB kp8 (qQ sk9)) om0,fun _=>(own.ex sk9).row_other (i7 sk9 k38) dc0⟩)
end
section
def Zd (a:Int) (many most:Nat):Int:=if a< -1∨(many:Int)≤a then 2 else if a<0∧most≤many then 9 else 0
def ae4 (a:Int) (many most:Nat):Int:=if Zd a many most=0 then(C5 a many:Nat)else 0
theorem Zk(a:Int)(many most:Nat)(h1:many≤1000)(h2:most≤1000){pv er:Int}(hp:ae4 a many most=pv)(he:Zd a many most=er)(w:World):
  Calls Tryz.prog 156 #[.int .i64 a,.int .i64 many,.int .i64 most] w fun e w'=>e=.returned (.tuple #[.int .i64 pv,.int .i64 er])∧∃y,w'=plus w y:=by
 unfold ae4 at hp;rw[he]at hp;unfold Zd at he;unfold C5 at hp;by_cases c1:a< -1
 ·have e1:=decide_eq_true c1;rw[if_pos (.inl c1)]at he;subst he;obtain rfl:0=pv:=by simpa using hp
  go_enter Tryz.func156,Tryz.ntmps156;go_wp2_with fail;exact bodyPost_ret (v:=.tuple #[.int .i64 0,.int .i64 2]) (by simp[results,Tryz.results156,go_sem]) rfl ⟨rfl,sk9⟩
 have e1:=decide_eq_false c1;by_cases c2:(many:Int)≤a
 ·have e2:=decide_eq_true c2;rw[if_pos (.inr c2)]at he;subst he;obtain rfl:0=pv:=by simpa using hp
  go_enter Tryz.func156,Tryz.ntmps156;go_wp2_with fail;exact bodyPost_ret (v:=.tuple #[.int .i64 0,.int .i64 2]) (by simp[results,Tryz.results156,go_sem]) rfl ⟨rfl,sk9⟩
 have e2:=decide_eq_false c2;rw[if_neg om0]at he;by_cases c3:0≤a
 ·have e3:=decide_eq_true c3;rw[if_neg om0]at he;subst he;obtain rfl:a=pv:=by rw[if_pos rfl,if_neg om0]at hp;omega
  go_enter Tryz.func156,Tryz.ntmps156;go_wp2_with fail;exact bodyPost_ret (v:=.tuple #[.int .i64 a,.int .i64 0]) (by simp[results,Tryz.results156,go_sem]) rfl ⟨rfl,sk9⟩
 have e3:=decide_eq_false c3;by_cases c4:most≤many
 ·have i4:(most:Int)≤(many:Int):=om0;rw[if_pos om0]at he;subst he;obtain rfl:0=pv:=by simpa using hp
  go_enter Tryz.func156,Tryz.ntmps156;go_wp2_with fail;exact bodyPost_ret (v:=.tuple #[.int .i64 0,.int .i64 9]) (by simp[results,Tryz.results156,go_sem]) rfl ⟨rfl,sk9⟩
 ·have i4:¬(most:Int)≤(many:Int):=om0;rw[if_neg om0]at he;subst he;obtain rfl:(many:Int)=pv:=by rw[if_pos rfl,if_pos om0]at hp;exact hp
  go_enter Tryz.func156,Tryz.ntmps156;go_wp2_with fail;exact bodyPost_ret (v:=.tuple #[.int .i64 many,.int .i64 0]) (by simp[results,Tryz.results156,go_sem]) rfl ⟨rfl,sk9⟩
end
end Go.Proofs.YtcekcihijdipoaaGreat
