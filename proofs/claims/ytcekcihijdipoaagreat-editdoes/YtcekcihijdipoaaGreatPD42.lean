/- A pack of texts: EdRD6, Fil2, EdFil3. -/
import Derived.Test.YtcekcihijdipoaaGreatPD36
namespace Go.Proofs.YtcekcihijdipoaaGreat
set_option maxRecDepth 100000
set_option maxHeartbeats 16000000
section
open Go.RowKit Go.ChangeShapes Go.WideShapes Go.ChangeAt
set_option linter.unusedSimpArgs false
set_option linter.unusedVariables false
attribute [local go_sem] qn qZ A2 zg zz zA t5 qJ zf qO qD t6
theorem zi.cg6{T w:World}{h:SH}{x:SX}{g g':Gr}{ns:List Nd}{ms:List Ms}{ts:List Tp}{r:Int × Int}(a:zi T w h x ⟨g,ns,ms,ts,r⟩)(e:g=g'):zi T w h x ⟨g',ns,ms,ts,r⟩:=e▸a
theorem a2q{T w:World}{h:SH}{x:SX}{s:Sc}(hT:∃y,w=plus T y)(O:zi T w h x s)(hm:C2 s=true)(e:EH)(ps:List PH)(n:Nd)(m:Ms)(t:Tp)(hE:I9 T e ps n m t)(hfar:e.nd.n≤10000)(hk:e.kind=5):
  Calls Tryz.prog 61 #[.agg (qa h).toArray,.agg (fE e).toArray] w fun r w'=>Z0 w T (K7 s (qt e n m t)) (0) (0) (0) (qF s (qt e n m t)) r w':=by
 have hA:=O.at (A7 hm);obtain⟨hgk,hnl,_,_,_⟩:=B6 hm;obtain⟨hok,hgl,_,_⟩:=zx hgk;have hnn:=hA.nn;have f4:=(A7 hm).nn;have hgn:h.gn≤1000:=by have a1:=O.g.sl.1;have a2:=(A7 hm).sl;omega
 obtain⟨b1,hb1⟩:∃b,qG s.g.sl e.h0 e.h1=b:=⟨_,rfl⟩;obtain⟨b2,hb2⟩:∃b,qG s.g.sl e.c0 e.c1=b:=⟨_,rfl⟩;have HV1:∀w',(∃y,w'=plus w y)→Calls Tryz.prog 91 #[.agg (qa h).toArray,.agg #[.int .i64 e.h0,.int .i64 e.h1]] w' fun r w''=>r=.returned (.bool b1)∧∃y,w''=plus w' y:=fun w' hw=>H9 hb1 (O.g.sl.lay.ex hw) hgn
 have HV2:∀w',(∃y,w'=plus w y)→Calls Tryz.prog 91 #[.agg (qa h).toArray,.agg #[.int .i64 e.c0,.int .i64 e.c1]] w' fun r w''=>r=.returned (.bool b2)∧∃y,w''=plus w' y:=fun w' hw=>H9 hb2 (O.g.sl.lay.ex hw) hgn
 have i0:(fE e)[0]?=some (.int .u8 e.kind):=rfl;have i1:(fE e)[1]?=some (.int .i64 e.h0):=rfl;have i2:(fE e)[2]?=some (.int .i64 e.h1):=rfl;have i3:(fE e)[3]?=some (.int .i64 e.c0):=rfl;have i4:(fE e)[4]?=some (.int .i64 e.c1):=rfl;have i5:(fE e)[5]?=some (.int .i64 e.at'):=rfl;have hnd:=a0l e;rw[hk]at i0;obtain⟨k,hkt⟩:∃k,e.h0.toNat=k:=⟨_,rfl⟩;have hslot:b1=true→e.h0=k∧k<s.ns.length∧k<s.g.ks.length:=fun q=>by
  have:=A8 (hb1.trans q);omega
 have HL:∀w',(∃y,w'=plus w y)→Calls Tryz.prog 116 #[.agg #[.slice h.ga h.gn h.gc,.slice h.ka h.kn h.kc],.agg #[.int .i64 e.h0,.int .i64 e.h1]] w' fun r w''=>at4 w' (N0 s.g (e.h0,e.h1)) (zH s.g (e.h0,e.h1) (e.h0,e.h1)) r w'':=fun w' hw=>a1T h.ga h.gn h.gc h.ka h.kn h.kc x.gr s.g e.h0 e.h1 w' (hA.g.ex hw)
 obtain⟨R,hR⟩:∃R,(if s.root=(e.h0,e.h1)then((0:Int),(0:Int))else s.root)=R:=⟨_,rfl⟩;have hs:K7 s (qt e n m t)=⟨U3 s.g (e.h0,e.h1),s.ns.set k nd0,s.ms,s.ts,R⟩:=by simp[K7,qt,hk,hkt,hR]
 have he0:zH s.g (e.h0,e.h1) (e.h0,e.h1)=if b1 then 0 else 50:=by
  unfold zH;rw[if_pos hgk,hb1];cases b1<;>simp
 have he:qF s (qt e n m t)=if b1 then 0 else 50:=by rw[←he0];simp[qF,qt,hk]
 obtain⟨ER,hER⟩:∃v:Int,(if b1 then(0:Int)else 50)=v:=⟨_,rfl⟩;rw[hER]at he;rw[he,hs]
 replace hER:=qw.mk hER
 obtain⟨gr,hgr⟩:∃v,N0 s.g (e.h0,e.h1)=v:=⟨_,rfl⟩;have hres:b1=true→gr=U3 s.g (e.h0,e.h1):=fun e0=>by rw[←hgr,N0,he0,e0];rfl
 rw[he0,hgr]at HL
 replace hres:=qw.mk hres
 replace hR:=qw.mk hR
 have hroot:=O.root;clear he hs hm hA hgk hgr he0;obtain⟨a0,ha0⟩:∃v,e.h0=v:=⟨_,rfl⟩;rw[ha0]at HV1 i1 hslot HL hres hR;rw[ha0];obtain⟨ce,hce⟩:∃c,fE e=c:=⟨_,rfl⟩;have lce:ce.length=45:=by rw[←hce];rfl
 have ace:ce.toArray.size=45:=by simpa using lce
 obtain⟨cs,hcs⟩:∃c,qa h=c:=⟨_,rfl⟩;have lcs:cs.length=7:=by rw[←hcs];rfl
 have acs:cs.toArray.size=7:=by simpa using lcs
 have cs1:∀u∈cs,u.oneCell'=true:=by rw[←hcs];exact qX h
 rw[hcs]at HV1 HV2;rw[hce]at i0 i1 i2 i3 i4 i5 hnd ⊢;have hcsv:∀(j:Nat) (v:Value),(qa h)[j]?=some v→cs[j]?=some v:=fun j v hj=>by rw[←hcs];exact hj
 have j0:=hcsv 0 _ rfl;have j1:=hcsv 1 _ rfl;have j2:=hcsv 2 _ rfl;rw[hcs]
 replace HV1:=qw.mk HV1
 replace HV2:=qw.mk HV2
 replace hnd:=qw.mk hnd
 replace hcsv:=qw.mk hcsv
 obtain⟨q,hq⟩:∃q,w.heap.size=q:=⟨_,rfl⟩;have hTq:T.heap.size≤q:=by have:=qu hT;omega
 go_enter Tryz.func61,Tryz.ntmps61;go_upto_region 1 with fail;refine qz (fun w'=>(∃y,w'=plus w y)∧w'.heap[q]?=some (.cells cs.toArray 34)∧w'.heap[q+1]?=some (.cells ce.toArray 66)∧w'.heap[q+2]?=some (.cells (qa sh0).toArray 34)∧w'.heap[q+3]?=some (.cells #[.int .i64 0,.int .i64 0,.int .i64 0] 36)∧w'.heap.size=q+4) ⟨sk9,hq▸qm (qm (qm (qc _ _))),?b1,?b2,?b3,by rw[j8,j8,j8,j8,hq]⟩ ?_
 case b1=>rw[←hq,←j8 w (.cells cs.toArray 34)];exact qm (qm (qc _ _))
 case b2=>rw[show q+2=((w.alloc (.cells cs.toArray 34)).alloc (.cells ce.toArray 66)).heap.size by rw[j8,j8,hq]];exact qm (qc _ _)
 case b3=>rw[show q+3=(((w.alloc (.cells cs.toArray 34)).alloc (.cells ce.toArray 66)).alloc (.cells (qa sh0).toArray 34)).heap.size by rw[j8,j8,j8,hq]];exact qc _ _
 try simp only[hq]
 rintro w1 ⟨x1,k0,k1,k2,k3,zq⟩;have e0:=k9 k1 i0;have e1:=k9 k1 i1;have e2:=k9 k1 i2;have e3:=k9 k1 i3;have e4:=k9 k1 i4;have e5:=k9 k1 i5;have z5:=j9 (i:=5) k0;have z6:=j9 (i:=6) k0;have l1:=qi k1;have l0:=qi k0;have c5:∃v,w1.cell? ⟨q,5,none⟩=some v:=⟨_,k9 k0 (hcsv.it 5 _ rfl)⟩
 replace HL:=qw.mk HL
 cases b1
 ·obtain rfl:ER=50:=by rw[←hER.it];rfl
  go_upto_region 11 with(first|(with_reducible refine wpList_load_row rfl 34 (Operand.tmp 2) rfl q kr0 _ _ _ _ (i7 (sk9) k0) Tryz.underlying34 rfl (by rw[acs];kernel_rfl) ?_)|(go_at_call 91;refine(Calls.mono (by first|exact HV1.it _ (i9 x1 sk9)|exact HV2.it _ (i9 x1 sk9)) ?_);rintro r w' ⟨rfl,nxh,rfl⟩));go_wp2_with (first|(refine wpList_load_row rfl 34 (Operand.tmp 2) rfl q kr0 _ _ _ _ (by exact i7 sk9 k0) Tryz.underlying34 rfl (by rw[acs];kernel_rfl) ?_)|(refine j6 rfl 34 (Operand.tmp 4) _ rfl (q+2) cs rfl rfl 34 (qa sh0).toArray (by exact i7 sk9 k2) (by rw[lcs];kernel_rfl) (by rw[lcs];kernel_rfl) cs1 ?_)|(refine j6 rfl 36 (Operand.tmp 5) _ rfl (q+3) [.int .i64 0,.int .i64 0,.int .i64 0] rfl rfl 36 #[.int .i64 0,.int .i64 0,.int .i64 0] (by exact l9 (i7 sk9 k3) om0) kr0 rfl (by intro v hv;simp at hv;first|(subst hv;rfl)|(rcases hv with rfl|rfl<;>rfl)|(rcases hv with rfl|rfl|rfl<;>rfl)) ?_));exact bodyPost_ret (qy Tryz.results61 _ _ (q+2) (q+3) 34 36 _ #[.int .i64 0,.int .i64 0,.int .i64 0] _ _ (.int .i64 50) rfl rfl rfl (l9 (p9 (i7 sk9 k2)) om0) (p9 (l9 (i7 sk9 k3) om0)) Tryz.underlying34 rfl (by rw[acs];kernel_rfl) Tryz.underlying36 rfl kr0) rfl (N9 (h':=h) (x':=x) hcs (i7 sk9 k2) (i7 sk9 k3) om0 om0 om0 (i9 (i9 hT x1) sk9) (qB (qQ x1) (qQ sk9)) om0 om0 (fun e0=>absurd (show(50:Int)=0 from e0) dc0))
 obtain⟨rfl,hkn,hkg⟩:=hslot (by first|rfl|trivial);obtain rfl:ER=0:=by rw[←hER.it];rfl
 have c0:=k9 k0 j0;have c1:=k9 k0 j1;go_upto_region 28 with(first|(with_reducible refine wpList_load_row rfl 34 (Operand.tmp 2) rfl q kr0 _ _ _ _ (i7 (sk9) k0) Tryz.underlying34 rfl (by rw[acs];kernel_rfl) ?_)|(go_at_call 91;refine(Calls.mono (by first|exact HV1.it _ (i9 x1 sk9)|exact HV2.it _ (i9 x1 sk9)) ?_);rintro r w' ⟨rfl,nxh,rfl⟩)|(go_at_call 116;refine(HL.it _ (i9 x1 sk9)).mono ?_;rintro r w3 ⟨a3,c3,b3,d3,hs3,rfl,x3,o3⟩;have kz:=i7 (i9 sk9 x3) k0;have cz0:=k9 (i:=0) kz j0;have cz1:=k9 (i:=1) kz j1;have zz0:=j9 (i:=0) kz;have zz1:=j9 (i:=1) kz;have lz:=qi kz));refine qz (fun w'=>BxI w T w' q (K2 h a3 gr.sl.length c3 b3 gr.ks.length d3) ⟨hs3,x.nh,x.mh,x.ph,x.th⟩ ⟨gr,s.ns,s.ms,s.ts,s.root⟩∧w'.heap[q+1]?=some (.cells ce.toArray 66)∧w'.heap[q+2]?=some (.cells (qa sh0).toArray 34)∧w'.heap[q+3]?=some (.cells #[.int .i64 0,.int .i64 0,.int .i64 0] 36)) ?nm ?_
 case nm=>
  have y3:∃y,w3=plus w1 y:=i9 sk9 x3;have O3:=(O.ex x1).ex y3;have o4:=o3.base (T':=T) (qu (i9 hT (i9 x1 sk9)));exact⟨⟨qb (qb (i9 hT (i9 x1 y3)) hTq) hTq,((O3.set_other (i:=0) (u:=.slice a3 gr.sl.length c3) kz dc0).set_other (i:=1) (u:=.slice b3 gr.ks.length d3) (y8 kz) dc0).withGraph ((o4.set_sc (i:=0) (u:=.slice a3 gr.sl.length c3) kz).set_sc (i:=1) (u:=.slice b3 gr.ks.length d3) (y8 kz)),by subst hcs;have:=y8 (i:=1) (u:=.slice b3 gr.ks.length d3) (y8 (i:=0) (u:=.slice a3 gr.sl.length c3) kz);exact this,hTq,F1 (F1 (qQ (i9 x1 y3)) om0) om0⟩,qj (qj (i7 y3 k1) om0) om0,qj (qj (i7 y3 k2) om0) om0,qj (qj (i7 y3 k3) om0) om0⟩
 clear k0 k1 k2 k3 kz cz0 cz1 zz0 zz1;rintro w9 ⟨U,k1,k2,k3⟩;have k0:=U.bx;have c2:=k9 (i:=2) k0 rfl;have e1:=k9 k1 i1;obtain⟨g,cur,hna,hgT,hgb,hgz⟩:=U.own.nl.blk (show 0<h.nn by omega);have hna':h.na=some ⟨g,0,none⟩:=hna;have hOk:=U.own.setNode hna hgb (k:=k) (show k<h.nn by omega) a1O;have hfit:k*33+(fN nh0).length≤cur.size:=by show k*33+33≤_;have h9:h.nn*33≤cur.size:=hgz;have:(k+1)*33≤h.nn*33:=Nat.mul_le_mul_right _ om0;omega
 replace c2:w9.cell? ⟨q,2,none⟩=some (.slice h.na h.nn h.nc):=c2
 rw[hna']at c2;have ik1:(k:Int)<(h.nn:Int):=om0;have ik2:¬(k:Int)<0:=om0
 replace hgb:=And.intro hgb (qw.mk hOk)
 obtain⟨hgb,hOk⟩:=hgb;go_upto_region 29 with(first|(refine z8 rfl 56 _ rfl (fN nh0) ?hf ?_;case hf=>(simp only[List.map_toArray,List.map_cons,List.map_nil];kernel_rfl))|(refine zu rfl 56 _ _ rfl g (k*33) (fN nh0) (by simp[go_sem]) rfl _ cur hgb kr0 hfit (aa4 nh0) ?_));refine qz (fun w'=>BxI w T w' q (K2 h a3 gr.sl.length c3 b3 gr.ks.length d3) ⟨hs3,x.nh.set k nh0,x.mh,x.ph,x.th⟩ ⟨gr,s.ns.set k nd0,s.ms,s.ts,s.root⟩∧w'.heap[q+1]?=some (.cells ce.toArray 66)∧w'.heap[q+2]?=some (.cells (qa sh0).toArray 34)∧w'.heap[q+3]?=some (.cells #[.int .i64 0,.int .i64 0,.int .i64 0] 36)) ?nm ?_
 case nm=>
  have gf:∀{g':Nat} {cc:Array Value} {t':TypeId},w9.heap[g']?=some (.cells cc t')→t'≠56→(w9.setRow g (H6 cur (k*33) (fN nh0))).heap[g']?=some (.cells cc t'):=fun hk hne=>l9 hk (fun e=>by subst e;rw[hgb]at hk;cases hk;exact hne rfl)
  exact⟨⟨ql U.ex hgT,hOk.it,gf U.bx dc0,hTq,qB U.kp (Zl hgb dc0)⟩,gf k1 dc0,gf k2 dc0,gf k3 dc0⟩
 clear k0 k1 k2 k3 c2 e1 hgb hOk U hna hna' hfit;rintro w10 ⟨U,k1,k2,k3⟩;have k0:=U.bx;have c5:=k9 (i:=5) k0 rfl;have c6:=k9 (i:=6) k0 rfl;have z5:=j9 (i:=5) k0;have z6:=j9 (i:=6) k0;have e1:=k9 k1 i1;have e2:=k9 k1 i2;have l0:=qi k0;have l1:=qi k1;obtain⟨br,hbr⟩:∃b,eqh h.r0 h.r1 (k:Int) e.h1=b:=⟨_,rfl⟩;have qH:_:=aq9 hbr;have hRb:(if br=true then((0:Int),(0:Int))else s.root)=R:=by
  rw[←hR.it,hroot,←hbr];by_cases q0:h.r0=(k:Int)<;>by_cases q1:h.r1=e.h1<;>simp[eqh,q0,q1]
 replace hRb:=qw.mk hRb
 clear hbr hroot hR
 replace c5:w10.cell? ⟨q,5,none⟩=some (.int .i64 h.r0):=c5
 replace c6:w10.cell? ⟨q,6,none⟩=some (.int .i64 h.r1):=c6
 cases br
 ·have hR2:=hRb.it;simp only[Bool.false_eq_true,if_false]at hR2;subst hR2;go_upto_region 33 with fail;go_wp2_with (first|(refine wpList_load_row rfl 34 (Operand.tmp 2) rfl q kr0 _ _ _ _ (by exact i7 sk9 U.bx) Tryz.underlying34 rfl kr0 ?_)|(refine j6 rfl 34 (Operand.tmp 4) _ rfl (q+2) (qa (K2 h a3 gr.sl.length c3 b3 gr.ks.length d3)) rfl rfl 34 (qa sh0).toArray (by exact i7 sk9 k2) kr0 kr0 (qX _) ?_)|(refine j6 rfl 36 (Operand.tmp 5) _ rfl (q+3) [.int .i64 0,.int .i64 0,.int .i64 0] rfl rfl 36 #[.int .i64 0,.int .i64 0,.int .i64 0] (by exact l9 (i7 sk9 k3) om0) kr0 rfl (by intro v hv;simp at hv;first|(subst hv;rfl)|(rcases hv with rfl|rfl<;>rfl)|(rcases hv with rfl|rfl|rfl<;>rfl)) ?_));exact bodyPost_ret (qy Tryz.results61 _ _ (q+2) (q+3) 34 36 _ #[.int .i64 0,.int .i64 0,.int .i64 0] _ _ (.int .i64 0) rfl rfl rfl (l9 (p9 (i7 sk9 k2)) om0) (p9 (l9 (i7 sk9 k3) om0)) Tryz.underlying34 rfl kr0 Tryz.underlying36 rfl kr0) rfl (N9 (h':=K2 h a3 gr.sl.length c3 b3 gr.ks.length d3) (x':=_) rfl (i7 sk9 k2) (i7 sk9 k3) om0 om0 om0 (i9 U.ex sk9) (qB U.kp (qQ sk9)) om0 om0 (fun _=>(U.own.ex sk9).cg6 (hres.it (by first|rfl|trivial))))
 ·have hR2:=hRb.it;simp only[if_true]at hR2;subst hR2;go_upto_region 33 with fail;refine qz (fun w'=>BxI w T w' q (X8 (K2 h a3 gr.sl.length c3 b3 gr.ks.length d3) 0 0) ⟨hs3,x.nh.set k nh0,x.mh,x.ph,x.th⟩ ⟨gr,s.ns.set k nd0,s.ms,s.ts,(0,0)⟩∧w'.heap[q+1]?=some (.cells ce.toArray 66)∧w'.heap[q+2]?=some (.cells (qa sh0).toArray 34)∧w'.heap[q+3]?=some (.cells #[.int .i64 0,.int .i64 0,.int .i64 0] 36)) ?nm ?_
  case nm=>
   exact⟨BxI.on (w:=(w10.setCell ⟨q,5,none⟩ (.int .i64 0)).setCell ⟨q,6,none⟩ (.int .i64 0)) ⟨qb (qb U.ex hTq) hTq,((U.own.set_other k0 dc0).set_other (y8 k0) dc0).withRoot 0 0,by have:=y8 (i:=6) (u:=.int .i64 0) (y8 (i:=5) (u:=.int .i64 0) k0);exact this,hTq,F1 (F1 U.kp om0) om0⟩ sk9,i7 sk9 (qj (qj k1 (show q≠q+1 by omega)) (show q≠q+1 by omega)),i7 sk9 (qj (qj k2 (show q≠q+2 by omega)) (show q≠q+2 by omega)),i7 sk9 (qj (qj k3 (show q≠q+3 by omega)) (show q≠q+3 by omega))⟩
  clear k0 k1 k2 k3 c5 c6 z5 z6 e1 e2 l0 l1 U;rintro w11 ⟨U,k1,k2,k3⟩;go_wp2_with (first|(refine wpList_load_row rfl 34 (Operand.tmp 2) rfl q kr0 _ _ _ _ (by exact i7 sk9 U.bx) Tryz.underlying34 rfl kr0 ?_)|(refine j6 rfl 34 (Operand.tmp 4) _ rfl (q+2) (qa (X8 (K2 h a3 gr.sl.length c3 b3 gr.ks.length d3) 0 0)) rfl rfl 34 (qa sh0).toArray (by exact i7 sk9 k2) kr0 kr0 (qX _) ?_)|(refine j6 rfl 36 (Operand.tmp 5) _ rfl (q+3) [.int .i64 0,.int .i64 0,.int .i64 0] rfl rfl 36 #[.int .i64 0,.int .i64 0,.int .i64 0] (by exact l9 (i7 sk9 k3) om0) kr0 rfl (by intro v hv;simp at hv;first|(subst hv;rfl)|(rcases hv with rfl|rfl<;>rfl)|(rcases hv with rfl|rfl|rfl<;>rfl)) ?_));exact bodyPost_ret (qy Tryz.results61 _ _ (q+2) (q+3) 34 36 _ #[.int .i64 0,.int .i64 0,.int .i64 0] _ _ (.int .i64 0) rfl rfl rfl (l9 (p9 (i7 sk9 k2)) om0) (p9 (l9 (i7 sk9 k3) om0)) Tryz.underlying34 rfl kr0 Tryz.underlying36 rfl kr0) rfl (N9 (h':=X8 (K2 h a3 gr.sl.length c3 b3 gr.ks.length d3) 0 0) (x':=_) rfl (i7 sk9 k2) (i7 sk9 k3) om0 om0 om0 (i9 U.ex sk9) (qB U.kp (qQ sk9)) om0 om0 (fun _=>(U.own.ex sk9).cg6 (hres.it (by first|rfl|trivial))))
end
section
open Go.RowKit
def Pr2 (d1 d2:Nat) (t1 t2:TypeId) (t:TypeId) (d:Nat):Prop:=(t=t1∧d=d1)∨(t=t2∧d=d2)
structure aC6 (d1 d2:Nat) (t1 t2:TypeId) (B:Nat) (D:Nat→Bool) (w:World) (D':Nat→Bool) (w':World):Prop where
 m:∀j,D j=true→D' j=true
 os:w'.os=w.os
 tape:w'.tape=w.tape
 output:w'.output=w.output
 size:w.heap.size≤w'.heap.size
 blk:∀k,k<w.heap.size→w'.heap[k]?=w.heap[k]?∨(B≤k∧∃(c c':Array Value) (t:TypeId) (d:Nat),Pr2 d1 d2 t1 t2 t d∧w.heap[k]?=some (.cells c t)∧w'.heap[k]?=some (.cells c' t)∧D d=false∧D' d=true)
section
variable {d1 d2:Nat} {t1 t2:TypeId} {B:Nat} {D D':Nat→Bool} {w w':World}
theorem a7m(hne:t1≠t2){t:TypeId}{d d':Nat}(h:Pr2 d1 d2 t1 t2 t d)(h':Pr2 d1 d2 t1 t2 t d'):d=d':=by
 rcases h with⟨rfl,rfl⟩|⟨rfl,rfl⟩<;>rcases h' with⟨e,rfl⟩|⟨e,rfl⟩
 ·rfl
 ·exact absurd e hne
 ·exact absurd e.symm hne
 ·rfl
end
end
section
open Go.RowKit
structure a28 (dd d1 d2:Nat) (t1 t2:TypeId) (B:Nat) (D:Nat→Bool) (w:World) (D':Nat→Bool) (w':World):Prop where
 m:∀j,D j=true→D' j=true
 os:w'.os=w.os
 tape:w'.tape=w.tape
 output:w'.output=w.output
 size:w.heap.size≤w'.heap.size
 blk:∀k,k<w.heap.size→w'.heap[k]?=w.heap[k]?∨(B≤k∧((D dd=false∧D' dd=true∧∀c t,w.heap[k]?=some (.cells c t)→t∈F2)∨∃(c c':Array Value) (t:TypeId) (d:Nat),Pr2 d1 d2 t1 t2 t d∧w.heap[k]?=some (.cells c t)∧w'.heap[k]?=some (.cells c' t)∧D d=false∧D' d=true))
section
variable {dd d1 d2:Nat} {t1 t2:TypeId} {B:Nat} {D D':Nat→Bool} {w w':World}
theorem ai1(h:a28 dd d1 d2 t1 t2 B D w D' w'){d:Nat}(hd:D' d=false):D d=false:=by
 cases h1:D d with
 |false=>rfl
 |true=>rw[h.m d h1]at hd;cases hd
theorem a7o(h1:t1 ∉ F2)(h2:t2 ∉ F2){t:TypeId}{d:Nat}(h:Pr2 d1 d2 t1 t2 t d):t ∉ F2:=by
 rcases h with⟨rfl,_⟩|⟨rfl,_⟩<;>assumption
theorem a3B(hne:t1≠t2)(o1:t1 ∉ F2)(o2:t2 ∉ F2):∀D1 w1 D2 w2 D3 w3,a28 dd d1 d2 t1 t2 B D1 w1 D2 w2→a28 dd d1 d2 t1 t2 B D2 w2 D3 w3→a28 dd d1 d2 t1 t2 B D1 w1 D3 w3:=by
 intro D1 w1 D2 w2 D3 w3 h1 h2;have nt:∀{d:Nat},D2 d=false→D1 d=false:=fun hd=>ai1 h1 hd
 refine⟨fun j h=>h2.m j (h1.m j h),h2.os.trans h1.os,h2.tape.trans h1.tape,h2.output.trans h1.output,Nat.le_trans h1.size h2.size,fun k hk=>?_⟩;rcases h1.blk k hk with e|⟨a0,⟨a1,a2,a3⟩|⟨c,c',t,d,a1,a2,a3,a4,a5⟩⟩
 ·rcases h2.blk k (Nat.lt_of_lt_of_le hk h1.size)with e'|⟨b0,⟨b1,b2,b3⟩|⟨c,c',t,d,b1,b2,b3,b4,b5⟩⟩
  ·exact .inl (e'.trans e)
  ·exact .inr ⟨b0,.inl ⟨nt b1,b2,fun c t h=>b3 c t (e▸h)⟩⟩
  ·exact .inr ⟨b0,.inr ⟨c,c',t,d,b1,e▸b2,b3,nt b4,b5⟩⟩
 ·exact .inr ⟨a0,.inl ⟨a1,h2.m _ a2,a3⟩⟩
 ·rcases h2.blk k (Nat.lt_of_lt_of_le hk h1.size)with e'|⟨b0,⟨b1,b2,b3⟩|⟨e,e',u,v,b1,b2,b3,b4,b5⟩⟩
  ·exact .inr ⟨a0,.inr ⟨c,c',t,d,a1,a2,by rw[e'];exact a3,a4,h2.m d a5⟩⟩
  ·exact absurd (b3 c' t a3) (a7o o1 o2 a1)
  ·rw[a3]at b2;cases b2;rw[a7m hne b1 a1,a5]at b4;cases b4
theorem a4g(w:World):a28 dd d1 d2 t1 t2 B F8 w F8 {w with drawn:=w.drawn+1}:=⟨fun _ h=>h,rfl,rfl,rfl,Nat.le_refl _,fun _ _=>.inl rfl⟩
theorem O2{i:Nat}(h:∃x,w'=plus w x):a28 dd d1 d2 t1 t2 B D w (aq6 D i) w':=by
 obtain⟨x,rfl⟩:=h;have hb:=A3 w x;exact⟨fun j h=>G3 h,hb.os,hb.tape,hb.output,hb.size,fun k hk=>.inl (hb.block k hk)⟩
theorem a27{p d:Nat}{t:TypeId}{c cs:Array Value}(hp:Pr2 d1 d2 t1 t2 t d)(hd:D d=false)(hB:B≤p)(hz:w.heap[p]?=some (.cells c t)):a28 dd d1 d2 t1 t2 B D w (aq6 D d) (w.setRow p cs):=by
 refine⟨fun j h=>G3 h,rfl,rfl,rfl,by rw[setRow_size];exact Nat.le_refl _,fun k _=>?_⟩;by_cases e:p=k
 ·subst e;exact .inr ⟨hB,.inr ⟨c,cs,t,d,hp,hz,p9 hz,hd,y9 d⟩⟩
 ·exact .inl (Qe e)
theorem a70{T:World}(h1:∃y,w=plus T y)(h2:∃y,w'=plus T y)(hk:a1A w w')(hd:D dd=false):a28 dd d1 d2 t1 t2 T.heap.size D w (aq6 D dd) w':=by
 obtain⟨y1,rfl⟩:=h1;obtain⟨y2,rfl⟩:=h2;have a:=A3 T y1;have b:=A3 T y2;refine⟨fun j h=>G3 h,b.os.trans a.os.symm,b.tape.trans a.tape.symm,b.output.trans a.output.symm,hk.size,fun k hlt=>?_⟩;by_cases hB:T.heap.size≤k
 ·by_cases hc:∃c t,(plus T y1).heap[k]?=some (.cells c t)∧t ∉ F2
  ·obtain⟨c,t,hc,ht⟩:=hc;exact .inl ((hk.blk k c t hc ht).trans hc.symm)
  ·refine .inr ⟨hB,.inl ⟨hd,y9 dd,fun c t h=>?_⟩⟩;by_cases ht:t∈F2
   ·exact ht
   ·exact absurd ⟨c,t,h,ht⟩ hc
 ·exact .inl ((b.block k om0).trans (a.block k om0).symm)
theorem QN{T:World}(h:a28 dd d1 d2 t1 t2 B D w D' w')(hw:∃y,w=plus T y)(hB:T.heap.size≤B):∃y,w'=plus T y:=by
 obtain⟨y,rfl⟩:=hw;apply C3;have hb:=A3 T y;refine⟨h.os.trans hb.os,h.tape.trans hb.tape,h.output.trans hb.output,Nat.le_trans hb.size h.size,fun n hn=>?_⟩;rcases h.blk n (Nat.lt_of_lt_of_le hn hb.size)with e|⟨h1,_⟩
 ·rw[e];exact hb.block n hn
 ·omega
theorem aa9(hne:t1≠t2)(o1:t1 ∉ F2)(o2:t2 ∉ F2){k d:Nat}{t:TypeId}{c:Array Value}(h:a28 dd d1 d2 t1 t2 B D w D' w')(hp:Pr2 d1 d2 t1 t2 t d)(hk:w.heap[k]?=some (.cells c t))(hd:D d=true∨D' d=false):w'.heap[k]?=some (.cells c t):=by
 rcases h.blk k (qi hk)with e|⟨_,⟨_,_,b3⟩|⟨e,e',u,v,b1,b2,b3,b4,b5⟩⟩
 ·rw[e];exact hk
 ·exact absurd (b3 c t hk) (a7o o1 o2 hp)
 ·rw[hk]at b2;cases b2;rw[a7m hne b1 hp]at b4 b5;rcases hd with hd|hd
  ·rw[hd]at b4;cases b4
  ·rw[hd]at b5;cases b5
theorem Own.fil3{α:Type}{f:α→List Value}{T:World}{ao:Option Addr}{n cap c:Nat}{l:List α}{e:TypeId}(h:Own e c f T w ao n cap l)(ht:a28 dd d1 d2 t1 t2 B D w D' w')(hd:D dd=true∨D' dd=false)(n1:t1≠e)(n2:t2≠e):Own e c f T w' ao n cap l:=by
 refine⟨h.1,h.2.1,h.2.2.imp id ?_⟩;rintro⟨k,cp,cu,a1,a2,a3,a4⟩;refine⟨k,cp,cu,a1,a2,?_,a4⟩;rcases ht.blk k (qi a3)with e1|⟨_,⟨b1,b2,_⟩|⟨e,e',u,v,b1,b2,b3,b4,b5⟩⟩
 ·rw[e1];exact a3
 ·rcases hd with hd|hd
  ·rw[hd]at b1;cases b1
  ·rw[hd]at b2;cases b2
 ·rw[a3]at b2;cases b2;rcases b1 with⟨q,_⟩|⟨q,_⟩
  ·exact absurd q.symm n1
  ·exact absurd q.symm n2
theorem zi.fil3{T:World}{h:SH}{x:SX}{s:Sc}(a:zi T w h x s)(ht:a28 dd d1 d2 t1 t2 B D w D' w')(hd:D dd=true∨D' dd=false)(h1:t1 ∉ F2)(h2:t2 ∉ F2):zi T w' h x s:=by
 simp only[F2,List.mem_cons,List.not_mem_nil,or_false,not_or]at h1 h2;obtain⟨e1,e2,e3,e4,e5,e6,e7,e8,e9,e10,e11⟩:=h1;obtain⟨f1,f2,f3,f4,f5,f6,f7,f8,f9,f10,f11⟩:=h2;exact⟨⟨a.g.sl.fil3 ht hd e1 f1,a.g.kh.fil3 ht hd e2 f2,a.g.len,fun k hk=>(a.g.row k hk).fil3 ht hd e3 f3⟩,a.nl.fil3 ht hd e4 f4,a.nlen,fun k hk=>⟨(a.ns k hk).f,(a.ns k hk).b,(a.ns k hk).far.fil3 ht hd e5 f5⟩,a.ml.fil3 ht hd e6 f6,a.mlen,fun k hk=>⟨⟨(a.ms k hk).t.v.fil3 ht hd e7 f7,(a.ms k hk).t.u.fil3 ht hd e8 f8,(a.ms k hk).t.p.fil3 ht hd e9 f9,(a.ms k hk).t.len,(a.ms k hk).t.kind,fun j hj=>((a.ms k hk).t.ix j hj).fil3 ht hd e5 f5⟩,(a.ms k hk).b⟩,a.tl.fil3 ht hd e10 f10,a.tlen,fun k hk=>⟨(a.ts k hk).we,(a.ts k hk).he,(a.ts k hk).tx.fil3 ht hd e11 f11,(a.ts k hk).ok⟩,a.root,a.pl⟩
end
end
end Go.Proofs.YtcekcihijdipoaaGreat
